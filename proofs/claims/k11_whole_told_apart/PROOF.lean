import PyProof.Rows.All
import Wide.All
import OpenK.AllK
import Wide.FinOn
import Lean
import PyProof.EqAt
import PyProof.EqKinds
import PyProof.NeKinds
import PyProof.TupleCall
import PyProof.SetKind
import PySem.Challenge.RW_roomsay_k11_whole_told_apart
set_option Elab.async false
set_option maxRecDepth 100000
namespace My
open PySem PySem.W PyProof.Rows
def pP : Program := PySem.Challenge.pw_roomsay_k11_whole_told_apart
def vQ : Program := { pP with main := { pP.main with body := (((pP.main.body).eraseIdx 18).eraseIdx 5).tail } }
local macro_rules | `(tactic| o_head $H:term) => `(tactic| (refine holds_open (q := vQ) (loose := []) (Xt := fun s => xlAt vQ [] s && recOk (RowW.records (OpenRow.toRowW PySem.Challenge.rw_roomsay_k11_whole_told_apart.row)) s) (XP := XL vQ []) (Yf := Hook.obs $H) (Ya := Hook.val $H) (YP := Hook.says $H) (N := 3580) ?hl (Hook.of $H) (Hook.keeps $H) (fun s e => xl_of s (Bool.and_eq_true_iff.mp e).1) XL.keeps (by rfl) (by rfl) (by rfl) (fun s e => recFacts_of (Bool.and_eq_true_iff.mp e).2) (by rfl) (by first | assumption | decide +kernel) (by decide +kernel) ⟨rfl, rfl, rfl, rfl, rfl, by decide +kernel⟩ ?hw ?hc; case hl => (intro w; kernel_rfl)))
set_option maxRecDepth 100000 in
set_option maxHeartbeats 0 in
open_top hd for PySem.Challenge.rw_roomsay_k11_whole_told_apart
end My
set_option Elab.async false
set_option linter.all false
set_option maxRecDepth 100000
namespace L2
open PySem PySem.Spec PyProof.Rows
abbrev Key := Sum Int Str
def zik : Key → Value → Bool
 | .inl k, v => Value.isInt k v
 | .inr x, v => Value.isStrOf x v
def keyH (w : World) : Key → Int
 | .inl k => hashInt k
 | .inr x => hashStr w x
theorem zbr : ∀ {k : Key} {v : Value}, zik k v = true → (∃ i t, k = Sum.inl i ∧ v = Value.int i t) ∨ (∃ x t, k = Sum.inr x ∧ v = Value.str x t)
 | .inl i, v, h => by
  obtain ⟨t, e⟩ := Value.isInt_shape (k := i) (v := v) h
  exact .inl ⟨i, t, rfl, e⟩
 | .inr x, v, h => by
  obtain ⟨t, e⟩ := Value.isStrOf_shape (x := x) (v := v) h
  exact .inr ⟨x, t, rfl, e⟩
theorem zkb (i : Int) (t : Tok) : zik (.inl i) (.int i t) = true := by simp [zik, Value.isInt]
theorem zka (x : Str) (t : Tok) : zik (.inr x) (.str x t) = true := by simp [zik, Value.isStrOf]
theorem zpw (a b : Int) : decide ((Sum.inl a : Key) = Sum.inl b) = (a == b) := by
 by_cases e : a = b
 ·subst e; simp
 ·have h : ¬ (Sum.inl a : Key) = Sum.inl b := fun q => e (Sum.inl.inj q)
  rw [decide_eq_false h]
  exact (beq_eq_false_iff_ne.mpr e).symm
theorem zpt (a b : Str) : decide ((Sum.inr a : Key) = Sum.inr b) = decide (a = b) := by
 by_cases e : a = b
 ·subst e; simp
 ·have h : ¬ (Sum.inr a : Key) = Sum.inr b := fun q => e (Sum.inr.inj q)
  rw [decide_eq_false h, decide_eq_false e]
theorem zpv (a : Int) (b : Str) : decide ((Sum.inl a : Key) = Sum.inr b) = false := decide_eq_false (fun q => nomatch q)
theorem zpu (a : Str) (b : Int) : decide ((Sum.inr a : Key) = Sum.inl b) = false := decide_eq_false (fun q => nomatch q)
def zbV (prog : Program) (w : World) : PySem.KeyKind prog w Key where
 is := zik
 hash := keyH w
 inj := fun v a b ha hb => by
  rcases zbr ha with ⟨i, t, rfl, rfl⟩ | ⟨x, t, rfl, rfl⟩
  ·rcases zbr hb with ⟨j, u, rfl, e⟩ | ⟨y, u, rfl, e⟩
   ·injection e with e1 _; rw [e1]
   ·exact nomatch e
  ·rcases zbr hb with ⟨j, u, rfl, e⟩ | ⟨y, u, rfl, e⟩
   ·exact nomatch e
   ·injection e with e1 _; rw [e1]
 byValue := fun k v h => by
  rcases zbr h with ⟨i, t, rfl, rfl⟩ | ⟨x, t, rfl, rfl⟩ <;> rfl
 pyHash := fun hv h => by
  rcases zbr hv with ⟨i, t, rfl, rfl⟩ | ⟨x, t, rfl, rfl⟩
  ·exact wpAny_pyHash_int h
  ·exact wpAny_pyHash_str h
 eqBool := fun hu hv h => by
  rcases zbr hu with ⟨i, t, rfl, rfl⟩ | ⟨x, t, rfl, rfl⟩
  ·rcases zbr hv with ⟨j, u, rfl, rfl⟩ | ⟨y, u, rfl, rfl⟩
   ·rw [zpw] at h; exact wpAny_eqBool_int h
   ·rw [zpv] at h; exact SeqAt.EqAt.int_str i t y u _ _ _ _ h
  ·rcases zbr hv with ⟨j, u, rfl, rfl⟩ | ⟨y, u, rfl, rfl⟩
   ·rw [zpu] at h; exact SeqAt.EqAt.str_int x t j u _ _ _ _ h
   ·rw [zpt] at h; exact wpAny_eqBool_str h
 «strs» := fun k x t v h => by
  rcases zbr h with ⟨i, u, rfl, e⟩ | ⟨y, u, rfl, e⟩
  ·exact nomatch e
  ·injection e with e1 _
   subst e1
   cases v <;> rfl
theorem zg7 (prog : Program) (w : World) (i : Int) (t : Tok) : (zbV prog w).is (.inl i) (.int i t) = true := zkb i t
theorem zg6 (prog : Program) (w : World) (x : Str) (t : Tok) : (zbV prog w).is (.inr x) (.str x t) = true := zka x t
end L2
namespace L2
open PySem PySem.Spec PyProof.Rows
inductive V where
 | non | bl (b : Bool) | int (i : Int) | str (x : Str) | byt (b : Array UInt8) | flt (b : UInt64) | ref (a : Addr) | ty (n : String)
 deriving DecidableEq
def RelV : V → Value → Prop
 | .non, u => u = Value.none
 | .bl b, u => u = Value.bool b
 | .int i, u => ∃ t, u = Value.int i t
 | .str x, u => ∃ t, u = Value.str x t
 | .byt b, u => ∃ t, u = Value.bytes b t
 | .flt b, u => ∃ t, u = Value.float b t
 | .ref a, u => u = Value.ref a
 | .ty n, u => u = Value.type n
abbrev Vals : List V → List Value → Prop := Paired RelV
theorem Vals.length {xs : List V} {us : List Value} (r : Vals xs us) : xs.length = us.length := Paired.length r
theorem Vals.get : ∀ {xs : List V} {us : List Value} {i : Nat} {x : V}, Vals xs us → xs[i]? = some x → ∃ u, us[i]? = some u ∧ RelV x u
 | _, _, _, _, .nil, e => by simp at e
 | _, _, 0, _, .cons r _, e => by simp at e; subst e; exact ⟨_, rfl, r⟩
 | _, _, i + 1, x, .cons _ t, e => by
  obtain ⟨u, h1, h2⟩ := Vals.get (i := i) (x := x) t (by simpa using e)
  exact ⟨u, by simpa using h1, h2⟩
theorem Vals.set {x : V} {u : Value} (r : RelV x u) : ∀ {xs : List V} {us : List Value} (i : Nat), Vals xs us → Vals (xs.set i x) (us.set i u)
 | _, _, _, .nil => .nil
 | _, _, 0, .cons _ t => .cons r t
 | _, _, i + 1, .cons q t => .cons q (Vals.set r i t)
theorem Vals.append : ∀ {xs ys : List V} {us ws : List Value}, Vals xs us → Vals ys ws → Vals (xs ++ ys) (us ++ ws)
 | _, _, _, _, .nil, s => s
 | _, _, _, _, .cons r t, s => .cons r (Vals.append t s)
theorem Vals.take : ∀ {xs : List V} {us : List Value} (n : Nat), Vals xs us → Vals (xs.take n) (us.take n)
 | _, _, 0, _ => .nil
 | _, _, _ + 1, .nil => .nil
 | _, _, n + 1, .cons r t => .cons r (Vals.take n t)
theorem Vals.drop : ∀ {xs : List V} {us : List Value} (n : Nat), Vals xs us → Vals (xs.drop n) (us.drop n)
 | _, _, 0, r => r
 | _, _, _ + 1, .nil => .nil
 | _, _, n + 1, .cons _ t => Vals.drop n t
theorem Vals.none_of : ∀ {xs : List V} {us : List Value} {i : Nat}, Vals xs us → xs[i]? = none → us[i]? = none := fun {xs us i} r e => by
 have h1 := r.length
 have h2 : xs.length ≤ i := List.getElem?_eq_none_iff.mp e
 exact List.getElem?_eq_none_iff.mpr (by omega)
def RelO : Option V → Option Value → Prop
 | some v, some u => RelV v u
 | none, none => True
 | _, _ => False
def KV {κ : Type} : List (κ × V) → List (κ × Value) → Prop := Paired fun (p : κ × V) (q : κ × Value) => p.1 = q.1 ∧ RelV p.2 q.2
def kV : Key → V
 | .inl i => .int i
 | .inr x => .str x
inductive HO where
 /-- a list -/
 | lst (xs : List V)
 /-- a tuple (never changes) -/
 | tup (xs : List V)
 /-- a dict whose keys are ints and texts; one whose keys are tuples of ints and texts (the empty one is both) -/
 | dK (kvs : List (Key × V)) | dT (kvs : List (List Key × V))
 /-- a set of ints: its members, its size -/
 | set (S : Int → Bool) (n : Nat)
 /-- an instance of the class at C, its dict at dx, its attributes -/
 | ins (C dx : Addr) (fs : List (Str × V))
 /-- the dict of the instance at x -/
 | own (x : Addr)
 /-- the dict of an exception -/
 | xd (fs : List (Str × V))
 /-- a bound method, f of x -/
 | met (f x : Addr)
 /-- a range object lo, lo + 1, .. below hi -/
 | rng (lo hi : Int)
 /-- a thing that is known to the object (the script; a dict while a loop walks it): read, never written while it is so -/
 | frz (o : Obj) (u : HO)
 /-- a code object's table -/
 | tbl (ps : Array Value)
 /-- any other thing, by what is true of its one object (a def of one's own: SetO a S n := HO.ext fun h => ..) -/
 | ext (φ : Heap → Prop)
abbrev Hp := Addr → Option HO
def upd (H : Hp) (a : Addr) (o : HO) : Hp := fun b => if b = a then some o else H b
theorem zab {H : Hp} {a : Addr} {o : HO} : upd H a o a = some o := by unfold upd; rw [if_pos rfl]
theorem zai {H : Hp} {a b : Addr} {o : HO} (h : b ≠ a) : upd H a o b = H b := by unfold upd; rw [if_neg h]
theorem ziH {H : Hp} {a : Addr} {o u : HO} : upd (upd H a o) a u = upd H a u := by
 funext b; unfold upd; split <;> rfl
theorem zch {H : Hp} {a b : Addr} {o u : HO} (h : H a = some o) (h' : H b = some u) (d : o ≠ u) : a ≠ b := by
 intro e; subst e; rw [h] at h'; exact d (Option.some.inj h')
theorem zag {H : Hp} {a b : Addr} {o : HO} (h : H a = some o) (h' : H b = none) : a ≠ b := by
 intro e; subst e; rw [h] at h'; cases h'
section
variable (P : Program) (w : World)
def zbD (H : Hp) (h : Heap) (a : Addr) : HO → Prop
 | .lst xs => xs.length ≤ sizeLine ∧ ∃ (its : List Value) (n : Nat), Vals xs its ∧ h.get? a = some { cls := .type "list", data := .seq its.toArray n }
 | .tup xs => xs.length ≤ sizeLine ∧ ∃ its : List Value, Vals xs its ∧ IsTup h a its.toArray
 | .dK kvs => kvs.length ≤ sizeLine ∧ (a == sysModules) = false ∧ ∃ vs, KV kvs vs ∧ h.DictOf (zbV P w) a vs
 | .dT kvs => kvs.length ≤ sizeLine ∧ (a == sysModules) = false ∧ ∃ xs : List (List Key × Addr × Value),
   Paired (fun (p : List Key × V) (q : List Key × Addr × Value) => p.1 = q.1 ∧ H q.2.1 = some (.tup (p.1.map kV)) ∧ RelV p.2 q.2.2) kvs xs ∧
   ∃ o es ep, h.get? a = some o ∧ o.ExactDict ∧ o.data = .dict es ep ∧ es.toList = xs.map (entryOfKey (tupleKind (zbV P w))) ∧ (xs.map (·.1)).Nodup
 | .set S n => h.SetOf (intKind P w) a S n
 | .ins C dx fs => H dx = some (.own a) ∧ fs.length ≤ 1000 ∧ dx ≠ a ∧ h.get? a = some (PySem.W.instObj C dx) ∧
   ∃ mA, h.Ns1 dx mA ∧ (∀ f, RelO (fs.lookup f) (mA f)) ∧ PySem.Within mA (fs.map (·.1))
 | .own _ => ∃ o, h.get? a = some o
 | .xd fs => ∃ mA, h.Ns1 a mA ∧ ∀ f, RelO (fs.lookup f) (mA f)
 | .rng lo hi => ∃ t u v, h.get? a = some { cls := .type "range", data := .fields #[.int lo t, .int hi u, .int 1 v] }
 | .frz o u => h.get? a = some o ∧ zbD H h a u
 | .tbl ps => h.get? a = some { cls := .none, data := .fields ps }
 | .met f x => h.get? a = some (PySem.W.methodObj (.ref f) (.ref x))
 | .ext φ => φ h ∧ (∃ o, h.get? a = some o) ∧ ∀ h1 h2 : Heap, φ h1 → (∀ o, h1.get? a = some o → h2.get? a = some o) → φ h2
def HOk (H : Hp) (h : Heap) : Prop := ∀ a o, H a = some o → zbD P w H h a o
end
section
variable {P : Program} {w : World} {H H' : Hp} {h h' : Heap} {a : Addr} {o : HO}
theorem zbD.lt (x : zbD P w H h a o) : a < h.objs.size := by
 cases o with
 | lst xs => obtain ⟨_, _, _, _, e⟩ := x; exact Heap.lt_size e
 | tup xs => obtain ⟨_, _, _, p⟩ := x; exact p.lt
 | dK kvs => obtain ⟨_, _, _, _, o, _, _, e, _⟩ := x; exact Heap.lt_size e
 | dT kvs => obtain ⟨_, _, _, _, o, _, _, e, _⟩ := x; exact Heap.lt_size e
 | set S n => obtain ⟨o, _, _, _, e, _⟩ := x; exact Heap.lt_size e
 | ins C dx fs => obtain ⟨_, _, _, e, _⟩ := x; exact Heap.lt_size e
 | own y => obtain ⟨_, e⟩ := x; exact Heap.lt_size e
 | xd fs => obtain ⟨_, ⟨_, _, _, e, _⟩, _⟩ := x; exact Heap.lt_size e
 | rng lo hi => obtain ⟨_, _, _, e⟩ := x; exact Heap.lt_size e
 | frz ob u => obtain ⟨e, _⟩ := x; exact Heap.lt_size e
 | tbl ps => exact Heap.lt_size (show h.get? a = some _ from x)
 | met f y => exact Heap.lt_size (show h.get? a = some _ from x)
 | ext φ => obtain ⟨_, ⟨_, e⟩, _⟩ := x; exact Heap.lt_size e
theorem Paired.mapP {α β : Type} {F G : α → β → Prop} : ∀ {l₁ : List α} {l₂ : List β}, Paired F l₁ l₂ → (∀ a b, F a b → G a b) → Paired G l₁ l₂
 | _, _, .nil, _ => .nil
 | _, _, .cons r t, f => .cons (f _ _ r) (Paired.mapP t f)
theorem zbD.stay (x : zbD P w H h a o) (k : ∀ b u, (b = a ∨ H b = some (.own a)) → h.get? b = some u → h'.get? b = some u)
  (ho : ∀ b, H b = some (.own a) → H' b = some (.own a)) (ht : ∀ b xs, H b = some (.tup xs) → H' b = some (.tup xs)) : zbD P w H' h' a o := by
 induction o with
 | lst xs => obtain ⟨z, its, n, r, e⟩ := x; exact ⟨z, its, n, r, k _ _ (.inl rfl) e⟩
 | tup xs => obtain ⟨z, its, r, ob, e, c⟩ := x; exact ⟨z, its, r, ob, k _ _ (.inl rfl) e, c⟩
 | dK kvs => obtain ⟨z, y, vs, r, ob, es, ep, e, c⟩ := x; exact ⟨z, y, vs, r, ob, es, ep, k _ _ (.inl rfl) e, c⟩
 | dT kvs =>
  obtain ⟨z, y, xs, r, ob, es, ep, e, c⟩ := x
  exact ⟨z, y, xs, Paired.mapP r fun p q z => ⟨z.1, ht _ _ z.2.1, z.2.2⟩, ob, es, ep, k _ _ (.inl rfl) e, c⟩
 | set S n => obtain ⟨ob, es, ep, t, e, c⟩ := x; exact ⟨ob, es, ep, t, k _ _ (.inl rfl) e, c⟩
 | ins C dx fs =>
  obtain ⟨d, z, ne, e, mA, ⟨od, es, ep, e2, c⟩, r⟩ := x
  exact ⟨ho _ d, z, ne, k _ _ (.inl rfl) e, mA, ⟨od, es, ep, k _ _ (.inr d) e2, c⟩, r⟩
 | own y => obtain ⟨ob, e⟩ := x; exact ⟨ob, k _ _ (.inl rfl) e⟩
 | xd fs => obtain ⟨mA, ⟨od, es, ep, e, c⟩, r⟩ := x; exact ⟨mA, ⟨od, es, ep, k _ _ (.inl rfl) e, c⟩, r⟩
 | rng lo hi => obtain ⟨t, u, v, e⟩ := x; exact ⟨t, u, v, k _ _ (.inl rfl) e⟩
 | frz ob u ih => obtain ⟨e, q⟩ := x; exact ⟨k _ _ (.inl rfl) e, ih q⟩
 | tbl ps =>
  have e : h.get? a = some { cls := .none, data := .fields ps } := x
  show h'.get? a = some { cls := .none, data := .fields ps }
  exact k a _ (.inl rfl) e
 | met f y =>
  have e : h.get? a = some (PySem.W.methodObj (.ref f) (.ref y)) := x
  show h'.get? a = some (PySem.W.methodObj (.ref f) (.ref y))
  exact k a _ (.inl rfl) e
 | ext φ => obtain ⟨p, ⟨o, e⟩, st⟩ := x; exact ⟨st _ _ p fun o q => k _ _ (.inl rfl) q, ⟨o, k _ _ (.inl rfl) e⟩, st⟩
theorem HOk.lt (x : HOk P w H h) (e : H a = some o) : a < h.objs.size := (x a o e).lt
theorem HOk.fresh (x : HOk P w H h) (e : h.objs.size ≤ a) : H a = none := by
 cases q : H a with
 | none => rfl
 | some u => exact absurd (Nat.lt_of_lt_of_le (x.lt q) e) (Nat.lt_irrefl _)
theorem HOk.kept (x : HOk P w H h) (k : ∀ b u, h.get? b = some u → h'.get? b = some u) : HOk P w H h' := fun a o e =>
 (x a o e).stay (fun b u _ q => k b u q) (fun _ q => q) fun _ _ q => q
theorem HOk.laid (x : HOk P w H h) (k : ∀ b u, h.get? b = some u → h'.get? b = some u) (hp : h.objs.size ≤ a) (new : zbD P w (upd H a o) h' a o) : HOk P w (upd H a o) h' := fun b u e => by
 have hn := x.fresh hp
 by_cases hb : b = a
 ·subst hb; rw [zab] at e; cases e; exact new
 ·rw [zai hb] at e
  exact (x b u e).stay (fun c v _ q => k c v q) (fun c q => by rw [zai (zag q hn)]; exact q) fun c xs q => by rw [zai (zag q hn)]; exact q
end
def Rd (H : Hp) (a : Addr) (u : HO) : Prop := H a = some u ∨ ∃ o, H a = some (.frz o u)
theorem Rd.of {H : Hp} {a : Addr} {u : HO} (h : H a = some u) : Rd H a u := .inl h
theorem Rd.ok {P : Program} {w : World} {H : Hp} {h : Heap} {a : Addr} {u : HO} (r : Rd H a u) (x : HOk P w H h) : zbD P w H h a u := by
 rcases r with r | ⟨o, r⟩
 ·exact x a u r
 ·obtain ⟨_, q⟩ := x a _ r
  exact q
def Mut : Option HO → Prop
 | some (.lst _) => True
 | some (.dK _) => True
 | some (.dT _) => True
 | some (.set _ _) => True
 | some (.ins _ _ _) => True
 | some (.ext _) => True
 | _ => False
section
variable {P : Program} {w : World} {H : Hp} {h h' : Heap} {x e : Addr} {o' : HO}
theorem HOk.write (ok : HOk P w H h) (mu : Mut (H x)) (he : e = x ∨ H e = some (.own x)) (k : ∀ b u, b ≠ e → h.get? b = some u → h'.get? b = some u) (heo : ∃ u, h'.get? e = some u)
  (new : zbD P w (upd H x o') h' x o') : HOk P w (upd H x o') h' := fun b u q => by
 have nown : ∀ c y, H c = some (.own y) → c ≠ x := fun c y r z => by subst z; rw [r] at mu; exact mu
 have ntup : ∀ c xs, H c = some (.tup xs) → c ≠ x := fun c xs r z => by subst z; rw [r] at mu; exact mu
 by_cases hb : b = x
 ·subst hb; rw [zab] at q; cases q; exact new
 ·rw [zai hb] at q
  by_cases hbe : b = e
  ·have q' : H b = some (.own x) := by
    rcases he with z | z
    ·exact absurd (hbe.trans z) hb
    ·rw [hbe]; exact z
   rw [q] at q'; cases q'
   obtain ⟨v, hv⟩ := heo
   exact ⟨v, by rw [hbe]; exact hv⟩
  ·refine (ok b u q).stay (fun c v hc r => k c v ?_ r) (fun c r => by rw [zai (nown c b r)]; exact r) fun c xs r => by rw [zai (ntup c xs r)]; exact r
   rcases hc with rfl | hc
   ·exact hbe
   ·rintro rfl
    rcases he with z | z
    ·exact nown c b hc z
    ·rw [hc] at z; cases z; exact hb rfl
end
structure Un (fs ex : List Addr) (H H' : Hp) (h h' : Heap) : Prop where
 keep : ∀ b o, h.get? b = some o → H b = none → b ∉ fs → b ∉ ex → h'.get? b = some o
 slot : ∀ b o, h.get? b = some o → H b = none → b ∈ fs → b ∉ ex → ∃ sl, h'.get? b = some { o with slots := sl }
 free : ∀ b o, h.get? b = some o → H b = none → b ∉ ex → H' b = none
 there : ∀ b o, h.get? b = some o → b ∉ ex → ∃ o', h'.get? b = some o'
 tups : ∀ b xs, H b = some (.tup xs) → H' b = some (.tup xs)
 frzs : ∀ b o u, H b = some (.frz o u) → H' b = some (.frz o u)
 tbls : ∀ b ps, H b = some (.tbl ps) → ∃ more, H' b = some (.tbl (ps ++ more))
section
variable {fs fs' ex ex' : List Addr} {H H1 H2 : Hp} {h h1 h2 h' : Heap} {a x e : Addr} {o : HO}
theorem Un.any (u : Un fs ex H H1 h h1) {b : Addr} {ob : Obj} (q : h.get? b = some ob) (n : H b = none) (hx : b ∉ ex) : ∃ sl, h1.get? b = some { ob with slots := sl } := by
 by_cases hb : b ∈ fs
 ·exact u.slot b ob q n hb hx
 ·exact ⟨ob.slots, u.keep b ob q n hb hx⟩
theorem Un.trans (a : Un fs ex H H1 h h1) (b : Un fs ex H1 H2 h1 h2) : Un fs ex H H2 h h2 where
 keep := fun c ob q n hc hx => b.keep c ob (a.keep c ob q n hc hx) (a.free c ob q n hx) hc hx
 slot := fun c ob q n hc hx => by
  obtain ⟨sl, e1⟩ := a.slot c ob q n hc hx
  obtain ⟨sl', e2⟩ := b.slot c _ e1 (a.free c ob q n hx) hc hx
  exact ⟨sl', e2⟩
 free := fun c ob q n hx => by
  obtain ⟨o', e1⟩ := a.there c ob q hx
  exact b.free c o' e1 (a.free c ob q n hx) hx
 there := fun c ob q hx => by
  obtain ⟨o', e1⟩ := a.there c ob q hx
  exact b.there c o' e1 hx
 tups := fun c xs q => b.tups c xs (a.tups c xs q)
 frzs := fun c ob xs q => b.frzs c ob xs (a.frzs c ob xs q)
 tbls := fun c ps q => by
  obtain ⟨m1, e1⟩ := a.tbls c ps q
  obtain ⟨m2, e2⟩ := b.tbls c _ e1
  exact ⟨m1 ++ m2, by rw [e2, Array.append_assoc]⟩
theorem Un.kept (k : ∀ b u, h.get? b = some u → h'.get? b = some u) : Un fs ex H H h h' :=
 ⟨fun b ob q _ _ _ => k b ob q, fun b ob q _ _ _ => ⟨ob.slots, k b ob q⟩, fun _ _ _ n _ => n, fun b ob q _ => ⟨ob, k b ob q⟩, fun _ _ q => q, fun _ _ _ q => q, fun _ ps q => ⟨#[], by rw [q]; simp⟩⟩
theorem Un.refl : Un fs ex H H h h := Un.kept fun _ _ q => q
theorem Un.laid (k : ∀ b u, h.get? b = some u → h'.get? b = some u) (hp : h.objs.size ≤ a) (hn : H a = none) : Un fs ex H (upd H a o) h h' where
 keep := fun b u q _ _ _ => k b u q
 slot := fun b u q _ _ _ => ⟨u.slots, k b u q⟩
 free := fun b u q n _ => by rw [zai (Nat.ne_of_lt (Nat.lt_of_lt_of_le (Heap.lt_size q) hp))]; exact n
 there := fun b u q _ => ⟨u, k b u q⟩
 tups := fun b xs q => by rw [zai (zag q hn)]; exact q
 frzs := fun b u xs q => by rw [zai (zag q hn)]; exact q
 tbls := fun b ps q => ⟨#[], by rw [zai (zag q hn), q]; simp⟩
theorem Un.write (mu : Mut (H x)) (he : e = x ∨ H e = some (.own x)) (k : ∀ b u, b ≠ e → h.get? b = some u → h'.get? b = some u) (heo : ∃ u, h'.get? e = some u) : Un fs ex H (upd H x o) h h' := by
 have hx : ∀ b, H b = none → b ≠ x := fun b n z => by subst z; rw [n] at mu; exact mu
 have hb : ∀ b, H b = none → b ≠ e := fun b n z => by
  subst z
  rcases he with r | r
  ·exact hx b n r
  ·rw [n] at r; cases r
 have hm : ∀ b u, H b = some u → ¬ Mut (some u) → b ≠ x := fun b u q nm z => by subst z; rw [q] at mu; exact nm mu
 refine ⟨fun b u q n _ _ => k b u (hb b n) q, fun b u q n _ _ => ⟨u.slots, k b u (hb b n) q⟩, fun b u q n _ => by rw [zai (hx b n)]; exact n, fun b u q _ => ?_,
  fun b xs q => by rw [zai (hm b _ q fun z => z)]; exact q, fun b u xs q => by rw [zai (hm b _ q fun z => z)]; exact q, fun b ps q => ⟨#[], by rw [zai (hm b _ q fun z => z), q]; simp⟩⟩
 by_cases hbe : b = e
 ·subst hbe; exact heo
 ·exact ⟨u, k b u hbe q⟩
theorem Un.mono (u : Un fs ex H H1 h h1) (hs : ∀ b ∈ fs, b ∈ fs') (hx : ∀ b ∈ ex, b ∈ ex') : Un fs' ex' H H1 h h1 :=
 ⟨fun b ob q n hb he => u.keep b ob q n (fun z => hb (hs b z)) fun z => he (hx b z), fun _ _ q n _ he => u.any q n fun z => he (hx _ z), fun b ob q n he => u.free b ob q n fun z => he (hx b z), fun b ob q he => u.there b ob q fun z => he (hx b z), u.tups, u.frzs, u.tbls⟩
end
def trk (h : Heap) (H : Hp) : List Addr := (List.range h.objs.size).filter fun a => (H a).isSome
def hidT (h : Heap) (H : Hp) : Heap := PySem.W.hideAll h (trk h H)
theorem zkm (h : Heap) (H : Hp) : (hidT h H).objs.size = h.objs.size := PySem.W.hideAll_size _ _
theorem zlP {h : Heap} {H : Hp} {b : Addr} {o : Obj} (e : h.get? b = some o) (n : H b = none) : (hidT h H).get? b = some o :=
 PySem.W.hideAll_get _ e fun hm => by
  have q : (H b).isSome = true := (List.mem_filter.mp hm).2
  rw [n] at q; simp at q
theorem znI {h : Heap} {H : Hp} {b : Addr} {o : Obj} (e : (hidT h H).get? b = some o) : h.get? b = some o ∧ H b = none := by
 have e' : h.get? b = some o := PySem.W.of_hideAll (trk h H) e
 refine ⟨e', ?_⟩
 cases q : H b with
 | none => rfl
 | some x =>
  have hm : b ∈ trk h H := List.mem_filter.mpr ⟨List.mem_range.mpr (Heap.lt_size e'), by simp [q]⟩
  have z : (hidT h H).get? b = none := PySem.W.hideAll_none (trk h H) hm
  rw [z] at e; cases e
def zof (g h : Heap) (L : Addr) : List (Addr × Obj) := (List.range h.objs.size).filterMap fun a => if a = L ∨ (g.get? a).isSome = true then none else (h.get? a).map fun o => (a, o)
def rest (g h : Heap) (L d : Addr) : List (Addr × Obj) := (zof g h L).filter fun p => decide (p.1 ≠ d)
end L2
namespace L2
open PySem PySem.Spec PyProof.Rows
structure Mod (K : PySem.W.Frag) (mg : Str → Option Value) (base : Heap) : Prop where
 kin : K.In base
 glob : base.Ns mainGlobals mg
 blt : ∃ mb, base.Ns builtinsNs mb ∧ ∀ x : Str, x ≠ "__name__" → mb x = bootBuiltins x
 nolimit : base.NoLimit
structure Cx where
 prog : Program
 w : World
 K : PySem.W.Frag
 mg : Str → Option Value
 base : Heap
 A : Around
 N : List Str
 s₀ : Shared
 H₀ : Hp
 env : Env
 outer : List Env
 stack : List Env
 ex : List Addr
 fn : Str → Bool
 calm : Bool
 pn : List (Addr × Obj)
 xe : Value → Shared → Prop
def frs (l : List Env) : List Addr := l.filterMap (·.frame)
abbrev Cx.fs (X : Cx) : List Addr := frs X.outer
def Vis (sc : Scope) (x : Str) : Prop := sc.names.lookup x = some .local ∨ sc.names.lookup x = some .cell ∨ sc.names.lookup x = some .free
def Loc (sc : Scope) (x : Str) : Prop := sc.names.lookup x = some .local ∨ sc.names.lookup x = some .cell
def Look (env : Env) (h : Heap) (m : Str → Option Value) (x : Str) (u : Value) : Prop :=
 (env.kindOf x = some .local ∧ m x = some u) ∨ ((env.kindOf x = some .cell ∨ env.kindOf x = some .free) ∧ ∃ c, env.cells.lookup x = some c ∧ h.IsCell c (some u))
structure Cx.Ok (X : Cx) : Prop where
 mod : Mod X.K X.mg X.base
 kind : X.env.scope.kind = .function
 glob : X.env.globals = mainGlobals
 blt : X.env.builtins = builtinsNs
 above : X.s₀.heap.objs.size ≤ X.env.locals
 inj : ∀ x y c, X.env.cells.lookup x = some c → X.env.cells.lookup y = some c → x = y
 has : ∀ x, (X.env.kindOf x = some .cell ∨ X.env.kindOf x = some .free) → ∃ c, X.env.cells.lookup x = some c
 cab : ∀ x c, X.fn x = true → X.env.cells.lookup x = some c → X.s₀.heap.objs.size ≤ c
 hd : X.calm = true → X.A.handled = none
 frames : X.A.frames = some X.stack
 stk : X.stack = X.outer ∨ (X.stack = X.env :: X.outer ∧ X.env.frame = some X.env.locals)
 exf : ∀ b ∈ X.ex, b ≠ X.env.locals ∧ ∀ x c, X.env.cells.lookup x = some c → c ≠ b
 bs : ∀ b o, X.base.get? b = some o → X.s₀.heap.get? b = some o ∧ X.H₀ b = none
 bsz : X.base.objs.size ≤ X.s₀.heap.objs.size
 noex : ∀ b o, X.base.get? b = some o → b ∉ X.ex
 exfs : ∀ b ∈ X.ex, b ∉ X.fs
 funs : X.s₀.heap.FunFrames X.base X.outer
 frf : ∀ b ∈ X.fs, X.H₀ b = none
structure Inv (X : Cx) (pins : List (Addr × Obj)) (σ : List (Option V)) (H : Hp) (s : Shared) : Prop where
 ok : X.Ok
 os : s.os = X.s₀.os
 bare : AllBare s.gens
 base : Un X.fs X.ex X.H₀ H X.s₀.heap s.heap
 loc : ∃ m, s.heap.Ns X.env.locals m ∧ ∀ (i : Nat) (x : Str) (v : V), X.N[i]? = some x → σ[i]? = some (some v) → Vis X.env.scope x → ∃ u, RelV v u ∧ Look X.env s.heap m x u
 cell : ∀ x c, X.env.cells.lookup x = some c → ∃ v, s.heap.IsCell c v
 free : H X.env.locals = none
 freeC : ∀ x c, X.env.cells.lookup x = some c → H c = none
 pin : ∀ p ∈ X.pn ++ pins, s.heap.get? p.1 = some p.2 ∧ H p.1 = none ∧ p.1 ≠ X.env.locals ∧ p.1 ∉ X.fs ∧ ∀ v, p.2.data ≠ .cell v
 hok : HOk X.prog X.w H s.heap
 len : σ.length = X.N.length
section
variable {X : Cx} {pins : List (Addr × Obj)} {σ : List (Option V)} {H H' : Hp} {s : Shared} {h' : Heap}
theorem Cx.Ok.nofr (ok : X.Ok) {b : Addr} {o : Obj} (e : X.base.get? b = some o) : b ∉ X.fs := fun hb => by
 have := (ok.funs.mem hb).1
 rw [e] at this; cases this
theorem Inv.bs (I : Inv X pins σ H s) : ∀ b o, X.base.get? b = some o → s.heap.get? b = some o ∧ H b = none := fun b o e =>
 ⟨I.base.keep b o (I.ok.bs b o e).1 (I.ok.bs b o e).2 (I.ok.nofr e) (I.ok.noex b o e), I.base.free b o (I.ok.bs b o e).1 (I.ok.bs b o e).2 (I.ok.noex b o e)⟩
theorem Inv.bk (I : Inv X pins σ H s) : ∀ b o, X.base.get? b = some o → s.heap.get? b = some o := fun b o e => (I.bs b o e).1
theorem Inv.mod (I : Inv X pins σ H s) : Mod X.K X.mg X.base := I.ok.mod
theorem Inv.kIn (I : Inv X pins σ H s) : X.K.In s.heap := I.ok.mod.kin.keeps I.bk
theorem Inv.nolimit (I : Inv X pins σ H s) : s.heap.NoLimit := I.ok.mod.nolimit.keeps I.bk
theorem Inv.lt (I : Inv X pins σ H s) : X.env.locals < s.heap.objs.size := let ⟨_, hn, _⟩ := I.loc; hn.lt
theorem Inv.sz (I : Inv X pins σ H s) : X.s₀.heap.objs.size ≤ s.heap.objs.size := Nat.le_trans I.ok.above (Nat.le_of_lt I.lt)
theorem Inv.nofs (I : Inv X pins σ H s) {a : Addr} (h : s.heap.objs.size ≤ a) : a ∉ X.fs := fun hb => by
 obtain ⟨_, o, ho, _⟩ := I.ok.funs.mem hb
 exact absurd (Nat.lt_of_lt_of_le (Heap.lt_size ho) (Nat.le_trans I.sz h)) (Nat.lt_irrefl _)
theorem Inv.cne (I : Inv X pins σ H s) : ∀ x c, X.env.cells.lookup x = some c → c ≠ X.env.locals := fun x c e z => by
 obtain ⟨v, o, ho, hd⟩ := I.cell x c e
 obtain ⟨m, ⟨o', es, ep, ho', hd', _⟩, _⟩ := I.loc
 rw [z, ho'] at ho; cases ho; rw [hd'] at hd; cases hd
theorem Inv.funs (I : Inv X pins σ H s) : s.heap.FunFrames X.base X.outer := by
 have all : ∀ (l : List Env), (∀ b ∈ frs l, b ∈ X.fs) → X.s₀.heap.FunFrames X.base l → s.heap.FunFrames X.base l := by
  intro l
  induction l with
  | nil => intro _ _; trivial
  | cons env r ih =>
   intro hs hl
   obtain ⟨hk, ⟨L, o, hf, hn, ho, hd⟩, hr⟩ := hl
   have hL : L ∈ X.fs := hs L (by unfold frs; rw [List.filterMap_cons, hf]; exact List.mem_cons_self)
   obtain ⟨sl, e⟩ := I.base.slot L o ho (I.ok.frf L hL) hL fun z => I.ok.exfs L z hL
   exact ⟨hk, ⟨L, _, hf, hn, e, hd⟩, ih (fun b hb => hs b (by unfold frs; rw [List.filterMap_cons, hf]; exact List.mem_cons_of_mem _ hb)) hr⟩
 exact all X.outer (fun _ hb => hb) I.ok.funs
theorem Inv.stack (I : Inv X pins σ H s) : s.heap.FunFrames X.base X.stack := by
 rcases I.ok.stk with e | ⟨e, hf⟩
 ·rw [e]; exact I.funs
 ·rw [e]
  obtain ⟨m, hn, _⟩ := I.loc
  refine .cons (by rw [I.ok.kind]; decide) hf hn ?_ I.funs
  exact Heap.get?_none_of_le (Nat.le_trans I.ok.bsz I.ok.above)
theorem Inv.stkSub (I : Inv X pins σ H s) : ∀ b ∈ frs X.stack, b ∈ X.env.locals :: X.fs := fun b hb => by
 rcases I.ok.stk with e | ⟨e, hf⟩
 ·rw [e] at hb; exact List.mem_cons_of_mem _ hb
 ·rw [e] at hb
  unfold frs at hb
  rw [List.filterMap_cons, hf] at hb
  exact hb
theorem Inv.stkFree (I : Inv X pins σ H s) : ∀ b ∈ frs X.stack, H b = none := fun b hb => by
 rcases List.mem_cons.mp (I.stkSub b hb) with e | hb
 ·rw [e]; exact I.free
 ·obtain ⟨_, o, ho, _⟩ := I.ok.funs.mem hb
  exact I.base.free b o ho (I.ok.frf b hb) fun z => I.ok.exfs b z hb
theorem Inv.step {g' : Array GenState} {t' : Nat} {d' : Drawn} {ch : List Addr} (I : Inv X pins σ H s)
  (hch : ∀ b ∈ ch, (b ∈ X.ex ∨ X.s₀.heap.objs.size ≤ b) ∧ b ≠ X.env.locals ∧ (∀ x c, X.env.cells.lookup x = some c → c ≠ b) ∧ ∀ p ∈ X.pn ++ pins, p.1 ≠ b)
  (keep : ∀ b o, b ≠ X.env.locals → b ∉ X.fs → b ∉ ch → s.heap.get? b = some o → H b = none → h'.get? b = some o)
  (slot : ∀ b o, b ≠ X.env.locals → b ∈ X.fs → b ∉ ch → s.heap.get? b = some o → H b = none → ∃ sl, h'.get? b = some { o with slots := sl }) (free : ∀ b o, b ∉ ch → s.heap.get? b = some o → H b = none → H' b = none)
  (there : ∀ b o, b ∉ ch → s.heap.get? b = some o → ∃ o', h'.get? b = some o')
  (tups : ∀ b xs, H b = some (.tup xs) → H' b = some (.tup xs)) (frzs : ∀ b o u, H b = some (.frz o u) → H' b = some (.frz o u)) (tbls : ∀ b ps, H b = some (.tbl ps) → ∃ more, H' b = some (.tbl (ps ++ more)))
  (ns : ∀ m, s.heap.Ns X.env.locals m → h'.Ns X.env.locals m) (hok : HOk X.prog X.w H' h') (hg : AllBare g') :
  Inv X pins σ H' { s with heap := h', gens := g', drawn := d', toks := t' } := by
 have neL : ∀ b o, X.s₀.heap.get? b = some o → b ≠ X.env.locals := fun b o e => Nat.ne_of_lt (Nat.lt_of_lt_of_le (Heap.lt_size e) I.ok.above)
 have neC : ∀ b o, X.s₀.heap.get? b = some o → b ∉ X.ex → b ∉ ch := fun b o e hx hb => by
  rcases (hch b hb).1 with z | z
  ·exact hx z
  ·exact absurd (Nat.lt_of_lt_of_le (Heap.lt_size e) z) (Nat.lt_irrefl _)
 have cellK : ∀ x c, X.env.cells.lookup x = some c → ∀ v, s.heap.IsCell c v → h'.IsCell c v := fun x c e v ⟨o, ho, hd⟩ => by
  have nch : c ∉ ch := fun z => (hch c z).2.2.1 x c e rfl
  by_cases hc : c ∈ X.fs
  ·obtain ⟨sl, q⟩ := slot c o (I.cne x c e) hc nch ho (I.freeC x c e)
   exact ⟨_, q, hd⟩
  ·exact ⟨o, keep c o (I.cne x c e) hc nch ho (I.freeC x c e), hd⟩
 refine ⟨I.ok, I.os, hg, ⟨fun b o e n hb hx => ?_, fun b o e n hb hx => ?_, fun b o e n hx => ?_, fun b o e hx => ?_, fun b xs e => tups b xs (I.base.tups b xs e), fun b o xs e => frzs b o xs (I.base.frzs b o xs e), fun b ps e => ?_⟩, ?_, fun x c e => ?_, ?_, fun x c e => ?_, fun p hp => ?_, hok, I.len⟩
 ·exact keep b o (neL b o e) hb (neC b o e hx) (I.base.keep b o e n hb hx) (I.base.free b o e n hx)
 ·obtain ⟨sl, e1⟩ := I.base.slot b o e n hb hx
  obtain ⟨sl', e2⟩ := slot b _ (neL b o e) hb (neC b o e hx) e1 (I.base.free b o e n hx)
  exact ⟨sl', e2⟩
 ·obtain ⟨o', e1⟩ := I.base.there b o e hx
  exact free b o' (neC b o e hx) e1 (I.base.free b o e n hx)
 ·obtain ⟨o', e1⟩ := I.base.there b o e hx
  exact there b o' (neC b o e hx) e1
 ·obtain ⟨m1, e1⟩ := I.base.tbls b ps e
  obtain ⟨m2, e2⟩ := tbls b _ e1
  exact ⟨m1 ++ m2, by rw [e2, Array.append_assoc]⟩
 ·obtain ⟨m, hn, hl⟩ := I.loc
  refine ⟨m, ns m hn, fun i x v e1 e2 e3 => ?_⟩
  obtain ⟨u, r, l⟩ := hl i x v e1 e2 e3
  refine ⟨u, r, ?_⟩
  rcases l with l | ⟨k, c, e, z⟩
  ·exact .inl l
  ·exact .inr ⟨k, c, e, cellK x c e _ z⟩
 ·obtain ⟨v, z⟩ := I.cell x c e
  exact ⟨v, cellK x c e v z⟩
 ·obtain ⟨m, ⟨o, _, _, ho, _⟩, _⟩ := I.loc
  exact free _ o (fun z => (hch _ z).2.1 rfl) ho I.free
 ·obtain ⟨v, o, ho, hd⟩ := I.cell x c e
  exact free c o (fun z => (hch c z).2.2.1 x c e rfl) ho (I.freeC x c e)
 ·obtain ⟨e, n, ne, nf, d⟩ := I.pin p hp
  have nch : p.1 ∉ ch := fun z => (hch p.1 z).2.2.2 p hp rfl
  exact ⟨keep p.1 p.2 ne nf nch e n, free p.1 p.2 nch e n, ne, nf, d⟩
theorem Inv.un {t' : Nat} (I : Inv X pins σ H s) (u : Un X.fs [] H H' s.heap h') (hok : HOk X.prog X.w H' h') : Inv X pins σ H' { s with heap := h', toks := t' } := by
 obtain ⟨m, ⟨o, es, ep, ho, r⟩, _⟩ := id I.loc
 obtain ⟨sl, hL⟩ := u.any ho I.free (by simp)
 exact I.step (g' := s.gens) (d' := s.drawn) (ch := []) (fun _ z => nomatch z) (fun b o _ hb _ e n => u.keep b o e n hb (by simp)) (fun b o _ hb _ e n => u.slot b o e n hb (by simp)) (fun b o _ e n => u.free b o e n (by simp)) (fun b o _ e => u.there b o e (by simp)) u.tups u.frzs u.tbls (fun m' hm => by
  obtain ⟨o', es', ep', ho', r'⟩ := hm
  rw [ho] at ho'; cases ho'
  exact ⟨_, es', ep', hL, r'⟩) hok I.bare
theorem Inv.call {g' : Array GenState} {t' : Nat} {d' : Drawn} {ch : List Addr} (I : Inv X pins σ H s) (u : Un (frs X.stack) ch H H' s.heap h') (hok : HOk X.prog X.w H' h') (hg : AllBare g')
  (hch : ∀ b ∈ ch, (b ∈ X.ex ∨ X.s₀.heap.objs.size ≤ b) ∧ b ≠ X.env.locals ∧ (∀ x c, X.env.cells.lookup x = some c → c ≠ b) ∧ ∀ p ∈ X.pn ++ pins, p.1 ≠ b) :
  Inv X pins σ H' { s with heap := h', gens := g', drawn := d', toks := t' } := by
 obtain ⟨m, ⟨o, es, ep, ho, r⟩, _⟩ := id I.loc
 obtain ⟨sl, hL⟩ := u.any ho I.free fun z => (hch _ z).2.1 rfl
 exact I.step (ch := ch) hch (fun b o hL hb hc e n => u.keep b o e n (fun z => (List.mem_cons.mp (I.stkSub b z)).elim hL hb) hc) (fun b o _ _ hc e n => u.any e n hc) (fun b o hc e n => u.free b o e n hc) (fun b o hc e => u.there b o e hc) u.tups u.frzs u.tbls (fun m' hm => by
  obtain ⟨o', es', ep', ho', r'⟩ := hm
  rw [ho] at ho'; cases ho'
  exact ⟨_, es', ep', hL, r'⟩) hok hg
theorem Inv.turned {t' : Nat} {it : Addr} (I : Inv X pins σ H s) (k : ∀ b o, b ≠ it → s.heap.get? b = some o → h'.get? b = some o) (hn : H it = none) (hL : it ≠ X.env.locals)
  (h1 : it ∈ X.ex ∨ X.s₀.heap.objs.size ≤ it) (h2 : ∀ x c, X.env.cells.lookup x = some c → c ≠ it) (h3 : ∀ p ∈ X.pn ++ pins, p.1 ≠ it) : Inv X pins σ H { s with heap := h', toks := t' } := by
 have nit : ∀ b u, H b = some u → b ≠ it := fun b u e z => by rw [z, hn] at e; cases e
 refine I.step (g' := s.gens) (d' := s.drawn) (ch := [it]) (fun b hb => ?_) (fun b o _ _ hc e _ => k b o (fun z => hc (by simp [z])) e) (fun b o _ _ hc e _ => ⟨o.slots, k b o (fun z => hc (by simp [z])) e⟩) (fun _ _ _ _ n => n)
  (fun b o hc e => ⟨o, k b o (fun z => hc (by simp [z])) e⟩) (fun _ _ e => e) (fun _ _ _ e => e) (fun b ps e => ⟨#[], by rw [e]; simp⟩) (fun m hm => ?_) (fun b u e => ?_) I.bare
 ·have e : b = it := by simpa using hb
  subst e
  exact ⟨h1, hL, h2, h3⟩
 ·obtain ⟨o, es, ep, ho, r⟩ := hm
  exact ⟨o, es, ep, k _ o (Ne.symm hL) ho, r⟩
 ·refine (I.hok b u e).stay (fun c v hc q => k c v ?_ q) (fun _ q => q) fun _ _ q => q
  rcases hc with z | z
  ·rw [z]; exact nit b u e
  ·exact nit c _ z
theorem Inv.tok (I : Inv X pins σ H s) (t : Nat) : Inv X pins σ H { s with toks := t } := I.un (h' := s.heap) (t' := t) Un.refl I.hok
theorem Inv.kept {t' : Nat} (I : Inv X pins σ H s) (k : ∀ b u, s.heap.get? b = some u → h'.get? b = some u) : Inv X pins σ H { s with heap := h', toks := t' } := I.un (Un.kept k) (I.hok.kept k)
theorem Inv.laid {a : Addr} {o : HO} {t' : Nat} (I : Inv X pins σ H s) (k : ∀ b u, s.heap.get? b = some u → h'.get? b = some u) (hp : s.heap.objs.size ≤ a) (new : zbD X.prog X.w (upd H a o) h' a o) :
  Inv X pins σ (upd H a o) { s with heap := h', toks := t' } := I.un (Un.laid k hp (I.hok.fresh hp)) (I.hok.laid k hp new)
theorem Inv.write {x e : Addr} {o : HO} {t' : Nat} (I : Inv X pins σ H s) (mu : Mut (H x)) (he : e = x ∨ H e = some (.own x)) (k : ∀ b u, b ≠ e → s.heap.get? b = some u → h'.get? b = some u) (heo : ∃ u, h'.get? e = some u)
  (new : zbD X.prog X.w (upd H x o) h' x o) : Inv X pins σ (upd H x o) { s with heap := h', toks := t' } := I.un (Un.write mu he k heo) (I.hok.write mu he k heo new)
theorem Inv.pins_of {pins' : List (Addr × Obj)} (I : Inv X pins σ H s) (h : ∀ p ∈ pins', s.heap.get? p.1 = some p.2 ∧ H p.1 = none ∧ p.1 ≠ X.env.locals ∧ p.1 ∉ X.fs ∧ ∀ v, p.2.data ≠ .cell v) : Inv X pins' σ H s :=
 ⟨I.ok, I.os, I.bare, I.base, I.loc, I.cell, I.free, I.freeC, fun p hp => (List.mem_append.mp hp).elim (fun z => I.pin p (List.mem_append_left _ z)) (h p), I.hok, I.len⟩
theorem zhG {N : List Str} (hN : N.Nodup) {i j : Nat} {x : Str} (a : N[i]? = some x) (b : N[j]? = some x) : i = j := by
 obtain ⟨h1, e1⟩ := List.getElem?_eq_some_iff.mp a
 obtain ⟨h2, e2⟩ := List.getElem?_eq_some_iff.mp b
 exact (List.getElem_inj hN).mp (e1.trans e2.symm)
theorem ziY {M : Model} {A : Around} {E : Value → Shared → Prop} {i : Nat} {x : Str} {v : V} {u : Value} {Q : Unit → Shared → Prop} (I : Inv X pins σ H s) (hN : X.N.Nodup) (hi : X.N[i]? = some x) (hx : Loc X.env.scope x) (r : RelV v u)
  (h : ∀ s', Inv X pins (σ.set i (some v)) H s' → (∃ a, Heap.SameBut a s.heap s'.heap ∧ (a = X.env.locals ∨ X.env.cells.lookup x = some a)) → Q () s') (hf : X.fn x = true ∨ X.env.scope.names.lookup x = some .local := by first | exact .inl rfl | exact .inr rfl | assumption) : wpAny M A (storeName X.env x u) Q E s := by
 obtain ⟨m, hn, hl⟩ := id I.loc
 have hcls : (X.env.scope.kind == .class || (X.env.scope.kind == .module && X.env.locals != X.env.globals)) = false := by rw [I.ok.kind]; rfl
 have hiσ : i < σ.length := by rw [I.len]; exact (List.getElem?_eq_some_iff.mp hi).1
 have cne := I.cne
 have tracked : ∀ {a : Addr} {h' : Heap}, (∃ o, s.heap.get? a = some o ∧ H a = none) → Heap.SameBut a s.heap h' → HOk X.prog X.w H h' := fun {a h'} ha hs b ob e => by
  obtain ⟨_, _, hfree⟩ := ha
  refine (I.hok b ob e).stay (fun c w' hc q => (hs.2 c ?_).trans q) (fun _ q => q) fun _ _ q => q
  rintro rfl
  rcases hc with rfl | hc
  ·rw [hfree] at e; cases e
  ·rw [hfree] at hc; cases hc
 rcases hx with hk | hk
 ·refine wpAny_storeName_local hk hn (fun h' hn' hs => ?_) hcls
  obtain ⟨oL, _, _, hoL, _⟩ := id hn
  refine h _ ⟨I.ok, I.os, I.bare, ⟨fun b o e n hb hx => ?_, fun b o e n hb hx => ?_, I.base.free, fun b o e hx => ?_, I.base.tups, I.base.frzs, I.base.tbls⟩, ⟨_, hn', fun j y v' e1 e2 e3 => ?_⟩, fun y c e => ?_, I.free, I.freeC, fun p hp => ?_, tracked ⟨oL, hoL, I.free⟩ hs, by simpa using I.len⟩ ⟨_, hs, .inl rfl⟩
  ·exact (hs.2 b (Nat.ne_of_lt (Nat.lt_of_lt_of_le (Heap.lt_size e) I.ok.above))).trans (I.base.keep b o e n hb hx)
  ·obtain ⟨sl, e1⟩ := I.base.slot b o e n hb hx
   exact ⟨sl, (hs.2 b (Nat.ne_of_lt (Nat.lt_of_lt_of_le (Heap.lt_size e) I.ok.above))).trans e1⟩
  ·obtain ⟨o', e1⟩ := I.base.there b o e hx
   exact ⟨o', (hs.2 b (Nat.ne_of_lt (Nat.lt_of_lt_of_le (Heap.lt_size e) I.ok.above))).trans e1⟩
  ·by_cases hj : j = i
   ·subst hj
    rw [hi] at e1; cases e1
    rw [List.getElem?_set_self hiσ] at e2
    cases e2
    exact ⟨u, r, .inl ⟨hk, by simp⟩⟩
   ·rw [List.getElem?_set_ne (Ne.symm hj)] at e2
    obtain ⟨u', r', q⟩ := hl j y v' e1 e2 e3
    refine ⟨u', r', ?_⟩
    rcases q with ⟨k, e⟩ | ⟨k, c, e, z⟩
    ·refine .inl ⟨k, ?_⟩
     have : y ≠ x := fun e => hj (zhG hN e1 (e ▸ hi))
     simp [this, e]
    ·exact .inr ⟨k, c, e, z.sameBut hs (cne y c e)⟩
  ·obtain ⟨w', z⟩ := I.cell y c e
   exact ⟨w', z.sameBut hs (cne y c e)⟩
  ·obtain ⟨e, n, ne, nf, d⟩ := I.pin p hp
   exact ⟨(hs.2 p.1 ne).trans e, n, ne, nf, d⟩
 ·have hfn : X.fn x = true := by
   rcases hf with z | z
   ·exact z
   ·rw [z] at hk; cases hk
  obtain ⟨c, hc⟩ := I.ok.has x (.inl hk)
  obtain ⟨w', z⟩ := I.cell x c hc
  refine wpAny_storeName_cell I.ok.kind hk hc z (fun h' hc' hs => ?_)
  obtain ⟨oc, hoc, hocd⟩ := id z
  refine h { s with heap := h' } ⟨I.ok, I.os, I.bare, ⟨fun b o e n hb hx => ?_, fun b o e n hb hx => ?_, I.base.free, fun b o e hx => ?_, I.base.tups, I.base.frzs, I.base.tbls⟩, ⟨m, hn.sameBut hs (Ne.symm (cne x c hc)), fun j y v' e1 e2 e3 => ?_⟩, fun y c' e => ?_, I.free, I.freeC, fun p hp => ?_, tracked ⟨oc, hoc, I.freeC x c hc⟩ hs, by simpa using I.len⟩ ⟨c, hs, .inr hc⟩
  ·exact (hs.2 b (Nat.ne_of_lt (Nat.lt_of_lt_of_le (Heap.lt_size e) (I.ok.cab x c hfn hc)))).trans (I.base.keep b o e n hb hx)
  ·obtain ⟨sl, e1⟩ := I.base.slot b o e n hb hx
   exact ⟨sl, (hs.2 b (Nat.ne_of_lt (Nat.lt_of_lt_of_le (Heap.lt_size e) (I.ok.cab x c hfn hc)))).trans e1⟩
  ·obtain ⟨o', e1⟩ := I.base.there b o e hx
   exact ⟨o', (hs.2 b (Nat.ne_of_lt (Nat.lt_of_lt_of_le (Heap.lt_size e) (I.ok.cab x c hfn hc)))).trans e1⟩
  ·by_cases hj : j = i
   ·subst hj
    rw [hi] at e1; cases e1
    rw [List.getElem?_set_self hiσ] at e2
    cases e2
    exact ⟨u, r, .inr ⟨.inl hk, c, hc, hc'⟩⟩
   ·rw [List.getElem?_set_ne (Ne.symm hj)] at e2
    obtain ⟨u', r', q⟩ := hl j y v' e1 e2 e3
    refine ⟨u', r', ?_⟩
    rcases q with q | ⟨k, c', e, z'⟩
    ·exact .inl q
    ·refine .inr ⟨k, c', e, z'.sameBut hs ?_⟩
     rintro rfl
     exact hj (zhG hN e1 (I.ok.inj _ _ _ e hc ▸ hi))
  ·by_cases hcc : c' = c
   ·subst hcc; exact ⟨_, hc'⟩
   ·obtain ⟨w2, z2⟩ := I.cell y c' e
    exact ⟨w2, z2.sameBut hs hcc⟩
  ·obtain ⟨e, n, ne, nf, d⟩ := I.pin p hp
   refine ⟨(hs.2 p.1 ?_).trans e, n, ne, nf, d⟩
   intro q
   rw [q, hoc] at e
   have q' : oc = p.2 := Option.some.inj e
   exact d w' (by rw [← q']; exact hocd)
theorem zho {M : Model} {A : Around} {E : Value → Shared → Prop} {i : Nat} {x : Str} {v : V} {u : Value} {Q : Unit → Shared → Prop} (I : Inv X pins σ H s) (hN : X.N.Nodup) (hi : X.N[i]? = some x) (hx : Loc X.env.scope x) (r : RelV v u)
  (h : ∀ s', Inv X pins (σ.set i (some v)) H s' → Q () s') (hf : X.fn x = true ∨ X.env.scope.names.lookup x = some .local := by first | exact .inl rfl | exact .inr rfl | assumption) : wpAny M A (storeName X.env x u) Q E s :=
 ziY I hN hi hx r (fun s' I' _ => h s' I') hf
theorem Inv.call' {s' : Shared} {ch : List Addr} (I : Inv X pins σ H s) (ho : s'.os = s.os) (u : Un (frs X.stack) ch H H' s.heap s'.heap) (hok : HOk X.prog X.w H' s'.heap) (hg : AllBare s'.gens)
  (hch : ∀ b ∈ ch, (b ∈ X.ex ∨ X.s₀.heap.objs.size ≤ b) ∧ b ≠ X.env.locals ∧ (∀ x c, X.env.cells.lookup x = some c → c ≠ b) ∧ ∀ p ∈ X.pn ++ pins, p.1 ≠ b) : Inv X pins σ H' s' := by
 obtain ⟨h', g', d', t', o'⟩ := s'
 have e : o' = s.os := ho
 subst e
 exact I.call (g' := g') (t' := t') (d' := d') u hok hg hch
end
abbrev XK := Value → Option Addr → Hp → Prop
abbrev St := List (Option V)
abbrev VK := V → Hp → Prop
abbrev TE := St → Hp → VK → Prop
abbrev TT := St → Hp → (Bool → Hp → Prop) → Prop
abbrev TA := St → Hp → (List V → Hp → Prop) → Prop
structure Ends where
 nx : St → Hp → Prop
 rt : VK
 bk : St → Hp → Prop := fun _ _ => False
 ct : St → Hp → Prop := fun _ _ => False
abbrev TS := Ends → St → Hp → Prop
def EP (X : Cx) (pins : List (Addr × Obj)) (σ : St) (Q : VK) (u : Value) (s' : Shared) : Prop := ∃ v H', Inv X pins σ H' s' ∧ RelV v u ∧ Q v H'
def TP (X : Cx) (pins : List (Addr × Obj)) (σ : St) (Q : Bool → Hp → Prop) (b : Bool) (s' : Shared) : Prop := ∃ H', Inv X pins σ H' s' ∧ Q b H'
def AP (X : Cx) (pins : List (Addr × Obj)) (σ : St) (Q : List V → Hp → Prop) (us : List Value) (s' : Shared) : Prop := ∃ vs H', Inv X pins σ H' s' ∧ Vals vs us ∧ Q vs H'
def SP (X : Cx) (pins : List (Addr × Obj)) (D : Ends) (f : Flow) (s' : Shared) : Prop :=
 match f with
 | .next => ∃ σ' H', Inv X pins σ' H' s' ∧ D.nx σ' H'
 | .brk => ∃ σ' H', Inv X pins σ' H' s' ∧ D.bk σ' H'
 | .cont => ∃ σ' H', Inv X pins σ' H' s' ∧ D.ct σ' H'
 | .ret u => ∃ v σ' H', Inv X pins σ' H' s' ∧ RelV v u ∧ D.rt v H'
def PE (X : Cx) (e : Expr) (t : TE) : Prop :=
 ∀ (pins : List (Addr × Obj)) (s : Shared) (σ : St) (H : Hp) (Q : VK), Inv X pins σ H s → t σ H Q → wpAny (model X.prog X.w) X.A (eval e X.env) (EP X pins σ Q) X.xe s
def PT (X : Cx) (e : Expr) (t : TT) : Prop :=
 ∀ (pins : List (Addr × Obj)) (s : Shared) (σ : St) (H : Hp) (Q : Bool → Hp → Prop), Inv X pins σ H s → t σ H Q → wpAny (model X.prog X.w) X.A (isTrue e X.env (eval e X.env)) (TP X pins σ Q) X.xe s
def PW (X : Cx) (e : Expr) (t : TT) : Prop :=
 ∀ (whole : Sem Value) (pins : List (Addr × Obj)) (s : Shared) (σ : St) (H : Hp) (Q : Bool → Hp → Prop), Inv X pins σ H s → t σ H Q → wpAny (model X.prog X.w) X.A (isTrue e X.env whole) (TP X pins σ Q) X.xe s
theorem PW.pt {X : Cx} {e : Expr} {t : TT} (h : PW X e t) : PT X e t := h _
def PA (X : Cx) (es : List Expr) (t : TA) : Prop :=
 ∀ (pos : Pos) (pins : List (Addr × Obj)) (s : Shared) (σ : St) (H : Hp) (Q : List V → Hp → Prop), Inv X pins σ H s → t σ H Q → wpAny (model X.prog X.w) X.A (spliced (backTo pos (starEach es X.env))) (AP X pins σ Q) X.xe s
def PS (X : Cx) (st : Stmt) (t : TS) : Prop :=
 ∀ (pins : List (Addr × Obj)) (s : Shared) (σ : St) (H : Hp) (D : Ends), Inv X pins σ H s → t D σ H → wpAny (model X.prog X.w) X.A (exec st X.env) (SP X pins D) X.xe s
def PSs (X : Cx) (st : List Stmt) (t : TS) : Prop :=
 ∀ (pins : List (Addr × Obj)) (s : Shared) (σ : St) (H : Hp) (D : Ends), Inv X pins σ H s → t D σ H → wpAny (model X.prog X.w) X.A (execs st X.env) (SP X pins D) X.xe s
theorem thn {α : Type} {t : Sem α} {Q Q' : α → Shared → Prop} {M : Model} {A : Around} {E : Value → Shared → Prop} {s : Shared} (h : wpAny M A t Q E s) (hQ : ∀ a s, Q a s → Q' a s) : wpAny M A t Q' E s := wpAny_mono h hQ fun _ _ x => x
end L2
namespace L2
open PySem PySem.Spec PyProof.Rows
section
variable {X : Cx}
theorem bin {a b : Expr} {ta tb : TE} (ha : PE X a ta) (hb : PE X b tb) {pins : List (Addr × Obj)} {s : Shared} {σ : St} {H : Hp} {R : V → V → Hp → Prop} (I : Inv X pins σ H s) (h : ta σ H fun x H1 => tb σ H1 fun y H2 => R x y H2)
  {α : Type} {Q : α → Shared → Prop} {f : Value → Value → Sem α}
  (hf : ∀ v u s2 x y H2, Inv X pins σ H2 s2 → RelV x v → RelV y u → R x y H2 → wpAny (model X.prog X.w) X.A (f v u) Q X.xe s2) :
  wpAny (model X.prog X.w) X.A (eval a X.env) (fun v s₁ => wpAny (model X.prog X.w) X.A (eval b X.env) (fun u s₂ => wpAny (model X.prog X.w) X.A (f v u) Q X.xe s₂) X.xe s₁) X.xe s := by
 refine thn (ha pins s σ H _ I h) fun v s1 ⟨x, H1, I1, r1, q1⟩ => ?_
 refine thn (hb pins s1 σ H1 _ I1 q1) fun u s2 ⟨y, H2, I2, r2, q2⟩ => ?_
 exact hf v u s2 x y H2 I2 r1 r2 q2
def tVar (i : Nat) : TE := fun σ H Q => ∃ v, σ[i]? = some (some v) ∧ Q v H
def tC (v : V) : TE := fun _ H Q => Q v H
theorem zo6 {i : Nat} {x : Str} {pos : Pos} (hN : X.N[i]? = some x) (hv : Vis X.env.scope x) (hd : (x == ("__debug__" : Str)) = false := by decide) (hcd : (x == ("__classdict__" : Str)) = false := by decide) : PE X (.Name x pos) (tVar i) := by
 intro pins s σ H Q I h
 obtain ⟨v, e, h⟩ := h
 obtain ⟨m, hn, hl⟩ := I.loc
 obtain ⟨u, r, l⟩ := hl i x v hN e hv
 have fin : EP X pins σ Q u s := ⟨v, H, I, r, h⟩
 rcases l with ⟨hk, hm⟩ | ⟨hk, c, hc, hcell⟩
 ·exact wpAny_Name (wpAny_loadName_local I.ok.kind hk hn hm fin) hd
 ·rcases hk with hk | hk
  ·exact wpAny_Name (wpAny_loadName_cell I.ok.kind hk hc hcell fin) hd
  ·exact wpAny_Name (wpAny_loadName_free I.ok.kind hk hc hcell fin hcd) hd
theorem zah {i j pos} : PE X (.Constant (.int i) j pos) (tC (.int i)) := fun _ _ _ H _ I h => wpAny_Constant_int ⟨.int i, H, I.tok _, ⟨_, rfl⟩, h⟩
theorem zbB {b j pos} : PE X (.Constant (.bool b) j pos) (tC (.bl b)) := fun _ _ _ H _ I h => Constant_bool ⟨.bl b, H, I, rfl, h⟩
theorem zo7 {j pos} : PE X (.Constant .none j pos) (tC .non) := fun _ _ _ H _ I h => Constant_none ⟨.non, H, I, rfl, h⟩
theorem zaB {x j pos} : PE X (.Constant (.str x) j pos) (tC (.str x)) := fun _ _ _ H _ I h => Calls.Constant_str ⟨.str x, H, I.tok _, ⟨_, rfl⟩, h⟩
def Gl (X : Cx) (x : Str) : Prop := X.env.kindOf x = some .globalImplicit
theorem zfR {E : Value → Shared → Prop} {pins : List (Addr × Obj)} {s : Shared} {σ : St} {H : Hp} {x : Str} {u : Value} {pos : Pos} {Q : Value → Shared → Prop} (I : Inv X pins σ H s) (hg : Gl X x) (hm : X.mg x = some u) (h : Q u s)
  (hd : (x == ("__debug__" : Str)) = false := by decide) : wpAny (model X.prog X.w) X.A (eval (.Name x pos) X.env) Q E s :=
 Calls.Name_function_global I.ok.kind hg (Calls.loadGlobal_global (by rw [I.ok.glob]; exact I.mod.glob.keeps I.bk) hm h) hd
theorem zdk {E : Value → Shared → Prop} {pins : List (Addr × Obj)} {s : Shared} {σ : St} {H : Hp} {x : Str} {u : Value} {pos : Pos} {Q : Value → Shared → Prop} (I : Inv X pins σ H s) (hg : Gl X x) (hm : X.mg x = none) (hv : bootBuiltins x = some u) (h : Q u s)
  (hn : x ≠ "__name__" := by decide) (hd : (x == ("__debug__" : Str)) = false := by decide) : wpAny (model X.prog X.w) X.A (eval (.Name x pos) X.env) Q E s := by
 obtain ⟨mb, h1, h2⟩ := I.mod.blt
 exact Calls.Name_function_global I.ok.kind hg (Calls.loadGlobal_builtin (by rw [I.ok.glob]; exact I.mod.glob.keeps I.bk) hm (by rw [I.ok.blt]; exact h1.keeps I.bk) ((h2 x hn).trans hv) h) hd
theorem znq {x : Str} {v : V} {u : Value} {pos : Pos} (hg : Gl X x) (hm : X.mg x = some u) (r : RelV v u) (hd : (x == ("__debug__" : Str)) = false := by decide) : PE X (.Name x pos) (tC v) :=
 fun _ _ _ H _ I h => zfR I hg hm ⟨v, H, I, r, h⟩ hd
theorem zbG {x : Str} {v : V} {u : Value} {pos : Pos} (hg : Gl X x) (hm : X.mg x = none) (hv : bootBuiltins x = some u) (r : RelV v u) (hn : x ≠ "__name__" := by decide) (hd : (x == ("__debug__" : Str)) = false := by decide) : PE X (.Name x pos) (tC v) :=
 fun _ _ _ H _ I h => zdk I hg hm hv ⟨v, H, I, r, h⟩ hn hd
variable {a b : Expr} {ta tb : TE} {pos : Pos}
def PC (X : Cx) (op : CmpOp) (a b : Expr) (t : TE) : Prop :=
 ∀ (pins : List (Addr × Obj)) (s : Shared) (σ : St) (H : Hp) (Q : VK), Inv X pins σ H s → t σ H Q →
  wpAny (model X.prog X.w) X.A (eval a X.env) (fun v s₁ => wpAny (model X.prog X.w) X.A (eval b X.env) (fun u s₂ => wpAny (model X.prog X.w) X.A (compareOp op v u) (EP X pins σ Q) X.xe s₂) X.xe s₁) X.xe s
theorem zlE (b : Expr) {op : CmpOp} (h : op ≠ .In) (h2 : op ≠ .NotIn) : behindInMarks op b = false := by
 have e1 : (op == CmpOp.In) = false := by cases op <;> first | rfl | exact absurd rfl h
 have e2 : (op == CmpOp.NotIn) = false := by cases op <;> first | rfl | exact absurd rfl h2
 cases b <;> simp [behindInMarks, e1, e2]
def tIsN (ta : TE) : TE := fun σ H Q => ta σ H fun x H1 => Q (.bl (decide (x = .non))) H1
def zoq (ta : TE) : TE := fun σ H Q => ta σ H fun x H1 => Q (.bl (!decide (x = .non))) H1
theorem RelV.none_iff {x : V} {v : Value} (r : RelV x v) : (v == Value.none) = decide (x = .non) := by
 cases x with
 | non => cases r; rfl
 | bl _ => cases r; rfl
 | int _ => obtain ⟨t, rfl⟩ := r; rfl
 | str _ => obtain ⟨t, rfl⟩ := r; rfl
 | byt _ => obtain ⟨t, rfl⟩ := r; rfl
 | flt _ => obtain ⟨t, rfl⟩ := r; rfl
 | ref _ => cases r; rfl
 | ty _ => cases r; rfl
theorem zpa {j pos'} (ha : PE X a ta) : PC X .Is a (.Constant .none j pos') (tIsN ta) := by
 intro pins s σ H Q I h
 refine thn (ha pins s σ H _ I h) fun v s1 ⟨x, H1, I1, r1, q1⟩ => ?_
 exact Constant_none (is_none_gen ⟨.bl _, H1, I1, by rw [r1.none_iff]; rfl, q1⟩)
theorem znu {j pos'} (ha : PE X a ta) : PC X .IsNot a (.Constant .none j pos') (zoq ta) := by
 intro pins s σ H Q I h
 refine thn (ha pins s σ H _ I h) fun v s1 ⟨x, H1, I1, r1, q1⟩ => ?_
 exact Constant_none (isnot_none_gen ⟨.bl _, H1, I1, by rw [r1.none_iff]; rfl, q1⟩)
def tB (t : TE) : TT := fun σ H Q => t σ H fun x H1 => ∃ c, x = .bl c ∧ Q c H1
theorem zej {op : CmpOp} {t : TE} (h : PC X op a b t) (h1 : behindInMarks op b = false := by first | exact zlE _ (by decide) (by decide) | rfl) : PT X (.Compare a [op] [b] pos) (tB t) := by
 intro pins s σ H Q I hw
 refine wpAny_isTrue_Compare1 (thn (h pins s σ H _ I hw) fun v s1 h1 => thn h1 fun u s2 h2 => thn h2 fun c s3 ⟨x, H1, I1, r1, q1⟩ => ?_) h1
 obtain ⟨d, rfl, q⟩ := q1
 cases r1
 exact wpAny_truthy_bool ⟨H1, I1, q⟩
theorem zbv {e : Expr} {t : TE} (h : PE X e t) (he : ∀ whole, isTrue e X.env whole = (do let v ← whole; standAt e.pos; holding [v] (truthy v)) := by intro _; rfl) : PT X e (tB t) := by
 intro pins s σ H Q I hw
 refine isTrue_plain (thn (h pins s σ H _ I hw) fun v s1 ⟨x, H1, I1, r1, q1⟩ => ?_) (he _)
 obtain ⟨d, rfl, q⟩ := q1
 cases r1
 exact wpAny_truthy_bool ⟨H1, I1, q⟩
variable {tA tB' : TT} {rest : List Expr}
def tAnd (t u : TT) : TT := fun σ H Q => t σ H fun c H1 => if c = true then u σ H1 Q else Q false H1
def tOr (t u : TT) : TT := fun σ H Q => t σ H fun c H1 => if c = true then Q true H1 else u σ H1 Q
def tNot (t : TT) : TT := fun σ H Q => t σ H fun c H1 => Q (!c) H1
theorem zfG (ha : PT X a tA) : PW X (.BoolOp .And [a] pos) tA := by
 intro wh pins s σ H Q I h
 refine isTrue_and (thn (ha pins s σ H Q I h) fun c s1 e => ?_)
 cases c with
 | true => exact isTrue_and_nil e
 | false => exact e
theorem zcJ (ha : PT X a tA) : PW X (.BoolOp .Or [a] pos) tA := by
 intro wh pins s σ H Q I h
 refine isTrue_or (thn (ha pins s σ H Q I h) fun c s1 e => ?_)
 cases c with
 | false => exact isTrue_or_nil e
 | true => exact e
theorem zhx (ha : PT X a tA) (hb : PW X (.BoolOp .And (b :: rest) pos) tB') : PW X (.BoolOp .And (a :: b :: rest) pos) (tAnd tA tB') := by
 intro wh pins s σ H Q I h
 refine isTrue_and (thn (ha pins s σ H _ I h) fun c s1 ⟨H1, I1, q1⟩ => ?_)
 cases c with
 | true => exact hb wh pins s1 σ H1 Q I1 q1
 | false => exact ⟨H1, I1, q1⟩
theorem zda (ha : PT X a tA) (hb : PW X (.BoolOp .Or (b :: rest) pos) tB') : PW X (.BoolOp .Or (a :: b :: rest) pos) (tOr tA tB') := by
 intro wh pins s σ H Q I h
 refine isTrue_or (thn (ha pins s σ H _ I h) fun c s1 ⟨H1, I1, q1⟩ => ?_)
 cases c with
 | true => exact ⟨H1, I1, q1⟩
 | false => exact hb wh pins s1 σ H1 Q I1 q1
theorem zca (ha : PT X a tA) : PT X (.UnaryOp .Not a pos) (tNot tA) := by
 intro pins s σ H Q I h
 exact isTrue_not (ha pins s σ H (fun c H1 => Q (!c) H1) I h)
def zow (ta tb : TE) : TE := fun σ H Q => ta σ H fun x H1 => ∃ c, x = .bl c ∧ if c = true then tb σ H1 Q else Q (.bl false) H1
def tOrV (ta tb : TE) : TE := fun σ H Q => ta σ H fun x H1 => ∃ c, x = .bl c ∧ if c = true then Q (.bl true) H1 else tb σ H1 Q
def zop (ta : TE) : TE := fun σ H Q => ta σ H fun x H1 => ∃ c, x = .bl c ∧ Q (.bl (!c)) H1
theorem zdZ {op} {t : TE} (h : PE X a t) : PE X (.BoolOp op [a] pos) t := fun pins s σ H Q I hw => BoolOp_one (h pins s σ H Q I hw)
theorem zgk (ha : PE X a ta) (hb : PE X (.BoolOp .And (b :: rest) pos) tb) : PE X (.BoolOp .And (a :: b :: rest) pos) (zow ta tb) := by
 intro pins s σ H Q I h
 refine BoolOp_and (thn (ha pins s σ H _ I h) fun v s1 ⟨x, H1, I1, r1, q1⟩ => ?_)
 obtain ⟨c, rfl, q1⟩ := q1
 cases r1
 refine wpAny_truthy_bool ?_
 cases c with
 | true => exact hb pins s1 σ H1 Q I1 q1
 | false => exact ⟨.bl false, H1, I1, rfl, q1⟩
theorem zlg (ha : PE X a ta) (hb : PE X (.BoolOp .Or (b :: rest) pos) tb) : PE X (.BoolOp .Or (a :: b :: rest) pos) (tOrV ta tb) := by
 intro pins s σ H Q I h
 refine BoolOp_or (thn (ha pins s σ H _ I h) fun v s1 ⟨x, H1, I1, r1, q1⟩ => ?_)
 obtain ⟨c, rfl, q1⟩ := q1
 cases r1
 refine wpAny_truthy_bool ?_
 cases c with
 | false => exact hb pins s1 σ H1 Q I1 q1
 | true => exact ⟨.bl true, H1, I1, rfl, q1⟩
theorem zhC (ha : PE X a ta) : PE X (.UnaryOp .Not a pos) (zop ta) := by
 intro pins s σ H Q I h
 refine UnaryOp_ (thn (ha pins s σ H _ I h) fun v s1 ⟨x, H1, I1, r1, q1⟩ => ?_)
 obtain ⟨c, rfl, q1⟩ := q1
 cases r1
 exact not_of (wpAny_truthy_bool ⟨.bl (!c), H1, I1, rfl, q1⟩)
end
end L2
namespace L2
open PySem PySem.Spec PyProof.Rows
def SqL (K : PySem.W.Frag) (H : Hp) (a : Addr) (xs : List V) : Prop :=
 Rd H a (.lst xs) ∨
  ∃ (o : Obj) (its : Array Value) (n : Nat), K.lookup a = some o ∧ o.cls = .type "list" ∧ o.dict = none ∧ o.data = .seq its n ∧ its.size ≤ sizeLine ∧ Vals xs its.toList
def SqT (K : PySem.W.Frag) (H : Hp) (a : Addr) (xs : List V) : Prop :=
 Rd H a (.tup xs) ∨
  ∃ (o : Obj) (its : Array Value) (n : Nat), K.lookup a = some o ∧ o.cls = .type "tuple" ∧ o.data = .seq its n ∧ its.size ≤ sizeLine ∧ Vals xs its.toList
def absV : Value → Option V
 | .none => some .non
 | .bool b => some (.bl b)
 | .int i _ => some (.int i)
 | .str x _ => some (.str x)
 | .bytes b _ => some (.byt b)
 | .float b _ => some (.flt b)
 | .ref a => some (.ref a)
 | .type n => some (.ty n)
 | _ => none
theorem RelV.abs {x : V} {u : Value} (r : RelV x u) : absV u = some x := by
 cases x with
 | non => cases r; rfl
 | bl _ => cases r; rfl
 | int _ => obtain ⟨t, rfl⟩ := r; rfl
 | str _ => obtain ⟨t, rfl⟩ := r; rfl
 | byt _ => obtain ⟨t, rfl⟩ := r; rfl
 | flt _ => obtain ⟨t, rfl⟩ := r; rfl
 | ref _ => cases r; rfl
 | ty _ => cases r; rfl
theorem RelV.inj {x y : V} {u : Value} (r : RelV x u) (q : RelV y u) : x = y := Option.some.inj (r.abs.symm.trans q.abs)
theorem Vals.inj : ∀ {xs ys : List V} {us : List Value}, Vals xs us → Vals ys us → xs = ys
 | _, _, _, .nil, .nil => rfl
 | _, _, _, .cons r t, .cons r' t' => by rw [r.inj r', Vals.inj t t']
section
variable {X : Cx} {pins : List (Addr × Obj)} {σ : St} {H : Hp} {s : Shared} {a : Addr} {xs ys : List V}
theorem SqL.of {K : PySem.W.Frag} (h : H a = some (.lst xs)) : SqL K H a xs := .inl (.inl h)
theorem SqT.of {K : PySem.W.Frag} (h : H a = some (.tup xs)) : SqT K H a xs := .inl (.inl h)
theorem Inv.list (I : Inv X pins σ H s) (h : SqL X.K H a xs) : ∃ its : List Value, Vals xs its ∧ PlainL s.heap a its.toArray ∧ xs.length ≤ sizeLine := by
 rcases h with h | ⟨o, its, n, hk, hc, hd, hs, hz, r⟩
 ·obtain ⟨z, its, n, r, e⟩ := h.ok I.hok
  exact ⟨its, r, ⟨_, n, e, rfl, rfl, rfl⟩, z⟩
 ·refine ⟨its.toList, r, ⟨o, n, I.kIn a o hk, hc, hd, by simpa using hs⟩, ?_⟩
  have e := r.length
  simp only [Array.length_toList] at e
  omega
theorem Inv.tuple (I : Inv X pins σ H s) (h : SqT X.K H a xs) : ∃ its : List Value, Vals xs its ∧ IsTup s.heap a its.toArray ∧ xs.length ≤ sizeLine := by
 rcases h with h | ⟨o, its, n, hk, hc, hs, hz, r⟩
 ·obtain ⟨z, its, r, p⟩ := h.ok I.hok
  exact ⟨its, r, p, z⟩
 ·refine ⟨its.toList, r, ⟨o, I.kIn a o hk, hc, n, by simpa using hs⟩, ?_⟩
  have e := r.length
  simp only [Array.length_toList] at e
  omega
theorem Inv.list_inj (I : Inv X pins σ H s) (h : SqL X.K H a xs) (h' : SqL X.K H a ys) : xs = ys := by
 obtain ⟨its, r, ⟨o, n, e, _, _, d⟩, _⟩ := I.list h
 obtain ⟨its', r', ⟨o', n', e', _, _, d'⟩, _⟩ := I.list h'
 rw [e] at e'; cases e'
 rw [d] at d'
 injection d' with d1 _
 have : its = its' := by simpa using congrArg Array.toList d1
 subst this
 exact r.inj r'
theorem Inv.tuple_inj (I : Inv X pins σ H s) (h : SqT X.K H a xs) (h' : SqT X.K H a ys) : xs = ys := by
 obtain ⟨its, r, ⟨o, e, _, n, d⟩, _⟩ := I.tuple h
 obtain ⟨its', r', ⟨o', e', _, n', d'⟩, _⟩ := I.tuple h'
 rw [e] at e'; cases e'
 rw [d] at d'
 injection d' with d1 _
 have : its = its' := by simpa using congrArg Array.toList d1
 subst this
 exact r.inj r'
end
abbrev Cx.wish (X : Cx) (E : Value → Shared → Prop) : Cx := { X with xe := E }
abbrev Cx.nox (X : Cx) : Cx := X.wish fun _ _ => False
theorem Cx.Ok.wish {X : Cx} (ok : X.Ok) (E : Value → Shared → Prop) : (X.wish E).Ok :=
 ⟨ok.mod, ok.kind, ok.glob, ok.blt, ok.above, ok.inj, ok.has, ok.cab, ok.hd, ok.frames, ok.stk, ok.exf, ok.bs, ok.bsz, ok.noex, ok.exfs, ok.funs, ok.frf⟩
theorem Cx.Ok.unwish {X : Cx} {E : Value → Shared → Prop} (ok : (X.wish E).Ok) : X.Ok :=
 ⟨ok.mod, ok.kind, ok.glob, ok.blt, ok.above, ok.inj, ok.has, ok.cab, ok.hd, ok.frames, ok.stk, ok.exf, ok.bs, ok.bsz, ok.noex, ok.exfs, ok.funs, ok.frf⟩
section
variable {X : Cx} {pins : List (Addr × Obj)} {σ : St} {H : Hp} {s : Shared} {E : Value → Shared → Prop}
theorem Inv.wish (I : Inv X pins σ H s) (E : Value → Shared → Prop) : Inv (X.wish E) pins σ H s := ⟨I.ok.wish E, I.os, I.bare, I.base, I.loc, I.cell, I.free, I.freeC, I.pin, I.hok, I.len⟩
theorem Inv.unwish (I : Inv (X.wish E) pins σ H s) : Inv X pins σ H s := ⟨I.ok.unwish, I.os, I.bare, I.base, I.loc, I.cell, I.free, I.freeC, I.pin, I.hok, I.len⟩
theorem SP.unwish {D : Ends} {f : Flow} {s' : Shared} (h : SP (X.wish E) pins D f s') : SP X pins D f s' := by
 cases f with
 | next => obtain ⟨σ', H', I, q⟩ := h; exact ⟨σ', H', I.unwish, q⟩
 | brk => obtain ⟨σ', H', I, q⟩ := h; exact ⟨σ', H', I.unwish, q⟩
 | cont => obtain ⟨σ', H', I, q⟩ := h; exact ⟨σ', H', I.unwish, q⟩
 | ret u => obtain ⟨v, σ', H', I, r, q⟩ := h; exact ⟨v, σ', H', I.unwish, r, q⟩
theorem PE.nox {e : Expr} {t : TE} (h : PE X.nox e t) : PE X e t := fun pins s σ H Q I hw =>
 wpAny_mono (h pins s σ H Q (I.wish _) hw) (fun _ _ ⟨v, H', I', r, q⟩ => ⟨v, H', I'.unwish, r, q⟩) fun _ _ z => False.elim z
theorem PT.nox {e : Expr} {t : TT} (h : PT X.nox e t) : PT X e t := fun pins s σ H Q I hw =>
 wpAny_mono (h pins s σ H Q (I.wish _) hw) (fun _ _ ⟨H', I', q⟩ => ⟨H', I'.unwish, q⟩) fun _ _ z => False.elim z
theorem PSs.nox {st : List Stmt} {t : TS} (h : PSs X.nox st t) : PSs X st t := fun pins s σ H D I hw =>
 wpAny_mono (h pins s σ H D (I.wish _) hw) (fun _ _ q => q.unwish) fun _ _ z => False.elim z
end
section
variable {X : Cx} {st : Stmt} {rest : List Stmt} {t u : TS} {e : Expr} {te : TE} {pos : Pos}
def zor : TS := fun D σ H => D.nx σ H
def tSeq (t u : TS) : TS := fun D σ H => t { D with nx := u D } σ H
theorem zaC : PSs X [] zor := fun _ _ σ H _ I h => wpAny_execs_nil ⟨σ, H, I, h⟩
theorem zad (h1 : PS X st t) (h2 : PSs X rest u) : PSs X (st :: rest) (tSeq t u) := by
 intro pins s σ H D I h
 refine wpAny_execs_cons (thn (h1 pins s σ H { D with nx := u D } I h) fun f s1 q => ?_)
 cases f with
 | next =>
  obtain ⟨σ', H', I', q⟩ := q
  exact h2 pins s1 σ' H' D I' q
 | ret v => exact q
 | brk => exact q
 | cont => exact q
theorem zae (h1 : PS X st t) : PSs X [st] t := by
 intro pins s σ H D I h
 refine wpAny_execs_cons (thn (h1 pins s σ H D I h) fun f s1 q => ?_)
 cases f with
 | next => exact wpAny_execs_nil q
 | ret v => exact q
 | brk => exact q
 | cont => exact q
theorem Inv.quiet {pins : List (Addr × Obj)} {σ : St} {H : Hp} {s : Shared} (I : Inv X pins σ H s) : interactive X.env = false := by simp [interactive, I.ok.kind]
def zot (te : TE) : TS := fun D σ H => te σ H fun _ H1 => D.nx σ H1
theorem zbc (he : PE X e te) (hs : swapsWith e none pos.line X.env = pure false := by rfl) : PS X (.Expr e pos) (zot te) := by
 intro pins s σ H D I h
 exact wpAny_Expr_any (thn (he pins s σ H _ I h) fun v s1 ⟨x, H1, I1, r1, q1⟩ => ⟨σ, H1, I1, q1⟩) I.quiet hs
def tRet (te : TE) : TS := fun D σ H => te σ H D.rt
theorem zaq (he : PE X e te) : PS X (.Return (some e) pos) (tRet te) := by
 intro pins s σ H D I h
 exact wpAny_Return_some (thn (he pins s σ H _ I h) fun v s1 ⟨x, H1, I1, r1, q1⟩ => ⟨x, σ, H1, I1, r1, q1⟩)
def tIfS (c : TT) (t u : TS) : TS := fun D σ H => c σ H fun b H1 => if b = true then t D σ H1 else u D σ H1
theorem za4 {c : Expr} {a b : List Stmt} {tc : TT} (hc : PT X c tc) (ha : PSs X a t) (hb : PSs X b u) : PS X (.If c a b pos) (tIfS tc t u) := by
 intro pins s σ H D I h
 refine wpAny_If (thn (hc pins s σ H _ I h) fun d s1 ⟨H1, I1, q1⟩ => ?_)
 cases d with
 | true => exact ha pins s1 σ H1 D I1 q1
 | false => exact hb pins s1 σ H1 D I1 q1
end
abbrev TG := V → St → Hp → (St → Hp → Prop) → Prop
abbrev TGs := List V → St → Hp → (St → Hp → Prop) → Prop
def PG (X : Cx) (target : Expr) (t : TG) : Prop :=
 ∀ (pins : List (Addr × Obj)) (s : Shared) (σ : St) (H : Hp) (v : V) (u : Value) (Q : St → Hp → Prop), Inv X pins σ H s → RelV v u → t v σ H Q →
  wpAny (model X.prog X.w) X.A (assign target X.env u) (fun _ s' => ∃ σ' H', Inv X pins σ' H' s' ∧ Q σ' H') X.xe s
def PGs (X : Cx) (ts : List Expr) (t : TGs) : Prop :=
 ∀ (pins : List (Addr × Obj)) (s : Shared) (σ : St) (H : Hp) (vs : List V) (us : List Value) (Q : St → Hp → Prop), Inv X pins σ H s → Vals vs us → t vs σ H Q →
  wpAny (model X.prog X.w) X.A (assignInOrder ((assignEach ts X.env).map (·.2)) us) (fun _ s' => ∃ σ' H', Inv X pins σ' H' s' ∧ Q σ' H') X.xe s
section
variable {X : Cx} {pos : Pos}
def zn3 (i : Nat) : TG := fun v σ H Q => Q (σ.set i (some v)) H
theorem zan {i : Nat} {x : Str} (hN : X.N.Nodup) (hi : X.N[i]? = some x) (hx : Loc X.env.scope x) (hf : X.fn x = true ∨ X.env.scope.names.lookup x = some .local := by first | exact .inl rfl | exact .inr rfl | assumption) : PG X (.Name x pos) (zn3 i) := by
 intro pins s σ H v u Q I r h
 exact wpAny_assign_Name (zho I hN hi hx r (fun s' I' => ⟨_, H, I', h⟩) hf)
def gNil : TGs := fun vs σ H Q => vs = [] ∧ Q σ H
def zpD (t : TG) (u : TGs) : TGs := fun vs σ H Q => ∃ v r, vs = v :: r ∧ t v σ H fun σ' H' => u r σ' H' Q
theorem zcw : PGs X [] gNil := by
 intro pins s σ H vs us Q I r h
 obtain ⟨e, h⟩ := h
 subst e
 cases r
 exact assignInOrder_nil ⟨σ, H, I, h⟩
theorem zaU {e : Expr} {es : List Expr} {t : TG} {u : TGs} (h1 : PG X e t) (h2 : PGs X es u)
  (hs : (assignEach (e :: es) X.env).map (·.2) = assign e X.env :: (assignEach es X.env).map (·.2) := by rfl) : PGs X (e :: es) (zpD t u) := by
 intro pins s σ H vs us Q I r h
 obtain ⟨v, vr, e1, h⟩ := h
 subst e1
 cases r with
 | cons r rr =>
  rw [hs]
  refine assignInOrder_cons (thn (h1 pins s σ H _ _ _ I r h) fun _ s1 ⟨σ1, H1, I1, q1⟩ => ?_)
  exact h2 pins s1 σ1 H1 _ _ Q I1 rr q1
def gTup (K : PySem.W.Frag) (n : Nat) (t : TGs) : TG := fun v σ H Q => ∃ a xs, v = .ref a ∧ SqT K H a xs ∧ xs.length = n ∧ t xs σ H Q
theorem zo5 {es : List Expr} {k : Nat} {t : TGs} {n : Nat} (hc : X.calm = true) (h : PGs X es t)
  (hn : (assignEach es X.env).length = n := by rfl) (hst : (assignEach es X.env).findIdx? (·.1) = none := by rfl) : PG X (.Tuple es k pos) (gTup X.K n t) := by
 intro pins s σ H v u Q I r hw
 obtain ⟨a, xs, e1, hq, hl, hw⟩ := hw
 subst e1
 cases r
 obtain ⟨its, rv, ht, hz⟩ := I.tuple hq
 refine assign_Tuple_tuple (I.ok.hd hc) ht (by simp [hn, ← hl, rv.length]) hst fun h' hx => ?_
 have I1 : Inv X pins σ H { s with heap := h' } := I.kept (t' := s.toks) fun b o e => hx b o (Nat.ne_of_lt (Heap.lt_size e)) e
 exact h pins _ σ H xs _ Q I1 (by simpa using rv) hw
def tAsg (te : TE) (g : TG) : TS := fun D σ H => te σ H fun x H1 => g x σ H1 D.nx
theorem zay {i : Nat} {x : Str} {e : Expr} {te : TE} {pos' : Pos} (hN : X.N.Nodup) (hi : X.N[i]? = some x) (hx : Loc X.env.scope x) (he : PE X e te) (hs : swapsWith e (some (.Name x pos')) pos.line X.env = pure false := by rfl) (hf : X.fn x = true ∨ X.env.scope.names.lookup x = some .local := by first | exact .inl rfl | exact .inr rfl | assumption) :
  PS X (.Assign [.Name x pos'] e pos) (tAsg te (zn3 i)) := by
 intro pins s σ H D I h
 refine wpAny_Assign_Name (thn (he pins s σ H _ I h) fun v s1 ⟨y, H1, I1, r1, q1⟩ => ?_) hs
 exact zho I1 hN hi hx r1 (fun s2 I2 => ⟨_, H1, I2, q1⟩) hf
end
section
variable {X : Cx} {pos : Pos}
def zom (c : TT) (tb : TS) : TS := fun D σ H => ∃ W : Nat → St → Hp → Prop, (∃ m, W m σ H) ∧ ∀ m σ H, W m σ H →
 c σ H fun b H1 => if b = true then ∃ N : St → Hp → Prop, (∀ σ' H', N σ' H' → ∃ m', m' < m ∧ W m' σ' H') ∧ tb { D with nx := N, ct := N, bk := D.nx } σ H1 else D.nx σ H1
theorem zcK {c : Expr} {body : List Stmt} {tc : TT} {tb : TS} (hp : PassesOwn (model X.prog X.w) X.A X.env X.xe) (hc : PT X c tc) (hb : PSs X body tb) : PS X (.While c body [] pos) (zom tc tb) := by
 intro pins s σ H D I h
 obtain ⟨W, ⟨m0, w0⟩, turn⟩ := h
 refine wpAny_While (codeAny_whileLoop (fun n s' => ∃ σ' H', Inv X pins σ' H' s' ∧ W n σ' H') ?_ m0 ⟨σ, H, I, w0⟩)
 rintro n s1 ⟨σ1, H1, I1, w1⟩
 refine wpAny_passesOwn hp (thn (hc pins s1 σ1 H1 _ I1 (turn n σ1 H1 w1)) fun b s2 ⟨H2, I2, q2⟩ => ?_)
 cases b with
 | true =>
  obtain ⟨N, hN, q2⟩ := q2
  rw [if_pos rfl]
  refine wpAny_passesOwn hp (thn (hb pins s2 σ1 H2 _ I2 q2) fun f s3 q3 => ?_)
  cases f with
  | next =>
   obtain ⟨σ3, H3, I3, n3⟩ := q3
   obtain ⟨m', hm, w3⟩ := hN σ3 H3 n3
   exact ⟨m', hm, σ3, H3, I3, w3⟩
  | cont =>
   obtain ⟨σ3, H3, I3, n3⟩ := q3
   obtain ⟨m', hm, w3⟩ := hN σ3 H3 n3
   exact ⟨m', hm, σ3, H3, I3, w3⟩
  | brk => exact q3
  | ret v => exact q3
 | false =>
  rw [if_neg Bool.false_ne_true]
  exact wpAny_execs_nil ⟨σ1, H2, I2, q2⟩
end
structure It where
 go : Nat → Hp → Prop
 yld : Nat → Hp → V → Hp → Prop
 stop : Nat → Hp → Prop
def FpOk (X : Cx) (pins : List (Addr × Obj)) (H : Hp) (b : Addr) : Prop :=
 H b = none ∧ b ≠ X.env.locals ∧ b ∉ X.fs ∧ (b ∈ X.ex ∨ X.s₀.heap.objs.size ≤ b) ∧ (∀ x c, X.env.cells.lookup x = some c → c ≠ b) ∧ ∀ p ∈ X.pn ++ pins, p.1 ≠ b
theorem Inv.fpOk {X : Cx} {pins : List (Addr × Obj)} {σ : St} {H H' : Hp} {s : Shared} {b : Addr} (I : Inv X pins σ H s) (hb : s.heap.objs.size ≤ b) (hn : H' b = none) : FpOk X pins H' b := by
 refine ⟨hn, Nat.ne_of_gt (Nat.lt_of_lt_of_le I.lt hb), I.nofs hb, .inr (Nat.le_trans I.sz hb), fun x c e z => ?_, fun p hp z => ?_⟩
 ·obtain ⟨v, q⟩ := I.cell x c e
  exact absurd (Nat.lt_of_lt_of_le q.lt (by rw [z]; exact hb)) (Nat.lt_irrefl _)
 ·exact absurd (Nat.lt_of_lt_of_le (Heap.lt_size (I.pin p hp).1) (by rw [z]; exact hb)) (Nat.lt_irrefl _)
structure Turn (P : Program) (w : World) (K : PySem.W.Frag) (tg : Expr) (J : It) (fp : List Addr) (it : Addr) (tn : Nat → Heap → Prop) : Prop where
 mem : it ∈ fp
 obj : ∀ i h, tn i h → ∀ b ∈ fp, ∃ o, h.get? b = some o ∧ ∀ v, o.data ≠ .cell v
 keep : ∀ i h h', tn i h → (∀ b ∈ fp, ∀ o, h.get? b = some o → h'.get? b = some o) → tn i h'
 item : ∀ (X : Cx), X.prog = P → X.w = w → X.K = K → X.calm = true → ∀ (i : Nat) (pins : List (Addr × Obj)) (s : Shared) (σ : St) (H : Hp) (E : Value → Shared → Prop), Inv X pins σ H s → (∀ b ∈ fp, FpOk X pins H b) → tn i s.heap → J.go i H →
  wpAny (model P w) X.A (pyNext (.ref it)) (fun r s1 => ∃ u, r = some u ∧
   wpAny (model P w) X.A (letOwnedTupleGo tg (.ref it) u) (fun _ s2 => ∃ x H', Inv X pins σ H' s2 ∧ RelV x u ∧ J.yld i H x H' ∧ tn (i + 1) s2.heap ∧ ∀ b ∈ fp, H' b = none) E s1) E s
 done : ∀ (X : Cx), X.prog = P → X.w = w → X.K = K → X.calm = true → ∀ (i : Nat) (pins : List (Addr × Obj)) (s : Shared) (σ : St) (H : Hp) (E : Value → Shared → Prop), Inv X pins σ H s → (∀ b ∈ fp, FpOk X pins H b) → tn i s.heap → J.stop i H →
  wpAny (model P w) X.A (pyNext (.ref it)) (fun r s1 => r = none ∧ Inv X pins σ H s1) E s
 self : ∀ (A : Around) (i : Nat) (s : Shared) (Q : Value → Shared → Prop) (E : Value → Shared → Prop), tn i s.heap → Q (.ref it) s → wpAny (model P w) A (pyIter (.ref it)) Q E s
abbrev TI := St → Hp → (It → Hp → Prop) → Prop
def PIE (X : Cx) (pins : List (Addr × Obj)) (σ : St) (tg : Expr) (R : It → Hp → Prop) (itv : Value) (s2 : Shared) : Prop :=
 ∃ (it : Addr) (fp : List Addr) (tn : Nat → Heap → Prop) (J : It) (H' : Hp), itv = .ref it ∧ Inv X pins σ H' s2 ∧ Turn X.prog X.w X.K tg J fp it tn ∧ tn 0 s2.heap ∧ (∀ b ∈ fp, FpOk X pins H' b) ∧ R J H'
def PI (X : Cx) (tg iter : Expr) (wi : TI) : Prop :=
 ∀ (pins : List (Addr × Obj)) (s : Shared) (σ : St) (H : Hp) (R : It → Hp → Prop), Inv X pins σ H s → wi σ H R →
  wpAny (model X.prog X.w) X.A (eval iter X.env) (fun v s1 => wpAny (model X.prog X.w) X.A (pyIter v) (PIE X pins σ tg R) X.xe s1) X.xe s
theorem zlQ {M : Model} {A : Around} {E : Value → Shared → Prop} {s : Shared} {tg : Expr} {it : Addr} {u : Value} {o : Obj} {n : String} {vs : Array Value} {Q : Unit → Shared → Prop} (ho : s.heap.get? it = some o) (hc : o.cls = .type n) (hd : o.data = .fields vs)
    (hn : ["enumerate", "zip", "dict_itemiterator", "dict_reverseitemiterator", "odict_iterator", "itertools.zip_longest", "itertools.pairwise"].contains n = false) (hQ : Q () s) : wpAny M A (letOwnedTupleGo tg (.ref it) u) Q E s := by
  unfold letOwnedTupleGo
  cases tg <;> first
    | exact wpAny_pure hQ
    | (cases u <;> first
        | exact wpAny_pure hQ
        | (refine wpAny_bind (wpAny_load ho ?_)
           rw [hc, hd]
           show wpAny M A (if (["enumerate", "zip", "dict_itemiterator", "dict_reverseitemiterator", "odict_iterator", "itertools.zip_longest", "itertools.pairwise"].contains n && vs[0]? == some (rawInt _)) = true then _ else _) Q E s
           rw [if_neg (by intro h; rw [hn, Bool.false_and] at h; cases h)]
           exact wpAny_pure hQ))
def Itl (K : PySem.W.Frag) (a : Addr) : It :=
 ⟨fun i H => ∃ xs x, SqL K H a xs ∧ xs[i]? = some x, fun i H x H' => H' = H ∧ ∀ xs, SqL K H a xs → xs[i]? = some x, fun i H => ∃ xs, SqL K H a xs ∧ xs.length ≤ i⟩
def Itt (K : PySem.W.Frag) (a : Addr) : It :=
 ⟨fun i H => ∃ xs x, SqT K H a xs ∧ xs[i]? = some x, fun i H x H' => H' = H ∧ ∀ xs, SqT K H a xs → xs[i]? = some x, fun i H => ∃ xs, SqT K H a xs ∧ xs.length ≤ i⟩
def Itr (lo : Int) (n : Nat) : It := ⟨fun i _ => i < n, fun i H x H' => H' = H ∧ x = .int (lo + i), fun i _ => n ≤ i⟩
theorem ziL {P : Program} {w : World} {K : PySem.W.Frag} {tg : Expr} (a it : Addr) : Turn P w K tg (Itl K a) [it] it (fun i h => h.IsListIter it a i) where
 mem := by simp
 obj := fun i h st b hb => by
  have e : b = it := by simpa using hb
  subst e
  obtain ⟨o, e, c, d⟩ := st
  exact ⟨o, e, fun v z => by rw [d] at z; cases z⟩
 keep := fun i h h' st k => st.at fun o e => k it (by simp) o e
 item := by
  intro X hP hw hK hc i pins s σ H E I hf st hg
  subst hP hw hK
  obtain ⟨xs, x, hq, hx⟩ := hg
  obtain ⟨its, rv, p, hz⟩ := I.list hq
  obtain ⟨u, hu, ru⟩ := rv.get hx
  obtain ⟨f0, f1, f2, f3, f4, f5⟩ := hf it (by simp)
  refine wpAny_pyNext_list_item st p.isList (x := u) (by simpa using hu) fun h' st' sb => ?_
  have I1 : Inv X pins σ H { s with heap := h' } := I.turned (t' := s.toks) (fun b o hb e => (sb.2 b hb).trans e) f0 f1 f3 f4 f5
  obtain ⟨o, e, c, d⟩ := id st'
  exact ⟨u, rfl, zlQ (s := { s with heap := h' }) e c d (by decide) ⟨x, H, I1, ru, ⟨rfl, fun ys hy => by rw [I.list_inj hy hq]; exact hx⟩, st', fun b hb => (hf b hb).1⟩⟩
 done := by
  intro X hP hw hK hc i pins s σ H E I hf st hg
  subst hP hw hK
  obtain ⟨xs, hq, hx⟩ := hg
  obtain ⟨its, rv, p, hz⟩ := I.list hq
  obtain ⟨f0, f1, f2, f3, f4, f5⟩ := hf it (by simp)
  have hl := rv.length
  exact wpAny_pyNext_list_end (I.ok.hd hc) st p.isList (by simp; omega) fun h' eb => ⟨rfl, I.turned (t' := s.toks) (fun b o hb e => eb b o hb e) f0 f1 f3 f4 f5⟩
 self := fun _ _ _ _ _ st h => wpAny_pyIter_listiter st h
theorem zh0 {P : Program} {w : World} {K : PySem.W.Frag} {tg : Expr} (a it : Addr) : Turn P w K tg (Itt K a) [it] it (fun i h => h.IsTupleIter it a i) where
 mem := by simp
 obj := fun i h st b hb => by
  have e : b = it := by simpa using hb
  subst e
  obtain ⟨o, e, c, d⟩ := st
  exact ⟨o, e, fun v z => by rw [d] at z; cases z⟩
 keep := fun i h h' st k => st.at fun o e => k it (by simp) o e
 item := by
  intro X hP hw hK hc i pins s σ H E I hf st hg
  subst hP hw hK
  obtain ⟨xs, x, hq, hx⟩ := hg
  obtain ⟨its, rv, p, hz⟩ := I.tuple hq
  obtain ⟨u, hu, ru⟩ := rv.get hx
  obtain ⟨f0, f1, f2, f3, f4, f5⟩ := hf it (by simp)
  refine wpAny_pyNext_tuple_item st (show s.heap.IsTuple a its.toArray from p) (x := u) (by simpa using hu) fun h' st' sb => ?_
  have I1 : Inv X pins σ H { s with heap := h' } := I.turned (t' := s.toks) (fun b o hb e => (sb.2 b hb).trans e) f0 f1 f3 f4 f5
  obtain ⟨o, e, c, d⟩ := id st'
  exact ⟨u, rfl, zlQ (s := { s with heap := h' }) e c d (by decide) ⟨x, H, I1, ru, ⟨rfl, fun ys hy => by rw [I.tuple_inj hy hq]; exact hx⟩, st', fun b hb => (hf b hb).1⟩⟩
 done := by
  intro X hP hw hK hc i pins s σ H E I hf st hg
  subst hP hw hK
  obtain ⟨xs, hq, hx⟩ := hg
  obtain ⟨its, rv, p, hz⟩ := I.tuple hq
  obtain ⟨f0, f1, f2, f3, f4, f5⟩ := hf it (by simp)
  have hl := rv.length
  exact wpAny_pyNext_tuple_end (I.ok.hd hc) st (show s.heap.IsTuple a its.toArray from p) (by simp; omega) fun h' eb => ⟨rfl, I.turned (t' := s.toks) (fun b o hb e => eb b o hb e) f0 f1 f3 f4 f5⟩
 self := fun _ _ _ _ _ st h => wpAny_pyIter_tupleiter st h
theorem zh1 {P : Program} {w : World} {K : PySem.W.Frag} {tg : Expr} (it : Addr) (lo : Int) (n : Nat) : Turn P w K tg (Itr lo n) [it] it (fun i h => IsRangeIter h it (lo + (i : Nat) * 1) ((n : Int) - (i : Nat)) 1) where
 mem := by simp
 obj := fun i h st b hb => by
  have e : b = it := by simpa using hb
  subst e
  exact ⟨_, st, fun v z => by
   have z' : Data.fields _ = Data.cell v := z
   cases z'⟩
 keep := fun i h h' st k => k it (by simp) _ st
 item := by
  intro X hP hw hK hc i pins s σ H E I hf st hg
  subst hP hw hK
  obtain ⟨f0, f1, f2, f3, f4, f5⟩ := hf it (by simp)
  have W := Walks.range (prog := X.prog) (w := X.w) (I.ok.hd hc) it lo 1 n
  refine W.item i s _ _ hg st fun v h' tk hv st' kk => ?_
  obtain ⟨t, rfl⟩ := hv
  have I1 : Inv X pins σ H { s with heap := h', toks := tk } := I.turned (fun b o hb e => kk b o (by simpa using hb) e) f0 f1 f3 f4 f5
  refine ⟨_, rfl, zlQ (s := { s with heap := h', toks := tk }) (n := "range_iterator") st' rfl rfl (by decide) ⟨.int (lo + i), H, I1, ⟨t, ?_⟩, ⟨rfl, rfl⟩, st', fun b hb => (hf b hb).1⟩⟩
  rw [Int.mul_one]
 done := by
  intro X hP hw hK hc i pins s σ H E I hf st hg
  subst hP hw hK
  obtain ⟨f0, f1, f2, f3, f4, f5⟩ := hf it (by simp)
  exact wpAny_pyNext_range_end (I.ok.hd hc) st (by have : n ≤ i := hg; omega) fun h' eb => ⟨rfl, I.turned (t' := s.toks) (fun b o hb e => eb b o hb e) f0 f1 f3 f4 f5⟩
 self := fun _ _ _ _ _ st h => wpAny_pyIter_rangeiter st h
end L2
namespace L2
open PySem PySem.Spec PyProof.Rows
section
variable {X : Cx} {tg : Expr}
def zlM (K : PySem.W.Frag) (tl : TE) : TI := fun σ H R => tl σ H fun x H1 => ∃ a, x = .ref a ∧ (∃ xs, SqL K H1 a xs) ∧ R (Itl K a) H1
def iTup (K : PySem.W.Frag) (tl : TE) : TI := fun σ H R => tl σ H fun x H1 => ∃ a, x = .ref a ∧ (∃ xs, SqT K H1 a xs) ∧ R (Itt K a) H1
theorem znm {l : Expr} {tl : TE} (hl : PE X l tl) : PI X tg l (zlM X.K tl) := by
 intro pins s σ H R I h
 refine thn (hl pins s σ H _ I h) fun v s1 ⟨x, H1, I1, r1, q1⟩ => ?_
 obtain ⟨a, e, ⟨xs, hq⟩, q⟩ := q1
 subst e
 cases r1
 obtain ⟨its, rv, p, hz⟩ := I1.list hq
 refine wpAny_pyIter_list p.isList ?_
 refine ⟨s1.heap.objs.size, [s1.heap.objs.size], _, _, H1, rfl, I1.kept (t' := s1.toks) fun b o e => Heap.get?_push_of_some _ e, ziL a _, ⟨_, Heap.get?_push_size _ rfl, rfl, rfl⟩, fun b hb => ?_, q⟩
 have e : b = s1.heap.objs.size := by simpa using hb
 subst e
 exact I1.fpOk (Nat.le_refl _) (I1.hok.fresh (Nat.le_refl _))
theorem zo4 {l : Expr} {tl : TE} (hl : PE X l tl) : PI X tg l (iTup X.K tl) := by
 intro pins s σ H R I h
 refine thn (hl pins s σ H _ I h) fun v s1 ⟨x, H1, I1, r1, q1⟩ => ?_
 obtain ⟨a, e, ⟨xs, hq⟩, q⟩ := q1
 subst e
 cases r1
 obtain ⟨its, rv, p, hz⟩ := I1.tuple hq
 refine wpAny_pyIter_tuple (show s1.heap.IsTuple a its.toArray from p) ?_
 refine ⟨s1.heap.objs.size, [s1.heap.objs.size], _, _, H1, rfl, I1.kept (t' := s1.toks) fun b o e => Heap.get?_push_of_some _ e, zh0 a _, ⟨_, Heap.get?_push_size _ rfl, rfl, rfl⟩, fun b hb => ?_, q⟩
 have e : b = s1.heap.objs.size := by simpa using hb
 subst e
 exact I1.fpOk (Nat.le_refl _) (I1.hok.fresh (Nat.le_refl _))
theorem zhv {pins : List (Addr × Obj)} {σ : St} {H : Hp} {s : Shared} {R : It → Hp → Prop} {E : Value → Shared → Prop} {lo hi : Int} {t u v : Tok} {tk : Nat} (I : Inv X pins σ H s) (h1 : -(2 ^ 62) ≤ lo) (h2 : lo < 2 ^ 62) (h3 : -(2 ^ 62) ≤ hi) (h4 : hi < 2 ^ 62)
  (q : R (Itr lo (hi - lo).toNat) H) : wpAny (model X.prog X.w) X.A (pyIter (.ref s.heap.objs.size)) (PIE X pins σ tg R) E { s with heap := s.heap.push { cls := .type "range", data := .fields #[.int lo t, .int hi u, .int 1 v] }, toks := tk } := by
 refine wpAny_pyIter_range (IsRange.new ..) (small_one h1 h2 h3 h4) ?_
 have I1 : Inv X pins σ H { s with heap := s.heap.push { cls := .type "range", data := .fields #[.int lo t, .int hi u, .int 1 v] }, toks := tk } := I.kept fun b o e => Heap.get?_push_of_some _ e
 refine ⟨(s.heap.push { cls := .type "range", data := .fields #[.int lo t, .int hi u, .int 1 v] }).objs.size, [(s.heap.push { cls := .type "range", data := .fields #[.int lo t, .int hi u, .int 1 v] }).objs.size], _, _, H, rfl,
  I1.kept (t' := tk) fun b o e => Heap.get?_push_of_some _ e, zh1 _ lo (hi - lo).toNat, ?_, fun b hb => ?_, q⟩
 ·have e1 : lo + ((0 : Nat) : Int) * 1 = lo := by simp
  have e2 : (((hi - lo).toNat : Nat) : Int) - ((0 : Nat) : Int) = Builtin.Range.rangeSize lo hi 1 := by rw [rangeSize_one]; split <;> omega
  show IsRangeIter _ _ (lo + ((0 : Nat) : Int) * 1) ((((hi - lo).toNat : Nat) : Int) - ((0 : Nat) : Int)) 1
  rw [e1, e2]
  exact Heap.get?_push_size _ rfl
 ·have e : b = (s.heap.push { cls := .type "range", data := .fields #[.int lo t, .int hi u, .int 1 v] }).objs.size := by simpa using hb
  subst e
  exact I1.fpOk (Nat.le_refl _) (I1.hok.fresh (Nat.le_refl _))
def znY (ta : TA) : TI := fun σ H R => ta σ H fun vs H1 => ∃ j : Int, vs = [.int j] ∧ -(2 ^ 62) ≤ j ∧ j < 2 ^ 62 ∧ R (Itr 0 j.toNat) H1
def zpC (ta : TA) : TI := fun σ H R => ta σ H fun vs H1 => ∃ i j : Int, vs = [.int i, .int j] ∧ (-(2 ^ 62) ≤ i ∧ i < 2 ^ 62 ∧ -(2 ^ 62) ≤ j ∧ j < 2 ^ 62) ∧ R (Itr i (j - i).toNat) H1
theorem zcg {a : Expr} {ta : TA} {p pos : Pos} (hg : Gl X "range") (hm : X.mg "range" = none) (ha : PA X [a] ta) (hs : starEach [a] X.env = [(false, eval a X.env)] := by rfl) : PI X tg (.Call (.Name "range" p) [a] [] pos) (znY ta) := by
 intro pins s σ H R I h
 refine Call_ (zdk I hg hm boot_range (PyProof.Rows.callWith_type1 (thn (ha pos pins s σ H _ I h) fun us s1 ⟨vs, H1, I1, r1, q1⟩ => ?_) hs rfl))
 obtain ⟨j, e, q1, q2, q⟩ := q1
 subst e
 cases r1 with
 | cons r rr =>
  cases rr
  obtain ⟨t, rfl⟩ := r
  exact call_range_1 (zhv I1 (by omega) (by omega) q1 q2 (by simpa using q))
theorem zjL {a b : Expr} {ta : TA} {p pos : Pos} (hg : Gl X "range") (hm : X.mg "range" = none) (ha : PA X [a, b] ta) (hs : starEach [a, b] X.env = [(false, eval a X.env), (false, eval b X.env)] := by rfl) (hs2 : starEach [b] X.env = [(false, eval b X.env)] := by rfl) :
  PI X tg (.Call (.Name "range" p) [a, b] [] pos) (zpC ta) := by
 intro pins s σ H R I h
 refine Call_ (zdk I hg hm boot_range (PyProof.Rows.callWith_type1 (thn (ha pos pins s σ H _ I h) fun us s1 ⟨vs, H1, I1, r1, q1⟩ => ?_) (by rw [hs, hs2]) (by rw [hs2]; rfl)))
 obtain ⟨i, j, e, ⟨q1, q2, q3, q4⟩, q⟩ := q1
 subst e
 cases r1 with
 | cons r rr =>
  cases rr with
  | cons r' rr =>
   cases rr
   obtain ⟨t, rfl⟩ := r
   obtain ⟨t', rfl⟩ := r'
   exact call_range_2 (zhv I1 q1 q2 q3 q4 q)
def tFor (wi : TI) (g : TG) (tb : TS) : TS := fun D σ H => wi σ H fun J H1 => ∃ W : Nat → Nat → St → Hp → Prop, (∃ m, W 0 m σ H1) ∧ ∀ i m σ H, W i m σ H →
 (J.stop i H ∧ D.nx σ H) ∨ (J.go i H ∧ ∃ N : St → Hp → Prop, (∀ σ' H', N σ' H' → ∃ m', m' < m ∧ W (i + 1) m' σ' H') ∧ ∀ x H', J.yld i H x H' → g x σ H' fun σ2 H2 => tb { D with nx := N, ct := N, bk := D.nx } σ2 H2)
def zgj (fp : List Addr) (h : Heap) : List (Addr × Obj) := fp.filterMap fun b => (h.get? b).map fun o => (b, o)
theorem zcU {fp : List Addr} {h : Heap} {b : Addr} {o : Obj} (hb : b ∈ fp) (e : h.get? b = some o) : (b, o) ∈ zgj fp h := List.mem_filterMap.mpr ⟨b, hb, by rw [e]; rfl⟩
theorem zjW {fp : List Addr} {h : Heap} {p : Addr × Obj} (hp : p ∈ zgj fp h) : p.1 ∈ fp ∧ h.get? p.1 = some p.2 := by
 obtain ⟨b, hb, e⟩ := List.mem_filterMap.mp hp
 cases q : h.get? b with
 | none => rw [q] at e; cases e
 | some o =>
  rw [q] at e
  have e' : (b, o) = p := Option.some.inj e
  subst e'
  exact ⟨hb, q⟩
theorem Inv.pinned {pins : List (Addr × Obj)} {σ : St} {H : Hp} {s : Shared} {fp : List Addr} (I : Inv X pins σ H s) (hf : ∀ b ∈ fp, FpOk X pins H b) (ho : ∀ b ∈ fp, ∃ o, s.heap.get? b = some o ∧ ∀ v, o.data ≠ .cell v) : Inv X (pins ++ zgj fp s.heap) σ H s :=
 I.pins_of fun p hp => (List.mem_append.mp hp).elim (fun z => I.pin p (List.mem_append_right _ z)) fun z => by
  obtain ⟨hb, e⟩ := zjW z
  obtain ⟨f0, f1, f2, _⟩ := hf p.1 hb
  obtain ⟨o, e', d⟩ := ho p.1 hb
  rw [e] at e'; cases e'
  exact ⟨e, f0, f1, f2, d⟩
theorem Inv.unpinned {pins pl : List (Addr × Obj)} {σ : St} {H : Hp} {s : Shared} (I : Inv X (pins ++ pl) σ H s) : Inv X pins σ H s := I.pins_of fun p hp => I.pin p (List.mem_append_right _ (List.mem_append_left _ hp))
theorem zbS {iter : Expr} {body : List Stmt} {wi : TI} {g : TG} {tb : TS} {pos : Pos} (hp : PassesOwn (model X.prog X.w) X.A X.env X.xe) (hc : X.calm = true) (hi : PI X tg iter wi) (hg : PG X tg g) (hb : PSs X body tb)
  (hs : ∀ x, foldedSetIterable iter X.env x = pure x := by intro _; rfl) : PS X (.For tg iter body [] pos) (tFor wi g tb) := by
 intro pins s σ H D I h
 refine wpAny_For (thn (hi pins s σ H _ I h) fun v s1 h1 => thn h1 fun itv s2 h2 => ?_) hs
 obtain ⟨it, fp, tn, J, H2, e, I2, T, st2, f2, W, ⟨m0, w0⟩, turn⟩ := h2
 subst e
 -- what stays true of the iterator's objects through the loop
 have stat : ∀ {H' : Hp}, (∀ b ∈ fp, H' b = none) → ∀ b ∈ fp, FpOk X pins H' b := fun hn b hb => ⟨hn b hb, (f2 b hb).2⟩
 refine codeAny_forLoop_any (fun n s' => ∃ i σ' H', Inv X pins σ' H' s' ∧ tn i s'.heap ∧ (∀ b ∈ fp, H' b = none) ∧ W i n σ' H') ?_ m0 ⟨0, σ, H2, I2, st2, fun b hb => (f2 b hb).1, w0⟩
 rintro n s3 ⟨i, σ3, H3, I3, st3, fr3, w3⟩
 rcases turn i n σ3 H3 w3 with ⟨stop, qn⟩ | ⟨go, N, hN, step⟩
 ·refine wpAny_passesOwn hp (thn (T.done X rfl rfl rfl hc i pins s3 σ3 H3 X.xe I3 (stat fr3) st3 stop) fun r s4 ⟨hr, I4⟩ => ?_)
  subst hr
  exact wpAny_execs_nil ⟨σ3, H3, I4, qn⟩
 ·refine wpAny_passesOwn hp (thn (T.item X rfl rfl rfl hc i pins s3 σ3 H3 X.xe I3 (stat fr3) st3 go) fun r s4 ⟨u, hr, h4⟩ => ?_)
  subst hr
  refine wpAny_passesOwn hp (thn h4 fun _ s5 ⟨x, H5, I5, r5, y5, st5, fr5⟩ => ?_)
  have I5' := I5.pinned (stat fr5) (T.obj _ _ st5)
  refine wpAny_passesOwn hp (thn (hg _ s5 σ3 H5 x u _ I5' r5 (step x H5 y5)) fun _ s6 ⟨σ6, H6, I6, q6⟩ => ?_)
  refine wpAny_passesOwn hp (thn (hb _ s6 σ6 H6 _ I6 q6) fun f s7 q7 => ?_)
  have again : ∀ {σ7 : St} {H7 : Hp}, Inv X (pins ++ zgj fp s5.heap) σ7 H7 s7 → N σ7 H7 → ∃ m, m < n ∧ ∃ i σ' H', Inv X pins σ' H' s7 ∧ tn i s7.heap ∧ (∀ b ∈ fp, H' b = none) ∧ W i m σ' H' := fun {σ7 H7} I7 n7 => by
   obtain ⟨m', hm, w7⟩ := hN σ7 H7 n7
   refine ⟨m', hm, i + 1, σ7, H7, I7.unpinned, T.keep _ _ _ st5 fun b hb o e => (I7.pin (b, o) (List.mem_append_right _ (List.mem_append_right _ (zcU hb e)))).1, fun b hb => ?_, w7⟩
   obtain ⟨o, e, d⟩ := T.obj _ _ st5 b hb
   exact (I7.pin (b, o) (List.mem_append_right _ (List.mem_append_right _ (zcU hb e)))).2.1
  cases f with
  | next => obtain ⟨σ7, H7, I7, n7⟩ := q7; exact again I7 n7
  | cont => obtain ⟨σ7, H7, I7, n7⟩ := q7; exact again I7 n7
  | brk => obtain ⟨σ7, H7, I7, q7⟩ := q7; exact ⟨σ7, H7, I7.unpinned, q7⟩
  | ret v => obtain ⟨x7, σ7, H7, I7, r7, q7⟩ := q7; exact ⟨x7, σ7, H7, I7.unpinned, r7, q7⟩
end
theorem zbA {K : PySem.W.Frag} {a : Addr} {xs : List V} {g : TG} {tb : TS} {D : Ends} {σ : St} {H : Hp} (Pv : Nat → St → Hp → Prop) (h0 : Pv 0 σ H) (hl : ∀ i σ H, i ≤ xs.length → Pv i σ H → SqL K H a xs)
  (hs : ∀ i x σ H, xs[i]? = some x → Pv i σ H → g x σ H fun σ2 H2 => tb { D with nx := Pv (i + 1), ct := Pv (i + 1), bk := D.nx } σ2 H2) (hd : ∀ σ H, Pv xs.length σ H → D.nx σ H) :
  ∃ W : Nat → Nat → St → Hp → Prop, (∃ m, W 0 m σ H) ∧ ∀ i m σ H, W i m σ H →
   ((Itl K a).stop i H ∧ D.nx σ H) ∨ ((Itl K a).go i H ∧ ∃ N : St → Hp → Prop, (∀ σ' H', N σ' H' → ∃ m', m' < m ∧ W (i + 1) m' σ' H') ∧ ∀ x H', (Itl K a).yld i H x H' → g x σ H' fun σ2 H2 => tb { D with nx := N, ct := N, bk := D.nx } σ2 H2) := by
 refine ⟨fun i m σ H => m = xs.length - i ∧ i ≤ xs.length ∧ Pv i σ H, ⟨xs.length, by simp, Nat.zero_le _, h0⟩, ?_⟩
 rintro i m σ H ⟨rfl, hi, p⟩
 have q := hl i σ H hi p
 by_cases hlt : i < xs.length
 ·refine .inr ⟨⟨xs, xs[i], q, by simp [hlt]⟩, Pv (i + 1), fun σ' H' p' => ⟨xs.length - (i + 1), by omega, rfl, hlt, p'⟩, fun x H' y => ?_⟩
  obtain ⟨e, y⟩ := y
  subst e
  exact hs i x σ _ (y xs q) p
 ·have e : i = xs.length := by omega
  subst e
  exact .inl ⟨⟨xs, q, Nat.le_refl _⟩, hd σ H p⟩
theorem zn7 {K : PySem.W.Frag} {a : Addr} {xs : List V} {g : TG} {tb : TS} {D : Ends} {σ : St} {H : Hp} (Pv : Nat → St → Hp → Prop) (h0 : Pv 0 σ H) (hl : ∀ i σ H, i ≤ xs.length → Pv i σ H → SqT K H a xs)
  (hs : ∀ i x σ H, xs[i]? = some x → Pv i σ H → g x σ H fun σ2 H2 => tb { D with nx := Pv (i + 1), ct := Pv (i + 1), bk := D.nx } σ2 H2) (hd : ∀ σ H, Pv xs.length σ H → D.nx σ H) :
  ∃ W : Nat → Nat → St → Hp → Prop, (∃ m, W 0 m σ H) ∧ ∀ i m σ H, W i m σ H →
   ((Itt K a).stop i H ∧ D.nx σ H) ∨ ((Itt K a).go i H ∧ ∃ N : St → Hp → Prop, (∀ σ' H', N σ' H' → ∃ m', m' < m ∧ W (i + 1) m' σ' H') ∧ ∀ x H', (Itt K a).yld i H x H' → g x σ H' fun σ2 H2 => tb { D with nx := N, ct := N, bk := D.nx } σ2 H2) := by
 refine ⟨fun i m σ H => m = xs.length - i ∧ i ≤ xs.length ∧ Pv i σ H, ⟨xs.length, by simp, Nat.zero_le _, h0⟩, ?_⟩
 rintro i m σ H ⟨rfl, hi, p⟩
 have q := hl i σ H hi p
 by_cases hlt : i < xs.length
 ·refine .inr ⟨⟨xs, xs[i], q, by simp [hlt]⟩, Pv (i + 1), fun σ' H' p' => ⟨xs.length - (i + 1), by omega, rfl, hlt, p'⟩, fun x H' y => ?_⟩
  obtain ⟨e, y⟩ := y
  subst e
  exact hs i x σ _ (y xs q) p
 ·have e : i = xs.length := by omega
  subst e
  exact .inl ⟨⟨xs, q, Nat.le_refl _⟩, hd σ H p⟩
theorem zgB {lo : Int} {n : Nat} {g : TG} {tb : TS} {D : Ends} {σ : St} {H : Hp} (Pv : Nat → St → Hp → Prop) (h0 : Pv 0 σ H)
  (hs : ∀ i σ H, i < n → Pv i σ H → g (.int (lo + i)) σ H fun σ2 H2 => tb { D with nx := Pv (i + 1), ct := Pv (i + 1), bk := D.nx } σ2 H2) (hd : ∀ σ H, Pv n σ H → D.nx σ H) :
  ∃ W : Nat → Nat → St → Hp → Prop, (∃ m, W 0 m σ H) ∧ ∀ i m σ H, W i m σ H →
   ((Itr lo n).stop i H ∧ D.nx σ H) ∨ ((Itr lo n).go i H ∧ ∃ N : St → Hp → Prop, (∀ σ' H', N σ' H' → ∃ m', m' < m ∧ W (i + 1) m' σ' H') ∧ ∀ x H', (Itr lo n).yld i H x H' → g x σ H' fun σ2 H2 => tb { D with nx := N, ct := N, bk := D.nx } σ2 H2) := by
 refine ⟨fun i m σ H => m = n - i ∧ i ≤ n ∧ Pv i σ H, ⟨n, by simp, Nat.zero_le _, h0⟩, ?_⟩
 rintro i m σ H ⟨rfl, hi, p⟩
 by_cases hlt : i < n
 ·refine .inr ⟨hlt, Pv (i + 1), fun σ' H' p' => ⟨n - (i + 1), by omega, rfl, hlt, p'⟩, fun x H' y => ?_⟩
  obtain ⟨e, y⟩ := y
  subst e y
  exact hs i σ _ hlt p
 ·have e : i = n := by omega
  subst e
  exact .inl ⟨Nat.le_refl _, hd σ H p⟩
end L2
namespace L2
open PySem PySem.Spec PyProof.Rows
abbrev R2 := V → V → Hp → VK → Prop
def OpR (X : Cx) (f : Value → Value → Sem Value) (r : R2) : Prop :=
 ∀ (pins : List (Addr × Obj)) (s : Shared) (σ : St) (H : Hp) (x y : V) (v u : Value) (Q : VK), Inv X pins σ H s → RelV x v → RelV y u → r x y H Q →
  wpAny (model X.prog X.w) X.A (f v u) (EP X pins σ Q) X.xe s
def zci (X : Cx) (f : Value) (r : List V → Hp → VK → Prop) : Prop :=
 ∀ (pins : List (Addr × Obj)) (s : Shared) (σ : St) (H : Hp) (xs : List V) (us : List Value) (Q : VK), Inv X pins σ H s → Vals xs us → r xs H Q →
  wpAny (model X.prog X.w) X.A (call f us) (EP X pins σ Q) X.xe s
def tOp (r : R2) (ta tb : TE) : TE := fun σ H Q => ta σ H fun x H1 => tb σ H1 fun y H2 => r x y H2 Q
def rI (C : Int → Int → Prop) (g : Int → Int → V) : R2 := fun x y H Q => ∃ i j, x = .int i ∧ y = .int j ∧ C i j ∧ Q (g i j) H
def rI0 (g : Int → Int → V) : R2 := fun x y H Q => ∃ i j, x = .int i ∧ y = .int j ∧ Q (g i j) H
section
variable {X : Cx} {a b c : Expr} {ta tb tc : TE} {pos : Pos}
theorem binT (ha : PE X a ta) (hb : PE X b tb) {pins : List (Addr × Obj)} {s : Shared} {σ : St} {H : Hp} {R : V → V → Hp → Prop} (I : Inv X pins σ H s)
  (h : ta σ H fun x H1 => tb σ H1 fun y H2 => R x y H2) {Q : Value → Shared → Prop} {f : Value → Value → Sem Value}
  (hf : ∀ v u s2 x y H2, Inv X pins σ H2 s2 → RelV x v → RelV y u → R x y H2 → wpAny (model X.prog X.w) X.A (f v u) Q X.xe s2) :
  wpAny (model X.prog X.w) X.A (eval a X.env) (fun v s₁ => wpAny (model X.prog X.w) X.A (eval b X.env) (fun u s₂ => wpAny (model X.prog X.w) X.A (f v u) Q X.xe s₂) X.xe s₁) X.xe s := by
 refine thn (ha pins s σ H _ I h) fun v s1 ⟨x, H1, I1, r1, q1⟩ => ?_
 refine thn (hb pins s1 σ H1 _ I1 q1) fun u s2 ⟨y, H2, I2, r2, q2⟩ => ?_
 exact hf v u s2 x y H2 I2 r1 r2 q2
theorem zbd {op : Operator} {r : R2} (ho : OpR X (binaryOp op) r) (ha : PE X a ta) (hb : PE X b tb) : PE X (.BinOp a op b pos) (tOp r ta tb) := by
 intro pins s σ H Q I h
 exact wpAny_BinOp (binT ha hb I h fun v u s2 x y H2 I2 rx ry q => ho pins s2 σ H2 x y v u Q I2 rx ry q)
theorem opI {f : Value → Value → Sem Value} {C : Int → Int → Prop} {g : Int → Int → Int}
  (rule : ∀ (i j : Int) (t u : Tok) (s : Shared) (Q : Value → Shared → Prop) (E : Value → Shared → Prop), C i j → Q (.int (g i j) s.toks) { s with toks := s.toks + 1 } → wpAny (model X.prog X.w) X.A (f (.int i t) (.int j u)) Q E s) :
  OpR X f (rI C fun i j => .int (g i j)) := by
 intro pins s σ H x y v u Q I rx ry h
 obtain ⟨i, j, rfl, rfl, hc, q⟩ := h
 obtain ⟨t, rfl⟩ := rx
 obtain ⟨t', rfl⟩ := ry
 exact rule i j t t' s _ _ hc ⟨.int (g i j), H, I.tok _, ⟨_, rfl⟩, q⟩
theorem opI0 {f : Value → Value → Sem Value} {g : Int → Int → Int}
  (rule : ∀ (i j : Int) (t u : Tok) (s : Shared) (Q : Value → Shared → Prop) (E : Value → Shared → Prop), Q (.int (g i j) s.toks) { s with toks := s.toks + 1 } → wpAny (model X.prog X.w) X.A (f (.int i t) (.int j u)) Q E s) :
  OpR X f (rI0 fun i j => .int (g i j)) := by
 intro pins s σ H x y v u Q I rx ry h
 obtain ⟨i, j, rfl, rfl, q⟩ := h
 obtain ⟨t, rfl⟩ := rx
 obtain ⟨t', rfl⟩ := ry
 exact rule i j t t' s _ _ ⟨.int (g i j), H, I.tok _, ⟨_, rfl⟩, q⟩
theorem opB0 {f : Value → Value → Sem Value} {g : Int → Int → Bool}
  (rule : ∀ (i j : Int) (t u : Tok) (s : Shared) (Q : Value → Shared → Prop) (E : Value → Shared → Prop), Q (.bool (g i j)) s → wpAny (model X.prog X.w) X.A (f (.int i t) (.int j u)) Q E s) :
  OpR X f (rI0 fun i j => .bl (g i j)) := by
 intro pins s σ H x y v u Q I rx ry h
 obtain ⟨i, j, rfl, rfl, q⟩ := h
 obtain ⟨t, rfl⟩ := rx
 obtain ⟨t', rfl⟩ := ry
 exact rule i j t t' s _ _ ⟨.bl (g i j), H, I, rfl, q⟩
def CDiv (i j : Int) : Prop := 0 < j ∧ j < 1073741824
def CPow (i j : Int) : Prop := 0 ≤ j ∧ j ≤ 1000000 ∧ i.natAbs < 2 ^ 64
def CMul (i j : Int) : Prop := (-(2 ^ 64) < i ∧ i < 2 ^ 64) ∨ (-(2 ^ 64) < j ∧ j < 2 ^ 64)
theorem CMul.ok {i j : Int} (h : CMul i j) : IntMulOk i j := by
 rcases h with ⟨h1, h2⟩ | ⟨h1, h2⟩
 ·exact .of_left (intBits_le_64 h1 h2)
 ·exact .of_right (intBits_le_64 h1 h2)
theorem zcn : OpR X (binaryOp .Add) (rI0 fun i j => .int (i + j)) := opI0 fun _ _ _ _ _ _ _ q => add_int q
theorem zpb : OpR X (binaryOp .Sub) (rI0 fun i j => .int (i - j)) := opI0 fun _ _ _ _ _ _ _ q => sub_int q
theorem zel : OpR X (binaryOp .Mult) (rI CMul fun i j => .int (i * j)) := opI fun _ _ _ _ _ _ _ hc q => mul_int q hc.ok
theorem zfL : OpR X (binaryOp .FloorDiv) (rI CDiv fun i j => .int (i / j)) := opI fun i j _ _ _ _ _ hc q => by
 have h1 : (0 : Int) < j := hc.1
 have h2 : j < 1073741824 := hc.2
 exact floordiv_int (by omega) (by rw [Int.fdiv_eq_ediv_of_nonneg i (by omega)]; exact q) (.inl (PyProof.noPylong_small (by omega)))
theorem zcm : OpR X (binaryOp .Mod) (rI (fun _ j => 0 < j) fun i j => .int (i % j)) := opI fun i j _ _ _ _ _ hc q => by
 have h1 : (0 : Int) < j := hc
 exact mod_int' (by omega) (by rw [Int.fmod_eq_emod_of_nonneg i (by omega)]; exact q)
theorem zpc : OpR X (binaryOp .Pow) (rI CPow fun i j => .int (i ^ j.toNat)) := opI fun _ _ _ _ _ _ _ hc q => pow_int_small hc.1 hc.2.1 hc.2.2 q
end
def scal : V → V → Bool
 | .non, .non => true | .non, .int _ => true | .int _, .non => true | .non, .bl _ => true | .bl _, .non => true | .non, .str _ => true | .str _, .non => true
 | .int _, .int _ => true | .bl _, .bl _ => true | .str _, .str _ => true | .byt _, .byt _ => true
 | .int _, .str _ => true | .str _, .int _ => true | .bl _, .str _ => true | .str _, .bl _ => true
 | _, _ => false
def rEq : R2 := fun x y H Q => scal x y = true ∧ Q (.bl (decide (x = y))) H
def rNe : R2 := fun x y H Q => scal x y = true ∧ Q (.bl (!decide (x = y))) H
theorem zkr {i j : Int} : decide (V.int i = V.int j) = (i == j) := by
 rw [Bool.eq_iff_iff]
 simp
theorem zmD {i j : Bool} : decide (V.bl i = V.bl j) = (i == j) := by
 rw [Bool.eq_iff_iff]
 simp
theorem zkq {i j : Str} : decide (V.str i = V.str j) = (i == j) := by
 rw [Bool.eq_iff_iff]
 simp
theorem zks {i j : Array UInt8} : decide (V.byt i = V.byt j) = (i.toList == j.toList) := by
 rw [Bool.eq_iff_iff]
 cases i
 cases j
 simp
section
variable {X : Cx} {a b c : Expr} {ta tb tc : TE} {pos : Pos}
theorem zbg {pins : List (Addr × Obj)} {σ : St} {H : Hp} {s : Shared} {Q : VK} {k k' : Bool} (I : Inv X pins σ H s) (q : Q (.bl k) H) (e : k = k') : EP X pins σ Q (.bool k') s := by
 subst e
 exact ⟨.bl k, H, I, rfl, q⟩
theorem zdL : OpR X (compareOp .Eq) rEq := by
 intro pins s σ H x y v u Q I rx ry h
 obtain ⟨hs, q⟩ := h
 cases x with
 | non =>
  cases rx
  cases y with
  | non => cases ry; exact PySem.EqNone.eq_none_none (zbg I q (by simp))
  | bl j => cases ry; exact PySem.EqNone.eq_none_bool (zbg I q (by simp))
  | int j => obtain ⟨t', rfl⟩ := ry; exact PySem.EqNone.eq_none_int (zbg I q (by simp))
  | str j => obtain ⟨t', rfl⟩ := ry; exact PySem.EqNone.eq_none_str (zbg I q (by simp))
  | _ => exact absurd (show false = true from hs) Bool.false_ne_true
 | bl i =>
  cases rx
  cases y with
  | non => cases ry; exact PySem.EqNone.eq_bool_none (zbg I q (by simp))
  | bl j => cases ry; exact eq_bool (zbg I q zmD)
  | str j => obtain ⟨t', rfl⟩ := ry; exact PySem.EqMixed.eq_bool_str (zbg I q (by simp))
  | _ => exact absurd (show false = true from hs) Bool.false_ne_true
 | int i =>
  obtain ⟨t, rfl⟩ := rx
  cases y with
  | non => cases ry; exact PySem.EqNone.eq_int_none (zbg I q (by simp))
  | int j => obtain ⟨t', rfl⟩ := ry; exact eq_int (zbg I q zkr)
  | str j => obtain ⟨t', rfl⟩ := ry; exact PySem.EqMixed.eq_int_str (zbg I q (by simp))
  | _ => exact absurd (show false = true from hs) Bool.false_ne_true
 | str i =>
  obtain ⟨t, rfl⟩ := rx
  cases y with
  | non => cases ry; exact PySem.EqNone.eq_str_none (zbg I q (by simp))
  | bl j => cases ry; exact PySem.EqMixed.eq_str_bool (zbg I q (by simp))
  | int j => obtain ⟨t', rfl⟩ := ry; exact PySem.EqMixed.eq_str_int (zbg I q (by simp))
  | str j => obtain ⟨t', rfl⟩ := ry; exact eq_str (zbg I q zkq)
  | _ => exact absurd (show false = true from hs) Bool.false_ne_true
 | byt i =>
  obtain ⟨t, rfl⟩ := rx
  cases y with
  | byt j => obtain ⟨t', rfl⟩ := ry; exact PySem.W.eq_bytes (zbg I q zks)
  | _ => exact absurd (show false = true from hs) Bool.false_ne_true
 | _ => cases y <;> exact absurd (show false = true from hs) Bool.false_ne_true
theorem zen : OpR X (compareOp .NotEq) rNe := by
 intro pins s σ H x y v u Q I rx ry h
 obtain ⟨hs, q⟩ := h
 cases x with
 | non =>
  cases rx
  cases y with
  | non => cases ry; exact PySem.EqNone.ne_none_none (zbg I q (by simp))
  | bl j => cases ry; exact PySem.EqNone.ne_none_bool (zbg I q (by simp))
  | int j => obtain ⟨t', rfl⟩ := ry; exact PySem.EqNone.ne_none_int (zbg I q (by simp))
  | str j => obtain ⟨t', rfl⟩ := ry; exact PySem.EqNone.ne_none_str (zbg I q (by simp))
  | _ => exact absurd (show false = true from hs) Bool.false_ne_true
 | bl i =>
  cases rx
  cases y with
  | non => cases ry; exact PySem.EqNone.ne_bool_none (zbg I q (by simp))
  | bl j => cases ry; exact ne_bool (zbg I q (congrArg not zmD))
  | str j => obtain ⟨t', rfl⟩ := ry; exact PySem.EqMixed.ne_bool_str (zbg I q (by simp))
  | _ => exact absurd (show false = true from hs) Bool.false_ne_true
 | int i =>
  obtain ⟨t, rfl⟩ := rx
  cases y with
  | non => cases ry; exact PySem.EqNone.ne_int_none (zbg I q (by simp))
  | int j => obtain ⟨t', rfl⟩ := ry; exact ne_int (zbg I q (congrArg not zkr))
  | str j => obtain ⟨t', rfl⟩ := ry; exact PySem.EqMixed.ne_int_str (zbg I q (by simp))
  | _ => exact absurd (show false = true from hs) Bool.false_ne_true
 | str i =>
  obtain ⟨t, rfl⟩ := rx
  cases y with
  | non => cases ry; exact PySem.EqNone.ne_str_none (zbg I q (by simp))
  | bl j => cases ry; exact PySem.EqMixed.ne_str_bool (zbg I q (by simp))
  | int j => obtain ⟨t', rfl⟩ := ry; exact PySem.EqMixed.ne_str_int (zbg I q (by simp))
  | str j => obtain ⟨t', rfl⟩ := ry; exact ne_str (zbg I q (congrArg not zkq))
  | _ => exact absurd (show false = true from hs) Bool.false_ne_true
 | byt i =>
  obtain ⟨t, rfl⟩ := rx
  cases y with
  | byt j => obtain ⟨t', rfl⟩ := ry; exact PySem.W.ne_bytes (zbg I q (congrArg not zks))
  | _ => exact absurd (show false = true from hs) Bool.false_ne_true
 | _ => cases y <;> exact absurd (show false = true from hs) Bool.false_ne_true
theorem zib : OpR X (compareOp .Lt) (rI0 fun i j => .bl (decide (i < j))) := opB0 fun _ _ _ _ _ _ _ q => lt_int q
theorem zgm : OpR X (compareOp .Gt) (rI0 fun i j => .bl (decide (j < i))) := opB0 fun _ _ _ _ _ _ _ q => gt_int q
theorem zp3 : OpR X (compareOp .GtE) (rI0 fun i j => .bl (decide (j ≤ i))) := opB0 fun _ _ _ _ _ _ _ q => ge_int q
theorem zaF (b : Expr) {op : CmpOp} (h : op ≠ .In := by decide) (h2 : op ≠ .NotIn := by decide) : behindInMarks op b = false := by
 have e1 : (op == CmpOp.In) = false := by cases op <;> first | rfl | exact absurd rfl h
 have e2 : (op == CmpOp.NotIn) = false := by cases op <;> first | rfl | exact absurd rfl h2
 cases b <;> simp [behindInMarks, e1, e2]
theorem zb0 {op : CmpOp} {r : R2} (ho : OpR X (compareOp op) r) (ha : PE X a ta) (hb : PE X b tb) (hm : behindInMarks op b = false) : PE X (.Compare a [op] [b] pos) (tOp r ta tb) := by
 intro pins s σ H Q I h
 exact wpAny_Compare1 (binT ha hb I h fun v u s2 x y H2 I2 rx ry q => ho pins s2 σ H2 x y v u Q I2 rx ry q) hm
def zon (t : TE) : TT := fun σ H Q => t σ H fun x H' => ∃ k, x = .bl k ∧ Q k H'
theorem zat {op : CmpOp} {r : R2} (ho : OpR X (compareOp op) r) (ha : PE X a ta) (hb : PE X b tb) (hm : behindInMarks op b = false) : PT X (.Compare a [op] [b] pos) (zon (tOp r ta tb)) := by
 intro pins s σ H Q I h
 refine wpAny_isTrue_Compare1 (thn (ha pins s σ H _ I h) fun v s1 ⟨x, H1, I1, r1, q1⟩ => thn (hb pins s1 σ H1 _ I1 q1) fun u s2 ⟨y, H2, I2, r2, q2⟩ =>
  thn (ho pins s2 σ H2 x y v u _ I2 r1 r2 q2) fun c s3 ⟨z, H3, I3, r3, k, e, q3⟩ => ?_) hm
 subst e
 cases r3
 exact wpAny_truthy_bool ⟨H3, I3, q3⟩
theorem zhJ : (sizeLine : Nat) < 2 ^ 63 := by rw [sizeLine_eq]; decide
theorem ziF {x : V} {us : List Value} (r : Vals [x] us) : ∃ u, us = [u] ∧ RelV x u := by
 cases r with
 | cons r1 r2 => cases r2; exact ⟨_, rfl, r1⟩
theorem zkD : zci X (.type "int") (fun xs H Q => (∃ i, xs = [.int i] ∧ Q (.int i) H) ∨ ∃ k, xs = [.bl k] ∧ Q (.int (if k then 1 else 0)) H) := by
 intro pins s σ H xs us Q I r h
 rcases h with ⟨i, rfl, q⟩ | ⟨k, rfl, q⟩
 ·obtain ⟨u, rfl, t, rfl⟩ := ziF r
  exact call_int_int ⟨.int i, H, I, ⟨_, rfl⟩, q⟩
 ·obtain ⟨u, rfl, r1⟩ := ziF r
  cases r1
  exact call_int_bool ⟨.int (if k then 1 else 0), H, I.tok _, ⟨_, rfl⟩, q⟩
end
end L2
namespace L2
open PySem PySem.Spec PyProof.Rows
structure ObjM (h : Heap) (x dx C : Addr) (mA : Str → Option Value) : Prop where
 obj : h.get? x = some (PySem.W.instObj C dx)
 ns : h.Ns1 dx mA
 ne : dx ≠ x
theorem zj2 {h : Heap} {dx : Addr} {mA : Str → Option Value} (n : h.Ns1 dx mA) : ∃ od, h.get? dx = some od ∧ ∀ name, PySem.W.lookIn name od = some (mA name) := by
 obtain ⟨o, es, ep, ho, hd, hk, _, hm⟩ := n
 refine ⟨o, ho, fun name => ?_⟩
 have e := hm name
 unfold nsFind findBy at e
 rw [← Array.find?_toList] at e
 unfold PySem.W.lookIn
 rw [hd]
 dsimp only
 split
 ·rename_i y q
  rw [q] at e
  exact congrArg some e
 ·rename_i q
  rw [q] at e
  have a : es.toList.any (·.refKey) = false := by
   rw [List.any_eq_false]
   intro y hy
   obtain ⟨z, t, hkey⟩ := hk y (Array.mem_toList_iff.mp hy)
   simp [DictEntry.refKey, hkey]
  have a' : ¬ es.toList.any (·.refKey) = true := by rw [a]; exact Bool.false_ne_true
  rw [if_neg a']
  exact congrArg some e
theorem ObjM.look {h : Heap} {x dx C : Addr} {mA : Str → Option Value} (I : ObjM h x dx C mA) : ∃ od, PySem.W.InstAt h x (PySem.W.instObj C dx) C (some od) ∧ ∀ name, PySem.W.lookIn name od = some (mA name) :=
 let ⟨od, ho, hl⟩ := zj2 I.ns
 ⟨od, ⟨I.obj, rfl, rfl, ho⟩, hl⟩
section
variable {prog : Program} {w : World} {A : Around} {E : Value → Shared → Prop} {s : Shared} {K : PySem.W.Frag} {x dx C f : Addr} {mA : Str → Option Value} {name : Str} {v : Value}
theorem zn2 {expr : Bool} {Q : Value → Shared → Prop} (X : K.In s.heap) (I : ObjM s.heap x dx C mA) (hg : PySem.W.plainGet K C name = true) (hh : PySem.W.hasDictIn K C = true)
  (ha : PySem.W.findIn K (.ref C) name = some none) (hv : mA name = some v) (hv' : PySem.W.handedIn v = true) (h : Q v { s with toks := s.toks + 1 }) :
  wpAny (model prog w) A (getAttr (.ref x) name expr) Q E s := by
 obtain ⟨od, J, hl⟩ := I.look
 exact PySem.W.get_value X J (PySem.W.plainGet_of hg).1 (PySem.W.findObj_own hh ha rfl (by rw [hl, hv])) hv' h
theorem zlR {pl : Sem Bool} {Q : Value × List Value → Shared → Prop} (X : K.In s.heap) (I : ObjM s.heap x dx C mA) (hg : PySem.W.plainGet K C name = true)
  (hf : PySem.W.findIn K (.ref C) name = some (some (.ref f))) (ht : PySem.W.isFn K (.ref f) = true) (hv : mA name = none) (h : Q (.ref f, [.ref x]) s) :
  wpAny (model prog w) A (getMethod (.ref x) name pl) Q E s := by
 obtain ⟨od, J, hl⟩ := I.look
 exact PySem.W.method_fn X J (PySem.W.plainGet_of hg).1 (PySem.W.plainGet_of hg).2 hf (beq_iff_eq.mp ht) (by show (PySem.W.lookIn name od).map (·.isSome) = some false; rw [hl, hv]; rfl) h
theorem zmL {ns : List Str} {Q : Unit → Shared → Prop} (X : K.In s.heap) (I : ObjM s.heap x dx C mA)
  (hs : PySem.W.findIn K (.ref C) "__setattr__" = some (some (.builtin "object.__setattr__"))) (hp : PySem.W.plainOver K C = true) (ht : PySem.W.takerIn K C name = some none) (hh : PySem.W.hasDictIn K C = true)
  (hw : PySem.Within mA ns) (hsz : ns.length ≤ sizeLine)
  (h : ∀ h', ObjM h' x dx C (fun y => if y = name then some v else mA y) → Heap.SameBut dx s.heap h' → Q () { s with heap := h', toks := s.toks + 2 }) :
  wpAny (model prog w) A (setAttr (.ref x) name v) Q E s := by
 obtain ⟨od, J, hl⟩ := I.look
 refine PySem.W.set_plain X J hs (PySem.W.osa_open (s := { s with toks := s.toks + 1 }) (r := none) X J hp ht fun b => ?_)
 obtain ⟨cd, hc, hd'⟩ := PySem.W.any_some hh
 have hx : s.heap.get? x = some ⟨.ref C, some dx, .plain, #[]⟩ := I.obj
 refine wpAny_bind (wpAny_pure (wpAny_bind (wpAny_bind (wpAny_loadPart hx (wpAny_bind (PySem.W.Looks.here (s := { s with toks := s.toks + 1 }) (PySem.W.looks_clsIn X hc) ?_))))))
 rw [hd']
 refine wpAny_pure (a := some dx) (wpAny_bind (wpAny_pure (wpAny_bind ?_)))
 refine wpAny_nsSet1 (s := { s with toks := s.toks + 1 }) I.ns fun h' hn2 hs2 => ?_
 obtain ⟨oD, esD, epD, hoD, hdD, hcD⟩ := hn2.count (PySem.Within.cons name v hw)
 refine wpAny_bind (wpAny_lookBehind hoD (by rw [hdD]; exact pastItsLine_dict (Nat.le_trans hcD (by rw [List.length_cons]; omega))) ?_)
 exact wpAny_pure (h _ ⟨(hs2.2 _ (Ne.symm I.ne)).trans I.obj, hn2, I.ne⟩ hs2)
theorem zlG {R : Result → Shared → Prop} {vs : List Value} {kw : List (Str × Value)} (X : K.In s.heap) (hm : PySem.W.makesIn K C = true)
  (hi : PySem.W.findIn K (.ref C) "__init__" = some (some (.ref f))) (hf : PySem.W.typeIn K (.ref f) = some (.type "function"))
  (h : codeAny (model prog w) (A.under (.builtin "type.__call__" ⟨.ref C :: vs, kw⟩)) (.call (.ref f) ⟨.ref (s.heap.objs.size + 1) :: vs, kw⟩) (PySem.W.InitBack (s.heap.objs.size + 1) R)
   { s with heap := (s.heap.push PySem.W.emptyDict).push (PySem.W.instObj C s.heap.objs.size) }) :
  codeAny (model prog w) A (.call (.ref C) ⟨vs, kw⟩) R s := by
 obtain ⟨hh, g, d, t, os⟩ := s
 exact PySem.W.make_core (PySem.W.makes_of X hm) (PySem.W.looks_findIn X hi) (fun self => PySem.W.bind_fn X self hf) (.inl rfl) h
end
def putF (f : Str) (v : V) : List (Str × V) → List (Str × V)
 | [] => [(f, v)]
 | (g, x) :: r => if g = f then (g, v) :: r else (g, x) :: putF f v r
theorem zeI (f g : Str) (v : V) : ∀ fs : List (Str × V), (putF f v fs).lookup g = if g = f then some v else fs.lookup g
 | [] => by
  show List.lookup g [(f, v)] = _
  by_cases h : g = f
  ·have hb : (g == f) = true := beq_iff_eq.mpr h
   simp only [List.lookup, hb, if_pos h]
  ·have hb : (g == f) = false := beq_eq_false_iff_ne.mpr h
   simp only [List.lookup, hb, if_neg h]
 | (k, x) :: r => by
  have ih := zeI f g v r
  rw [show putF f v ((k, x) :: r) = (if k = f then (k, v) :: r else (k, x) :: putF f v r) from rfl]
  by_cases hk : k = f
  ·rw [if_pos hk]
   by_cases h : g = k
   ·have hb : (g == k) = true := beq_iff_eq.mpr h
    simp only [List.lookup, hb, if_pos (h.trans hk)]
   ·have hb : (g == k) = false := beq_eq_false_iff_ne.mpr h
    simp only [List.lookup, hb, if_neg (fun e : g = f => h (e.trans hk.symm))]
  ·rw [if_neg hk]
   by_cases h : g = k
   ·have hb : (g == k) = true := beq_iff_eq.mpr h
    simp only [List.lookup, hb, if_neg (fun e : g = f => hk (h.symm.trans e))]
   ·have hb : (g == k) = false := beq_eq_false_iff_ne.mpr h
    simp only [List.lookup, hb]
    exact ih
theorem zeL (f : Str) (v : V) : ∀ fs : List (Str × V), f ∈ (putF f v fs).map (·.1) ∧ ∀ g, g ∈ fs.map (·.1) → g ∈ (putF f v fs).map (·.1)
 | [] => ⟨by simp [putF], fun g h => by simp at h⟩
 | (k, x) :: r => by
  obtain ⟨i1, i2⟩ := zeL f v r
  rw [show putF f v ((k, x) :: r) = (if k = f then (k, v) :: r else (k, x) :: putF f v r) from rfl]
  by_cases hk : k = f
  ·rw [if_pos hk]
   subst hk
   exact ⟨by simp, fun g h => by simpa using h⟩
  ·rw [if_neg hk]
   refine ⟨?_, fun g h => ?_⟩
   ·rw [List.map_cons]
    exact List.mem_cons_of_mem _ i1
   ·rw [List.map_cons] at h ⊢
    rcases List.mem_cons.mp h with e | e
    ·exact List.mem_cons.mpr (.inl e)
    ·exact List.mem_cons_of_mem _ (i2 g e)
theorem zeK (f : Str) (v : V) : ∀ fs : List (Str × V), (putF f v fs).length ≤ fs.length + 1
 | [] => by simp [putF]
 | (k, x) :: r => by
  have ih := zeK f v r
  rw [show putF f v ((k, x) :: r) = (if k = f then (k, v) :: r else (k, x) :: putF f v r) from rfl]
  by_cases hk : k = f
  ·rw [if_pos hk, List.length_cons, List.length_cons]; omega
  ·rw [if_neg hk, List.length_cons, List.length_cons]; omega
theorem RelO.some_of {v : V} {o : Option Value} (r : RelO (some v) o) : ∃ u, o = some u ∧ RelV v u := by
 cases o with
 | none => exact (show False from r).elim
 | some u => exact ⟨u, rfl, r⟩
theorem RelO.none_of {o : Option Value} (r : RelO none o) : o = none := by
 cases o with
 | none => rfl
 | some u => exact (show False from r).elim
theorem zko {v : V} {u : Value} (r : RelV v u) : PySem.W.handedIn u = true := by
 cases v with
 | non => cases (show u = Value.none from r); rfl
 | bl b => cases (show u = Value.bool b from r); rfl
 | int i => obtain ⟨t, e⟩ := (show ∃ t, u = Value.int i t from r); cases e; rfl
 | str x => obtain ⟨t, e⟩ := (show ∃ t, u = Value.str x t from r); cases e; rfl
 | byt b => obtain ⟨t, e⟩ := (show ∃ t, u = Value.bytes b t from r); cases e; rfl
 | flt b => obtain ⟨t, e⟩ := (show ∃ t, u = Value.float b t from r); cases e; rfl
 | ref a => cases (show u = Value.ref a from r); rfl
 | ty n => cases (show u = Value.type n from r); rfl
section
variable {P : Program} {w : World} {H H' : Hp} {h h' : Heap} {a C dx : Addr} {fs fs' : List (Str × V)}
theorem zeN (hok : HOk P w H h) (e : H a = some (.ins C dx fs)) : ∃ mA, ObjM h a dx C mA ∧ (∀ f, RelO (fs.lookup f) (mA f)) ∧ PySem.Within mA (fs.map (·.1)) ∧ fs.length ≤ 1000 ∧ H dx = some (.own a) := by
 obtain ⟨d, z, ne, ob, mA, n, r, q⟩ := (show zbD P w H h a (.ins C dx fs) from hok a _ e)
 exact ⟨mA, ⟨ob, n, ne⟩, r, q, z, d⟩
end
structure Cls (K : PySem.W.Frag) (C : Addr) : Prop where
 pg : PySem.W.plainGet K C Str.empty = true
 hd : PySem.W.hasDictIn K C = true
 po : PySem.W.plainOver K C = true
 sa : PySem.W.findIn K (.ref C) "__setattr__" = some (some (.builtin "object.__setattr__"))
theorem Cls.get {K : PySem.W.Frag} {C : Addr} (c : Cls K C) (f : Str) : PySem.W.plainGet K C f = true := c.pg
def zgP (K : PySem.W.Frag) (C : Addr) (f : Str) : Prop := PySem.W.findIn K (.ref C) f = some none
theorem zgP.taker {K : PySem.W.Frag} {C : Addr} {f : Str} (n : zgP K C f) : PySem.W.takerIn K C f = some none := by
 unfold PySem.W.takerIn
 rw [show PySem.W.findIn K (.ref C) f = some none from n]
 rfl
structure Meth (K : PySem.W.Frag) (C : Addr) (m : Str) (f : Addr) : Prop where
 at_ : PySem.W.findIn K (.ref C) m = some (some (.ref f))
 fn : PySem.W.isFn K (.ref f) = true
 kp : PySem.W.keepIn K (.ref f) = true
section
variable {X : Cx} {pins : List (Addr × Obj)} {σ : St} {H : Hp} {s : Shared} {a C dx : Addr} {fs : List (Str × V)} {f : Str} {v : V} {A : Around} {E : Value → Shared → Prop}
theorem zin {b : Bool} {Q : Value → Shared → Prop} (I : Inv X pins σ H s) (e : H a = some (.ins C dx fs)) (c : Cls X.K C) (n : zgP X.K C f) (l : fs.lookup f = some v)
  (h : ∀ u s', Inv X pins σ H s' → RelV v u → Q u s') : wpAny (model X.prog X.w) A (getAttr (.ref a) f b) Q E s := by
 obtain ⟨mA, O, r, _, _, _⟩ := zeN I.hok e
 obtain ⟨u, hu, ru⟩ := RelO.some_of (v := v) (o := mA f) (by rw [← l]; exact r f)
 exact zn2 I.kIn O (c.get f) c.hd n hu (zko ru) (h u _ (I.tok _) ru)
theorem zfm {m : Str} {g : Addr} {pl : Sem Bool} {Q : Value × List Value → Shared → Prop} (I : Inv X pins σ H s) (e : H a = some (.ins C dx fs)) (c : Cls X.K C) (k : Meth X.K C m g) (l : fs.lookup m = none)
  (h : Q (.ref g, [.ref a]) s) : wpAny (model X.prog X.w) A (getMethod (.ref a) m pl) Q E s := by
 obtain ⟨mA, O, r, _, _, _⟩ := zeN I.hok e
 have hn : mA m = none := RelO.none_of (by rw [← l]; exact r m)
 exact zlR I.kIn O (c.get m) k.at_ k.fn hn h
theorem zh3 {y : V} {u : Value} {Q : Unit → Shared → Prop} (I : Inv X pins σ H s) (e : H a = some (.ins C dx fs)) (c : Cls X.K C) (n : zgP X.K C f) (hl : fs.length < 1000) (ry : RelV y u)
  (h : ∀ s', Inv X pins σ (upd H a (.ins C dx (putF f y fs))) s' → Q () s') : wpAny (model X.prog X.w) A (setAttr (.ref a) f u) Q E s := by
 obtain ⟨mA, O, r, wi, _, ho⟩ := zeN I.hok e
 have hz : (fs.map (·.1)).length ≤ sizeLine := by rw [List.length_map, sizeLine_eq]; omega
 refine zmL I.kIn O c.sa c.po n.taker c.hd wi hz fun h' O' sb => h _ ?_
 have hd : ∃ o, h'.get? dx = some o := let ⟨o, _, _, e', _⟩ := O'.ns; ⟨o, e'⟩
 refine I.write (x := a) (e := dx) (by rw [e]; exact True.intro) (.inr ho) (fun b q hb z => (sb.2 b hb).trans z) hd ?_
 refine ⟨by rw [zai O.ne]; exact ho, ?_, O.ne, O'.obj, _, O'.ns, fun g => ?_, fun g hg => ?_⟩
 ·have := zeK f y fs; omega
 ·show RelO ((putF f y fs).lookup g) (if g = f then some u else mA g)
  rw [zeI]
  by_cases q : g = f
  ·rw [if_pos q, if_pos q]; exact ry
  ·rw [if_neg q, if_neg q]; exact r g
 ·by_cases q : g = f
  ·rw [q]; exact (zeL f y fs).1
  ·refine (zeL f y fs).2 g (wi g fun z => hg ?_)
   show (if g = f then some u else mA g) = none
   rw [if_neg q]; exact z
theorem Inv.made (I : Inv X pins σ H s) : Inv X pins σ (upd (upd H s.heap.objs.size (.own (s.heap.objs.size + 1))) (s.heap.objs.size + 1) (.ins C s.heap.objs.size []))
  { s with heap := (s.heap.push PySem.W.emptyDict).push (PySem.W.instObj C s.heap.objs.size) } := by
 have e1 : (s.heap.push PySem.W.emptyDict).get? s.heap.objs.size = some PySem.W.emptyDict := Heap.get?_push_size s.heap rfl
 have e2 : ((s.heap.push PySem.W.emptyDict).push (PySem.W.instObj C s.heap.objs.size)).get? (s.heap.objs.size + 1) = some (PySem.W.instObj C s.heap.objs.size) := by
  have := Heap.get?_push_size (s.heap.push PySem.W.emptyDict) (o := PySem.W.instObj C s.heap.objs.size) rfl
  rwa [Heap.size_push] at this
 have e3 : (s.heap.push PySem.W.emptyDict).Ns s.heap.objs.size (fun _ => none) := ⟨PySem.W.emptyDict, #[], _, e1, rfl, (fun e he => absurd he (by simp)), fun _ => rfl⟩
 have I1 := I.laid (a := s.heap.objs.size) (o := .own (s.heap.objs.size + 1)) (h' := s.heap.push PySem.W.emptyDict) (t' := s.toks) (fun b u q => Heap.get?_push_of_some _ q) (Nat.le_refl _) ⟨_, e1⟩
 refine I1.laid (a := s.heap.objs.size + 1) (o := .ins C s.heap.objs.size []) (t' := s.toks) (fun b u q => Heap.get?_push_of_some _ q) (Nat.le_of_eq (Heap.size_push _ _)) ?_
 have ne : s.heap.objs.size ≠ s.heap.objs.size + 1 := Nat.ne_of_lt (Nat.lt_succ_self _)
 refine ⟨by rw [zai ne, zab], Nat.zero_le _, ne, e2, fun _ => none, (Heap.Ns1.of_empty e3).at fun o q => Heap.get?_push_of_some _ q, fun _ => True.intro, fun y hy => absurd rfl hy⟩
theorem zoe {prog : Program} {w : World} {env : Env} {e : Expr} {f : Str} {pos : Pos} {s : Shared} {Q : Value → Shared → Prop} (hb : attributeBase e f env (eval e env) = eval e env)
  (h : wpAny (model prog w) A (eval e env) (fun o s₁ => wpAny (model prog w) A (getAttr o f true) Q E s₁) E s) : wpAny (model prog w) A (eval (.Attribute e f pos) env) Q E s :=
 Attribute_any_ h (by rw [arm_eval_Attribute, hb])
end
section
variable {X : Cx} {o e value : Expr} {f : Str} {pos pos' tpos : Pos} {ta tv : TE}
theorem znK {pl : Sem Bool} {m : Str} {apos : Pos} {args : List Expr} {pins : List (Addr × Obj)} {s : Shared} {σ : St} {H : Hp} {Q : Value → Shared → Prop} {te : TE} (he : PE X e te) (I : Inv X pins σ H s)
  (h : te σ H fun x H1 => ∃ a C dx fs g, x = .ref a ∧ H1 a = some (.ins C dx fs) ∧ Cls X.K C ∧ Meth X.K C m g ∧ fs.lookup m = none ∧
   ∀ s1, Inv X pins σ H1 s1 → wpAny (model X.prog X.w) X.A (callWith pos (.ref g) [.ref a] (backTo pos (starEach args X.env)) (backToKw pos (keywordEach [] X.env))) Q X.xe s1)
  (ht : eval (.Call (.Attribute e m apos) args [] pos) X.env = (do
   let ov ← eval e X.env
   standAt apos.atName
   let (f, first) ← holding [ov] (getMethod ov m pl)
   callWith pos f first (backTo pos (starEach args X.env)) (backToKw pos (keywordEach [] X.env)))) :
  wpAny (model X.prog X.w) X.A (eval (.Call (.Attribute e m apos) args [] pos) X.env) Q X.xe s := by
 refine PySem.W.methodCall_KW (pl := pl) (thn (he pins s σ H _ I h) fun u s1 ⟨x, H1, I1, rx, a, C, dx, fs, g, ex, ea, c, k, l, q⟩ => ?_) ht
 subst ex
 obtain rfl : u = Value.ref a := rx
 exact zfm I1 ea c k l (q s1 I1)
end
section
variable {X : Cx} {pins : List (Addr × Obj)} {σ : St} {H : Hp} {s : Shared} {A : Around} {E : Value → Shared → Prop} {Q : Value → Shared → Prop} {c : Value} {b : Bool}
inductive TyOf (K : PySem.W.Frag) (H : Hp) : V → Value → Prop where
 | non : TyOf K H .non (.type "NoneType")
 | bl (x : Bool) : TyOf K H (.bl x) (.type "bool")
 | int (i : Int) : TyOf K H (.int i) (.type "int")
 | str (x : Str) : TyOf K H (.str x) (.type "str")
 | flt (x : UInt64) : TyOf K H (.flt x) (.type "float")
 | lst {a : Addr} {xs : List V} (e : H a = some (.lst xs)) : TyOf K H (.ref a) (.type "list")
 | frz {a : Addr} {o : Obj} {xs : List V} (e : H a = some (.frz o (.lst xs))) : TyOf K H (.ref a) (.type "list")
 | tup {a : Addr} {xs : List V} (e : H a = some (.tup xs)) : TyOf K H (.ref a) (.type "tuple")
 | dK {a : Addr} {kvs : List (Key × V)} (e : H a = some (.dK kvs)) : TyOf K H (.ref a) (.type "dict")
 | dT {a : Addr} {kvs : List (List Key × V)} (e : H a = some (.dT kvs)) : TyOf K H (.ref a) (.type "dict")
 | ins {a C dx : Addr} {fs : List (Str × V)} (e : H a = some (.ins C dx fs)) (cl : Cls K C) (ha : PySem.W.findIn K (.ref C) "__class__" = some (some (.builtin "object.__class__")))
   (hn : PySem.W.specialIn K (.builtin "object.__class__") "__get__" = some (some (.builtin "getset_descriptor.__get__"))) (htk : PySem.W.takesIn K (.builtin "object.__class__") = some true)
   (hm : PySem.W.mroIn K C (.type "object") = some true) : TyOf K H (.ref a) (.ref C)
theorem zke {x : V} {u t : Value} (I : Inv X pins σ H s) (rx : RelV x u) (ty : TyOf X.K H x t) (e : PySem.W.kitOne X.K t c = some b) (h : ∀ tk, Q (.bool b) { s with toks := tk }) :
  wpAny (model X.prog X.w) A (call (.builtin "isinstance") [u, c]) Q E s := by
 cases ty with
 | non => cases (show u = Value.none from rx); exact PySem.W.kia_one PySem.W.kitx_none I.kIn True.intro e (fun z => nomatch z) h
 | bl y => cases (show u = Value.bool y from rx); exact PySem.W.kia_one PySem.W.kitx_bool I.kIn True.intro e (fun z => nomatch z) h
 | int i => obtain ⟨t, q⟩ := (show ∃ t, u = Value.int i t from rx); cases q; exact PySem.W.kia_one PySem.W.kitx_int I.kIn True.intro e (fun z => nomatch z) h
 | str y => obtain ⟨t, q⟩ := (show ∃ t, u = Value.str y t from rx); cases q; exact PySem.W.kia_one PySem.W.kitx_str I.kIn True.intro e (fun z => nomatch z) h
 | flt y => obtain ⟨t, q⟩ := (show ∃ t, u = Value.float y t from rx); cases q; exact PySem.W.kia_one PySem.W.kitx_float I.kIn True.intro e (fun z => nomatch z) h
 | @lst a xs ea =>
  cases (show u = Value.ref a from rx)
  obtain ⟨_, _, n, _, h1⟩ := (show zbD X.prog X.w H s.heap a (.lst xs) from I.hok a _ ea)
  exact PySem.W.kia_one PySem.W.kitx_list I.kIn ⟨_, h1, rfl⟩ e (fun z => nomatch z) h
 | @frz a ob xs ea =>
  cases (show u = Value.ref a from rx)
  obtain ⟨_, _, _, n, _, h1⟩ := (show zbD X.prog X.w H s.heap a (.frz ob (.lst xs)) from I.hok a _ ea)
  exact PySem.W.kia_one PySem.W.kitx_list I.kIn ⟨_, h1, rfl⟩ e (fun z => nomatch z) h
 | @tup a xs ea =>
  cases (show u = Value.ref a from rx)
  obtain ⟨_, _, _, p⟩ := (show zbD X.prog X.w H s.heap a (.tup xs) from I.hok a _ ea)
  obtain ⟨o, h1, h2, _⟩ := p
  exact PySem.W.kia_one PySem.W.kitx_tuple I.kIn ⟨o, h1, h2⟩ e (fun z => nomatch z) h
 | @dK a kvs ea =>
  cases (show u = Value.ref a from rx)
  obtain ⟨_, _, vs, _, p⟩ := (show zbD X.prog X.w H s.heap a (.dK kvs) from I.hok a _ ea)
  obtain ⟨o, es, ep, h1, h2, _⟩ := p
  exact PySem.W.kia_one PySem.W.kitx_dict I.kIn ⟨o, h1, h2.1⟩ e (fun z => nomatch z) h
 | @dT a kvs ea =>
  cases (show u = Value.ref a from rx)
  obtain ⟨_, _, xs, _, o, es, ep, h1, h2, _⟩ := (show zbD X.prog X.w H s.heap a (.dT kvs) from I.hok a _ ea)
  exact PySem.W.kia_one PySem.W.kitx_dict I.kIn ⟨o, h1, h2.1⟩ e (fun z => nomatch z) h
 | @ins a C dx fs ea cl ha hn htk hm =>
  cases (show u = Value.ref a from rx)
  obtain ⟨mA, O, _⟩ := zeN I.hok ea
  obtain ⟨od, J, _⟩ := O.look
  exact PySem.W.kia_one (PySem.W.kitx_own (cl.get _) cl.hd ha hn htk hm) I.kIn J e (fun z => nomatch z) h
end
end L2
namespace L2
open PySem PySem.Spec PyProof.Rows
structure Room (k : Nat) (A : Around) : Prop where
 hd : A.handled = none
 dp : A.depth + 3 * k + 5 < recursionLimit
 un : A.units + 16 * k + 200 < cLine
theorem Room.mono {j k : Nat} {A : Around} (r : Room k A) (h : j ≤ k) : Room j A := ⟨r.hd, by have := r.dp; omega, by have := r.un; omega⟩
theorem Room.deeper {k : Nat} {A : Around} (r : Room (k + 1) A) (env : Env) : Room k (A.deeper env) :=
 ⟨r.hd, by have := r.dp; show A.depth + 1 + 3 * k + 5 < _; omega, by have := r.un; show A.units + 3 + 16 * k + 200 < _; omega⟩
theorem Room.in1 {k : Nat} {A : Around} (r : Room (k + 1) A) : Room k A.in1 :=
 ⟨r.hd, by have := r.dp; show A.depth + 3 * k + 5 < _; omega, by have := r.un; show A.units + 1 + 16 * k + 200 < _; omega⟩
theorem zih {A : Around} {C : Addr} {us : List Value} {kw : List (Str × Value)} : (A.under (.builtin "type.__call__" ⟨.ref C :: us, kw⟩)).depth = A.depth + 1 := by
 first | rfl | simp [Around.under, Code.weight, Code.isCreation, Code.isGuard, Code.isCaller, Code.frames, Code.isFrame, guardIds]
theorem zig {A : Around} {C : Addr} {us : List Value} {kw : List (Str × Value)} : (A.under (.builtin "type.__call__" ⟨.ref C :: us, kw⟩)).units = A.units + 1 := by
 first | rfl | simp [Around.under, Code.cUnits, Code.frames, Code.isFrame]
theorem Room.make {k : Nat} {A : Around} (r : Room (k + 1) A) (C : Addr) (us : List Value) (kw : List (Str × Value)) : Room k (A.under (.builtin "type.__call__" ⟨.ref C :: us, kw⟩)) :=
 ⟨r.hd, by have := r.dp; rw [zih]; omega, by have := r.un; rw [zig]; omega⟩
theorem Room.depth {k : Nat} {A : Around} (r : Room k A) : A.depth < recursionLimit := by have := r.dp; omega
theorem Room.units {k : Nat} {A : Around} (r : Room k A) : A.units + 64 < cLine := by have := r.un; omega
def tNil : TA := fun _ H Q => Q [] H
def zmJ (ta : TE) (tr : TA) : TA := fun σ H Q => ta σ H fun x H1 => tr σ H1 fun xs H2 => Q (x :: xs) H2
section
variable {X : Cx} {e : Expr} {es : List Expr} {te : TE} {t : TA} {pos : Pos}
theorem zac : PA X [] tNil := fun _ _ _ _ H Q I h => Calls.spliced_nil ⟨[], H, I, .nil, h⟩
theorem zaa (ha : PE X e te) (hr : PA X es t) (hs : starEach (e :: es) X.env = (false, eval e X.env) :: starEach es X.env := by rfl) : PA X (e :: es) (zmJ te t) := by
 intro pos pins s σ H Q I h
 rw [hs]
 show wpAny _ _ (spliced ((false, eval e X.env) :: backTo pos (starEach es X.env))) _ _ s
 refine Calls.spliced_cons (thn (ha pins s σ H _ I h) fun u s1 ⟨x, H1, I1, r1, q1⟩ => ?_)
 exact thn (hr pos pins s1 σ H1 _ I1 q1) fun us s2 ⟨xs, H2, I2, r2, q2⟩ => ⟨x :: xs, H2, I2, .cons r1 r2, q2⟩
def tTup (t : TA) : TE := fun σ H Q => t σ H fun xs H1 => xs.length ≤ sizeLine ∧ ∀ p, H1 p = none → Q (.ref p) (upd H1 p (.tup xs))
def tLst (t : TA) : TE := fun σ H Q => t σ H fun xs H1 => xs.length ≤ sizeLine ∧ ∀ p, H1 p = none → Q (.ref p) (upd H1 p (.lst xs))
theorem za2 {x1} (h : PA X es t) : PE X (.Tuple es x1 pos) (tTup t) := by
 intro pins s σ H Q I hq
 refine wpAny_Tuple_spliced (thn (h pos pins s σ H _ I hq) fun us s1 ⟨xs, H1, I1, r, z, q⟩ => ⟨by rw [← r.length]; exact z, ?_⟩)
 have hf : H1 s1.heap.objs.size = none := I1.hok.fresh (Nat.le_refl _)
 refine ⟨.ref s1.heap.objs.size, upd H1 s1.heap.objs.size (.tup xs), I1.laid (t' := s1.toks) (fun b u e => Heap.get?_push_of_some _ e) (Nat.le_refl _) ?_, rfl, q _ hf⟩
 exact ⟨z, us, r, ⟨_, Heap.get?_push_size _ rfl, rfl, _, rfl⟩⟩
theorem zbe (h : PA X es t) : PE X (.List es pos) (tLst t) := by
 intro pins s σ H Q I hq
 refine wpAny_List_spliced (thn (h pos pins s σ H _ I hq) fun us s1 ⟨xs, H1, I1, r, z, q⟩ => ⟨by rw [← r.length]; exact z, ?_⟩)
 have hf : H1 s1.heap.objs.size = none := I1.hok.fresh (Nat.le_refl _)
 refine ⟨.ref s1.heap.objs.size, upd H1 s1.heap.objs.size (.lst xs), I1.laid (t' := s1.toks) (fun b u e => Heap.get?_push_of_some _ e) (Nat.le_refl _) ?_, rfl, q _ hf⟩
 exact ⟨z, us, 0, r, Heap.get?_push_size _ rfl⟩
end
abbrev Sp := List V → Hp → VK → XK → Prop
abbrev CXT := List Env → Hp → Shared → XK → Value → Shared → Prop
structure Env0 (P : Program) (w : World) (K : PySem.W.Frag) (mg : Str → Option Value) (base : Heap) (A : Around) (outer : List Env) (s : Shared) (H : Hp) : Prop where
 frames : A.frames = some outer
 mod : Mod K mg base
 bs : ∀ b o, base.get? b = some o → s.heap.get? b = some o ∧ H b = none
 bsz : base.objs.size ≤ s.heap.objs.size
 funs : s.heap.FunFrames base outer
 frf : ∀ b ∈ frs outer, H b = none
 hok : HOk P w H s.heap
 bare : AllBare s.gens
def CE (outer : List Env) (P : Program) (w : World) (H : Hp) (s : Shared) (Q : VK) (u : Value) (s' : Shared) : Prop :=
 ∃ v H', s'.os = s.os ∧ AllBare s'.gens ∧ Un (frs outer) [] H H' s.heap s'.heap ∧ HOk P w H' s'.heap ∧ RelV v u ∧ Q v H'
def CR (CX : CXT) (outer : List Env) (P : Program) (w : World) (H : Hp) (s : Shared) (Q : VK) (E : XK) (r : Result) (s' : Shared) : Prop :=
 match r with
 | .ok (.ret u) => CE outer P w H s Q u s'
 | .ok _ => False
 | .error e => CX outer H s E e s'
structure FnOk (P : Program) (w : World) (K : PySem.W.Frag) (mg : Str → Option Value) (base : Heap) (CX : CXT) (k : Nat) (f : Addr) (fd : FuncData) (ps : List Str) (sp : Sp) : Prop where
 len : ∀ vs H Q E, sp vs H Q E → vs.length = ps.length
 run : ∀ (A : Around) (outer : List Env) (s : Shared) (H : Hp) (args : Args) (us : List Value) (vs : List V) (Q : VK) (E : XK), Room k A → Env0 P w K mg base A outer s H → BindsTo s fd args (ps.zip us) → Vals vs us → sp vs H Q E →
  codeAny (model P w) A (.call (.ref f) args) (CR CX outer P w H s Q E) s
theorem FnOk.mono {P : Program} {w : World} {K : PySem.W.Frag} {mg : Str → Option Value} {base : Heap} {CX : CXT} {j k : Nat} {f : Addr} {fd : FuncData} {ps : List Str} {sp : Sp} (F : FnOk P w K mg base CX j f fd ps sp) (h : j ≤ k) :
  FnOk P w K mg base CX k f fd ps sp := ⟨F.len, fun A outer s H args us vs Q E hr => F.run A outer s H args us vs Q E (hr.mono h)⟩
theorem FnOk.imp {P : Program} {w : World} {K : PySem.W.Frag} {mg : Str → Option Value} {base : Heap} {CX : CXT} {k : Nat} {f : Addr} {fd : FuncData} {ps : List Str} {sp sp' : Sp} (F : FnOk P w K mg base CX k f fd ps sp)
  (h : ∀ vs H Q E, sp' vs H Q E → sp vs H Q E) : FnOk P w K mg base CX k f fd ps sp' :=
 ⟨fun vs H Q E q => F.len vs H Q E (h _ _ _ _ q), fun A outer s H args us vs Q E hr he hb hv hs => F.run A outer s H args us vs Q E hr he hb hv (h _ _ _ _ hs)⟩
theorem Env0.make {P : Program} {w : World} {K : PySem.W.Frag} {mg : Str → Option Value} {base : Heap} {A : Around} {outer : List Env} {s : Shared} {H : Hp} (e : Env0 P w K mg base A outer s H) (C : Addr) (us : List Value) (kw : List (Str × Value)) :
  Env0 P w K mg base (A.under (.builtin "type.__call__" ⟨.ref C :: us, kw⟩)) outer s H := ⟨by first | exact e.frames | (simpa [Around.under, Code.envs, Code.isFrame, pushEnvs] using e.frames), e.mod, e.bs, e.bsz, e.funs, e.frf, e.hok, e.bare⟩
theorem Env0.in1 {P : Program} {w : World} {K : PySem.W.Frag} {mg : Str → Option Value} {base : Heap} {A : Around} {outer : List Env} {s : Shared} {H : Hp} (e : Env0 P w K mg base A outer s H) :
  Env0 P w K mg base A.in1 outer s H := ⟨e.frames, e.mod, e.bs, e.bsz, e.funs, e.frf, e.hok, e.bare⟩
section
variable {X : Cx} {pins : List (Addr × Obj)} {σ : St} {H : Hp} {s s' : Shared}
theorem Inv.env0 (I : Inv X pins σ H s) : Env0 X.prog X.w X.K X.mg X.base X.A X.stack s H :=
 ⟨I.ok.frames, I.ok.mod, I.bs, Nat.le_trans I.ok.bsz I.sz, I.stack, I.stkFree, I.hok, I.bare⟩
theorem Inv.after {Q : VK} {u : Value} (I : Inv X pins σ H s) (h : CE X.stack X.prog X.w H s Q u s') : EP X pins σ Q u s' := by
 obtain ⟨v, H', os, bare, un, hok, r, q⟩ := h
 obtain ⟨hh, g, d, t, os'⟩ := s'
 obtain rfl : os' = s.os := os
 exact ⟨v, H', I.call (h' := hh) (g' := g) (d' := d) (t' := t) (ch := []) un hok bare (fun b z => absurd z (by simp)), r, q⟩
end
def ziU (sp : Sp) (dvs : List V) (E : XK) (t : TA) : TE := fun σ H Q => t σ H fun vs H1 => sp (vs ++ dvs) H1 Q E
def zmH (C : Addr) (m : Str) (sp : Sp) (dvs : List V) (E : XK) (ta : TE) (t : TA) : TE := fun σ H Q => ta σ H fun x H1 => ∃ a dx fs, x = .ref a ∧ H1 a = some (.ins C dx fs) ∧ fs.lookup m = none ∧
 t σ H1 fun vs H2 => sp (x :: (vs ++ dvs)) H2 Q E
def zmI (C : Addr) (sp : Sp) (dvs : List V) (E : XK) (t : TA) : TE := fun σ H Q => t σ H fun vs H1 => ∀ x dx, H1 x = none → H1 dx = none → dx ≠ x →
 sp (.ref x :: (vs ++ dvs)) (upd (upd H1 dx (.own x)) x (.ins C dx [])) (fun v H2 => v = .non ∧ Q (.ref x) H2) E
def zdo (K : PySem.W.Frag) (fd : FuncData) (ps : List Str) (ds : List Value) : Prop :=
 ∀ (s : Shared) (us : List Value), K.In s.heap → (us ++ ds).length = ps.length → BindsTo s fd ⟨us, []⟩ (ps.zip (us ++ ds))
theorem zdo.all {K : PySem.W.Frag} {fd : FuncData} {ps : List Str} (h : ∀ us : List Value, us.length = ps.length → bindArgs fd ⟨us, []⟩ = pure (ps.zip us)) : zdo K fd ps [] := fun s us _ hl => by
 rw [List.append_nil] at hl ⊢
 exact .of_eq (h us hl)
def zeX (CX : CXT) (X : Cx) (E : XK) : Prop := ∀ (pins : List (Addr × Obj)) (σ : St) (H : Hp) (s : Shared) (e : Value) (s' : Shared), Inv X pins σ H s → CX X.stack H s E e s' → X.xe e s'
section
variable {X : Cx} {CX : CXT} {k : Nat} {f C : Addr} {fd : FuncData} {ps : List Str} {sp : Sp} {dvs : List V} {ds : List Value} {E : XK} {x m : Str} {p pos apos : Pos} {e o : Expr} {es : List Expr} {ta : TE} {t : TA}
theorem zjm {pins : List (Addr × Obj)} {σ : St} {H : Hp} {s : Shared} {Q : VK} {us : List Value} {vs : List V} (F : FnOk X.prog X.w X.K X.mg X.base CX k f fd ps sp) (hr : Room k X.A) (hb : zdo X.K fd ps ds) (hd : Vals dvs ds) (hx : zeX CX X E)
  (I : Inv X pins σ H s) (r : Vals vs us) (h : sp (vs ++ dvs) H Q E) : wpAny (model X.prog X.w) X.A (call (.ref f) us) (EP X pins σ Q) X.xe s := by
 have r2 : Vals (vs ++ dvs) (us ++ ds) := r.append hd
 have hl : (us ++ ds).length = ps.length := by rw [← r2.length]; exact F.len _ _ _ _ h
 refine wpAny_call (codeAny_mono (F.run X.A X.stack s H ⟨us, []⟩ (us ++ ds) (vs ++ dvs) Q E hr I.env0 (hb s us I.kIn hl) r2 h) fun r s' hq => ?_)
 cases r with
 | error e => exact hx pins σ H s e s' I hq
 | ok fl =>
  cases fl with
  | ret u => exact I.after hq
  | next => exact False.elim hq
  | brk => exact False.elim hq
  | cont => exact False.elim hq
theorem zns (F : FnOk X.prog X.w X.K X.mg X.base CX k f fd ps sp) (hr : Room k X.A) (hg : Gl X x) (hm : X.mg x = some (.ref f)) (hk : PySem.W.keepIn X.K (.ref f) = true) (hb : zdo X.K fd ps ds) (hd : Vals dvs ds) (hx : zeX CX X E)
  (ha : PA X (e :: es) t) (hdb : (x == ("__debug__" : Str)) = false := by decide) (he : starEach (e :: es) X.env = (false, eval e X.env) :: starEach es X.env := by rfl) (hpl : (backTo pos (starEach es X.env)).any (·.1) = false := by rfl) :
  PE X (.Call (.Name x p) (e :: es) [] pos) (ziU sp dvs E t) := by
 intro pins s σ H Q I h
 refine wpAny_Call_Name_kw (zfR I hg hm ?_ hdb)
 refine PySem.W.callWith_K (h₀ := X.base) I.ok.mod.kin hk (thn (ha pos pins s σ H _ I h) fun us s1 ⟨vs, H1, I1, r, q⟩ => ⟨I1.kIn, ?_⟩) he hpl
 exact zjm F hr hb hd hx I1 r q
theorem zlk (F : FnOk X.prog X.w X.K X.mg X.base CX k f fd ps sp) (hr : Room k X.A) (hg : Gl X x) (hm : X.mg x = some (.ref f)) (hk : PySem.W.keepIn X.K (.ref f) = true) (hb : zdo X.K fd ps ds) (hd : Vals dvs ds) (hx : zeX CX X E)
  (hdb : (x == ("__debug__" : Str)) = false := by decide) : PE X (.Call (.Name x p) [] [] pos) (ziU sp dvs E tNil) := by
 intro pins s σ H Q I h
 refine wpAny_Call_Name_kw (zfR I hg hm ?_ hdb)
 exact PySem.W.callWith_K0 I.kIn hk (zjm (us := []) F hr hb hd hx I .nil h)
theorem zno {pl : Sem Bool} (he : PE X o ta) (c : Cls X.K C) (hm : Meth X.K C m f) (F : FnOk X.prog X.w X.K X.mg X.base CX k f fd ps sp) (hr : Room k X.A) (hb : zdo X.K fd ps ds) (hd : Vals dvs ds) (hx : zeX CX X E) (ha : PA X (e :: es) t)
  (hst : starEach (e :: es) X.env = (false, eval e X.env) :: starEach es X.env := by rfl) (hpl : (backTo pos (starEach es X.env)).any (·.1) = false := by rfl)
  (ht : eval (.Call (.Attribute o m apos) (e :: es) [] pos) X.env = (do
   let ov ← eval o X.env
   standAt apos.atName
   let (f, first) ← holding [ov] (getMethod ov m pl)
   callWith pos f first (backTo pos (starEach (e :: es) X.env)) (backToKw pos (keywordEach [] X.env))) := by rfl) :
  PE X (.Call (.Attribute o m apos) (e :: es) [] pos) (zmH C m sp dvs E ta t) := by
 intro pins s σ H Q I h
 refine PySem.W.methodCall_KW (pl := pl) (thn (he pins s σ H _ I h) fun u s1 ⟨x, H1, I1, rx, a, dx, fs, ex, ea, l, q⟩ => ?_) ht
 subst ex
 obtain rfl : u = Value.ref a := rx
 refine zfm I1 ea c hm l ?_
 refine PySem.W.callWith_K (first := [.ref a]) (h₀ := X.base) I.ok.mod.kin hm.kp (thn (ha pos pins s1 σ H1 _ I1 q) fun us s2 ⟨vs, H2, I2, r, q2⟩ => ⟨I2.kIn, ?_⟩) hst hpl
 exact zjm (us := .ref a :: us) (vs := .ref a :: vs) F hr hb hd hx I2 (.cons rfl r) q2
structure Mk (K : PySem.W.Frag) (C f : Addr) : Prop where
 makes : PySem.W.makesIn K C = true
 init : PySem.W.findIn K (.ref C) "__init__" = some (some (.ref f))
 fn : PySem.W.isFn K (.ref f) = true
 kp : PySem.W.keepIn K (.ref C) = true
theorem zkV {pins : List (Addr × Obj)} {σ : St} {H : Hp} {s : Shared} {Q : VK} {us : List Value} {vs : List V} (M : Mk X.K C f) (F : FnOk X.prog X.w X.K X.mg X.base CX k f fd ps sp) (hr : Room (k + 1) X.A) (hb : zdo X.K fd ps ds) (hd : Vals dvs ds)
  (hx : zeX CX X E) (I : Inv X pins σ H s) (r : Vals vs us)
  (h : ∀ x dx, H x = none → H dx = none → dx ≠ x → sp (.ref x :: (vs ++ dvs)) (upd (upd H dx (.own x)) x (.ins C dx [])) (fun v H2 => v = .non ∧ Q (.ref x) H2) E) :
  wpAny (model X.prog X.w) X.A (call (.ref C) us) (EP X pins σ Q) X.xe s := by
 have hq := h (s.heap.objs.size + 1) s.heap.objs.size (I.hok.fresh (Nat.le_succ _)) (I.hok.fresh (Nat.le_refl _)) (Nat.ne_of_lt (Nat.lt_succ_self _))
 have I2 := Inv.made (C := C) I
 have r2 : Vals (V.ref (s.heap.objs.size + 1) :: (vs ++ dvs)) (Value.ref (s.heap.objs.size + 1) :: (us ++ ds)) := .cons rfl (r.append hd)
 have hl : (Value.ref (s.heap.objs.size + 1) :: us ++ ds).length = ps.length := by
  have e := r2.length
  rw [F.len _ _ _ _ hq] at e
  exact e.symm
 refine wpAny_call (zlG (f := f) I.kIn M.makes M.init (beq_iff_eq.mp M.fn) (codeAny_mono (F.run _ X.stack _ _ ⟨Value.ref (s.heap.objs.size + 1) :: us, []⟩ (Value.ref (s.heap.objs.size + 1) :: (us ++ ds)) _ _ E (hr.make C us [])
  (I2.env0.make C us []) (hb _ (Value.ref (s.heap.objs.size + 1) :: us) I2.kIn hl) r2 hq) fun r s' hq' => ?_))
 cases r with
 | error e => exact hx pins σ _ _ e s' I2 hq'
 | ok fl =>
  cases fl with
  | ret u =>
   obtain ⟨v, H', I3, rv, ev, q3⟩ := I2.after hq'
   subst ev
   exact ⟨rv, ⟨V.ref (s.heap.objs.size + 1), H', I3, rfl, q3⟩⟩
  | next => exact False.elim hq'
  | brk => exact False.elim hq'
  | cont => exact False.elim hq'
theorem znp (M : Mk X.K C f) (F : FnOk X.prog X.w X.K X.mg X.base CX k f fd ps sp) (hr : Room (k + 1) X.A) (hg : Gl X x) (hm : X.mg x = some (.ref C)) (hb : zdo X.K fd ps ds) (hd : Vals dvs ds) (hx : zeX CX X E)
  (ha : PA X (e :: es) t) (hdb : (x == ("__debug__" : Str)) = false := by decide) (he : starEach (e :: es) X.env = (false, eval e X.env) :: starEach es X.env := by rfl) (hpl : (backTo pos (starEach es X.env)).any (·.1) = false := by rfl) :
  PE X (.Call (.Name x p) (e :: es) [] pos) (zmI C sp dvs E t) := by
 intro pins s σ H Q I h
 refine wpAny_Call_Name_kw (zfR I hg hm ?_ hdb)
 refine PySem.W.callWith_K (h₀ := X.base) I.ok.mod.kin M.kp (thn (ha pos pins s σ H _ I h) fun us s1 ⟨vs, H1, I1, r, q⟩ => ⟨I1.kIn, ?_⟩) he hpl
 exact zkV M F hr hb hd hx I1 r q
end
def PK (X : Cx) (kws : List Keyword) (t : TA) : Prop :=
 ∀ (pos : Pos) (pins : List (Addr × Obj)) (s : Shared) (σ : St) (H : Hp) (Q : List V → Hp → Prop), Inv X pins σ H s → t σ H Q → wpAny (model X.prog X.w) X.A (evalAll ((backToKw pos (keywordEach kws X.env)).map (·.2))) (AP X pins σ Q) X.xe s
section
variable {X : Cx} {CX : CXT} {k : Nat} {f C : Addr} {fd : FuncData} {ps ks : List Str} {sp : Sp} {E : XK} {x m : Str} {p pos apos kpos : Pos} {e o : Expr} {es : List Expr} {kws : List Keyword} {te ta : TE} {t tk : TA} {nm : Option Str}
theorem zmt : PK X [] tNil := fun _ _ _ _ H Q I h => wpAny_evalAll_nil ⟨[], H, I, .nil, h⟩
theorem zjK (ha : PE X e te) (hr : PK X kws t) : PK X (⟨nm, e, kpos⟩ :: kws) (zmJ te t) := by
 intro pos pins s σ H Q I h
 show wpAny _ _ (evalAll ((do let v ← eval e X.env; standAt pos; pure v) :: (backToKw pos (keywordEach kws X.env)).map (·.2))) _ _ s
 refine wpAny_evalAll_cons (wpAny_bind (thn (ha pins s σ H _ I h) fun u s1 ⟨x, H1, I1, r1, q1⟩ => wpAny_bind (wpAny_standAt (wpAny_pure ?_))))
 exact thn (hr pos pins s1 σ H1 _ I1 q1) fun us s2 ⟨xs, H2, I2, r2, q2⟩ => ⟨x :: xs, H2, I2, .cons r1 r2, q2⟩
variable {g : List Value → List Value → List Value} {gV : List V → List V → List V}
end
structure zav (N P : List Str) (sc : Scope) : Prop where
 kind : sc.kind = .function
 co : sc.isCoroutine = false
 gen : sc.isGenerator = false
 nd : N.Nodup
 pre : N.take P.length = P
 par : ∀ x ∈ P, sc.names.lookup x = some .local ∨ sc.names.lookup x = some .cell
 nofree : ∀ y ∈ sc.names, y.2 ≠ .free
theorem zgK {kindOf : Str → Option NameKind} {x : Str} : ∀ {binds : List (Str × Value)} {m : Str → Option Value}, (∀ v, (x, v) ∉ binds) → bindL kindOf binds m x = m x
 | [], _, _ => rfl
 | (n, v) :: r, m, h => by
  unfold bindL
  rw [zgK fun w hw => h w (List.mem_cons_of_mem _ hw)]
  split
  ·have : x ≠ n := by rintro rfl; exact h v List.mem_cons_self
   simp [this]
  ·rfl
theorem zgM {kindOf : Str → Option NameKind} {x : Str} : ∀ {binds : List (Str × Value)} {m : Str → Option Value}, (∀ v, (x, v) ∉ binds) → bindC kindOf binds m x = m x
 | [], _, _ => rfl
 | (n, v) :: r, m, h => by
  unfold bindC
  rw [zgM fun w hw => h w (List.mem_cons_of_mem _ hw)]
  split
  ·rfl
  ·have : x ≠ n := by rintro rfl; exact h v List.mem_cons_self
   simp [this]
theorem zgL {kindOf : Str → Option NameKind} {x : Str} {v : Value} : ∀ {P : List Str} {vs : List Value} {i : Nat} {m : Str → Option Value}, P.Nodup → P[i]? = some x → vs[i]? = some v → kindOf x = some .local →
  bindL kindOf (P.zip vs) m x = some v
 | [], _, _, _, _, h, _, _ => by simp at h
 | _ :: _, [], _, _, _, _, h, _ => by simp at h
 | p :: P, w :: vs, 0, m, nd, h1, h2, hk => by
  simp at h1 h2; subst h1; subst h2
  show bindL kindOf ((p, w) :: P.zip vs) m p = _
  unfold bindL
  rw [zgK fun v hv => (List.nodup_cons.mp nd).1 (List.of_mem_zip hv).1, if_pos hk]
  simp
 | p :: P, w :: vs, i + 1, m, nd, h1, h2, hk => by
  show bindL kindOf ((p, w) :: P.zip vs) m x = _
  unfold bindL
  exact zgL (i := i) (List.nodup_cons.mp nd).2 (by simpa using h1) (by simpa using h2) hk
theorem zgN {kindOf : Str → Option NameKind} {x : Str} {v : Value} : ∀ {P : List Str} {vs : List Value} {i : Nat} {m : Str → Option Value}, P.Nodup → P[i]? = some x → vs[i]? = some v → kindOf x ≠ some .local →
  bindC kindOf (P.zip vs) m x = some v
 | [], _, _, _, _, h, _, _ => by simp at h
 | _ :: _, [], _, _, _, _, h, _ => by simp at h
 | p :: P, w :: vs, 0, m, nd, h1, h2, hk => by
  simp at h1 h2; subst h1; subst h2
  show bindC kindOf ((p, w) :: P.zip vs) m p = _
  unfold bindC
  rw [zgM fun v hv => (List.nodup_cons.mp nd).1 (List.of_mem_zip hv).1, if_neg hk]
  simp
 | p :: P, w :: vs, i + 1, m, nd, h1, h2, hk => by
  show bindC kindOf ((p, w) :: P.zip vs) m x = _
  unfold bindC
  exact zgN (i := i) (List.nodup_cons.mp nd).2 (by simpa using h1) (by simpa using h2) hk
def start (N : List Str) (vs : List V) : St := vs.map some ++ List.replicate (N.length - vs.length) none
def cxOf (CX : CXT) (P : Program) (w : World) (K : PySem.W.Frag) (mg : Str → Option Value) (base : Heap) (N : List Str) (qual : Str) (scope : Scope) (f : Addr) (cd : Value) (A : Around) (outer : List Env) (s : Shared) (H : Hp) (E : XK) : Cx where
 prog := P
 w := w
 K := K
 mg := mg
 base := base
 A := A.deeper (envOfC qual scope s.heap.objs.size f cd)
 N := N
 s₀ := s
 H₀ := H
 env := envOfC qual scope s.heap.objs.size f cd
 outer := outer
 stack := envOfC qual scope s.heap.objs.size f cd :: outer
 ex := []
 calm := true
 fn := fun _ => true
 pn := []
 xe := fun e s' => wpAny (model P w) (A.deeper (envOfC qual scope s.heap.objs.size f cd)) (leaving (envOfC qual scope s.heap.objs.size f cd) e) (fun _ s'' => CX outer H s E e s'') (fun e' s'' => CX outer H s E e' s'') s'
theorem zhY {sc : Scope} {n : Nat} {x : Str} (h : sc.names.lookup x = some .cell) : ∃ c, (cellsFrom n sc.names []).lookup x = some c := by
 have q := PySem.W.cellsFrom_some sc.names n [] (.inl h)
 exact Option.isSome_iff_exists.mp q
theorem zkf {CX : CXT} {P : Program} {w : World} {K : PySem.W.Frag} {mg : Str → Option Value} {base : Heap} {N ps : List Str} {qual : Str} {scope : Scope} {f : Addr} {cd : Value} {A : Around} {outer : List Env} {s s1 : Shared} {H : Hp} {E : XK} {us : List Value} {vs : List V}
  (S : zav N ps scope) (hd : A.handled = none) (e0 : Env0 P w K mg base A outer s H) (hl : vs.length = ps.length) (r : Vals vs us)
  (x : InCallC s s.heap.objs.size (bindL (envOfC qual scope s.heap.objs.size f cd).kindOf (ps.zip us) fun _ => none) (cellsFrom (s.heap.objs.size + 1) scope.names []) (bindC (envOfC qual scope s.heap.objs.size f cd).kindOf (ps.zip us) fun _ => none) s1) :
  Inv (cxOf CX P w K mg base N qual scope f cd A outer s H E) [] (start N vs) H s1 := by
 have hpl : ps.length ≤ N.length := by have := congrArg List.length S.pre; rw [List.length_take] at this; omega
 obtain ⟨h1, tk, rfl, hk⟩ := x.done
 have noA : ∀ b : Addr, b ∉ (cxOf CX P w K mg base N qual scope f cd A outer s H E).ex := fun b z => absurd (show b ∈ ([] : List Addr) from z) (by simp)
 refine ⟨⟨e0.mod, S.kind, rfl, rfl, Nat.le_refl _, fun y z c h1 h2 => ?_, fun y hy => ?_, fun y c _ h => ?_, fun _ => hd, Around.frames_deeper e0.frames, .inr ⟨rfl, rfl⟩, fun b z => absurd z (noA b), e0.bs, e0.bsz, fun b _ _ => noA b, fun b z => absurd z (noA b), e0.funs, e0.frf⟩,
  rfl, e0.bare, Un.kept hk, ⟨_, x.toInCall.ns, fun i y v h1 h2 h3 => ?_⟩, fun y c h => ⟨_, x.cell y c h⟩, e0.hok.fresh (Nat.le_refl _), fun y c h => ?_, fun p hp => absurd (show p ∈ ([] : List (Addr × Obj)) from hp) (by simp), e0.hok.kept hk, ?_⟩
 ·exact name_of_addr x.apart (PySem.mem_of_lookup h1) (PySem.mem_of_lookup h2)
 ·have hy : scope.names.lookup y = some .cell ∨ scope.names.lookup y = some .free := hy
  rcases hy with hy | hy
  ·exact zhY hy
  ·exact absurd rfl (S.nofree _ (PySem.mem_of_lookup hy))
 ·exact Nat.le_of_lt (x.above y c (PySem.mem_of_lookup h))
 ·have hi : i < vs.length := by
   unfold start at h2
   by_cases hi : i < vs.length
   ·exact hi
   ·rw [List.getElem?_append_right (by simpa using hi)] at h2
    rw [List.getElem?_replicate] at h2
    split at h2 <;> cases h2
  have ha : vs[i]? = some v := by
   unfold start at h2
   rw [List.getElem?_append_left (by simpa using hi), List.getElem?_map] at h2
   cases e : vs[i]? with
   | none => rw [e] at h2; cases h2
   | some a => rw [e] at h2; cases h2; rfl
  obtain ⟨u, hu, rv⟩ := r.get ha
  have hp : ps[i]? = some y := by
   rw [← S.pre, List.getElem?_take_of_lt (by omega)]; exact h1
  have ndP : ps.Nodup := by rw [← S.pre]; exact S.nd.sublist (List.take_sublist _ _)
  refine ⟨u, rv, ?_⟩
  rcases S.par y (List.mem_of_getElem? hp) with k | k
  ·exact .inl ⟨k, zgL ndP hp hu k⟩
  ·obtain ⟨c, e⟩ := zhY (n := s.heap.objs.size + 1) k
   refine .inr ⟨.inl k, c, e, ?_⟩
   have q := x.cell y c e
   rw [zgN ndP hp hu (by show scope.names.lookup y ≠ _; rw [k]; decide)] at q
   exact q
 ·exact e0.hok.fresh (Nat.le_of_lt (x.above y c (PySem.mem_of_lookup h)))
 ·unfold start
  show _ = N.length
  rw [List.length_append, List.length_map, List.length_replicate]
  omega
theorem zpF {CX : CXT} {P : Program} {w : World} {K : PySem.W.Frag} {mg : Str → Option Value} {base : Heap} {k : Nat} {f : Addr} {name qual : Str} {params : Arguments} {body : List Stmt} {scope : Scope} {dV kV doc pm cdv ct oc : Value} {an od : Option Addr}
  {osl : Array (Option Value)} {N ps : List Str} {sp : Sp} (lk : K.lookup f = some ⟨oc, od, .func (PySem.W.fnOf name qual params body scope dV kV doc pm an cdv ct), osl⟩) (hcd : PySem.W.codeIn K cdv qual = true) (S : zav N ps scope)
  (len : ∀ vs H Q E, sp vs H Q E → vs.length = ps.length)
  (hbody : ∀ (A : Around) (outer : List Env) (s : Shared) (H : Hp) (vs : List V) (Q : VK) (E : XK), Room k (A.deeper (envOfC qual scope s.heap.objs.size f cdv)) → sp vs H Q E →
   ∃ t, PSs (cxOf CX P w K mg base N qual scope f cdv A outer s H E) body t ∧ t { nx := fun _ H' => Q .non H', rt := Q } (start N vs) H) :
  FnOk P w K mg base CX (k + 1) f (PySem.W.fnOf name qual params body scope dV kV doc pm an cdv ct) ps sp := by
 refine ⟨len, fun A outer s H args us vs Q E hr e0 hb r hsp => ?_⟩
 have hl := len _ _ _ _ hsp
 have KX : K.In s.heap := e0.mod.kin.keeps fun b o e => (e0.bs b o e).1
 have lim : s.heap.NoLimit := e0.mod.nolimit.keeps fun b o e => (e0.bs b o e).1
 have hkind : ∀ y ∈ ps.zip us, scope.names.lookup y.1 = some .local ∨ (scope.names.lookup y.1 = some .cell ∧ ((cellsFrom (s.heap.objs.size + 1) scope.names []).lookup y.1).isSome = true) := fun ⟨n, v⟩ hy => by
  rcases S.par n (List.of_mem_zip hy).1 with q | q
  ·exact .inl q
  ·exact .inr ⟨q, PySem.W.cellsFrom_some _ _ _ (.inl q)⟩
 refine codeAny_call_function hr.depth (KX _ _ lk) rfl S.co S.gen rfl (PySem.W.codeRec_of KX hcd) (hb _ _ _ _ ?_)
 refine wpAny_newFunctionEnv_cells S.kind hkind fun env he s1 x => ?_
 subst he
 refine ⟨lim.keeps x.toInCall.keep, codeAny_func ?_⟩
 obtain ⟨t, ht, hq⟩ := hbody A outer s H vs Q E (hr.deeper _) hsp
 have I : Inv (cxOf CX P w K mg base N qual scope f cdv A outer s H E) [] (start N vs) H s1 := zkf S hr.hd e0 hl r x
 refine wpAny_mono (ht [] s1 (start N vs) H _ I hq) (fun fl s' hs => ?_) fun e s' hs => hs
 have fin : ∀ {σ' : St} {H' : Hp} {v : V} {u : Value}, Inv (cxOf CX P w K mg base N qual scope f cdv A outer s H E) [] σ' H' s' → RelV v u → Q v H' → CE outer P w H s Q u s' :=
  fun {σ' H' v u} J rv q => ⟨v, H', J.os, J.bare, J.base, J.hok, rv, q⟩
 cases fl with
 | ret u =>
  obtain ⟨v, σ', H', J, rv, q⟩ := hs
  exact fin J rv q
 | next =>
  obtain ⟨σ', H', J, q⟩ := hs
  exact fin (v := V.non) (u := Value.none) J rfl q
 | brk =>
  obtain ⟨_, _, _, q⟩ := hs
  exact False.elim q
 | cont =>
  obtain ⟨_, _, _, q⟩ := hs
  exact False.elim q
end L2
namespace L2
open PySem PySem.Spec PyProof.Rows
section
variable {X : Cx} {x : Str} {p pos : Pos} {e : Expr} {es : List Expr} {t : TA} {id T : String} {r : List V → Hp → VK → Prop}
def tCB (r : List V → Hp → VK → Prop) (t : TA) : TE := fun σ H Q => t σ H fun vs H1 => r vs H1 Q
theorem zak (hc : zci X (.builtin id) r) (hg : Gl X x) (hm : X.mg x = none) (hv : bootBuiltins x = some (.builtin id)) (ha : PA X (e :: es) t) (hn : x ≠ "__name__" := by decide) (hdb : (x == ("__debug__" : Str)) = false := by decide)
  (he : starEach (e :: es) X.env = (false, eval e X.env) :: starEach es X.env := by rfl) (hpl : (backTo pos (starEach es X.env)).any (·.1) = false := by rfl) : PE X (.Call (.Name x p) (e :: es) [] pos) (tCB r t) := by
 intro pins s σ H Q I h
 refine wpAny_Call_Name_kw (zdk I hg hm hv ?_ hn hdb)
 exact PyProof.Rows.callWith_builtin1 (thn (ha pos pins s σ H _ I h) fun us s1 ⟨vs, H1, I1, r1, q1⟩ => hc pins s1 σ H1 vs us Q I1 r1 q1) he hpl
theorem zbW (hc : zci X (.type T) r) (hg : Gl X x) (hm : X.mg x = none) (hv : bootBuiltins x = some (.type T)) (ha : PA X (e :: es) t) (hn : x ≠ "__name__" := by decide) (hdb : (x == ("__debug__" : Str)) = false := by decide)
  (he : starEach (e :: es) X.env = (false, eval e X.env) :: starEach es X.env := by rfl) (hpl : (backTo pos (starEach es X.env)).any (·.1) = false := by rfl) : PE X (.Call (.Name x p) (e :: es) [] pos) (tCB r t) := by
 intro pins s σ H Q I h
 refine wpAny_Call_Name_kw (zdk I hg hm hv ?_ hn hdb)
 exact PyProof.Rows.callWith_type1 (thn (ha pos pins s σ H _ I h) fun us s1 ⟨vs, H1, I1, r1, q1⟩ => hc pins s1 σ H1 vs us Q I1 r1 q1) he hpl
end
end L2
namespace HT
open PySem PyProof.Rows
section
open PySem.SeqAt
open PySem.AutoSeq1 (wpAny_loadPart')
open PySem.MeetsSeq PySem.MeetsSeq2 PySem.MeetsSeq3
end
section
variable {prog : Program} {w : World} {A : Around} {E : Value → Shared → Prop} {s : Shared}
def sIx (n d : Nat) : Option Int → Nat
 | none => d
 | some v => if v < 0 then (v + (n : Int)).toNat else min v.toNat n
theorem sIx_none (n d : Nat) : sIx n d none = d := rfl
theorem sIx_nat (n d k : Nat) : sIx n d (some (k : Int)) = min k n := by
 show (if (k : Int) < 0 then ((k : Int) + (n : Int)).toNat else min (k : Int).toNat n) = min k n
 rw [if_neg (by omega), Int.toNat_natCast]
theorem zoB (n d : Nat) (hd : d ≤ n) (o : Option Int) : sIx n d o ≤ n := by
 cases o with
 | none => exact hd
 | some v =>
  show (if v < 0 then (v + (n : Int)).toNat else min v.toNat n) ≤ n
  by_cases hv : v < 0
  ·rw [if_pos hv]; omega
  ·rw [if_neg hv]; exact Nat.min_le_right _ _
theorem zkx (v : Int) (n d : Nat) : (if v < 0 then max (v + (n : Int)) 0 else min v (n : Int)) = ((sIx n d (some v) : Nat) : Int) := by
 show (if v < 0 then max (v + (n : Int)) 0 else min v (n : Int)) = (((if v < 0 then (v + (n : Int)).toNat else min v.toNat n) : Nat) : Int)
 by_cases hv : v < 0
 ·simp only [if_pos hv]; omega
 ·simp only [if_neg hv]; omega
theorem ziw (lo hi : Option Int) (n : Nat) : Builtin.Slice.sliceAdjust lo hi 1 (n : Int) = (((sIx n 0 lo : Nat) : Int), ((sIx n n hi : Nat) : Int)) := by
 have h1 : ¬ ((1 : Int) < 0) := by omega
 unfold Builtin.Slice.sliceAdjust
 simp only [h1, if_false]
 refine Prod.ext ?_ ?_
 ·cases lo with
  | none => rfl
  | some v => exact zkx v n 0
 ·cases hi with
  | none => rfl
  | some v => exact zkx v n n
theorem zh8 (i j : Nat) : Builtin.Slice.slicePlaces (i : Int) (j : Int) 1 = j - i := by
 unfold Builtin.Slice.slicePlaces
 have h1 : (1 : Int) > 0 := by omega
 simp only [h1, if_true, Int.ediv_one]
 split <;> omega
theorem ze8 {v : Value} {o : Option Int} {Q : Option Int → Shared → Prop} (p : IsPart v o) (h : Q o s) : wpAny (model prog w) A (Builtin.Slice.slicePartIndex v) Q E s := by
 cases p with
 | none => exact slicePart_none h
 | int i t => exact slicePart_int h
theorem zem {sl : Addr} {vl vu : Value} {lo hi : Option Int} {n : Nat} {Q : Int × Int × Nat → Shared → Prop} (hs : s.heap.IsSliceOf sl vl vu .none) (pl : IsPart vl lo) (pu : IsPart vu hi)
  (h : Q (((sIx n 0 lo : Nat) : Int), 1, sIx n n hi - sIx n 0 lo) s) : wpAny (model prog w) A (Builtin.Slice.sliceApplied (.ref sl) (pure (n : Int))) Q E s := by
 obtain ⟨os, hos, hcs, hds⟩ := id hs
 unfold Builtin.Slice.sliceApplied Builtin.Slice.sliceFields
 refine wpAny_bind (wpAny_bind (wpAny_field hos hds (x := vl) rfl (wpAny_bind (wpAny_field hos hds (x := vu) rfl (wpAny_bind (wpAny_field hos hds (x := .none) rfl (wpAny_pure ?_)))))))
 refine wpAny_bind (slicePart_none ?_)
 show wpAny _ _ (if ((1 : Int) == 0) = true then _ else _) _ _ s
 rw [if_neg (by decide)]
 refine wpAny_bind (ze8 pl (wpAny_bind (ze8 pu (wpAny_bind (wpAny_pure ?_)))))
 show wpAny _ _ (match Builtin.Slice.sliceAdjust lo hi 1 (n : Int) with | (lo, hi) => pure (lo, (1 : Int), Builtin.Slice.slicePlaces lo hi 1)) _ _ s
 rw [ziw lo hi n]
 show wpAny _ _ (pure (((sIx n 0 lo : Nat) : Int), (1 : Int), Builtin.Slice.slicePlaces ((sIx n 0 lo : Nat) : Int) ((sIx n n hi : Nat) : Int) 1)) _ _ s
 rw [zh8]
 exact wpAny_pure h
theorem zlf (xs : Array Value) (i k : Nat) : ((List.range k).filterMap fun (m : Nat) => xs[((i : Int) + (m : Int) * 1).toNat]?).toArray = ((xs.toList.drop i).take k).toArray := by
 have e : (fun (m : Nat) => xs[((i : Int) + (m : Int) * 1).toNat]?) = fun m => xs[i + m]? := by
  funext m
  have : ((i : Int) + (m : Int) * 1).toNat = i + m := by omega
  rw [this]
 rw [e]
 have := pick_run xs i k
 rw [List.filterMap_map] at this
 have e2 : ((fun x => xs[x]?) ∘ fun x => i + x) = fun m => xs[i + m]? := rfl
 rw [e2] at this
 rw [this]
theorem getItem_tuple_cut {t sl : Addr} {items : Array Value} {vl vu : Value} {lo hi : Option Int} {Q : Value → Shared → Prop} (ht : IsTup s.heap t items) (hs : s.heap.IsSliceOf sl vl vu .none) (pl : IsPart vl lo) (pu : IsPart vu hi)
  (hw : ¬ (sIx items.size 0 lo = 0 ∧ sIx items.size items.size hi = items.size))
  (h : Q (.ref s.heap.objs.size) { s with heap := s.heap.push { cls := .type "tuple", data := .seq ((items.toList.drop (sIx items.size 0 lo)).take (sIx items.size items.size hi - sIx items.size 0 lo)).toArray } })
  (hsz : items.size ≤ sizeLine) : wpAny (model prog w) A (getItem (.ref t) (.ref sl)) Q E s := by
 have htake : sizeOk (.seq ((items.toList.drop (sIx items.size 0 lo)).take (sIx items.size items.size hi - sIx items.size 0 lo)).toArray) := by
  show ((items.toList.drop (sIx items.size 0 lo)).take (sIx items.size items.size hi - sIx items.size 0 lo)).toArray.size ≤ sizeLine
  rw [List.size_toArray, List.length_take, List.length_drop, Array.length_toList]
  omega
 have hj : sIx items.size items.size hi ≤ items.size := zoB _ _ (Nat.le_refl _) hi
 obtain ⟨os, hos, hcs, hds⟩ := id hs
 have hTs : s.TypeIs (.ref sl) "slice" := ⟨os, hos, hcs⟩
 unfold getItem
 try with_reducible refine wpAny_holding ?_
 first | refine wpAny_bind (wpAny_pure ?_) | skip
 refine wpAny_bind (wpAny_sequenceKey ht.typeIs (by decide) ?_)
 refine wpAny_bind (wpAny_callSpecial?_slot (name := Str.ofString "__getitem__") ht.typeIs PyProof.Rows.slot_tuple_getitem
  (wpAny_call_entry PyProof.Rows.slot_tuple_getitem ht.typeIs entry_tuple_getitem ?_ (args_tuple_getitem _ _)))
 show wpAny _ _ (Builtin.Tuple.tupleItemsOf (.ref t) >>= _) _ _ s
 refine wpAny_bind (tupleItemsOf_ ht ?_)
 refine wpAny_bind (wpAny_typeOf hTs ?_)
 rw [if_pos (by decide)]
 refine wpAny_bind (zem hs pl pu ?_)
 have hno : ¬ ((((sIx items.size 0 lo : Nat) : Int) == 0 && (1 : Int) == 1 && (sIx items.size items.size hi - sIx items.size 0 lo) == items.size) = true) := by
  intro q
  rw [Bool.and_eq_true, Bool.and_eq_true] at q
  have q1 : ((sIx items.size 0 lo : Nat) : Int) = 0 := eq_of_beq q.1.1
  have q2 : sIx items.size items.size hi - sIx items.size 0 lo = items.size := eq_of_beq q.2
  exact hw ⟨by omega, by omega⟩
 show wpAny _ _ (if (((sIx items.size 0 lo : Nat) : Int) == 0 && (1 : Int) == 1 && (sIx items.size items.size hi - sIx items.size 0 lo) == items.size) = true then _ else _) _ _ s
 rw [if_neg hno, zlf]
 first
  | exact wpAny_bind (m := Builtin.Tuple.tupleExact _) (wpAny_newObj_type (wpAny_pure ⟨_, rfl, wpAny_pure h⟩) htake)
  | exact wpAny_bind (m := Builtin.Tuple.tupleExact _) (wpAny_newObj_type (wpAny_bind (wpAny_pure (wpAny_pure ⟨_, rfl, wpAny_pure h⟩))) htake)
  | exact wpAny_bind (wpAny_bind (m := Builtin.Tuple.tupleExact _) (wpAny_newObj_type (wpAny_pure (wpAny_pure ⟨_, rfl, wpAny_pure h⟩)) htake))
  | exact wpAny_bind (wpAny_bind (m := Builtin.Tuple.tupleExact _) (wpAny_newObj_type (wpAny_pure ⟨_, rfl, wpAny_pure h⟩) htake))
end
end HT
namespace L2
open PySem PySem.Spec PyProof.Rows
abbrev TO := St → Hp → (Option Int → Hp → Prop) → Prop
def PO (X : Cx) (e : Option Expr) (t : TO) : Prop :=
 ∀ (pins : List (Addr × Obj)) (s : Shared) (σ : St) (H : Hp) (Q : Option Int → Hp → Prop), Inv X pins σ H s → t σ H Q →
  wpAny (model X.prog X.w) X.A (evalPart e X.env) (fun u s' => ∃ o H', Inv X pins σ H' s' ∧ IsPart u o ∧ Q o H') X.xe s
def ziQ : TO := fun _ H Q => Q none H
def zoo (t : TE) : TO := fun σ H Q => t σ H fun x H1 => ∃ i, x = .int i ∧ Q (some i) H1
theorem zfl {ns : List Int} : ∀ {us : List Value}, Vals (ns.map V.int) us → IntsAre us ns := by
 induction ns with
 | nil => intro us r; rw [List.map_nil] at r; cases r; exact .nil
 | cons n ns ih =>
  intro us r
  rw [List.map_cons] at r
  cases r with
  | cons r1 r2 =>
   obtain ⟨t, e⟩ := r1
   subst e
   exact .cons n t (ih r2)
section
variable {X : Cx} {e : Expr} {te : TE} {lo hi : Option Expr} {tl th : TO} {pos p2 : Pos}
theorem zeG : PO X none ziQ := by
 intro pins s σ H Q I h
 rw [evalPart_none]
 exact wpAny_pure ⟨none, H, I, .none, h⟩
theorem zcY (h : PE X e te) : PO X (some e) (zoo te) := by
 intro pins s σ H Q I hw
 rw [evalPart_some]
 refine thn (h pins s σ H _ I hw) fun u s1 ⟨x, H1, I1, r1, q1⟩ => ?_
 obtain ⟨i, rfl, q⟩ := q1
 obtain ⟨t, rfl⟩ := r1
 exact ⟨some i, H1, I1, .int i t, q⟩
def SlR (X : Cx) (r : V → Option Int → Option Int → Hp → VK → Prop) : Prop :=
 ∀ (pins : List (Addr × Obj)) (s : Shared) (σ : St) (H : Hp) (x : V) (v vl vu : Value) (lo hi : Option Int) (sl : Addr) (Q : VK), Inv X pins σ H s → RelV x v → s.heap.IsSliceOf sl vl vu .none → IsPart vl lo → IsPart vu hi → r x lo hi H Q →
  ∃ T id, typeLookup (.type T) "__getitem__" = pure (some (.builtin id)) ∧ s.TypeIs v T ∧ wpAny (model X.prog X.w) X.A (getItem v (.ref sl)) (EP X pins σ Q) X.xe s
def tSl (r : V → Option Int → Option Int → Hp → VK → Prop) (te : TE) (tl th : TO) : TE := fun σ H Q => te σ H fun x H1 => tl σ H1 fun l H2 => th σ H2 fun u H3 => r x l u H3 Q
theorem zdY {r : V → Option Int → Option Int → Hp → VK → Prop} (hr : SlR X r) (he : PE X e te) (hl : PO X lo tl) (hu : PO X hi th) : PE X (.Subscript e (.Slice lo hi none p2) pos) (tSl r te tl th) := by
 intro pins s σ H Q I h
 refine Subscript_ (thn (he pins s σ H _ I h) fun v s1 ⟨x, H1, I1, r1, q1⟩ => ?_)
 refine wpAny_Slice (thn (hl pins s1 σ H1 _ I1 q1) fun vl s2 ⟨l, H2, I2, pl, q2⟩ => thn (hu pins s2 σ H2 _ I2 q2) fun vu s3 ⟨u, H3, I3, pu, q3⟩ => ?_)
 rw [evalPart_none]
 refine wpAny_pure ?_
 have I4 : Inv X pins σ H3 { s3 with heap := s3.heap.push { cls := .type "slice", data := .fields #[vl, vu, .none] } } := I3.kept (t' := s3.toks) fun b ob q => Heap.get?_push_of_some _ q
 obtain ⟨T, id, hT, ht, hg⟩ := hr pins { s3 with heap := s3.heap.push { cls := .type "slice", data := .fields #[vl, vu, .none] } } σ H3 x v vl vu l u s3.heap.objs.size Q I4 r1 (Heap.IsSliceOf.new ..) pl pu q3
 show wpAny (model X.prog X.w) X.A (subscriptTail e (.Slice lo hi none p2) v (.ref s3.heap.objs.size)) (EP X pins σ Q) X.xe { s3 with heap := s3.heap.push { cls := .type "slice", data := .fields #[vl, vu, .none] } }
 exact tail_any (ops := [.ref s3.heap.objs.size, v]) ht hT hg (by with_unfolding_all rfl)
def cutV (xs : List V) (lo hi : Option Int) : List V := (xs.drop (HT.sIx xs.length 0 lo)).take (HT.sIx xs.length xs.length hi - HT.sIx xs.length 0 lo)
theorem zeR (xs : List V) (lo hi : Option Int) : (cutV xs lo hi).length ≤ xs.length := by
 unfold cutV
 rw [List.length_take, List.length_drop]
 omega
def rSlT (K : PySem.W.Frag) : V → Option Int → Option Int → Hp → VK → Prop := fun x lo hi H Q => ∃ a xs, x = .ref a ∧ SqT K H a xs ∧
 ¬ (HT.sIx xs.length 0 lo = 0 ∧ HT.sIx xs.length xs.length hi = xs.length) ∧ ∀ p, H p = none → Q (.ref p) (upd H p (.tup (cutV xs lo hi)))
theorem zoA : SlR X (rSlT X.K) := by
 intro pins s σ H x v vl vu lo hi sl Q I rx hs pl pu h
 obtain ⟨a, xs, rfl, hx, hw, q⟩ := h
 cases rx
 obtain ⟨its, r, ht, hz⟩ := I.tuple hx
 have hlen : its.toArray.size = xs.length := by rw [List.size_toArray]; exact r.length.symm
 refine ⟨"tuple", _, PyProof.Rows.slot_tuple_getitem.lookup, ht.typeIs, ?_⟩
 refine HT.getItem_tuple_cut ht hs pl pu (by rw [hlen]; exact hw) ?_ (by rw [hlen]; exact hz)
 rw [hlen]
 refine ⟨.ref s.heap.objs.size, _, I.laid (t' := s.toks) (o := .tup (cutV xs lo hi)) (fun b ob q => Heap.get?_push_of_some _ q) (Nat.le_refl _) ?_, rfl, q _ (I.hok.fresh (Nat.le_refl _))⟩
 exact ⟨Nat.le_trans (zeR xs lo hi) hz, _, (r.drop (HT.sIx xs.length 0 lo)).take (HT.sIx xs.length xs.length hi - HT.sIx xs.length 0 lo), IsTup.new _ _⟩
end
end L2
namespace L2
open PySem PySem.Spec PyProof.Rows
def ixN (n : Nat) (i : Int) : Option Nat := if 0 ≤ i then (if i < n then some i.toNat else none) else if -(n : Int) ≤ i then some (i + n).toNat else none
def atI {α : Type} (xs : List α) (i : Int) : Option α := (ixN xs.length i).bind fun j => xs[j]?
theorem znU {n : Nat} {i : Int} {j : Nat} (h : ixN n i = some j) : seqIndex? i n = some j ∧ j < n ∧ -(n : Int) ≤ i ∧ i < n := by
 unfold ixN at h
 by_cases h0 : 0 ≤ i
 ·rw [if_pos h0] at h
  by_cases h1 : i < n
  ·rw [if_pos h1] at h
   have e : i.toNat = j := Option.some.inj h
   exact ⟨by rw [seqIndex_of h0 h1, e], by omega, by omega, h1⟩
  ·rw [if_neg h1] at h; cases h
 ·rw [if_neg h0] at h
  by_cases h1 : -(n : Int) ≤ i
  ·rw [if_pos h1] at h
   have e : (i + n).toNat = j := Option.some.inj h
   exact ⟨by rw [seqIndex_neg (by omega) h1, e], by omega, h1, by omega⟩
  ·rw [if_neg h1] at h; cases h
theorem zkH {α : Type} {xs : List α} {i : Int} {v : α} (h : atI xs i = some v) : ∃ j, seqIndex? i xs.length = some j ∧ xs[j]? = some v ∧ j < xs.length ∧ -(xs.length : Int) ≤ i ∧ i < xs.length := by
 unfold atI at h
 cases e : ixN xs.length i with
 | none => rw [e] at h; cases h
 | some j =>
  rw [e] at h
  obtain ⟨h1, h2, h3, h4⟩ := znU e
  exact ⟨j, h1, h, h2, h3, h4⟩
theorem zcj {α : Type} {xs : List α} {j : Nat} {v : α} (h : xs[j]? = some v) : atI xs (j : Int) = some v := by
 have hj : j < xs.length := (List.getElem?_eq_some_iff.mp h).1
 have e : ixN xs.length (j : Int) = some j := by
  unfold ixN
  rw [if_pos (by omega), if_pos (by omega)]; simp
 unfold atI; rw [e]; exact h
def zoh (b : Expr) : Prop := ∀ o i, subscripted b false o i = operate [o, i] (getItem o i)
def IxR (X : Cx) (r : R2) : Prop :=
 ∀ (value slice : Expr) (pins : List (Addr × Obj)) (s : Shared) (σ : St) (H : Hp) (x y : V) (v u : Value) (Q : VK), Inv X pins σ H s → RelV x v → RelV y u → r x y H Q →
  subscripted slice false v u = operate [v, u] (getItem v u) → wpAny (model X.prog X.w) X.A (subscriptTail value slice v u) (EP X pins σ Q) X.xe s
def MtR (X : Cx) (id : String) (r : V → List V → Hp → VK → Prop) : Prop :=
 ∀ (pins : List (Addr × Obj)) (s : Shared) (σ : St) (H : Hp) (x : V) (xs : List V) (v : Value) (us : List Value) (Q : VK), Inv X pins σ H s → RelV x v → Vals xs us → r x xs H Q →
  wpAny (model X.prog X.w) X.A (call (.builtin id) (v :: us)) (EP X pins σ Q) X.xe s
section
variable {X : Cx} {a b : Expr} {ta tb : TE} {pos : Pos}
theorem zaJ {r : R2} (hr : IxR X r) (ha : PE X a ta) (hb : PE X b tb) (hs : zoh b) : PE X (.Subscript a b pos) (tOp r ta tb) := by
 intro pins s σ H Q I h
 exact Subscript_ (binT ha hb I h fun v u s2 x y H2 I2 rx ry q => hr a b pins s2 σ H2 x y v u Q I2 rx ry q (hs _ _))
def rIxL (K : PySem.W.Frag) : R2 := fun x y H Q => ∃ p xs i v, x = .ref p ∧ y = .int i ∧ SqL K H p xs ∧ atI xs i = some v ∧ Q v H
def rIxT (K : PySem.W.Frag) : R2 := fun x y H Q => ∃ p xs i v, x = .ref p ∧ y = .int i ∧ SqT K H p xs ∧ atI xs i = some v ∧ Q v H
theorem znT : IxR X (rIxL X.K) := by
 intro value slice pins s σ H x y v u Q I rx ry h hs
 obtain ⟨p, xs, i, z, rfl, rfl, hq, he, q⟩ := h
 cases rx
 obtain ⟨t, rfl⟩ := ry
 obtain ⟨its, r, pl, hz⟩ := I.list hq
 obtain ⟨j, h1, h2, h3, h4, h5⟩ := zkH he
 obtain ⟨w, ew, rw'⟩ := r.get h2
 have hl := r.length
 have hn := zhJ
 have fin : EP X pins σ Q w s := ⟨z, H, I, rw', q⟩
 by_cases h0 : 0 ≤ i
 ·have hj : i.toNat = j := by
   rw [seqIndex_of h0 h5] at h1
   exact Option.some.inj h1
  exact item_listR pl.isList h0 (by omega) (by rw [hj]; simpa using ew) fin hs
 ·have hj : (i + (its.toArray.size : Int)).toNat = j := by
   rw [seqIndex_neg (by omega) h4] at h1
   rw [List.size_toArray, ← hl]
   exact Option.some.inj h1
  exact subscriptTail_builtinR (x := w) pl.isList.typeIs slot_list_getitem.lookup
   (wpAny_getItem_list_neg (Q := fun r s' => r = w ∧ EP X pins σ Q r s') pl.isList (by omega) (by rw [List.size_toArray] <;> omega) (by omega) (by rw [hj]; simpa using ew) ⟨rfl, fin⟩) hs
theorem zpy : IxR X (rIxT X.K) := by
 intro value slice pins s σ H x y v u Q I rx ry h hs
 obtain ⟨p, xs, i, z, rfl, rfl, hq, he, q⟩ := h
 cases rx
 obtain ⟨t, rfl⟩ := ry
 obtain ⟨its, r, pl, hz⟩ := I.tuple hq
 obtain ⟨j, h1, h2, h3, h4, h5⟩ := zkH he
 obtain ⟨w, ew, rw'⟩ := r.get h2
 have hl := r.length
 have hn := zhJ
 have fin : EP X pins σ Q w s := ⟨z, H, I, rw', q⟩
 exact subscriptTail_builtinR (x := w) pl.typeIs slot_tuple_getitem.lookup
  (getItem_tuple (j := j) (Q := fun r s' => r = w ∧ EP X pins σ Q r s') pl (by omega) (by omega) (by rw [List.size_toArray, ← hl]; exact h1) (by simpa using ew) ⟨rfl, fin⟩) hs
theorem Inv.lst {pins : List (Addr × Obj)} {σ : St} {H : Hp} {s : Shared} {p : Addr} {xs : List V} (I : Inv X pins σ H s) (h : H p = some (.lst xs)) :
  ∃ (its : List Value) (n : Nat), Vals xs its ∧ s.heap.get? p = some { cls := .type "list", data := .seq its.toArray n } ∧ xs.length ≤ sizeLine := by
 obtain ⟨z, its, n, r, e⟩ := I.hok p _ h
 exact ⟨its, n, r, e, z⟩
theorem zgg (lo hi : Option Int) (n : Nat) : (sliceBounds lo hi none n).1 = ((HT.sIx n 0 lo : Nat) : Int) ∧ (sliceBounds lo hi none n).2.1 = ((HT.sIx n n hi : Nat) : Int) ∧ (sliceBounds lo hi none n).2.2 = 1 := by
 refine ⟨?_, ?_, rfl⟩
 ·cases lo with
  | none => simp [sliceBounds, HT.sIx]
  | some i =>
   simp only [sliceBounds, HT.sIx, Option.getD_none, show (1 : Int) > 0 by decide, if_true]
   by_cases h : i < 0
   ·simp only [h, if_true] <;> omega
   ·simp only [h, if_false] <;> omega
 ·cases hi with
  | none => simp [sliceBounds, HT.sIx]
  | some i =>
   simp only [sliceBounds, HT.sIx, Option.getD_none, show (1 : Int) > 0 by decide, if_true]
   by_cases h : i < 0
   ·simp only [h, if_true] <;> omega
   ·simp only [h, if_false] <;> omega
theorem zfB (its : List Value) (lo hi : Option Int) : slicePick its.toArray lo hi none = ((its.drop (HT.sIx its.length 0 lo)).take (HT.sIx its.length its.length hi - HT.sIx its.length 0 lo)).toArray := by
 obtain ⟨h1, h2, h3⟩ := zgg lo hi its.toArray.size
 unfold slicePick
 rw [h1, h2, h3]
 simp only [sliceRange_one, pick_run, List.size_toArray] <;> rfl
def rSlL (K : PySem.W.Frag) : V → Option Int → Option Int → Hp → VK → Prop := fun x lo hi H Q => ∃ a xs, x = .ref a ∧ SqL K H a xs ∧ ∀ p, H p = none → Q (.ref p) (upd H p (.lst (cutV xs lo hi)))
theorem zmK : SlR X (rSlL X.K) := by
 intro pins s σ H x v vl vu lo hi sl Q I rx hs pl pu h
 obtain ⟨a, xs, rfl, hx, q⟩ := h
 cases rx
 obtain ⟨its, r, ht, hz⟩ := I.list hx
 have hlen := r.length
 refine ⟨"list", _, slot_list_getitem.lookup, ht.isList.typeIs, ?_⟩
 refine wpAny_getItem_list_slice ht.isList hs pl pu .none (by simp) ?_ (by rw [List.size_toArray] <;> omega)
 rw [zfB, ← hlen]
 refine ⟨.ref s.heap.objs.size, _, I.laid (t' := s.toks) (o := .lst (cutV xs lo hi)) (fun b ob q => Heap.get?_push_of_some _ q) (Nat.le_refl _) ?_, rfl, q _ (I.hok.fresh (Nat.le_refl _))⟩
 exact ⟨Nat.le_trans (zeR xs lo hi) hz, _, 0, (r.drop (HT.sIx xs.length 0 lo)).take (HT.sIx xs.length xs.length hi - HT.sIx xs.length 0 lo), Heap.get?_push_size _ rfl⟩
def zd6 : V → Bool
 | .non => true
 | .bl _ => true
 | .int _ => true
 | .str _ => true
 | _ => false
def eqV : V → V → Bool
 | .non, .non => true
 | .bl a, .bl b => a == b
 | .bl a, .int b => (if a then 1 else 0) == b
 | .int a, .bl b => a == (if b then 1 else 0)
 | .int a, .int b => a == b
 | .str a, .str b => a == b
 | _, _ => false
theorem zpG {A : Around} {s : Shared} {y x : V} {u v : Value} (ry : RelV y u) (rx : RelV x v) (fy : zd6 y = true) (fx : zd6 x = true) : SeqAt.EqAt A s u v (eqV y x) := by
 cases y with
 | non =>
  cases ry
  cases x with
  | non => cases rx; exact SeqAt.EqAt.same _
  | bl b => cases rx; exact SeqAt.EqAt.none_bool b
  | int b => obtain ⟨t, rfl⟩ := rx; exact SeqAt.EqAt.none_int b t
  | str b => obtain ⟨t, rfl⟩ := rx; exact SeqAt.EqAt.none_str b t
  | _ => exact absurd (show false = true from fx) Bool.false_ne_true
 | bl a =>
  cases ry
  cases x with
  | non => cases rx; exact SeqAt.EqAt.bool_none a
  | bl b => cases rx; exact SeqAt.EqAt.bool_bool a b
  | int b => obtain ⟨t, rfl⟩ := rx; exact SeqAt.EqAt.bool_int a b t
  | str b => obtain ⟨t, rfl⟩ := rx; exact SeqAt.EqAt.bool_str a b t
  | _ => exact absurd (show false = true from fx) Bool.false_ne_true
 | int a =>
  obtain ⟨t', rfl⟩ := ry
  cases x with
  | non => cases rx; exact SeqAt.EqAt.int_none a t'
  | bl b => cases rx; exact SeqAt.EqAt.int_bool a t' b
  | int b => obtain ⟨t, rfl⟩ := rx; exact SeqAt.EqAt.int_int a t' b t
  | str b => obtain ⟨t, rfl⟩ := rx; exact SeqAt.EqAt.int_str a t' b t
  | _ => exact absurd (show false = true from fx) Bool.false_ne_true
 | str a =>
  obtain ⟨t', rfl⟩ := ry
  cases x with
  | non => cases rx; exact SeqAt.EqAt.str_none a t'
  | bl b => cases rx; exact SeqAt.EqAt.str_bool a t' b
  | int b => obtain ⟨t, rfl⟩ := rx; exact SeqAt.EqAt.str_int a t' b t
  | str b => obtain ⟨t, rfl⟩ := rx; exact SeqAt.EqAt.str_str a t' b t
  | _ => exact absurd (show false = true from fx) Bool.false_ne_true
 | _ => exact absurd (show false = true from fy) Bool.false_ne_true
def eqU (x : V) (u : Value) : Bool := match u with
 | .none => eqV .non x
 | .bool b => eqV (.bl b) x
 | .int i _ => eqV (.int i) x
 | .str z _ => eqV (.str z) x
 | _ => false
theorem zmC {x y : V} {u : Value} (r : RelV y u) (f : zd6 y = true) : eqU x u = eqV y x := by
 cases y with
 | non => cases r; rfl
 | bl b => cases r; rfl
 | int i => obtain ⟨t, rfl⟩ := r; rfl
 | str z => obtain ⟨t, rfl⟩ := r; rfl
 | _ => exact absurd (show false = true from f) Bool.false_ne_true
theorem zeW {x : V} : ∀ {xs : List V} {us : List Value}, Vals xs us → xs.all zd6 = true → us.any (eqU x) = xs.any fun y => eqV y x
 | _, _, .nil, _ => rfl
 | y :: xs, u :: us, .cons r t, f => by
  rw [List.all_cons, Bool.and_eq_true] at f
  rw [List.any_cons, List.any_cons, zmC r f.1, zeW t f.2]
theorem zd1 {A : Around} {s : Shared} {x : V} {v : Value} (rx : RelV x v) (fx : zd6 x = true) : ∀ {xs : List V} {us : List Value}, Vals xs us → xs.all zd6 = true → ∀ u ∈ us, SeqAt.EqAt A s u v (eqU x u)
 | _, _, .nil, _ => fun u hu => by cases hu
 | y :: xs, u :: us, .cons r t, f => fun u' hu => by
  rw [List.all_cons, Bool.and_eq_true] at f
  rcases List.mem_cons.mp hu with rfl | hu
  ·rw [zmC r f.1]; exact zpG r rx f.1 fx
  ·exact zd1 rx fx t f.2 u' hu
def inV (x : V) (xs : List V) : Bool := xs.any fun y => eqV y x
def rIn (K : PySem.W.Frag) (neg : Bool) : R2 := fun x y H Q => ∃ p xs, y = .ref p ∧ (SqL K H p xs ∨ SqT K H p xs) ∧ zd6 x = true ∧ xs.all zd6 = true ∧ Q (.bl (if neg then !inV x xs else inV x xs)) H
theorem zjR : OpR X (compareOp .In) (rIn X.K false) := by
 intro pins s σ H x y v u Q I rx ry h
 obtain ⟨p, xs, rfl, hq, fx, fs, q⟩ := h
 cases ry
 rcases hq with hq | hq
 ·obtain ⟨its, r, pl, hz⟩ := I.list hq
  refine SeqAt.in_listAt (eqU x) pl.isList (fun w hw => zd1 rx fx r fs w (by simpa using hw)) ⟨.bl _, H, I, rfl, ?_⟩
  rw [show its.toArray.any (eqU x) = its.any (eqU x) by simp, zeW r fs]
  exact q
 ·obtain ⟨its, r, pl, hz⟩ := I.tuple hq
  refine SeqAt.in_tupleAt (eqU x) pl (fun w hw => zd1 rx fx r fs w (by simpa using hw)) ⟨.bl _, H, I, rfl, ?_⟩
  rw [show its.toArray.any (eqU x) = its.any (eqU x) by simp, zeW r fs]
  exact q
theorem zgl : OpR X (compareOp .NotIn) (rIn X.K true) := by
 intro pins s σ H x y v u Q I rx ry h
 obtain ⟨p, xs, rfl, hq, fx, fs, q⟩ := h
 cases ry
 rcases hq with hq | hq
 ·obtain ⟨its, r, pl, hz⟩ := I.list hq
  refine SeqAt.notIn_listAt (eqU x) pl.isList (fun w hw => zd1 rx fx r fs w (by simpa using hw)) ⟨.bl _, H, I, rfl, ?_⟩
  rw [show its.toArray.any (eqU x) = its.any (eqU x) by simp, zeW r fs]
  exact q
 ·obtain ⟨its, r, pl, hz⟩ := I.tuple hq
  refine SeqAt.notIn_tupleAt (eqU x) pl (fun w hw => zd1 rx fx r fs w (by simpa using hw)) ⟨.bl _, H, I, rfl, ?_⟩
  rw [show its.toArray.any (eqU x) = its.any (eqU x) by simp, zeW r fs]
  exact q
theorem zgI : zci X (.builtin "len") (fun xs H Q => ∃ p ys, xs = [.ref p] ∧ (SqL X.K H p ys ∨ SqT X.K H p ys) ∧ Q (.int ys.length) H) := by
 intro pins s σ H xs us Q I r h
 obtain ⟨p, ys, rfl, hq, q⟩ := h
 obtain ⟨u, rfl, rx⟩ := ziF r
 cases rx
 have hn := zhJ
 rcases hq with hq | hq
 ·obtain ⟨its, r', pl, hz⟩ := I.list hq
  have hlen := r'.length
  exact Calls.call_len_list pl.isList (by simp only [List.size_toArray] <;> omega) ⟨.int ys.length, H, I.tok _, ⟨s.toks + 1, by rw [List.size_toArray, hlen]⟩, q⟩
 ·obtain ⟨its, r', pl, hz⟩ := I.tuple hq
  have hlen := r'.length
  exact len_tuple pl (by simp only [List.size_toArray] <;> omega) ⟨.int ys.length, H, I.tok _, ⟨s.toks + 1, by rw [List.size_toArray, hlen]⟩, q⟩
theorem zgH : zci X (.type "list") (fun xs H Q => ∃ p ys, xs = [.ref p] ∧ (SqL X.K H p ys ∨ SqT X.K H p ys) ∧ ∀ l, H l = none → Q (.ref l) (upd H l (.lst ys))) := by
 intro pins s σ H xs us Q I r h
 obtain ⟨p, ys, rfl, hq, q⟩ := h
 obtain ⟨u, rfl, rx⟩ := ziF r
 cases rx
 have fin : ∀ (its : List Value), Vals ys its → ys.length ≤ sizeLine → ∀ (h' : Heap) (c' : Nat), (∀ b o', s.heap.get? b = some o' → h'.get? b = some o') →
   h'.get? s.heap.objs.size = some { cls := .type "list", dict := none, data := .seq its.toArray c', slots := #[] } → EP X pins σ Q (.ref s.heap.objs.size) { s with heap := h' } := fun its r' hz h' c' kp e =>
  ⟨.ref s.heap.objs.size, _, I.laid (t' := s.toks) kp (Nat.le_refl _) (show zbD X.prog X.w _ h' _ (.lst ys) from ⟨hz, its, c', r', e⟩), rfl, q _ (I.hok.fresh (Nat.le_refl _))⟩
 rcases hq with hq | hq
 ·obtain ⟨its, r', pl, hz⟩ := I.list hq
  have hlen := r'.length
  obtain ⟨o, ho, hc, n, hd⟩ := pl.isList
  exact call_list_seq p (.inl rfl) ho hc hd (fun h' c' kp e => fin its r' hz h' c' kp e) (by simp only [List.size_toArray] <;> omega)
 ·obtain ⟨its, r', pl, hz⟩ := I.tuple hq
  have hlen := r'.length
  obtain ⟨o, ho, hc, n, hd⟩ := pl
  exact call_list_seq p (.inr rfl) ho hc hd (fun h' c' kp e => fin its r' hz h' c' kp e) (by simp only [List.size_toArray] <;> omega)
theorem zfY : zci X (.type "tuple") (fun xs H Q => ∃ p ys, xs = [.ref p] ∧ ((SqL X.K H p ys ∧ ∀ l, H l = none → Q (.ref l) (upd H l (.tup ys))) ∨ (SqT X.K H p ys ∧ Q (.ref p) H))) := by
 intro pins s σ H xs us Q I r h
 obtain ⟨p, ys, rfl, h⟩ := h
 obtain ⟨u, rfl, rx⟩ := ziF r
 cases rx
 rcases h with ⟨hq, q⟩ | ⟨hq, q⟩
 ·obtain ⟨its, r', pl, hz⟩ := I.list hq
  have hlen := r'.length
  refine call_tuple_list pl.isList (fun h' kp => ?_) (by simp only [List.size_toArray] <;> omega)
  have I1 : Inv X pins σ H { s with heap := h' } := I.kept (t' := s.toks) kp
  have I2 : Inv X pins σ (upd H h'.objs.size (.tup ys)) { s with heap := h'.push { cls := .type "tuple", data := .seq its.toArray } } :=
   I1.laid (t' := s.toks) (fun b o e => Heap.get?_push_of_some _ e) (Nat.le_refl _) (show zbD X.prog X.w _ _ _ (.tup ys) from ⟨hz, its, r', IsTup.new _ _⟩)
  exact ⟨.ref h'.objs.size, _, I2, rfl, q _ (I1.hok.fresh (Nat.le_refl _))⟩
 ·obtain ⟨its, r', pl, hz⟩ := I.tuple hq
  exact call_tuple_same pl ⟨.ref p, H, I, rfl, q⟩
def tyV (K : PySem.W.Frag) (T : String) (x : V) (H : Hp) : Prop := match x with
 | .str _ => T = "str"
 | .int _ => T = "int"
 | .ref p => (T = "list" ∧ ∃ xs, SqL K H p xs) ∨ (T = "tuple" ∧ ∃ o, K.lookup p = some o ∧ o.cls = .type "tuple" ∧ o.dict = none) ∨
   (T = "dict" ∧ ((∃ kvs, H p = some (.dK kvs)) ∨ ∃ kvs, H p = some (.dT kvs))) ∨ (T = "set" ∧ ∃ S n, H p = some (.set S n))
 | _ => False
theorem zl9 {pins : List (Addr × Obj)} {σ : St} {H : Hp} {s : Shared} {T : String} {x : V} {v : Value} (I : Inv X pins σ H s) (r : RelV x v) (ty : tyV X.K T x H) :
  s.TypeIs v T ∧ ∀ a, v = .ref a → ∃ ob, s.heap.get? a = some ob ∧ ob.dict = none := by
 cases x with
 | str z =>
  obtain ⟨t, rfl⟩ := r
  cases (show T = "str" from ty)
  exact ⟨typeIs_str s z t, fun _ e => nomatch e⟩
 | int i =>
  obtain ⟨t, rfl⟩ := r
  cases (show T = "int" from ty)
  exact ⟨typeIs_int s i t, fun _ e => nomatch e⟩
 | ref p =>
  cases r
  rcases ty with ⟨rfl, xs, hq⟩ | ⟨rfl, o, hk, hc, hd⟩ | ⟨rfl, hk⟩ | ⟨rfl, S, n, hk⟩
  ·obtain ⟨its, _, pl, _⟩ := I.list hq
   refine ⟨pl.isList.typeIs, fun a e => ?_⟩
   cases e
   obtain ⟨o, n, e, c, hd, _⟩ := pl
   exact ⟨o, e, hd⟩
  ·refine ⟨⟨o, I.kIn p o hk, hc⟩, fun a e => ?_⟩
   cases e
   exact ⟨o, I.kIn _ o hk, hd⟩
  ·have z : ∃ o, s.heap.get? p = some o ∧ o.ExactDict := by
    rcases hk with ⟨kvs, hk⟩ | ⟨kvs, hk⟩
    ·obtain ⟨_, _, _, _, o, _, _, e, ex, _⟩ := I.hok p _ hk
     exact ⟨o, e, ex⟩
    ·obtain ⟨_, _, _, _, o, _, _, e, ex, _⟩ := I.hok p _ hk
     exact ⟨o, e, ex⟩
   obtain ⟨o, e, ex⟩ := z
   refine ⟨⟨o, e, ex.1⟩, fun a e2 => ?_⟩
   cases e2
   exact ⟨o, e, ex.2.1⟩
  ·obtain ⟨o, _, _, _, e, ex, _⟩ := I.hok p _ hk
   refine ⟨⟨o, e, ex.1⟩, fun a e2 => ?_⟩
   cases e2
   exact ⟨o, e, ex.2.1⟩
 | _ => exact False.elim ty
def tBM0 (K : PySem.W.Frag) (T : String) (r : V → List V → Hp → VK → Prop) (to : TE) : TE := fun σ H Q => to σ H fun x H1 => tyV K T x H1 ∧ r x [] H1 Q
def tBM (K : PySem.W.Frag) (T : String) (r : V → List V → Hp → VK → Prop) (to : TE) (t : TA) : TE := fun σ H Q => to σ H fun x H1 => tyV K T x H1 ∧ t σ H1 fun xs H2 => r x xs H2 Q
variable {o e : Expr} {es : List Expr} {to : TE} {t : TA} {name : Str} {apos cpos : Pos} {T id : String} {r : V → List V → Hp → VK → Prop}
theorem zo9 (pa : PlainAttrs T) (slot : Slot T name id) (hty : typeOf (.builtin id) = pure (.type "method_descriptor")) (hm : MtR X id r) (ho : PE X o to)
  (hbase : attributeBase o name X.env (eval o X.env) = eval o X.env := by rfl) (hline : (apos.endLine == cpos.line) = true := by rfl) : PE X (.Call (.Attribute o name apos) [] [] cpos) (tBM0 X.K T r to) := by
 intro pins s σ H Q I h
 refine wpAny_Call_method0_late hbase hline (thn (ho pins s σ H _ I h) fun v s1 ⟨x, H1, I1, r1, ty, q1⟩ => ?_)
 obtain ⟨h1, h2⟩ := zl9 I1 r1 ty
 exact ⟨T, id, pa, slot, hty, h1, h2, Calls.callWith_builtin rfl (PySem.evalArgs_none (hm pins s1 σ H1 x [] v [] Q I1 r1 .nil q1))⟩
theorem zp2 (pa : PlainAttrs T) (slot : Slot T name id) (hty : typeOf (.builtin id) = pure (.type "method_descriptor")) (hm : MtR X id r) (ho : PE X o to) (ha : PA X (e :: es) t)
  (hbase : attributeBase o name X.env (eval o X.env) = eval o X.env := by rfl)
  (hfew : ((backTo cpos (starEach (e :: es) X.env)).all (fun x => !x.1) && (backToKw cpos (keywordEach [] X.env)).all (fun x => x.1.isSome)
   && decide ((e :: es).length + ([] : List Keyword).length + (if ([] : List Keyword).isEmpty then 0 else 1) < 30)) = true := by rfl)
  (hline : (apos.endLine == cpos.line) = true := by rfl) (hs : starEach (e :: es) X.env = (false, eval e X.env) :: starEach es X.env := by rfl) (hplain : (backTo cpos (starEach es X.env)).any (·.1) = false := by rfl) :
  PE X (.Call (.Attribute o name apos) (e :: es) [] cpos) (tBM X.K T r to t) := by
 intro pins s σ H Q I h
 refine wpAny_Call_method_late hbase hfew hline rfl (thn (ho pins s σ H _ I h) fun v s1 ⟨x, H1, I1, r1, ty, q1⟩ => ?_)
 obtain ⟨h1, h2⟩ := zl9 I1 r1 ty
 refine ⟨T, id, pa, slot, hty, h1, h2, ?_⟩
 have hA := ha cpos pins s1 σ H1 _ I1 q1
 rw [hs] at hA ⊢
 refine Calls.callWith_builtin (by show (false || (backTo cpos (starEach es X.env)).any (·.1)) = false; rw [hplain] <;> rfl) (Calls.evalArgs_plain ?_)
 exact thn hA fun us s2 ⟨vs, H2, I2, r2, q2⟩ => hm pins s2 σ H2 x vs v us Q I2 r1 r2 q2
/- xs.append(e), list.index on a module's tuple .. are MtR facts of 06m -/
end
end L2
namespace L2
open PySem PySem.Spec PyProof.Rows
def MtM (X : Cx) (id : String) (r : V → List V → Hp → VK → Prop) : Prop :=
 ∀ (pins : List (Addr × Obj)) (s : Shared) (σ : St) (H : Hp) (x : V) (xs : List V) (v : Value) (us : List Value) (Q : VK), Inv X pins σ H s → RelV x v → Vals xs us → r x xs H Q →
  wpAny (model X.prog X.w) X.A (call (.builtin id) (v :: us)) (EP X pins σ Q) X.xe s
theorem Vals.one : ∀ {x : V} {us : List Value}, Vals [x] us → ∃ u, us = [u] ∧ RelV x u
 | _, _, .cons r .nil => ⟨_, rfl, r⟩
theorem Vals.two : ∀ {x y : V} {us : List Value}, Vals [x, y] us → ∃ u v, us = [u, v] ∧ RelV x u ∧ RelV y v
 | _, _, _, .cons r (.cons q .nil) => ⟨_, _, rfl, r, q⟩
theorem Vals.zero : ∀ {us : List Value}, Vals [] us → us = []
 | _, .nil => rfl
theorem Vals.dropLast {xs : List V} {us : List Value} (h : Vals xs us) : Vals xs.dropLast us.dropLast := by
 induction h with
 | nil => exact .nil
 | cons r t ih =>
  cases t with
  | nil => exact .nil
  | cons q t' => exact .cons r ih
theorem Vals.eraseIdx : ∀ {xs : List V} {us : List Value} (i : Nat), Vals xs us → Vals (xs.eraseIdx i) (us.eraseIdx i)
 | _, _, _, .nil => .nil
 | _, _, 0, .cons _ t => t
 | _, _, i + 1, .cons r t => .cons r (Vals.eraseIdx i t)
theorem Vals.reverse {xs : List V} {us : List Value} (h : Vals xs us) : Vals xs.reverse us.reverse := by
 induction h with
 | nil => exact .nil
 | cons r t ih => rw [List.reverse_cons, List.reverse_cons]; exact Vals.append ih (.cons r .nil)
theorem zir {α : Type} (l : List α) : l.eraseIdx (l.length - 1) = l.dropLast := by
 induction l with
 | nil => rfl
 | cons a r ih =>
  cases r with
  | nil => rfl
  | cons b r =>
   have e : (a :: b :: r).length - 1 = ((b :: r).length - 1) + 1 := by
    have h1 : (a :: b :: r).length = r.length + 2 := rfl
    have h2 : (b :: r).length = r.length + 1 := rfl
    omega
   rw [e, List.eraseIdx_cons_succ, ih]
   all_goals rfl
section
variable {X : Cx} {pins : List (Addr × Obj)} {σ : St} {H : Hp} {s : Shared} {l b : Addr} {xs ys zs : List V}
theorem Inv.lset {its its' : List Value} {n : Nat} {f : Array Value → Array Value} {t' : Nat} (I : Inv X pins σ H s) (hH : H l = some (.lst xs))
  (e : s.heap.get? l = some { cls := .type "list", data := .seq its.toArray n }) (hf : f its.toArray = its'.toArray) (hv : Vals ys its') (hz : ys.length ≤ sizeLine) :
  Inv X pins σ (upd H l (.lst ys)) { s with heap := s.heap.update l (Obj.mapSeq f), toks := t' } := by
 have q := PySem.IsL.update e f
 rw [hf] at q
 refine I.write (x := l) (e := l) (by rw [hH]; exact trivial) (.inl rfl) (fun b' u hb hu => (Heap.get?_update_other s.heap (Obj.mapSeq f) (Ne.symm hb)).trans hu) ⟨_, q⟩ ?_
 exact ⟨hz, its', _, hv, q⟩
theorem Inv.lnew {its : List Value} {t' : Nat} (I : Inv X pins σ H s) (hv : Vals ys its) (hz : ys.length ≤ sizeLine) :
  Inv X pins σ (upd H s.heap.objs.size (.lst ys)) { s with heap := s.heap.push { cls := .type "list", data := .seq its.toArray }, toks := t' } :=
 I.laid (fun _ _ q => Heap.get?_push_of_some _ q) (Nat.le_refl _) ⟨hz, its, 0, hv, Heap.get?_push_size _ rfl⟩
theorem Inv.fresh (I : Inv X pins σ H s) : H s.heap.objs.size = none := I.hok.fresh (Nat.le_refl _)
theorem Inv.lstM (I : Inv X pins σ H s) (hH : H l = some (.lst xs)) : xs.length ≤ sizeLine ∧ ∃ (its : List Value) (n : Nat), Vals xs its ∧ xs.length = its.length ∧ s.heap.get? l = some { cls := .type "list", data := .seq its.toArray n } := by
 obtain ⟨z, its, n, r, e⟩ := I.hok l _ hH
 exact ⟨z, its, n, r, r.length, e⟩
theorem zhF {n : Nat} (h : n ≤ sizeLine) : Builtin.List.listTooLong n = false := by
 unfold Builtin.List.listTooLong
 exact decide_eq_false (by omega)
end
section
variable {X : Cx}
def zjB : V → List V → Hp → VK → Prop := fun x vs H Q => ∃ l xs y, x = .ref l ∧ vs = [y] ∧ H l = some (.lst xs) ∧ xs.length < sizeLine ∧ Q .non (upd H l (.lst (xs ++ [y])))
theorem zbC : MtM X "list.append" zjB := by
 intro pins s σ H x vs v us Q I rx rv h
 obtain ⟨l, xs, y, rfl, rfl, hH, hz, q⟩ := h
 cases rx
 obtain ⟨u, rfl, ru⟩ := rv.one
 obtain ⟨z, its, n, r, hl, e⟩ := I.lstM hH
 refine call_meets F.slot_list_append ⟨_, e, rfl⟩ F.entry_list_append (F.args_list_append_2 _ _) (PySem.list_append l its.toArray n u (by rw [List.size_toArray]; omega)) ⟨e, ?_⟩
 refine ⟨.non, _, I.lset (its' := its ++ [u]) hH e (by simp) (r.append (.cons ru .nil)) ?_, rfl, q⟩
 rw [List.length_append, List.length_singleton]
 omega
def zne : V → List V → Hp → VK → Prop := fun x vs H Q => ∃ l b xs zs, x = .ref l ∧ vs = [.ref b] ∧ H l = some (.lst xs) ∧ H b = some (.lst zs) ∧ xs.length + zs.length ≤ sizeLine ∧ Q .non (upd H l (.lst (xs ++ zs)))
theorem zj0 : MtM X "list.extend" zne := by
 intro pins s σ H x vs v us Q I rx rv h
 obtain ⟨l, b, xs, zs, rfl, rfl, hH, hB, hz, q⟩ := h
 cases rx
 obtain ⟨u, rfl, ru⟩ := rv.one
 cases ru
 obtain ⟨z, its, n, r, hl, e⟩ := I.lstM hH
 obtain ⟨z2, its2, n2, r2, hl2, e2⟩ := I.lstM hB
 have hsz : its.toArray.size + its2.toArray.size ≤ sizeLine := by rw [List.size_toArray, List.size_toArray]; omega
 have hlong : ¬ (!its.toArray.isEmpty && Builtin.List.listTooLong (its.toArray.size + its2.toArray.size)) = true := by
  rw [zhF hsz, Bool.and_false]
  exact Bool.false_ne_true
 refine call_meets F.slot_list_extend ⟨_, e, rfl⟩ F.entry_list_extend (F.args_list_extend_2 _ _)
  (AutoSeq1.list_extend_list_list_0 l its.toArray n b its2.toArray n2 hlong (by rw [List.size_toArray]; omega) (by omega)) ⟨e, e2, ?_⟩
 refine ⟨.non, _, I.lset (its' := its ++ its2) hH e (by simp) (r.append r2) ?_, rfl, q⟩
 rw [List.length_append]
 omega
def rPop : V → List V → Hp → VK → Prop := fun x vs H Q => ∃ l xs y, x = .ref l ∧ vs = [] ∧ H l = some (.lst xs) ∧ xs[xs.length - 1]? = some y ∧ Q y (upd H l (.lst xs.dropLast))
theorem zdG : MtM X "list.pop" rPop := by
 intro pins s σ H x vs v us Q I rx rv h
 obtain ⟨l, xs, y, rfl, rfl, hH, hy, q⟩ := h
 cases rx
 have hus := rv.zero
 subst hus
 obtain ⟨z, its, n, r, hl, e⟩ := I.lstM hH
 obtain ⟨u, hu, ru⟩ := r.get hy
 have hy' : its.toArray[its.toArray.size - 1]? = some u := by
  show its.toArray[its.length - 1]? = some u
  rw [← Array.getElem?_toList, ← hl]
  exact hu
 refine call_meets F.slot_list_pop ⟨_, e, rfl⟩ F.entry_list_pop (F.args_list_pop_1 _) (MeetsSeq.list_pop_last l its.toArray n u hy' (by rw [List.size_toArray]; omega)) ⟨e, ?_⟩
 refine ⟨y, _, I.lset (its' := its.dropLast) hH e ?_ r.dropLast ?_, ru, q⟩
 ·show its.toArray.eraseIdxIfInBounds (its.toArray.size - 1) = its.dropLast.toArray
  rw [List.size_toArray, List.eraseIdxIfInBounds_toArray, zir]
 ·rw [List.length_dropLast]
  omega
def rCat : R2 := fun x y H Q => ∃ l b xs zs, x = .ref l ∧ y = .ref b ∧ H l = some (.lst xs) ∧ H b = some (.lst zs) ∧ xs.length + zs.length ≤ sizeLine ∧ ∀ p, H p = none → Q (.ref p) (upd H p (.lst (xs ++ zs)))
theorem zpg : OpR X (binaryOp .Add) rCat := by
 intro pins s σ H x y v u Q I rx ry h
 obtain ⟨l, b, xs, zs, rfl, rfl, hH, hB, hz, q⟩ := h
 cases rx
 cases ry
 obtain ⟨z, its, n, r, hl, e⟩ := I.lstM hH
 obtain ⟨z2, its2, n2, r2, hl2, e2⟩ := I.lstM hB
 refine PySem.P.add_list e e2 ?_ (by rw [List.size_toArray, List.size_toArray]; omega)
 have ea : its.toArray ++ its2.toArray = (its ++ its2).toArray := by simp
 rw [ea]
 exact ⟨.ref _, _, I.lnew (t' := s.toks) (r.append r2) (by rw [List.length_append]; omega), rfl, q _ I.fresh⟩
end
section
variable {prog : Program} {w : World} {A : Around} {E : Value → Shared → Prop} {s : Shared}
end
section
variable {X : Cx}
end
end L2
namespace L2
open PySem PySem.Spec PyProof.Rows
section
variable {κ : Type} [DecidableEq κ]
def valV (kvs : List (κ × V)) (k : κ) : Option V := (kvs.find? fun kv => decide (kv.1 = k)).map (·.2)
def putK (kvs : List (κ × V)) (k : κ) (v : V) : List (κ × V) :=
 if (kvs.any fun kv => decide (kv.1 = k)) = true then kvs.map (fun kv => if kv.1 = k then (kv.1, v) else kv) else kvs ++ [(k, v)]
def zpH (kvs : List (κ × V)) (k : κ) : List (κ × V) := kvs.filter fun kv => decide (kv.1 ≠ k)
theorem zb5 {p : κ × V} {r : List (κ × V)} {k : κ} (e : p.1 = k) : valV (p :: r) k = some p.2 := by simp [valV, List.find?_cons, e]
theorem zb6 {p : κ × V} {r : List (κ × V)} {k : κ} (e : ¬ p.1 = k) : valV (p :: r) k = valV r k := by simp [valV, List.find?_cons, e]
theorem zcE (k : κ) : ∀ kvs : List (κ × V), (kvs.any fun kv => decide (kv.1 = k)) = (valV kvs k).isSome
 | [] => rfl
 | p :: r => by
  rw [List.any_cons]
  by_cases e : p.1 = k
  ·simp only [zb5 e, decide_eq_true e, Bool.true_or, Option.isSome_some]
  ·rw [zb6 e, decide_eq_false e, Bool.false_or]; exact zcE k r
theorem zhm (k j : κ) (y : V) : ∀ kvs : List (κ × V), valV (kvs.map fun kv => if kv.1 = k then (kv.1, y) else kv) j = (valV kvs j).map fun x => if j = k then y else x
 | [] => rfl
 | p :: r => by
  have ih := zhm k j y r
  rw [List.map_cons]
  by_cases h : p.1 = k
  ·rw [if_pos h]
   by_cases e : p.1 = j
   ·rw [zb5 (p := (p.1, y)) e, zb5 e, Option.map_some, if_pos (e.symm.trans h)]
   ·rw [zb6 (p := (p.1, y)) e, zb6 e, ih]
  ·rw [if_neg h]
   by_cases e : p.1 = j
   ·rw [zb5 (p := p) e, zb5 e, Option.map_some, if_neg (fun z => h (e.trans z))]
   ·rw [zb6 (p := p) e, zb6 e, ih]
theorem zf9 (k j : κ) (y : V) : ∀ kvs : List (κ × V), valV kvs k = none → valV (kvs ++ [(k, y)]) j = if j = k then some y else valV kvs j
 | [], _ => by
  by_cases e : k = j
  ·rw [if_pos e.symm]; exact zb5 (p := (k, y)) e
  ·rw [if_neg (fun z => e z.symm)]; exact zb6 (p := (k, y)) e
 | p :: r, hn => by
  rw [List.cons_append]
  have hk : ¬ p.1 = k := fun z => by rw [zb5 z] at hn; cases hn
  rw [zb6 hk] at hn
  have ih := zf9 k j y r hn
  by_cases e : p.1 = j
  ·rw [zb5 e, zb5 e, if_neg (fun z => hk (e.trans z))]
  ·rw [zb6 e, zb6 e, ih]
theorem zhk (kvs : List (κ × V)) (k j : κ) (y : V) : valV (putK kvs k y) j = if j = k then some y else valV kvs j := by
 unfold putK
 by_cases a : (kvs.any fun kv => decide (kv.1 = k)) = true
 ·rw [if_pos a, zhm]
  rw [zcE] at a
  by_cases e : j = k
  ·obtain ⟨x, hx⟩ := Option.isSome_iff_exists.mp a
   rw [if_pos e, e, hx, Option.map_some, if_pos rfl]
  ·rw [if_neg e]
   cases valV kvs j with
   | none => rfl
   | some x => rw [Option.map_some, if_neg e]
 ·rw [if_neg a]
  refine zf9 k j y kvs ?_
  rw [zcE] at a
  cases q : valV kvs k with
  | none => rfl
  | some x => rw [q] at a; exact (a rfl).elim
theorem zeJ (kvs : List (κ × V)) (k : κ) (v : V) : (putK kvs k v).length ≤ kvs.length + 1 := by
 unfold putK
 split
 ·rw [List.length_map]; omega
 ·rw [List.length_append, List.length_cons, List.length_nil]; omega
theorem zep {kvs : List (κ × V)} {k : κ} (v : V) (h : valV kvs k = none) : putK kvs k v = kvs ++ [(k, v)] := by
 unfold putK
 rw [zcE, h]
 exact if_neg (by decide)
theorem RelO.isSome_eq {o : Option V} {u : Option Value} (r : RelO o u) : o.isSome = u.isSome := by
 cases o with
 | none => cases u with
  | none => rfl
  | some _ => exact (show False from r).elim
 | some _ => cases u with
  | none => exact (show False from r).elim
  | some _ => rfl
theorem RelO.getD {o : Option V} {u : Option Value} {d : V} {d' : Value} (r : RelO o u) (rd : RelV d d') : RelV (o.getD d) (u.getD d') := by
 cases o with
 | none => cases u with
  | none => exact rd
  | some _ => exact (show False from r).elim
 | some _ => cases u with
  | none => exact (show False from r).elim
  | some _ => exact r
theorem KV.val {kvs : List (κ × V)} {vs : List (κ × Value)} (r : KV kvs vs) (k : κ) : RelO (valV kvs k) (valueAt vs k) := by
 unfold KV at r
 induction r with
 | nil => exact True.intro
 | @cons p q ps qs h t ih =>
  obtain ⟨h1, h2⟩ := h
  by_cases e : p.1 = k
  ·have e' : q.1 = k := h1.symm.trans e
   have b : valueAt (q :: qs) k = some q.2 := by simp [valueAt, List.find?_cons, e']
   rw [zb5 e, b]; exact h2
  ·have e' : ¬ q.1 = k := fun z => e (h1.trans z)
   have b : valueAt (q :: qs) k = valueAt qs k := by simp [valueAt, List.find?_cons, e']
   rw [zb6 e, b]; exact ih
theorem KV.any {kvs : List (κ × V)} {vs : List (κ × Value)} (r : KV kvs vs) (k : κ) : (kvs.any fun kv => decide (kv.1 = k)) = vs.any fun kv => decide (kv.1 = k) := by
 unfold KV at r
 induction r with
 | nil => rfl
 | cons h t ih => rw [List.any_cons, List.any_cons, ih, h.1]
theorem KV.repl {kvs : List (κ × V)} {vs : List (κ × Value)} (r : KV kvs vs) (k : κ) {y : V} {u : Value} (ry : RelV y u) :
  KV (kvs.map fun kv => if kv.1 = k then (kv.1, y) else kv) (vs.map fun kv => if kv.1 = k then (kv.1, u) else kv) := by
 unfold KV at r ⊢
 induction r with
 | nil => exact .nil
 | @cons p q ps qs h t ih =>
  rw [List.map_cons, List.map_cons]
  refine .cons ?_ ih
  obtain ⟨h1, h2⟩ := h
  by_cases e : p.1 = k
  ·rw [if_pos e, if_pos (h1.symm.trans e)]; exact ⟨h1, ry⟩
  ·rw [if_neg e, if_neg (fun z => e (h1.trans z))]; exact ⟨h1, h2⟩
theorem KV.put {kvs : List (κ × V)} {vs : List (κ × Value)} (r : KV kvs vs) (k : κ) {y : V} {u : Value} (ry : RelV y u) : KV (putK kvs k y) (stored vs k u) := by
 unfold putK stored
 rw [r.any k]
 by_cases e : (vs.any fun kv => decide (kv.1 = k)) = true
 ·rw [if_pos e, if_pos e]; exact r.repl k ry
 ·rw [if_neg e, if_neg e]; exact Paired.snoc r ⟨rfl, ry⟩
theorem KV.drop {kvs : List (κ × V)} {vs : List (κ × Value)} (r : KV kvs vs) (k : κ) : KV (zpH kvs k) (without vs k) := by
 unfold KV at r ⊢
 unfold zpH without
 induction r with
 | nil => exact .nil
 | @cons p q ps qs h t ih =>
  obtain ⟨h1, h2⟩ := h
  rw [List.filter_cons, List.filter_cons]
  by_cases e : p.1 = k
  ·have a : ¬ decide (p.1 ≠ k) = true := by simp [e]
   have b : ¬ decide (q.1 ≠ k) = true := by simp [h1.symm.trans e]
   rw [if_neg a, if_neg b]; exact ih
  ·have e' : ¬ q.1 = k := fun z => e (h1.trans z)
   have a : decide (p.1 ≠ k) = true := by simp [e]
   have b : decide (q.1 ≠ k) = true := by simp [e']
   rw [if_pos a, if_pos b]; exact .cons ⟨h1, h2⟩ ih
theorem KV.keys {kvs : List (κ × V)} {vs : List (κ × Value)} (r : KV kvs vs) : kvs.map (·.1) = vs.map (·.1) := by
 unfold KV at r
 induction r with
 | nil => rfl
 | cons h t ih => rw [List.map_cons, List.map_cons, ih, h.1]
theorem KV.length {kvs : List (κ × V)} {vs : List (κ × Value)} (r : KV kvs vs) : kvs.length = vs.length := Paired.length r
end
theorem zkc {P : Program} {w : World} {k : Key} {u : Value} (r : RelV (kV k) u) : (zbV P w).is k u = true := by
 cases k with
 | inl i => obtain ⟨t, e⟩ := (show ∃ t, u = Value.int i t from r); subst e; exact zg7 P w i t
 | inr x => obtain ⟨t, e⟩ := (show ∃ t, u = Value.str x t from r); subst e; exact zg6 P w x t
theorem zgw {P : Program} {w : World} : ∀ {ks : List Key} {us : List Value}, Vals (ks.map kV) us → ItemsAre (zbV P w) ks us
 | [], _, r => by rw [List.map_nil] at r; cases r; exact .nil
 | k :: ks, _, r => by
  rw [List.map_cons] at r
  cases r with
  | cons h t => exact .cons (zkc h) (zgw t)
abbrev KT (H : Hp) : List (List Key × V) → List (List Key × Addr × Value) → Prop := Paired fun p q => p.1 = q.1 ∧ H q.2.1 = some (.tup (p.1.map kV)) ∧ RelV p.2 q.2.2
theorem KT.val {H : Hp} {kvs : List (List Key × V)} {xs : List (List Key × Addr × Value)} (r : KT H kvs xs) (k : List Key) : RelO (valV kvs k) ((atKey xs k).map (·.2)) := by
 induction r with
 | nil => exact True.intro
 | @cons p q ps qs h t ih =>
  obtain ⟨h1, _, h2⟩ := h
  by_cases e : p.1 = k
  ·have e' : q.1 = k := h1.symm.trans e
   have b : atKey (q :: qs) k = some q.2 := by simp [atKey, List.find?_cons, e']
   rw [zb5 e, b]; exact h2
  ·have e' : ¬ q.1 = k := fun z => e (h1.trans z)
   have b : atKey (q :: qs) k = atKey qs k := by simp [atKey, List.find?_cons, e']
   rw [zb6 e, b]; exact ih
theorem KT.repl {H : Hp} {kvs : List (List Key × V)} {xs : List (List Key × Addr × Value)} (r : KT H kvs xs) (k : List Key) {y : V} {u : Value} (ry : RelV y u) :
  KT H (kvs.map fun kv => if kv.1 = k then (kv.1, y) else kv) (xs.map (putAt k u)) := by
 induction r with
 | nil => exact .nil
 | @cons p q ps qs h t ih =>
  rw [List.map_cons, List.map_cons]
  refine .cons ?_ ih
  obtain ⟨h1, h2, h3⟩ := h
  unfold putAt
  by_cases e : p.1 = k
  ·rw [if_pos e, if_pos (h1.symm.trans e)]; exact ⟨h1, h2, ry⟩
  ·rw [if_neg e, if_neg (fun z => e (h1.trans z))]; exact ⟨h1, h2, h3⟩
theorem KT.put {H : Hp} {kvs : List (List Key × V)} {xs : List (List Key × Addr × Value)} (r : KT H kvs xs) (k : List Key) {b : Addr} {y : V} {u : Value} (hb : H b = some (.tup (k.map kV))) (ry : RelV y u) :
  KT H (putK kvs k y) (storedH xs k b u) := by
 have e : (kvs.any fun kv => decide (kv.1 = k)) = (atKey xs k).isSome := by
  rw [zcE, (r.val k).isSome_eq, Option.isSome_map]
 unfold putK storedH
 rw [e]
 by_cases q : (atKey xs k).isSome = true
 ·rw [if_pos q, if_pos q]; exact r.repl k ry
 ·rw [if_neg q, if_neg q]; exact Paired.snoc r ⟨rfl, hb, ry⟩
theorem KT.keeps {H H' : Hp} {kvs : List (List Key × V)} {xs : List (List Key × Addr × Value)} (r : KT H kvs xs) (ht : ∀ b ys, H b = some (.tup ys) → H' b = some (.tup ys)) : KT H' kvs xs :=
 Paired.mapP r fun _ _ z => ⟨z.1, ht _ _ z.2.1, z.2.2⟩
section
variable {P : Program} {w : World} {H : Hp} {h : Heap} {a : Addr}
theorem zoK {u : HO} (ok : HOk P w H h) (e : Rd H a u) : zbD P w H h a u := e.ok ok
theorem zit {kvs : List (Key × V)} (ok : HOk P w H h) (e : Rd H a (.dK kvs)) : kvs.length ≤ sizeLine ∧ (a == sysModules) = false ∧ ∃ vs, KV kvs vs ∧ h.DictOf (zbV P w) a vs :=
 show zbD P w H h a (.dK kvs) from zoK ok e
theorem zpI {kvs : List (Key × V)} (ok : HOk P w H h) (e : H a = some (.dK kvs)) : kvs.length ≤ sizeLine ∧ (a == sysModules) = false ∧ ∃ vs, KV kvs vs ∧ h.DictOf (zbV P w) a vs := zit ok (.inl e)
theorem zgu {ks : List Key} (ok : HOk P w H h) (e : H a = some (.tup (ks.map kV))) : (tupleKind (zbV P w)).is h ks a := by
 obtain ⟨_, its, r, o, h1, h2, n, h3⟩ := (show zbD P w H h a (.tup (ks.map kV)) from ok a _ e)
 exact ⟨o, its.toArray, n, h1, h2, h3, by simpa using zgw r⟩
theorem zis {kvs : List (List Key × V)} (ok : HOk P w H h) (e : Rd H a (.dT kvs)) : kvs.length ≤ sizeLine ∧ (a == sysModules) = false ∧
  ∃ xs, KT H kvs xs ∧ h.DictOfH (tupleKind (zbV P w)) a xs := by
 obtain ⟨z, y, xs, r, o, es, ep, h1, h2, h3, h4, h5⟩ := (show zbD P w H h a (.dT kvs) from zoK ok e)
 refine ⟨z, y, xs, r, o, es, ep, h1, h2, h3, h4, fun x hx => ?_, h5⟩
 have all : ∀ {l : List (List Key × V)} {m : List (List Key × Addr × Value)}, KT H l m → ∀ x ∈ m, (tupleKind (zbV P w)).is h x.1 x.2.1 := by
  intro l m q
  induction q with
  | nil => intro x hx; exact nomatch hx
  | @cons p q ps qs hq t ih =>
   intro x hx
   rcases List.mem_cons.mp hx with e | hx
   ·subst e
    exact zgu ok (by rw [← hq.1]; exact hq.2.1)
   ·exact ih x hx
 exact all r x hx
theorem zp9 {kvs : List (List Key × V)} (ok : HOk P w H h) (e : H a = some (.dT kvs)) : kvs.length ≤ sizeLine ∧ (a == sysModules) = false ∧
  ∃ xs, KT H kvs xs ∧ h.DictOfH (tupleKind (zbV P w)) a xs := zis ok (.inl e)
end
def DGet (H : Hp) (a : Addr) (y : V) (r : Option V) : Prop :=
 (∃ kvs k, Rd H a (.dK kvs) ∧ y = kV k ∧ r = valV kvs k) ∨ ∃ kvs k b, Rd H a (.dT kvs) ∧ y = .ref b ∧ H b = some (.tup (k.map kV)) ∧ r = valV kvs k
def DPut (H : Hp) (a : Addr) (y v : V) (H' : Hp) : Prop :=
 (∃ kvs k, H a = some (.dK kvs) ∧ y = kV k ∧ kvs.length < sizeLine ∧ H' = upd H a (.dK (putK kvs k v))) ∨
 ∃ kvs k b, H a = some (.dT kvs) ∧ y = .ref b ∧ H b = some (.tup (k.map kV)) ∧ kvs.length < sizeLine ∧ H' = upd H a (.dT (putK kvs k v))
theorem DGet.k {H : Hp} {a : Addr} {kvs : List (Key × V)} {k : Key} (e : H a = some (.dK kvs)) : DGet H a (kV k) (valV kvs k) := .inl ⟨kvs, k, .inl e, rfl, rfl⟩
theorem DGet.t {H : Hp} {a b : Addr} {kvs : List (List Key × V)} {k : List Key} (e : H a = some (.dT kvs)) (eb : H b = some (.tup (k.map kV))) : DGet H a (.ref b) (valV kvs k) := .inr ⟨kvs, k, b, .inl e, rfl, eb, rfl⟩
theorem DPut.k {H : Hp} {a : Addr} {kvs : List (Key × V)} {k : Key} {v : V} (e : H a = some (.dK kvs)) (hl : kvs.length < sizeLine) : DPut H a (kV k) v (upd H a (.dK (putK kvs k v))) := .inl ⟨kvs, k, e, rfl, hl, rfl⟩
theorem DPut.t {H : Hp} {a b : Addr} {kvs : List (List Key × V)} {k : List Key} {v : V} (e : H a = some (.dT kvs)) (eb : H b = some (.tup (k.map kV))) (hl : kvs.length < sizeLine) :
  DPut H a (.ref b) v (upd H a (.dT (putK kvs k v))) := .inr ⟨kvs, k, b, e, rfl, eb, hl, rfl⟩
section
variable {X : Cx} {pins : List (Addr × Obj)} {σ : St} {H : Hp} {s : Shared} {a : Addr} {y v : V} {u r : Value} {o : Option V} {A : Around} {E : Value → Shared → Prop}
theorem Inv.big (I : Inv X pins σ H s) : sysModules < s.heap.objs.size := by
 have h : mainGlobals < s.heap.objs.size := (I.mod.glob.keeps I.bk).lt
 exact Nat.lt_trans (by decide) h
theorem zku {Q : Value → Shared → Prop} (hu : A.units + 1 < cLine) (I : Inv X pins σ H s) (g : DGet H a y (some v)) (ry : RelV y u) (h : ∀ w' s', Inv X pins σ H s' → RelV v w' → Q w' s') :
  wpAny (model X.prog X.w) A (getItem (.ref a) u) Q E s := by
 rcases g with ⟨kvs, k, e, ey, l⟩ | ⟨kvs, k, b, e, ey, eb, l⟩
 ·subst ey
  obtain ⟨z, hd, vs, rel, dd⟩ := zit I.hok e
  obtain ⟨w', hw, rw'⟩ := RelO.some_of (v := v) (o := valueAt vs k) (by rw [l]; exact rel.val k)
  exact wpAny_getItem_of (zkc ry) dd.mapOf hw (h w' _ (I.tok _) rw')
 ·subst ey
  cases (show u = Value.ref b from ry)
  obtain ⟨z, hd, xs, rel, dd⟩ := zis I.hok e
  obtain ⟨w', hw, rw'⟩ := RelO.some_of (v := v) (o := (atKey xs k).map (·.2)) (by rw [l]; exact rel.val k)
  obtain ⟨p, hp, hp2⟩ := Option.map_eq_some_iff.mp hw
  refine wpAny_getItem_heap (tupleKind_room_in1 hu) (zgu I.hok eb) dd hp ?_
  rw [hp2]
  exact h w' _ (I.tok _) rw'
theorem zn9 {Q : Value → Shared → Prop} (hu : A.units + 1 < cLine) (I : Inv X pins σ H s) (g : DGet H a y o) (ry : RelV y u) (h : ∀ s', Inv X pins σ H s' → Q (.bool (!o.isSome)) s') :
  wpAny (model X.prog X.w) A (compareOp .NotIn u (.ref a)) Q E s := by
 rcases g with ⟨kvs, k, e, ey, l⟩ | ⟨kvs, k, b, e, ey, eb, l⟩
 ·subst ey
  obtain ⟨z, hd, vs, rel, dd⟩ := zit I.hok e
  refine wpAny_notIn_of (zkc ry) hd dd.mapOf ?_
  rw [← (rel.val k).isSome_eq, ← l]
  exact h _ (I.tok _)
 ·subst ey
  cases (show u = Value.ref b from ry)
  obtain ⟨z, hd, xs, rel, dd⟩ := zis I.hok e
  refine wpAny_notIn_heap (tupleKind_room_in1 hu) (zgu I.hok eb) hd dd ?_
  have q := (rel.val k).isSome_eq
  rw [Option.isSome_map] at q
  rw [← q, ← l]
  exact h _ (I.tok _)
theorem zg9 {h' : Heap} {t' : Nat} {ob : HO} (I : Inv X pins σ H s) (mu : Mut (H a)) (hs : Heap.SameBut a s.heap h') (he : ∃ q, h'.get? a = some q) (new : zbD X.prog X.w (upd H a ob) h' a ob) :
  Inv X pins σ (upd H a ob) { s with heap := h', toks := t' } :=
 I.write (x := a) (e := a) mu (.inl rfl) (fun b q hb z => (hs.2 b hb).trans z) he new
theorem zpJ {P : Program} {w : World} {H' : Hp} {h' : Heap} {kvs : List (Key × V)} {vs : List (Key × Value)} (z : kvs.length ≤ sizeLine) (hd : (a == sysModules) = false) (rel : KV kvs vs) (dd : h'.DictOf (zbV P w) a vs) :
  zbD P w H' h' a (.dK kvs) := ⟨z, hd, vs, rel, dd⟩
theorem zkt {H' : Hp} {Q : Unit → Shared → Prop} (hu : A.units + 1 < cLine) (I : Inv X pins σ H s) (g : DPut H a y v H') (ry : RelV y u) (rv : RelV v r) (h : ∀ s', Inv X pins σ H' s' → Q () s') :
  wpAny (model X.prog X.w) A (setItem (.ref a) u r) Q E s := by
 rcases g with ⟨kvs, k, e, ey, l, eH⟩ | ⟨kvs, k, b, e, ey, eb, l, eH⟩
 ·subst ey eH
  obtain ⟨z, hd, vs, rel, dd⟩ := zpI I.hok e
  have hz : vs.length ≤ sizeLine := by rw [← rel.length]; exact z
  have hl : (putK kvs k v).length ≤ sizeLine := by have := zeJ kvs k v; omega
  refine wpAny_setItem_pairs (hsz := hz) (zkc ry) dd fun h' dd' hs => h _ ?_
  have he : ∃ q, h'.get? a = some q := let ⟨q, _, _, hq, _⟩ := dd'; ⟨q, hq⟩
  exact zg9 I (by rw [e]; exact True.intro) hs he (zpJ hl hd (rel.put k rv) dd')
 ·subst ey eH
  cases (show u = Value.ref b from ry)
  obtain ⟨z, hd, xs, rel, dd⟩ := zp9 I.hok e
  have hz : xs.length ≤ sizeLine := by rw [← Paired.length rel]; exact z
  have hl : (putK kvs k v).length ≤ sizeLine := by have := zeJ kvs k v; omega
  refine wpAny_setItem_heap (hsz := hz) (tupleKind_room_in1 hu) (zgu I.hok eb) dd fun h' dd' hs => h _ ?_
  obtain ⟨q, es, ep, hq, h2, h3, h4, _, h5⟩ := dd'
  refine zg9 I (by rw [e]; exact True.intro) hs ⟨q, hq⟩ ⟨hl, hd, _, (rel.put k eb rv).keeps fun c ys ec => ?_, q, es, ep, hq, h2, h3, h4, h5⟩
  rw [zai (zch ec e (fun z => nomatch z))]
  exact ec
end
section
variable {X : Cx} {pins : List (Addr × Obj)} {σ : St} {H : Hp} {s : Shared} {a : Addr} {kvs : List (Key × V)} {k : Key} {u : Value} {A : Around} {E : Value → Shared → Prop}
end
def NoSl (i : Expr) : Prop := ∀ ov iv, subscripted i false ov iv = operate [ov, iv] (getItem ov iv)
theorem ziX {prog : Program} {w : World} {A : Around} {E : Value → Shared → Prop} {s : Shared} {env : Env} {value slice : Expr} {pos : Pos} {T id : String} {Q : Value → Shared → Prop}
  (hl : typeLookup (.type T) "__getitem__" = pure (some (.builtin id))) (hs : NoSl slice)
  (h : wpAny (model prog w) A (eval value env) (fun o s₁ => wpAny (model prog w) A (eval slice env) (fun i s₂ => s₂.TypeIs o T ∧ wpAny (model prog w) A (getItem o i) Q E s₂) E s₁) E s) :
  wpAny (model prog w) A (eval (.Subscript value slice pos) env) Q E s := by
 refine Subscript_ (wpAny_mono h (fun o s₁ h₁ => wpAny_mono h₁ (fun i s₂ h₂ => ?_) fun _ _ x => x) fun _ _ x => x)
 obtain ⟨hT, h₂⟩ := h₂
 unfold subscriptTail
 refine wpAny_bind ?_
 rw [getitemInPython_of_ne hT.not_modules]
 refine wpAny_bind (wpAny_specialOf hT hl ?_)
 have fin : wpAny (model prog w) A (subscripted slice false o i) (fun r s₃ => wpAny (model prog w) A (letTemporaryGo value o r >>= fun _ => pure r) Q E s₃) E s₂ := by
  rw [hs o i]
  exact wpAny_operating (wpAny_mono h₂ (fun r s₃ h₃ => wpAny_bind (wpAny_letTemporaryGo (wpAny_pure h₃))) fun _ _ x => x)
 first
  | exact wpAny_pure (wpAny_bind fin)
  | exact wpAny_bind (wpAny_pure (wpAny_bind fin))
  | exact wpAny_bind fin
theorem zg8 {X : Cx} {pins : List (Addr × Obj)} {σ : St} {H : Hp} {s : Shared} {a : Addr} {y : V} {o : Option V} (I : Inv X pins σ H s) (g : DGet H a y o) : s.TypeIs (.ref a) "dict" := by
 rcases g with ⟨kvs, k, e, _, _⟩ | ⟨kvs, k, b, e, _, _, _⟩
 ·obtain ⟨_, _, vs, _, dd⟩ := zit I.hok e
  exact dd.typeIs
 ·obtain ⟨_, _, xs, _, dd⟩ := zis I.hok e
  exact dd.typeIs
def zou (td ty : TE) : TE := fun σ H Q => td σ H fun x H1 => ty σ H1 fun y H2 => ∃ a v, x = .ref a ∧ DGet H2 a y (some v) ∧ Q v H2
def ziT (ty td : TE) : TE := fun σ H Q => ty σ H fun y H1 => td σ H1 fun x H2 => ∃ a o, x = .ref a ∧ DGet H2 a y o ∧ Q (.bl (!o.isSome)) H2
def zoD (td ty tv : TE) : TS := fun D σ H => tv σ H fun v H1 => td σ H1 fun x H2 => ty σ H2 fun y H3 => ∃ a H4, x = .ref a ∧ DPut H3 a y v H4 ∧ D.nx σ H4
section
variable {X : Cx} {o i e value : Expr} {pos pos' tpos : Pos} {td ty tv : TE}
theorem zg1 (hu : X.A.units + 1 < cLine) (ho : PE X o td) (hi : PE X i ty) (hs : NoSl i) : PE X (.Subscript o i pos) (zou td ty) := by
 intro pins s σ H Q I h
 refine ziX PySem.F.slot_dict_getitem.lookup hs (thn (ho pins s σ H _ I h) fun u s1 ⟨x, H1, I1, rx, q1⟩ => thn (hi pins s1 σ H1 _ I1 q1) fun iv s2 ⟨y, H2, I2, ry, a, v, ex, g, q2⟩ => ?_)
 subst ex
 obtain rfl : u = Value.ref a := rx
 exact ⟨zg8 I2 g, zku hu I2 g ry fun w' s3 I3 rw' => ⟨v, H2, I3, rw', q2⟩⟩
theorem zdi (hu : X.A.units + 1 < cLine) (hi : PE X i ty) (ho : PE X o td) : PC X .NotIn i o (ziT ty td) := by
 intro pins s σ H Q I h
 refine thn (hi pins s σ H _ I h) fun iv s1 ⟨y, H1, I1, ry, q1⟩ => thn (ho pins s1 σ H1 _ I1 q1) fun u s2 ⟨x, H2, I2, rx, a, ov, ex, g, q2⟩ => ?_
 subst ex
 obtain rfl : u = Value.ref a := rx
 exact zn9 hu I2 g ry fun s3 I3 => ⟨.bl (!ov.isSome), H2, I3, rfl, q2⟩
theorem zfI (hu : X.A.units + 1 < cLine) (ho : PE X o td) (hi : PE X i ty) (hv : PE X value tv) (hs : swapsWith value (some (.Subscript o i pos')) pos.line X.env = pure false) :
  PS X (.Assign [.Subscript o i pos'] value pos) (zoD td ty tv) := by
 intro pins s σ H D I h
 refine wpAny_Assign_Subscript (thn (hv pins s σ H _ I h) fun r s1 ⟨v, H1, I1, rv, q1⟩ => thn (ho pins s1 σ H1 _ I1 q1) fun u s2 ⟨x, H2, I2, rx, q2⟩ => thn (hi pins s2 σ H2 _ I2 q2) fun iv s3 ⟨y, H3, I3, ry, a, H4, ex, g, q3⟩ => ?_) hs
 subst ex
 obtain rfl : u = Value.ref a := rx
 exact zkt hu I3 g ry rv fun s4 I4 => ⟨σ, H4, I4, q3⟩
end
theorem zlW {P : Program} {w : World} {H : Hp} (h : Heap) (hb : sysModules < h.objs.size) : zbD P w H (h.push { cls := .type "dict", data := .dict #[] }) h.objs.size (.dK []) :=
 ⟨Nat.zero_le _, beq_eq_false_iff_ne.mpr (Ne.symm (Nat.ne_of_lt hb)), [], .nil, Heap.DictOf.new h⟩
theorem zlU {P : Program} {w : World} {H : Hp} (h : Heap) (hb : sysModules < h.objs.size) : zbD P w H (h.push { cls := .type "dict", data := .dict #[] }) h.objs.size (.dT []) :=
 ⟨Nat.zero_le _, beq_eq_false_iff_ne.mpr (Ne.symm (Nat.ne_of_lt hb)), [], .nil, _, #[], 0, Heap.get?_push_size _ rfl, ⟨rfl, rfl, rfl⟩, rfl, rfl, List.nodup_nil⟩
def zmd : TE := fun _ H Q => ∀ p, H p = none → Q (.ref p) (upd H p (.dK []))
def zmc : TE := fun _ H Q => ∀ p, H p = none → Q (.ref p) (upd H p (.dT []))
section
variable {X : Cx} {pos : Pos}
theorem zhD : PE X (.Dict [] [] pos) zmd := fun pins s σ H Q I h =>
 wpAny_Dict_empty ⟨.ref s.heap.objs.size, _, I.laid (a := s.heap.objs.size) (o := .dK []) (t' := s.toks) (fun _ _ q => Heap.get?_push_of_some _ q) (Nat.le_refl _) (zlW s.heap I.big), rfl, h _ (I.hok.fresh (Nat.le_refl _))⟩
theorem zlh : PE X (.Dict [] [] pos) zmc := fun pins s σ H Q I h =>
 wpAny_Dict_empty ⟨.ref s.heap.objs.size, _, I.laid (a := s.heap.objs.size) (o := .dT []) (t' := s.toks) (fun _ _ q => Heap.get?_push_of_some _ q) (Nat.le_refl _) (zlU s.heap I.big), rfl, h _ (I.hok.fresh (Nat.le_refl _))⟩
end
def zmb : List (TE × TE) → St → Hp → (List (V × V) → Hp → Prop) → Prop
 | [], _, H, Q => Q [] H
 | (tk, tv) :: r, σ, H, Q => tk σ H fun x H1 => tv σ H1 fun y H2 => zmb r σ H2 fun ps H3 => Q ((x, y) :: ps) H3
abbrev VV : List (V × V) → List (Value × Value) → Prop := Paired fun p q => RelV p.1 q.1 ∧ RelV p.2 q.2
def PPs (X : Cx) (pos : Pos) (keys : List (Option Expr)) (values : List Expr) (trs : List (TE × TE)) : Prop :=
 ∀ (pins : List (Addr × Obj)) (s : Shared) (σ : St) (H : Hp) (Q : List (V × V) → Hp → Prop), Inv X pins σ H s → zmb trs σ H Q →
  wpAny (model X.prog X.w) X.A (evalPairs (pairTrees keys values X.env pos)) (fun vs s' => ∃ ps H', Inv X pins σ H' s' ∧ VV ps vs ∧ Q ps H') X.xe s
structure M1 (X : Cx) (o : Expr) (m : Str) (apos : Pos) (e : Expr) (cpos : Pos) : Prop where
 base : attributeBase o m X.env (eval o X.env) = eval o X.env
 few : ((backTo cpos (starEach [e] X.env)).all (fun x => !x.1) && (backToKw cpos (keywordEach [] X.env)).all (fun x => x.1.isSome)
  && decide (([e] : List Expr).length + ([] : List Keyword).length + (if ([] : List Keyword).isEmpty then 0 else 1) < 30)) = true
 line : (apos.endLine == cpos.line) = true
 trees : backTo cpos (starEach [e] X.env) = [(false, eval e X.env)]
def IsD (H : Hp) (a : Addr) : Prop := (∃ kvs, Rd H a (.dK kvs)) ∨ ∃ kvs, Rd H a (.dT kvs)
theorem zpz {X : Cx} {pins : List (Addr × Obj)} {σ : St} {H : Hp} {s : Shared} {a : Addr} (I : Inv X pins σ H s) (d : IsD H a) :
  s.TypeIs (.ref a) "dict" ∧ (∀ b, Value.ref a = .ref b → ∃ ob, s.heap.get? b = some ob ∧ ob.dict = none) ∧ (a == sysModules) = false := by
 rcases d with ⟨kvs, e⟩ | ⟨kvs, e⟩
 ·obtain ⟨_, hd, vs, _, dd⟩ := zit I.hok e
  refine ⟨dd.typeIs, fun b q => ?_, hd⟩
  cases q
  obtain ⟨ob, _, _, h1, h2, _⟩ := dd
  exact ⟨ob, h1, h2.2.1⟩
 ·obtain ⟨_, hd, xs, _, dd⟩ := zis I.hok e
  refine ⟨dd.typeIs, fun b q => ?_, hd⟩
  cases q
  obtain ⟨ob, _, _, h1, h2, _⟩ := dd
  exact ⟨ob, h1, h2.2.1⟩
section
variable {X : Cx} {pins : List (Addr × Obj)} {σ : St} {H : Hp} {s : Shared} {a : Addr} {y d : V} {u r : Value} {o : Option V} {A : Around} {E : Value → Shared → Prop}
theorem zpK {Q : Value → Shared → Prop} (hu : A.units + 1 < cLine) (I : Inv X pins σ H s) (g : DGet H a y o) (ry : RelV y u) (h : ∀ w' s', Inv X pins σ H s' → RelV (o.getD .non) w' → Q w' s') :
  wpAny (model X.prog X.w) A (call (.builtin "dict.get") [.ref a, u]) Q E s := by
 rcases g with ⟨kvs, k, e, ey, l⟩ | ⟨kvs, k, b, e, ey, eb, l⟩
 ·subst ey
  obtain ⟨z, hd, vs, rel, dd⟩ := zit I.hok e
  refine call_meetsIn PySem.F.slot_dict_get dd.typeIs PySem.F.entry_dict_get (PySem.F.args_dict_get_2 _ _) (meets_dict_get (zbV X.prog X.w) a (zkc ry) hd) ⟨_, dd.mapOf, h _ _ (I.tok _) ?_⟩
  rw [l]
  exact (rel.val k).getD rfl
 ·subst ey
  cases (show u = Value.ref b from ry)
  obtain ⟨z, hd, xs, rel, dd⟩ := zis I.hok e
  refine call_meetsIn PySem.F.slot_dict_get dd.typeIs PySem.F.entry_dict_get (PySem.F.args_dict_get_2 _ _) (meetsH_dict_get (tupleKind (zbV X.prog X.w)) a b hd) ⟨tupleKind_room_in1 hu, k, xs, zgu I.hok eb, dd, h _ _ (I.tok _) ?_⟩
  rw [l]
  exact (rel.val k).getD rfl
end
def zmf (td ty : TE) : TE := fun σ H Q => td σ H fun x H1 => ∃ a, x = .ref a ∧ IsD H1 a ∧ ty σ H1 fun y H2 => ∃ o, DGet H2 a y o ∧ Q (o.getD .non) H2
section
variable {X : Cx} {o e f : Expr} {apos cpos : Pos} {td ty tx : TE}
theorem zlj (hu : X.A.units + 1 < cLine) (ho : PE X o td) (he : PE X e ty) (m : M1 X o "get" apos e cpos) : PE X (.Call (.Attribute o "get" apos) [e] [] cpos) (zmf td ty) := by
 intro pins s σ H Q I h
 refine wpAny_Call_method m.base m.few m.line PySem.F.plainAttrs_dict PySem.F.slot_dict_get PySem.F.type_dict_get (thn (ho pins s σ H _ I h) fun u s1 ⟨x, H1, I1, rx, a, ex, d, q1⟩ => ?_)
 subst ex
 obtain rfl : u = Value.ref a := rx
 obtain ⟨t1, t2, _⟩ := zpz I1 d
 refine ⟨t1, t2, ?_⟩
 rw [m.trees]
 refine Calls.callWith_builtin rfl (Calls.evalArgs_plain (Calls.spliced_cons (thn (he pins s1 σ H1 _ I1 q1) fun iv s2 ⟨y, H2, I2, ry, ov, g, q2⟩ => Calls.spliced_nil ?_)))
 exact zpK hu I2 g ry fun w' s3 I3 rw' => ⟨_, H2, I3, rw', q2⟩
end
section
variable {X : Cx} {pins : List (Addr × Obj)} {σ : St} {H : Hp} {s : Shared} {a : Addr} {kvs : List (Key × V)} {A : Around} {E : Value → Shared → Prop}
end
section
variable {X : Cx} {pins : List (Addr × Obj)} {σ : St} {H : Hp} {s : Shared} {a : Addr} {y : V} {u : Value} {A : Around} {E : Value → Shared → Prop}
end
end L2
namespace Att
open PySem PySem.W PySem.Calls PyProof.Rows
theorem zeM {P : Params} {h : Heap} : ∀ (ns : List Int) (vs : List Value), WellAll P h vs (ns.map WData.int) → IntsAre vs ns := by
 intro ns
 induction ns with
 | nil =>
  intro vs w
  rw [List.map_nil] at w
  cases w
  exact .nil
 | cons n ns ih =>
  intro vs w
  rw [List.map_cons] at w
  cases w with
  | cons a b =>
   cases a
   exact .cons _ _ (ih _ b)
theorem zjl {l : OpenLaw} {n : Nat} (hn : l.most = some n) {P : Params} {h : Heap} {args : List WData} {vals : List Value}
  (hpre : l.row.toRowW.claim.pre args = true) (hwl : WellAll P h vals args) :
  ∃ a vs ns, vals = [Value.ref a] ∧ args = [WData.list (ns.map WData.int)] ∧ h.get? a = some { cls := .type "list", data := .seq vs.toArray } ∧ IntsAre vs ns ∧ ns.length ≤ n := by
 have hsh : WShape.hasAll [] args [.list .int] = true := (pre_splitW hpre).1
 have hc : l.pre.holds [] { args := args } = true := (pre_splitW hpre).2
 obtain ⟨d, r, rfl, h1, h2⟩ := hasAllW_cons hsh
 obtain rfl := hasAllW_nil h2
 obtain ⟨xs, rfl, h3⟩ := hasW_list h1
 obtain ⟨ns, rfl⟩ := items_int h3
 have hlen : ns.length ≤ n := by
  unfold OpenLaw.pre at hc
  have h4 : (WTm.not (.lt (.lit (.int (n : Int))) (.len (.arg 0)))).holds [] { args := [.list (ns.map .int)] } = true := by
   have h4 := (holds_andW hc).1
   rw [hn] at h4
   exact h4
  have h5 := condW_of h4 (w_not (w_lt w_lit (w_len_list (w_arg rfl))))
  rw [List.length_map] at h5
  refine Nat.le_of_not_lt fun q => ?_
  have q' : (n : Int) < ((ns.length : Nat) : Int) := by omega
  first
   | (rw [decide_eq_true q'] at h5; exact absurd h5 (by decide))
   | (simp at h5; omega)
 cases hwl with
 | cons w1 w2 =>
  cases w2
  cases w1 with
  | list ho hall => exact ⟨_, _, ns, rfl, rfl, ho, zeM ns _ hall, hlen⟩
theorem zjE (l : OpenLaw) (args : List WData) : l.row.toRowW.claim.post args (.bool true) args = true :=
 postW_of (r := l.row.toRowW) (X := (true == true))
  (show WShape.has [] (.bool true) .bool = true by first | rfl | decide | simp [WShape.has, WShape.arms, WShape.armsAll])
  (show (WTm.eq .res (.lit (.bool true))).value [] { args := args, res := some (.bool true), after := args } = some (.bool (true == true)) from w_eq_bool (w_res rfl) w_lit) rfl
theorem attach_call {l : OpenLaw} {n : Nat} {q : Program} {loose : List Str} {XP : (Str → Option Value) → Heap → Prop} {YP : World → Heap → Prop} {d : DefRec}
  (hn : l.most = some n) (hdf : d.params.defaults = [])
  (call : ∀ (w : World) (s₀ s₁ : Shared) (mg mb : Str → Option Value) (fa : Addr) (o : Obj) (pm cd doc : Value) (a : Addr) (vs : List Value) (ns : List Int),
   Ground q loose [] XP w s₀ mg mb s₁.heap → YP w s₁.heap →
   s₁.heap.get? fa = some o → o.data = .func (docDef d.name d.params d.body d.scope pm cd doc) → s₁.heap.CodeRec cd d.name → mg d.name = some (.ref fa) →
   s₁.heap.get? a = some { cls := .type "list", data := .seq vs.toArray } → IntsAre vs ns → ns.length ≤ n → s₁.gens = #[] →
   codeAny (model l.prog w) callerA (.call (.ref fa) ⟨[.ref a], []⟩) (fun r s' => r = .ok (.ret (.bool true)) ∧ OldK s₁.heap s'.heap ∧ s'.os = s₁.os ∧ AllBare s'.gens) s₁) :
  WalkO q loose XP YP l.row.toRowW d [] (fun f vs => PySem.call f vs) := by
 intro w s₀ s₁ mg mb G Y fa o pm cd doc dV kV ho hd hcd hD hmg hg args vals as hpre hlay hrd hwl hlo
 obtain rfl : dV = .none := Dflts.none hD hdf
 obtain rfl : kV = .none := Dflts.noKw hD
 obtain ⟨a, vs, ns, rfl, rfl, hobj, hints, hlen⟩ := zjl hn hpre hwl
 refine enter_call (codeAny_mono (call w s₀ s₁ mg mb fa o pm cd doc a vs ns G Y ho (fd_plain hd) hcd hmg hobj hints hlen hg) fun r s' hq => ?_)
 obtain ⟨rfl, h2, h3, h4⟩ := hq
 exact ⟨.inl ⟨.bool true, .bool true, [], rfl, fun _ => rfl, .bool true, zjE l _, fun _ => ⟨List.Pairwise.nil, fun _ hm => (nomatch hm)⟩⟩, h2, h3, h4⟩
section
variable {prog : Program} {w : World} {A : Around} {E : Value → Shared → Prop} {s : Shared} {K : Frag}
end
end Att
namespace L2
open PySem PySem.Spec PyProof.Rows
theorem zf7 : ∀ {vs : List Value} {ns : List Int}, IntsAre vs ns → Vals (ns.map V.int) vs
 | _, _, .nil => .nil
 | _, _, .cons n t h => .cons ⟨t, rfl⟩ (zf7 h)
end L2
namespace L2
open PySem PySem.Spec PyProof.Rows
end L2
/- THE LAST THEOREM (shape; LID, My.* are yours):
   My.Adr: a structure of the addresses that your layer names (classes, functions); My.Txt K t: a structure (Prop) of the equations over K;
   My.txt_mk : {K} {implicit addresses ..} (e1 : nsIn K mainGlobals "law" = some (some (.ref f))) (e2 : K.lookup f = some ⟨oc, od, .func (fnOf "law" "law" params body scope dV kV doc pm an cdv ct), sl⟩) (e3 : codeIn K cdv "law" = true) .. : ∃ t, My.Txt K t

set_option maxRecDepth 100000 in
set_option maxHeartbeats 0 in
theorem PySem.Challenge.cw_LID_holds : PySem.Challenge.rw_LID.Holds := by
 w_on; o_law; k_head; (case hw => w_witness2)
 k_fill
 refine L2.walk_of (l := PySem.Challenge.rw_LID) (n := 63) (k := 40) (x := "script") (CX := fun w => ..) (sp := fun _ => My.sp_law) rfl (by decide) rfl ⟨rfl, by decide, by decide⟩ (fun w h Y => PySem.W.kIn_of Y) ?F ?S ?C
 case F =>
  intro w mg fa h KX G hmg
  have T : ∃ t, My.Txt (L2.KOf KX) t := by
   dsimp only [L2.KOf]                          -- K must stand as «<heap const> w.params» for k_is
   refine' My.txt_mk ?e1 ?e2 ?e3 ..
   (case e1 => PySem.W.k_is)                    -- in the order: a name -> its address -> its object -> its parts
   (case e2 => PySem.W.k_is)
   ..
  obtain ⟨t, T⟩ := T
  have e0 := hmg.symm.trans (PySem.W.mg_of KX G T.law)
  cases e0                                       -- fa is the law's own address
  exact ⟨_, fun s u => .of_eq rfl, fun base kb nb => My.law_fn T kb nb⟩     -- if «.of_eq rfl» comes too early: refine' ⟨_, ?b, fun base kb nb => My.law_fn T kb nb⟩; exact fun s u => .of_eq rfl
 case S => exact fun w H a ns hl hO hS => ..
 case C => exact ..
(the tactic k_is has no namespace: write k_is) -/

/-! SHORT WORDS over the layer: a def of the text, its body, what a loop and a test want. -/
namespace L2
open PySem PySem.Spec PyProof.Rows
def zdl (s : Stmt) (j : Nat) : Stmt := match s with
 | .ClassDef _ _ _ body _ _ _ _ _ _ _ => body.getD j (.Pass ⟨0, 0, 0, 0⟩)
 | _ => .Pass ⟨0, 0, 0, 0⟩
def zau (s : Stmt) : Arguments := match s with
 | .FunctionDef _ a _ _ _ _ _ _ _ _ => a
 | _ => { posonlyargs := [], args := [], vararg := none, kwonlyargs := [], kw_defaults := [], kwarg := none, defaults := [] }
def zar (s : Stmt) : List Stmt := match s with
 | .FunctionDef _ _ b _ _ _ _ _ _ _ => b
 | _ => []
def zaf (s : Stmt) : Scope := match s with
 | .FunctionDef _ _ _ _ _ _ sc _ _ _ => sc
 | _ => { kind := .function, names := [], isGenerator := false, isCoroutine := false }
abbrev CX0 : CXT := fun _ _ _ _ _ _ => False
abbrev E0 : XK := fun _ _ _ => False
theorem zll {X : Cx} : zeX CX0 X E0 := fun _ _ _ _ _ _ _ h => h.elim
structure Fun (K : PySem.W.Frag) (x qual : Str) (st : Stmt) (f : Addr) (fd : FuncData) : Prop where
 ex : ∃ (oc : Value) (od : Option Addr) (kV doc pm : Value) (an : Option Addr) (cdv ct : Value) (osl : Array (Option Value)),
  fd = PySem.W.fnOf x qual (zau st) (zar st) (zaf st) .none kV doc pm an cdv ct ∧ K.lookup f = some ⟨oc, od, .func fd, osl⟩ ∧ PySem.W.codeIn K cdv qual = true
 kp : PySem.W.keepIn K (.ref f) = true
section
variable {P : Program} {w : World} {K : PySem.W.Frag} {mg : Str → Option Value} {base : Heap}
theorem Fun.ok {x qual : Str} {st : Stmt} {f : Addr} {fd : FuncData} {N ps : List Str} {k : Nat} {sp : Sp} (F : Fun K x qual st f fd) (S : zav N ps (zaf st)) (len : ∀ vs H Q E, sp vs H Q E → vs.length = ps.length)
  (hbody : ∀ (cdv : Value) (A : Around) (outer : List Env) (s : Shared) (H : Hp) (vs : List V) (Q : VK) (E : XK), Room k (A.deeper (envOfC qual (zaf st) s.heap.objs.size f cdv)) → sp vs H Q E →
   ∃ t, PSs (cxOf CX0 P w K mg base N qual (zaf st) f cdv A outer s H E).nox (zar st) t ∧ t { nx := fun _ H' => Q .non H', rt := Q } (start N vs) H) : FnOk P w K mg base CX0 (k + 1) f fd ps sp := by
 obtain ⟨oc, od, kV, doc, pm, an, cdv, ct, osl, rfl, lk, hcd⟩ := F.ex
 refine zpF lk hcd S len fun A outer s H vs Q E hr hsp => ?_
 obtain ⟨t, h, q⟩ := hbody cdv A outer s H vs Q E hr hsp
 exact ⟨t, h.nox, q⟩
theorem Fun.binds {x qual : Str} {st : Stmt} {f : Addr} {fd : FuncData} {ps : List Str} (F : Fun K x qual st f fd)
  (h : ∀ (kV doc pm : Value) (an : Option Addr) (cdv ct : Value) (us : List Value), us.length = ps.length → bindArgs (PySem.W.fnOf x qual (zau st) (zar st) (zaf st) .none kV doc pm an cdv ct) ⟨us, []⟩ = pure (ps.zip us)) : zdo K fd ps [] := by
 obtain ⟨oc, od, kV, doc, pm, an, cdv, ct, osl, rfl, lk, hcd⟩ := F.ex
 exact .all (h kV doc pm an cdv ct)
theorem zal {x qual : Str} {st : Stmt} {f : Addr} {oc : Value} {od an : Option Addr} {osl : Array (Option Value)} {kV doc pm cdv ct : Value} (l : K.lookup f = some ⟨oc, od, .func (PySem.W.fnOf x qual (zau st) (zar st) (zaf st) .none kV doc pm an cdv ct), osl⟩)
  (c : PySem.W.codeIn K cdv qual = true) (k : PySem.W.keepIn K (.ref f) = true) : Fun K x qual st f (PySem.W.fnOf x qual (zau st) (zar st) (zaf st) .none kV doc pm an cdv ct) := ⟨⟨oc, od, kV, doc, pm, an, cdv, ct, osl, rfl, l, c⟩, k⟩
end
theorem ze3 {A : Around} {k : Nat} (hr : Room k A) : A.units + 1 < cLine := Nat.lt_of_le_of_lt (Nat.add_le_add_left (by decide : 1 ≤ 64) _) hr.units
theorem zjd {n : Nat} (h : n ≤ 1000) : n < sizeLine := Nat.lt_of_le_of_lt h (by decide)
section
variable {X : Cx}
theorem pv (i : Nat) {x : Str} {pos : Pos} (hN : X.N[i]? = some x := by rfl) (hv : Vis X.env.scope x := by first | exact Or.inl rfl | exact Or.inr (Or.inl rfl) | exact Or.inr (Or.inr rfl)) (hd : (x == ("__debug__" : Str)) = false := by decide)
  (hcd : (x == ("__classdict__" : Str)) = false := by decide) : PE X (.Name x pos) (tVar i) := zo6 hN hv hd hcd
end
theorem iteF {A B : Prop} (h : B) : if false = true then A else B := by
 rw [if_neg Bool.false_ne_true]
 exact h
theorem iteT {A B : Prop} (h : A) : if true = true then A else B := by
 rw [if_pos rfl]
 exact h
theorem ite2 {c A B : Prop} [Decidable c] (h1 : c → A) (h2 : ¬ c → B) : if c then A else B := by
 by_cases h : c
 ·rw [if_pos h]
  exact h1 h
 ·rw [if_neg h]
  exact h2 h
def Same (H H' : Hp) : Prop := ∀ b o, H b = some o → H' b = some o
theorem Same.refl (H : Hp) : Same H H := fun _ _ h => h
theorem Same.trans {H H1 H2 : Hp} (a : Same H H1) (b : Same H1 H2) : Same H H2 := fun c o h => b c o (a c o h)
theorem Same.free {H H' : Hp} (e : Same H H') {l : Addr} (h : H' l = Option.none) : H l = Option.none := by
 cases q : H l with
 | none => rfl
 | some o =>
  rw [e l o q] at h
  cases h
theorem Same.seq {K : PySem.W.Frag} {H H' : Hp} {a : Addr} {xs : List V} (e : Same H H') (h : SqL K H a xs) : SqL K H' a xs := by
 rcases h with (h | ⟨o, h⟩) | h
 ·exact .inl (.inl (e _ _ h))
 ·exact .inl (.inr ⟨o, e _ _ h⟩)
 ·exact .inr h
section
variable {κ : Type} [DecidableEq κ]
theorem zhl {kvs : List (κ × V)} {k : κ} (h : valV kvs k = none) : ¬ k ∈ kvs.map (·.1) := by
 intro m
 obtain ⟨p, hp, e⟩ := List.mem_map.mp m
 have q : (kvs.any fun kv => decide (kv.1 = k)) = true := List.any_eq_true.mpr ⟨p, hp, decide_eq_true e⟩
 rw [zcE, h] at q
 exact absurd q (by simp)
theorem ziG {kvs : List (κ × V)} {k : κ} {v : V} (h : valV kvs k = some v) : k ∈ kvs.map (·.1) := by
 have q : (kvs.any fun kv => decide (kv.1 = k)) = true := by
  rw [zcE, h]
  all_goals rfl
 obtain ⟨p, hp, e⟩ := List.any_eq_true.mp q
 exact List.mem_map.mpr ⟨p, hp, of_decide_eq_true e⟩
theorem zjZ : ∀ {l : List κ} {k : κ}, l.Nodup → ¬ k ∈ l → (l ++ [k]).Nodup
 | [], k, _, _ => by simp
 | a :: r, k, h, hk => by
  obtain ⟨h1, h2⟩ := List.nodup_cons.mp h
  show (a :: (r ++ [k])).Nodup
  refine List.nodup_cons.mpr ⟨fun m => ?_, zjZ h2 fun m => hk (List.mem_cons.mpr (Or.inr m))⟩
  rcases List.mem_append.mp m with q | q
  ·exact h1 q
  ·exact hk (List.mem_cons.mpr (Or.inl (List.mem_singleton.mp q).symm))
theorem znJ {kvs : List (κ × V)} {k : κ} (v : V) (hn : (kvs.map (·.1)).Nodup) (h : valV kvs k = none) : ((putK kvs k v).map (·.1)).Nodup := by
 rw [zep v h, List.map_append]
 exact zjZ hn (zhl h)
end
end L2
set_option Elab.async false
set_option linter.all false
set_option maxRecDepth 100000
set_option maxHeartbeats 4000000
namespace L2
open PySem PySem.Spec PyProof.Rows
structure zaI (K : PySem.W.Frag) (mg : Str → Option Value) (x : Str) (st : Stmt) (ps : List Str) (f : Addr) (fd : FuncData) : Prop where
 fn : Fun K x x st f fd
 m : mg x = some (.ref f)
 b : zdo K fd ps []
def Has (P : Program) (w : World) (K : PySem.W.Frag) (mg : Str → Option Value) (base : Heap) (x : Str) (k : Nat) (ps : List Str) (sp : Sp) : Prop :=
 ∃ (f : Addr) (fd : FuncData), mg x = some (.ref f) ∧ PySem.W.keepIn K (.ref f) = true ∧ zdo K fd ps [] ∧ FnOk P w K mg base CX0 k f fd ps sp
section
variable {P : Program} {w : World} {K : PySem.W.Frag} {mg : Str → Option Value} {base : Heap} {x : Str} {k : Nat} {ps : List Str} {sp : Sp} {st : Stmt} {f : Addr} {fd : FuncData}
theorem zaI.has (D : zaI K mg x st ps f fd) (F : FnOk P w K mg base CX0 k f fd ps sp) : Has P w K mg base x k ps sp := ⟨f, fd, D.m, D.fn.kp, D.b, F⟩
theorem Has.mono {j : Nat} (h : Has P w K mg base x j ps sp) (hk : j ≤ k) : Has P w K mg base x k ps sp :=
 let ⟨f, fd, a, b, c, F⟩ := h
 ⟨f, fd, a, b, c, F.mono hk⟩
theorem Has.imp {sp' : Sp} (h : Has P w K mg base x k ps sp) (i : ∀ vs H Q E, sp' vs H Q E → sp vs H Q E) : Has P w K mg base x k ps sp' :=
 let ⟨f, fd, a, b, c, F⟩ := h
 ⟨f, fd, a, b, c, F.imp i⟩
end
section
variable {X : Cx} {k j : Nat} {ps : List Str} {sp : Sp} {x : Str} {p pos : Pos} {e : Expr} {es : List Expr} {t : TA}
theorem zaj (F : Has X.prog X.w X.K X.mg X.base x k ps sp) (hr : Room j X.A) (ha : PA X (e :: es) t) (hk : k ≤ j := by decide) (hg : Gl X x := by rfl) (hdb : (x == ("__debug__" : Str)) = false := by decide)
  (he : starEach (e :: es) X.env = (false, eval e X.env) :: starEach es X.env := by rfl) (hpl : (backTo pos (starEach es X.env)).any (·.1) = false := by rfl) :
  PE X (.Call (.Name x p) (e :: es) [] pos) (ziU sp [] E0 t) := by
 obtain ⟨f, fd, a, b, c, F⟩ := F
 exact zns F (hr.mono hk) hg a b c .nil zll ha hdb he hpl
theorem zjP (F : Has X.prog X.w X.K X.mg X.base x k ps sp) (hr : Room j X.A) (hk : k ≤ j := by decide) (hg : Gl X x := by rfl) (hdb : (x == ("__debug__" : Str)) = false := by decide) :
  PE X (.Call (.Name x p) [] [] pos) (ziU sp [] E0 tNil) := by
 obtain ⟨f, fd, a, b, c, F⟩ := F
 exact zlk F (hr.mono hk) hg a b c .nil zll hdb
end
theorem zhR {A : Around} {k : Nat} (hr : Room k A) : A.units < cLine := Nat.lt_of_succ_lt (ze3 hr)
structure Blt (mg : Str → Option Value) : Prop where
 len : mg "len" = none
 isinstance : mg "isinstance" = none
 list_ : mg "list" = none
 tuple_ : mg "tuple" = none
 bool_ : mg "bool" = none
 str_ : mg "str" = none
 int_ : mg "int" = none
 range : mg "range" = none
 zip : mg "zip" = none
 reversed : mg "reversed" = none
 min : mg "min" = none
 max : mg "max" = none
section
variable {X : Cx}
theorem zhh : zci X (.builtin "isinstance") (fun xs H Q => ∃ (x : V) (c t : String) (b : Bool), xs = [x, .ty c] ∧ TyOf X.K H x (.type t) ∧ PySem.W.kitOne X.K (.type t) (.type c) = some b ∧ Q (.bl b) H) := by
 intro pins s σ H xs us Q I r h
 obtain ⟨x, c, t, b, rfl, ty, e, q⟩ := h
 obtain ⟨u, v, rfl, ru, rv⟩ := r.two
 cases (show v = Value.type c from rv)
 exact zke I ru ty e fun tk => ⟨.bl b, H, I.tok _, rfl, q⟩
theorem ziE : ∀ {cs : List String} {us : List Value}, Vals (cs.map V.ty) us → us = cs.map Value.type
 | [], _, r => by cases r; rfl
 | c :: cs, _, r => by
  rw [List.map_cons] at r
  cases r with
  | cons a t => cases (show _ = Value.type c from a); rw [ziE t]; rfl
theorem zil {pins : List (Addr × Obj)} {σ : St} {H : Hp} {s : Shared} {A : Around} {E : Value → Shared → Prop} {Q : Value → Shared → Prop} {b : Bool} {x : V} {u t : Value} {tp : Addr} {cs : List String} (I : Inv X pins σ H s) (rx : RelV x u) (ty : TyOf X.K H x t)
  (htp : H tp = some (.tup (cs.map V.ty))) (e : PySem.W.kitAny X.K t (cs.map Value.type) = some b) (h : ∀ tk, Q (.bool b) { s with toks := tk }) :
  wpAny (model X.prog X.w) A (call (.builtin "isinstance") [u, .ref tp]) Q E s := by
 obtain ⟨its, rv, ⟨⟨oc, od, oda, osl⟩, ho, hc, n, hd⟩, _⟩ := I.tuple (SqT.of htp)
 obtain rfl := ziE rv
 simp only at hc hd
 subst hc hd
 cases ty with
 | non => cases (show u = Value.none from rx); exact PySem.W.kia_tup PySem.W.kitx_none I.kIn True.intro ho e (fun z => nomatch z) h
 | bl y => cases (show u = Value.bool y from rx); exact PySem.W.kia_tup PySem.W.kitx_bool I.kIn True.intro ho e (fun z => nomatch z) h
 | int i => obtain ⟨t, q⟩ := (show ∃ t, u = Value.int i t from rx); cases q; exact PySem.W.kia_tup PySem.W.kitx_int I.kIn True.intro ho e (fun z => nomatch z) h
 | str y => obtain ⟨t, q⟩ := (show ∃ t, u = Value.str y t from rx); cases q; exact PySem.W.kia_tup PySem.W.kitx_str I.kIn True.intro ho e (fun z => nomatch z) h
 | flt y => obtain ⟨t, q⟩ := (show ∃ t, u = Value.float y t from rx); cases q; exact PySem.W.kia_tup PySem.W.kitx_float I.kIn True.intro ho e (fun z => nomatch z) h
 | @lst a xs ea =>
  cases (show u = Value.ref a from rx)
  obtain ⟨_, _, n, _, h1⟩ := (show zbD X.prog X.w H s.heap a (.lst xs) from I.hok a _ ea)
  exact PySem.W.kia_tup PySem.W.kitx_list I.kIn ⟨_, h1, rfl⟩ ho e (fun z => nomatch z) h
 | @frz a ob xs ea =>
  cases (show u = Value.ref a from rx)
  obtain ⟨_, _, _, n, _, h1⟩ := (show zbD X.prog X.w H s.heap a (.frz ob (.lst xs)) from I.hok a _ ea)
  exact PySem.W.kia_tup PySem.W.kitx_list I.kIn ⟨_, h1, rfl⟩ ho e (fun z => nomatch z) h
 | @tup a xs ea =>
  cases (show u = Value.ref a from rx)
  obtain ⟨_, _, _, p⟩ := (show zbD X.prog X.w H s.heap a (.tup xs) from I.hok a _ ea)
  obtain ⟨o, h1, h2, _⟩ := p
  exact PySem.W.kia_tup PySem.W.kitx_tuple I.kIn ⟨o, h1, h2⟩ ho e (fun z => nomatch z) h
 | @dK a kvs ea =>
  cases (show u = Value.ref a from rx)
  obtain ⟨_, _, vs, _, p⟩ := (show zbD X.prog X.w H s.heap a (.dK kvs) from I.hok a _ ea)
  obtain ⟨o, es, ep, h1, h2, _⟩ := p
  exact PySem.W.kia_tup PySem.W.kitx_dict I.kIn ⟨o, h1, h2.1⟩ ho e (fun z => nomatch z) h
 | @dT a kvs ea =>
  cases (show u = Value.ref a from rx)
  obtain ⟨_, _, xs, _, o, es, ep, h1, h2, _⟩ := (show zbD X.prog X.w H s.heap a (.dT kvs) from I.hok a _ ea)
  exact PySem.W.kia_tup PySem.W.kitx_dict I.kIn ⟨o, h1, h2.1⟩ ho e (fun z => nomatch z) h
 | @ins a C dx fs ea cl ha hn htk hm =>
  cases (show u = Value.ref a from rx)
  obtain ⟨mA, O, _⟩ := zeN I.hok ea
  obtain ⟨od, J, _⟩ := O.look
  exact PySem.W.kia_tup (PySem.W.kitx_own (cl.get _) cl.hd ha hn htk hm) I.kIn J ho e (fun z => nomatch z) h
theorem zgJ : zci X (.builtin "isinstance") (fun xs H Q => ∃ (x : V) (p : Addr) (cs : List String) (t : String) (b : Bool), xs = [x, .ref p] ∧ H p = some (.tup (cs.map V.ty)) ∧ TyOf X.K H x (.type t) ∧ PySem.W.kitAny X.K (.type t) (cs.map Value.type) = some b ∧ Q (.bl b) H) := by
 intro pins s σ H xs us Q I r h
 obtain ⟨x, p, cs, t, b, rfl, hp, ty, e, q⟩ := h
 obtain ⟨u, v, rfl, ru, rv⟩ := r.two
 cases (show v = Value.ref p from rv)
 exact zil I ru ty hp e fun tk => ⟨.bl b, H, I.tok _, rfl, q⟩
end
section
variable {X : Cx}
theorem zlm (hu : X.A.units < cLine) : OpR X (compareOp .NotEq) (fun x y H Q => ∃ l b xs, x = .ref l ∧ y = .ref b ∧ SqL X.K H l xs ∧ SqL X.K H b [] ∧ Q (.bl (!xs.isEmpty)) H) := by
 intro pins s σ H x y v u Q I rx ry h
 obtain ⟨l, b, xs, rfl, rfl, hl, hb, q⟩ := h
 cases rx
 cases ry
 obtain ⟨its, r, pl, hz⟩ := I.list hl
 obtain ⟨its2, r2, pl2, _⟩ := I.list hb
 cases r2
 cases r with
 | nil => exact SeqAt.RcNeAt.lists (e := fun _ => true) pl.isList pl2.isList rfl hu (fun j h1 _ => absurd h1 (Nat.not_lt_zero _)) _ _ _ _ ⟨.bl false, H, I, rfl, q⟩
 | cons a t => exact SeqAt.RcNeAt.lists_lengths pl.isList pl2.isList (by simp) hu _ _ _ _ ⟨.bl true, H, I, rfl, q⟩
theorem zln (hu : X.A.units < cLine) : OpR X (compareOp .Eq) (fun x y H Q => ∃ l b xs, x = .ref l ∧ y = .ref b ∧ SqL X.K H l xs ∧ SqL X.K H b [] ∧ Q (.bl xs.isEmpty) H) := by
 intro pins s σ H x y v u Q I rx ry h
 obtain ⟨l, b, xs, rfl, rfl, hl, hb, q⟩ := h
 cases rx
 cases ry
 obtain ⟨its, r, pl, hz⟩ := I.list hl
 obtain ⟨its2, r2, pl2, _⟩ := I.list hb
 cases r2
 cases r with
 | nil => exact SeqAt.RcAt.lists (e := fun _ => true) pl.isList pl2.isList rfl hu (fun j h1 _ => absurd h1 (Nat.not_lt_zero _)) _ _ _ _ ⟨.bl true, H, I, rfl, q⟩
 | cons a t => exact SeqAt.RcAt.lists_lengths pl.isList pl2.isList (by simp) hu _ _ _ _ ⟨.bl false, H, I, rfl, q⟩
end
section
open PySem.AutoSeq1
theorem ziq (l : Addr) (items : Array Value) (n : Nat) (b : Addr) (items2 : Array Value) (n2 : Nat) (dd : Option Addr) (sl : Array (Option Value)) (hs0 : ¬(!items.isEmpty && Builtin.List.listTooLong (items.size + items2.size)) = true) (hs1 : items.size ≤ sizeLine) (hs2 : items.size + items2.size ≤ sizeLine + 1) :
  Meets (Builtin.«list.extend» ⟨[.ref l, .ref b], []⟩) (fun _ R s => s.heap.get? l = some { cls := .type "list", dict := none, data := .seq items n, slots := #[] } ∧ s.heap.get? b = some { cls := .type "tuple", dict := dd, data := .seq items2 n2, slots := sl } ∧ R (.ok (.ret Value.none)) { s with heap := s.heap.update l (Obj.mapSeq fun x => x ++ items2), toks := s.toks }) :=
 .of_wp fun prog w A R s h => by
  obtain ⟨hp, g, d, tk, os⟩ := s; obtain ⟨hl, hb, h⟩ := h; have f1 := idx_int; have f2 := AutoSeq1.sub_tuple_tuple; have f3 := AutoSeq1.sub_list_list; have f4 := AutoSeq1.sub_tuple_list; have f5 := AutoSeq1.sub_list_tuple;
  have hz' : (items ++ items2).size ≤ sizeLine + 1 := by rw [Array.size_append]; exact hs2
  wp_walk using (wpAny_updateSeq hl rfl (hz := hs1) (_hz' := hz')), wpAny_loadPart' hl, wpAny_loadPart' hb; exact ⟨_, rfl, h⟩
end
section
variable {X : Cx}
def zhw : V → List V → Hp → VK → Prop := fun x vs H Q => ∃ l b xs zs, x = .ref l ∧ vs = [.ref b] ∧ H l = some (.lst xs) ∧ (H b = some (.lst zs) ∨ H b = some (.tup zs)) ∧ xs.length + zs.length ≤ sizeLine ∧ Q .non (upd H l (.lst (xs ++ zs)))
theorem zcT : MtM X "list.extend" zhw := by
 intro pins s σ H x vs v us Q I rx rv h
 obtain ⟨l, b, xs, zs, rfl, rfl, hH, hB, hz, q⟩ := h
 rcases hB with hB | hB
 ·exact zj0 pins s σ H _ _ v us Q I rx rv ⟨l, b, xs, zs, rfl, rfl, hH, hB, hz, q⟩
 ·cases rx
  obtain ⟨u, rfl, ru⟩ := rv.one
  cases ru
  obtain ⟨z, its, n, r, hl, e⟩ := I.lstM hH
  obtain ⟨its2, r2, ⟨⟨oc, od, oda, osl⟩, ho, hc, n2, hd⟩, _⟩ := I.tuple (SqT.of hB)
  simp only at hc hd
  subst hc hd
  have hl2 := r2.length
  have hsz : its.toArray.size + its2.toArray.size ≤ sizeLine := by rw [List.size_toArray, List.size_toArray]; omega
  have hlong : ¬ (!its.toArray.isEmpty && Builtin.List.listTooLong (its.toArray.size + its2.toArray.size)) = true := by
   rw [zhF hsz, Bool.and_false]
   exact Bool.false_ne_true
  refine call_meets F.slot_list_extend ⟨_, e, rfl⟩ F.entry_list_extend (F.args_list_extend_2 _ _)
   (ziq l its.toArray n b its2.toArray n2 od osl hlong (by rw [List.size_toArray]; omega) (by omega)) ⟨e, ho, ?_⟩
  refine ⟨.non, _, I.lset (its' := its ++ its2) hH e (by simp) (r.append r2) ?_, rfl, q⟩
  rw [List.length_append]
  omega
def zjz : V → List V → Hp → VK → Prop := fun x vs H Q => ∃ l xs i y, x = .ref l ∧ vs = [.int i, y] ∧ H l = some (.lst xs) ∧ 0 ≤ i ∧ i ≤ xs.length ∧ xs.length < sizeLine ∧ Q .non (upd H l (.lst (xs.take i.toNat ++ y :: xs.drop i.toNat)))
theorem zgp : MtM X "list.insert" zjz := by
 intro pins s σ H x vs v us Q I rx rv h
 obtain ⟨l, xs, i, y, rfl, rfl, hH, h0, h1, hz, q⟩ := h
 cases rx
 obtain ⟨u, w, rfl, ru, rw'⟩ := rv.two
 obtain ⟨t, rfl⟩ := ru
 obtain ⟨z, its, n, r, hl, e⟩ := I.lstM hH
 have hn := zhJ
 have hfit : ¬(!Builtin.List.listFitsIndex i) = true := by
  rw [fitsIndex_both (by omega) (by omega)]
  exact Bool.false_ne_true
 refine call_meets F.slot_list_insert ⟨_, e, rfl⟩ F.entry_list_insert (F.args_list_insert_3 _ _ _) (AutoSeq1.list_insert_list_int_val_1 l its.toArray n i t w hfit (by rw [List.size_toArray]; omega)) ⟨e, ?_⟩
 refine ⟨.non, _, I.lset (its' := its.take i.toNat ++ w :: its.drop i.toNat) hH e ?_ (Vals.append (r.take _) (.cons rw' (r.drop _))) ?_, rfl, q⟩
 ·have hi : ¬ i < 0 := by omega
  have hm : min i.toNat its.length = i.toNat := by omega
  apply Array.ext'
  simp [hi, hm]
  exact List.take_of_length_le (by rw [List.length_drop]; omega)
 ·rw [List.length_append, List.length_cons, List.length_take, List.length_drop]
  omega
end
section
variable {H H' H0 : Hp} {p l b : Addr} {o u : HO}
theorem za6 (hp : H p = none) (h : H b = some u) : upd H p o b = some u := by rw [zai (zag h hp)]; exact h
theorem zcC (n : b ≠ l) (h : H b = some u) : upd H l o b = some u := by rw [zai n]; exact h
theorem Same.new (S : Same H0 H) (hp : H p = none) : Same H0 (upd H p o) := fun c q h => za6 hp (S c q h)
theorem Same.set (S : Same H0 H) (h0 : H0 l = none) : Same H0 (upd H l o) := fun c q h => by
 rw [zai (zag h h0)]
 exact S c q h
def TupK (H H' : Hp) : Prop := ∀ c xs, H c = some (.tup xs) → H' c = some (.tup xs)
theorem TupK.refl (H : Hp) : TupK H H := fun _ _ h => h
theorem TupK.trans {H1 H2 : Hp} (a : TupK H H1) (b : TupK H1 H2) : TupK H H2 := fun c xs h => b c xs (a c xs h)
theorem Same.tupK (S : Same H H') : TupK H H' := fun c _ h => S c _ h
theorem TupK.new (S : TupK H0 H) (hp : H p = none) : TupK H0 (upd H p o) := fun c _ h => za6 hp (S c _ h)
theorem TupK.lst {xs : List V} (S : TupK H0 H) (hl : H l = some (.lst xs)) : TupK H0 (upd H l o) := fun c _ h => by
 have q := S c _ h
 rw [zai (zch q hl (by intro z; cases z))]
 exact q
theorem TupK.dK {xs : List (Key × V)} (S : TupK H0 H) (hl : H l = some (.dK xs)) : TupK H0 (upd H l o) := fun c _ h => by
 have q := S c _ h
 rw [zai (zch q hl (by intro z; cases z))]
 exact q
end
theorem zh2 {n : Nat} (h : n ≤ 1000000) : n ≤ sizeLine := Nat.le_trans h (by decide)
theorem zcc {n : Nat} (h : n ≤ 1000000) : n < sizeLine := Nat.lt_of_le_of_lt h (by decide)
section
variable {K : PySem.W.Frag}
theorem zj7 : PySem.W.kitOne K (.type "list") (.type "list") = some true := by kernel_rfl
theorem zmx : PySem.W.kitOne K (.type "list") (.type "tuple") = some false := by kernel_rfl
theorem zmw : PySem.W.kitOne K (.type "tuple") (.type "list") = some false := by kernel_rfl
theorem zfj : PySem.W.kitOne K (.type "tuple") (.type "tuple") = some true := by kernel_rfl
theorem zmz : PySem.W.kitOne K (.type "bool") (.type "bool") = some true := by kernel_rfl
theorem zmy : PySem.W.kitOne K (.type "int") (.type "bool") = some false := by kernel_rfl
theorem zpm : PySem.W.kitOne K (.type "int") (.type "str") = some false := by kernel_rfl
theorem zpn : PySem.W.kitOne K (.type "int") (.type "int") = some true := by kernel_rfl
theorem zpl : PySem.W.kitOne K (.type "str") (.type "bool") = some false := by kernel_rfl
theorem zgt : PySem.W.kitOne K (.type "str") (.type "str") = some true := by kernel_rfl
theorem zpq : PySem.W.kitAny K (.type "list") ((["list", "tuple"] : List String).map Value.type) = some true := by kernel_rfl
theorem zpo : PySem.W.kitAny K (.type "tuple") ((["list", "tuple"] : List String).map Value.type) = some true := by kernel_rfl
theorem zps : PySem.W.kitAny K (.type "bool") ((["list", "tuple"] : List String).map Value.type) = some false := by kernel_rfl
theorem zpr : PySem.W.kitAny K (.type "int") ((["list", "tuple"] : List String).map Value.type) = some false := by kernel_rfl
theorem zpp : PySem.W.kitAny K (.type "str") ((["list", "tuple"] : List String).map Value.type) = some false := by kernel_rfl
end
end L2
set_option Elab.async false
set_option linter.all false
set_option maxRecDepth 100000
set_option maxHeartbeats 4000000
namespace L2
open PySem PySem.Spec PyProof.Rows
inductive Say where
 | lamp (k : Int) | dark (k : Int) | neg (s : Say) | conj (s t : Say) | disj (s t : Say) | ev (s : Say) | so (s : Say)
 deriving DecidableEq
def Say.sz : Say → Nat
 | .lamp _ => 3
 | .dark _ => 3
 | .neg s => s.sz + 2
 | .conj s t => s.sz + t.sz + 2
 | .disj s t => s.sz + t.sz + 2
 | .ev s => s.sz + 2
 | .so s => s.sz + 2
def Say.tag : Say → Str
 | .lamp _ => "lamp"
 | .dark _ => "dark"
 | .neg _ => "not"
 | .conj _ _ => "and"
 | .disj _ _ => "or"
 | .ev _ => "every"
 | .so _ => "some"
inductive Stm (H : Hp) : V → Say → Prop where
 | lamp {a : Addr} {k : Int} : H a = some (.tup [.str "lamp", .int k]) → Stm H (.ref a) (.lamp k)
 | dark {a : Addr} {k : Int} : H a = some (.tup [.str "dark", .int k]) → Stm H (.ref a) (.dark k)
 | neg {a : Addr} {v : V} {s : Say} : H a = some (.tup [.str "not", v]) → Stm H v s → Stm H (.ref a) (.neg s)
 | conj {a : Addr} {v u : V} {s t : Say} : H a = some (.tup [.str "and", v, u]) → Stm H v s → Stm H u t → Stm H (.ref a) (.conj s t)
 | disj {a : Addr} {v u : V} {s t : Say} : H a = some (.tup [.str "or", v, u]) → Stm H v s → Stm H u t → Stm H (.ref a) (.disj s t)
 | ev {a : Addr} {v : V} {s : Say} : H a = some (.tup [.str "every", v]) → Stm H v s → Stm H (.ref a) (.ev s)
 | so {a : Addr} {v : V} {s : Say} : H a = some (.tup [.str "some", v]) → Stm H v s → Stm H (.ref a) (.so s)
theorem Stm.mono {H H' : Hp} {v : V} {s : Say} (h : Stm H v s) (m : TupK H H') : Stm H' v s := by
 induction h with
 | lamp e => exact .lamp (m _ _ e)
 | dark e => exact .dark (m _ _ e)
 | neg e _ i => exact .neg (m _ _ e) i
 | conj e _ _ i j => exact .conj (m _ _ e) i j
 | disj e _ _ i j => exact .disj (m _ _ e) i j
 | ev e _ i => exact .ev (m _ _ e) i
 | so e _ i => exact .so (m _ _ e) i
abbrev Stms (H : Hp) : List V → List Say → Prop := Paired (Stm H)
theorem Paired.get1 {α β : Type} {F : α → β → Prop} : ∀ {xs : List α} {ys : List β} {i : Nat} {x : α}, Paired F xs ys → xs[i]? = some x → ∃ y, ys[i]? = some y ∧ F x y
 | _, _, _, _, .nil, e => by simp at e
 | _, _, 0, _, .cons r _, e => by simp at e; subst e; exact ⟨_, rfl, r⟩
 | _, _, i + 1, x, .cons _ t, e => by
  obtain ⟨u, h1, h2⟩ := Paired.get1 (i := i) (x := x) t (by simpa using e)
  exact ⟨u, by simpa using h1, h2⟩
theorem Paired.app {α β : Type} {F : α → β → Prop} : ∀ {xs xs' : List α} {ys ys' : List β}, Paired F xs ys → Paired F xs' ys' → Paired F (xs ++ xs') (ys ++ ys')
 | _, _, _, _, .nil, s => s
 | _, _, _, _, .cons r t, s => .cons r (Paired.app t s)
theorem Stms.mono {H H' : Hp} {vs : List V} {ss : List Say} (h : Stms H vs ss) (m : TupK H H') : Stms H' vs ss := Paired.mapP h fun _ _ q => q.mono m
inductive Als (H : Hp) : Nat → List V → List V → Prop where
 | nil : Als H 0 [] []
 | bl {n : Nat} {xs ys : List V} (b : Bool) : Als H n xs ys → Als H (n + 1) (.bl b :: xs) (.bl b :: ys)
 | int {n : Nat} {xs ys : List V} (i : Int) : Als H n xs ys → Als H (n + 1) (.int i :: xs) (.int i :: ys)
 | str {n : Nat} {xs ys : List V} (x : Str) : Als H n xs ys → Als H (n + 1) (.str x :: xs) (.str x :: ys)
 | lst {n m : Nat} {xs ys as bs : List V} {a b : Addr} : H a = some (.lst as) → H b = some (.lst bs) → Als H m as bs → Als H n xs ys → Als H (n + m + 1) (.ref a :: xs) (.ref b :: ys)
 | tup {n m : Nat} {xs ys as bs : List V} {a b : Addr} : H a = some (.tup as) → H b = some (.tup bs) → Als H m as bs → Als H n xs ys → Als H (n + m + 1) (.ref a :: xs) (.ref b :: ys)
theorem Als.cast {H : Hp} {n m : Nat} {xs ys : List V} (h : Als H n xs ys) (e : n = m) : Als H m xs ys := e ▸ h
theorem Als.app {H : Hp} {n m : Nat} {xs ys xs' ys' : List V} (h : Als H n xs ys) (g : Als H m xs' ys') : Als H (n + m) (xs ++ xs') (ys ++ ys') := by
 induction h with
 | nil => exact g.cast (by omega)
 | bl b _ i => exact (Als.bl b i).cast (by omega)
 | int b _ i => exact (Als.int b i).cast (by omega)
 | str b _ i => exact (Als.str b i).cast (by omega)
 | lst e e' k _ _ i => exact (Als.lst e e' k i).cast (by omega)
 | tup e e' k _ _ i => exact (Als.tup e e' k i).cast (by omega)
theorem Als.len {H : Hp} {n : Nat} {xs ys : List V} (h : Als H n xs ys) : xs.length ≤ n ∧ ys.length = xs.length := by
 induction h with
 | nil => exact ⟨Nat.le_refl _, rfl⟩
 | bl b _ i => simp only [List.length_cons]; omega
 | int b _ i => simp only [List.length_cons]; omega
 | str b _ i => simp only [List.length_cons]; omega
 | lst e e' k _ _ i => simp only [List.length_cons]; omega
 | tup e e' k _ _ i => simp only [List.length_cons]; omega
theorem Als.mono {H H' : Hp} {n : Nat} {xs ys : List V} (h : Als H n xs ys) (S : Same H H') : Als H' n xs ys := by
 induction h with
 | nil => exact .nil
 | bl b _ i => exact .bl b i
 | int b _ i => exact .int b i
 | str b _ i => exact .str b i
 | lst e e' k _ j i => exact .lst (S _ _ e) (S _ _ e') j i
 | tup e e' k _ j i => exact .tup (S _ _ e) (S _ _ e') j i
theorem Als.snoc {H : Hp} {n : Nat} {L R : List V} (h : Als H n L R) : (L = [] ∧ R = [] ∧ n = 0) ∨
  ∃ (L0 R0 : List V) (x y : V) (n0 k : Nat), L = L0 ++ [x] ∧ R = R0 ++ [y] ∧ Als H n0 L0 R0 ∧ Als H k [x] [y] ∧ n0 + k = n := by
 induction h with
 | nil => exact .inl ⟨rfl, rfl, rfl⟩
 | bl b t i =>
  rcases i with ⟨rfl, rfl, rfl⟩ | ⟨L0, R0, x, y, n0, k, rfl, rfl, a, c, rfl⟩
  ·exact .inr ⟨[], [], _, _, 0, _, rfl, rfl, .nil, .bl b .nil, by omega⟩
  ·exact .inr ⟨_ :: L0, _ :: R0, x, y, n0 + 1, k, rfl, rfl, .bl b a, c, by omega⟩
 | int b t i =>
  rcases i with ⟨rfl, rfl, rfl⟩ | ⟨L0, R0, x, y, n0, k, rfl, rfl, a, c, rfl⟩
  ·exact .inr ⟨[], [], _, _, 0, _, rfl, rfl, .nil, .int b .nil, by omega⟩
  ·exact .inr ⟨_ :: L0, _ :: R0, x, y, n0 + 1, k, rfl, rfl, .int b a, c, by omega⟩
 | str b t i =>
  rcases i with ⟨rfl, rfl, rfl⟩ | ⟨L0, R0, x, y, n0, k, rfl, rfl, a, c, rfl⟩
  ·exact .inr ⟨[], [], _, _, 0, _, rfl, rfl, .nil, .str b .nil, by omega⟩
  ·exact .inr ⟨_ :: L0, _ :: R0, x, y, n0 + 1, k, rfl, rfl, .str b a, c, by omega⟩
 | lst e e' q t _ i =>
  rcases i with ⟨rfl, rfl, rfl⟩ | ⟨L0, R0, x, y, n0, k, rfl, rfl, a, c, rfl⟩
  ·exact .inr ⟨[], [], _, _, 0, _, rfl, rfl, .nil, .lst e e' q .nil, by omega⟩
  ·exact .inr ⟨_ :: L0, _ :: R0, x, y, _, k, rfl, rfl, .lst e e' q a, c, by omega⟩
 | tup e e' q t _ i =>
  rcases i with ⟨rfl, rfl, rfl⟩ | ⟨L0, R0, x, y, n0, k, rfl, rfl, a, c, rfl⟩
  ·exact .inr ⟨[], [], _, _, 0, _, rfl, rfl, .nil, .tup e e' q .nil, by omega⟩
  ·exact .inr ⟨_ :: L0, _ :: R0, x, y, _, k, rfl, rfl, .tup e e' q a, c, by omega⟩
def szs (ss : List Say) : Nat := (ss.map Say.sz).sum
def Say.lampOf : Say → Option Int
 | .lamp k => some k
 | _ => none
def Say.darkOf : Say → Option Int
 | .dark k => some k
 | _ => none
abbrev znN (ss : List Say) : List Int := ss.filterMap Say.lampOf
abbrev zn8 (ss : List Say) : List Int := ss.filterMap Say.darkOf
def zqd (ss : List Say) : Bool := (zn8 ss).any fun k => (znN ss).contains k
end L2
set_option Elab.async false
set_option linter.all false
set_option maxRecDepth 100000
set_option maxHeartbeats 4000000
namespace L2
open PySem PySem.Spec PyProof.Rows
section
variable {X : Cx} {K : PySem.W.Frag} {D : Ends} {σ : St} {H H0 : Hp} {Q : VK} {QT : Bool → Hp → Prop} {QS : St → Hp → Prop} {t u : TS} {te ta tb tc : TE} {c d : TT} {g : TG} {tr : TA} {r r' : R2} {v x y : V} {i j : Int} {E : XK}
theorem zdJ {H1 H2 : Hp} {a : Addr} {xs : List V} (h : SqL K H1 a xs) (e : Same H1 H2) : SqL K H2 a xs := e.seq h
theorem zoH (h : t { D with nx := u D } σ H) : tSeq t u D σ H := h
theorem zmS (h : D.nx σ H) : zor D σ H := h
theorem zoX (h : te σ H fun x H1 => g x σ H1 D.nx) : tAsg te g D σ H := h
theorem zmT {n : Nat} (h : QS (σ.set n (some v)) H) : zn3 n v σ H QS := h
theorem zoF {n : Nat} (e : σ[n]? = some (some v)) (h : Q v H) : tVar n σ H Q := ⟨v, e, h⟩
theorem rd_C (h : Q v H) : tC v σ H Q := h
theorem zpU (h : ta σ H fun x H1 => tb σ H1 fun y H2 => r x y H2 Q) : tOp r ta tb σ H Q := h
theorem zp0 {f : Int → Int → V} (h : Q (f i j) H) : rI0 f (.int i) (.int j) H Q := ⟨i, j, rfl, rfl, h⟩
theorem rd_I {C : Int → Int → Prop} {f : Int → Int → V} (k : C i j) (h : Q (f i j) H) : rI C f (.int i) (.int j) H Q := ⟨i, j, rfl, rfl, k, h⟩
theorem zpX (e : scal x y = true) (h : Q (.bl (decide (x = y))) H) : rEq x y H Q := ⟨e, h⟩
theorem zpV (e : scal x y = true) (h : Q (.bl (!decide (x = y))) H) : rNe x y H Q := ⟨e, h⟩
theorem zmO (h : te σ H fun x H' => ∃ k, x = .bl k ∧ QT k H') : zon te σ H QT := h
theorem zpS (h : te σ H fun x H' => ∃ k, x = .bl k ∧ QT k H') : tB te σ H QT := h
theorem zpZ {b : Bool} {P : Bool → Prop} (h : P b) : ∃ k, V.bl b = .bl k ∧ P k := ⟨b, rfl, h⟩
theorem zpW (h : c σ H fun b H1 => if b = true then t D σ H1 else u D σ H1) : tIfS c t u D σ H := h
theorem zoY (h : c σ H fun b H1 => if b = true then d σ H1 QT else QT false H1) : tAnd c d σ H QT := h
theorem zpT (h : c σ H fun b H1 => if b = true then QT true H1 else d σ H1 QT) : tOr c d σ H QT := h
theorem zoL (h : c σ H fun b H1 => QT (!b) H1) : tNot c σ H QT := h
theorem znb (h : ta σ H fun x H1 => ∃ k, x = .bl k ∧ if k = true then tb σ H1 Q else Q (.bl false) H1) : zow ta tb σ H Q := h
theorem zoJ (h : ta σ H fun x H1 => ∃ k, x = .bl k ∧ if k = true then Q (.bl true) H1 else tb σ H1 Q) : tOrV ta tb σ H Q := h
theorem zmQ (h : ta σ H fun x H1 => ∃ k, x = .bl k ∧ Q (.bl (!k)) H1) : zop ta σ H Q := h
theorem zm8 {sp : Sp} {dvs : List V} (h : tr σ H fun vs H1 => sp (vs ++ dvs) H1 Q E) : ziU sp dvs E tr σ H Q := h
theorem zm7 {QA : List V → Hp → Prop} (h : ta σ H fun x H1 => tr σ H1 fun xs H2 => QA (x :: xs) H2) : zmJ ta tr σ H QA := h
theorem zoM {QA : List V → Hp → Prop} (h : QA [] H) : tNil σ H QA := h
theorem zoI (h : te σ H D.rt) : tRet te D σ H := h
theorem zm3 (h : te σ H fun _ H1 => D.nx σ H1) : zot te D σ H := h
theorem zoG (h : tr σ H fun xs H1 => xs.length ≤ sizeLine ∧ ∀ p, H1 p = none → Q (.ref p) (upd H1 p (.tup xs))) : tTup tr σ H Q := h
theorem zoP (h : tr σ H fun xs H1 => xs.length ≤ sizeLine ∧ ∀ p, H1 p = none → Q (.ref p) (upd H1 p (.lst xs))) : tLst tr σ H Q := h
theorem zm5 (h : ∀ p, H p = none → Q (.ref p) (upd H p (.dK []))) : zmd σ H Q := h
theorem zp1 {q : List V → Hp → VK → Prop} (h : tr σ H fun vs H1 => q vs H1 Q) : tCB q tr σ H Q := h
theorem zbt {p : Addr} {xs : List V} (h : SqL K H p xs) (e : atI xs i = some v) (q : Q v H) : rIxL K (.ref p) (.int i) H Q := ⟨p, xs, i, v, rfl, rfl, h, e, q⟩
theorem zdD {p : Addr} {xs : List V} (h : SqT K H p xs) (e : atI xs i = some v) (q : Q v H) : rIxT K (.ref p) (.int i) H Q := ⟨p, xs, i, v, rfl, rfl, h, e, q⟩
theorem zoW {T : String} {q : V → List V → Hp → VK → Prop} (h : te σ H fun x H1 => tyV K T x H1 ∧ q x [] H1 Q) : tBM0 K T q te σ H Q := h
theorem zpY {T : String} {q : V → List V → Hp → VK → Prop} (h : te σ H fun x H1 => tyV K T x H1 ∧ tr σ H1 fun xs H2 => q x xs H2 Q) : tBM K T q te tr σ H Q := h
theorem zpR {p : Addr} {xs : List V} {R : Prop} (h : H p = some (.lst xs)) (q : R) : tyV K "list" (.ref p) H ∧ R := ⟨.inl ⟨rfl, _, SqL.of h⟩, q⟩
theorem zbN {l : Addr} {xs : List V} (h : H l = some (.lst xs)) (z : xs.length < sizeLine) (q : Q .non (upd H l (.lst (xs ++ [y])))) : zjB (.ref l) [y] H Q := ⟨l, xs, y, rfl, rfl, h, z, q⟩
theorem zdC {l : Addr} {xs : List V} (h : H l = some (.lst (xs ++ [y]))) (q : Q y (upd H l (.lst xs))) : rPop (.ref l) [] H Q :=
 ⟨l, xs ++ [y], y, rfl, rfl, h, by simp, by rw [List.dropLast_concat]; exact q⟩
theorem zdK {l b : Addr} {xs zs : List V} (h : H l = some (.lst xs)) (h' : H b = some (.lst zs) ∨ H b = some (.tup zs)) (z : xs.length + zs.length ≤ sizeLine) (q : Q .non (upd H l (.lst (xs ++ zs)))) : zhw (.ref l) [.ref b] H Q :=
 ⟨l, b, xs, zs, rfl, rfl, h, h', z, q⟩
def rLen (K : PySem.W.Frag) : List V → Hp → VK → Prop := fun xs H Q => ∃ p ys, xs = [.ref p] ∧ (SqL K H p ys ∨ SqT K H p ys) ∧ Q (.int ys.length) H
theorem zkC : zci X (.builtin "len") (rLen X.K) := zgI
theorem zmX {p : Addr} {ys : List V} (h : SqL K H p ys) (q : Q (.int ys.length) H) : rLen K [.ref p] H Q := ⟨p, ys, rfl, .inl h, q⟩
theorem zmW {p : Addr} {ys : List V} (h : SqT K H p ys) (q : Q (.int ys.length) H) : rLen K [.ref p] H Q := ⟨p, ys, rfl, .inr h, q⟩
def znd (K : PySem.W.Frag) : List V → Hp → VK → Prop := fun xs H Q => ∃ (x : V) (c t : String) (b : Bool), xs = [x, .ty c] ∧ TyOf K H x (.type t) ∧ PySem.W.kitOne K (.type t) (.type c) = some b ∧ Q (.bl b) H
theorem zkE : zci X (.builtin "isinstance") (znd X.K) := zhh
theorem za3 {c t : String} {b : Bool} (h : TyOf K H x (.type t)) (e : PySem.W.kitOne K (.type t) (.type c) = some b) (q : Q (.bl b) H) : znd K [x, .ty c] H Q := ⟨x, c, t, b, rfl, h, e, q⟩
def zjy (K : PySem.W.Frag) : List V → Hp → VK → Prop := fun xs H Q => ∃ (x : V) (p : Addr) (cs : List String) (t : String) (b : Bool), xs = [x, .ref p] ∧ H p = some (.tup (cs.map V.ty)) ∧ TyOf K H x (.type t) ∧ PySem.W.kitAny K (.type t) (cs.map Value.type) = some b ∧ Q (.bl b) H
theorem ziv : zci X (.builtin "isinstance") (zjy X.K) := zgJ
theorem zdW {p : Addr} {t : String} {b : Bool} (hp : H p = some (.tup [.ty "list", .ty "tuple"])) (h : TyOf K H x (.type t)) (e : PySem.W.kitAny K (.type t) ((["list", "tuple"] : List String).map Value.type) = some b) (q : Q (.bl b) H) :
  zjy K [x, .ref p] H Q := ⟨x, p, ["list", "tuple"], t, b, rfl, hp, h, e, q⟩
def zfF (K : PySem.W.Frag) : List V → Hp → VK → Prop := fun xs H Q => ∃ p ys, xs = [.ref p] ∧ (SqL K H p ys ∨ SqT K H p ys) ∧ ∀ l, H l = none → Q (.ref l) (upd H l (.lst ys))
theorem zhf : zci X (.type "list") (zfF X.K) := zgH
theorem zfE {p : Addr} {ys : List V} (h : SqL K H p ys) (q : ∀ l, H l = none → Q (.ref l) (upd H l (.lst ys))) : zfF K [.ref p] H Q := ⟨p, ys, rfl, .inl h, q⟩
theorem zhu {p : Addr} {ys : List V} (h : SqT K H p ys) (q : ∀ l, H l = none → Q (.ref l) (upd H l (.lst ys))) : zfF K [.ref p] H Q := ⟨p, ys, rfl, .inr h, q⟩
def zjx (K : PySem.W.Frag) : R2 := fun x y H Q => ∃ l b xs, x = .ref l ∧ y = .ref b ∧ SqL K H l xs ∧ SqL K H b [] ∧ Q (.bl (!xs.isEmpty)) H
theorem zpd (hu : X.A.units < cLine) : OpR X (compareOp .NotEq) (zjx X.K) := zlm hu
theorem zoN {l b : Addr} {xs : List V} (h : SqL K H l xs) (h' : SqL K H b []) (q : Q (.bl (!xs.isEmpty)) H) : zjx K (.ref l) (.ref b) H Q := ⟨l, b, xs, rfl, rfl, h, h', q⟩
def zjA (K : PySem.W.Frag) : R2 := fun x y H Q => ∃ l b xs, x = .ref l ∧ y = .ref b ∧ SqL K H l xs ∧ SqL K H b [] ∧ Q (.bl xs.isEmpty) H
theorem zpf (hu : X.A.units < cLine) : OpR X (compareOp .Eq) (zjA X.K) := zln hu
theorem zoU {l b : Addr} {xs : List V} (h : SqL K H l xs) (h' : SqL K H b []) (q : Q (.bl xs.isEmpty) H) : zjA K (.ref l) (.ref b) H Q := ⟨l, b, xs, rfl, rfl, h, h', q⟩
theorem zm4 {td ty tv : TE} (h : tv σ H fun v H1 => td σ H1 fun x H2 => ty σ H2 fun y H3 => ∃ a H4, x = .ref a ∧ DPut H3 a y v H4 ∧ D.nx σ H4) : zoD td ty tv D σ H := h
theorem zdE {p : Addr} {xs : List V} (h : SqL K H p xs ∨ SqT K H p xs) (f : zd6 x = true) (fs : xs.all zd6 = true) (q : Q (.bl (inV x xs)) H) : rIn K false x (.ref p) H Q := ⟨p, xs, rfl, h, f, fs, q⟩
theorem zdh {p : Addr} {xs : List V} (h : SqL K H p xs ∨ SqT K H p xs) (f : zd6 x = true) (fs : xs.all zd6 = true) (q : Q (.bl (!inV x xs)) H) : rIn K true x (.ref p) H Q := ⟨p, xs, rfl, h, f, fs, q⟩
end
section
variable {K : PySem.W.Frag} {tg : TG} {tb : TS} {D : Ends} {σ : St} {H : Hp} {tl : TE} {ta : TA}
theorem zm0 {g : TG} (h : tl σ H fun x H1 => ∃ a, x = .ref a ∧ (∃ xs, SqL K H1 a xs) ∧ ∃ W : Nat → Nat → St → Hp → Prop, (∃ m, W 0 m σ H1) ∧ ∀ i m σ H, W i m σ H →
   ((Itl K a).stop i H ∧ D.nx σ H) ∨ ((Itl K a).go i H ∧ ∃ N : St → Hp → Prop, (∀ σ' H', N σ' H' → ∃ m', m' < m ∧ W (i + 1) m' σ' H') ∧ ∀ x H', (Itl K a).yld i H x H' → g x σ H' fun σ2 H2 => tb { D with nx := N, ct := N, bk := D.nx } σ2 H2)) :
  tFor (zlM K tl) g tb D σ H := h
theorem zk2 {g : TG} (h : ta σ H fun vs H1 => ∃ i j : Int, vs = [.int i, .int j] ∧ (-(2 ^ 62) ≤ i ∧ i < 2 ^ 62 ∧ -(2 ^ 62) ≤ j ∧ j < 2 ^ 62) ∧ ∃ W : Nat → Nat → St → Hp → Prop, (∃ m, W 0 m σ H1) ∧ ∀ k m σ H, W k m σ H →
   ((Itr i (j - i).toNat).stop k H ∧ D.nx σ H) ∨ ((Itr i (j - i).toNat).go k H ∧ ∃ N : St → Hp → Prop, (∀ σ' H', N σ' H' → ∃ m', m' < m ∧ W (k + 1) m' σ' H') ∧ ∀ x H', (Itr i (j - i).toNat).yld k H x H' → g x σ H' fun σ2 H2 => tb { D with nx := N, ct := N, bk := D.nx } σ2 H2)) :
  tFor (zpC ta) g tb D σ H := h
theorem zk3 {g : TG} (h : ta σ H fun vs H1 => ∃ j : Int, vs = [.int j] ∧ -(2 ^ 62) ≤ j ∧ j < 2 ^ 62 ∧ ∃ W : Nat → Nat → St → Hp → Prop, (∃ m, W 0 m σ H1) ∧ ∀ k m σ H, W k m σ H →
   ((Itr 0 j.toNat).stop k H ∧ D.nx σ H) ∨ ((Itr 0 j.toNat).go k H ∧ ∃ N : St → Hp → Prop, (∀ σ' H', N σ' H' → ∃ m', m' < m ∧ W (k + 1) m' σ' H') ∧ ∀ x H', (Itr 0 j.toNat).yld k H x H' → g x σ H' fun σ2 H2 => tb { D with nx := N, ct := N, bk := D.nx } σ2 H2)) :
  tFor (znY ta) g tb D σ H := h
theorem zoQ {a : Addr} {xs : List V} {R : Addr → Prop} (h : SqL K H a xs) (q : R a) : ∃ b, V.ref a = .ref b ∧ (∃ ys, SqL K H b ys) ∧ R b := ⟨a, rfl, ⟨xs, h⟩, q⟩
end
end L2
set_option Elab.async false
set_option linter.all false
set_option maxRecDepth 100000
set_option maxHeartbeats 4000000
namespace L2
open PySem PySem.Spec PyProof.Rows
section
variable {prog : Program} {w : World} {A : Around} {R : Result → Shared → Prop} {s : Shared}
theorem zgF {elt target iter : Expr} {ifs : List Expr} {scope : Scope} {pos : Pos} {it acc : Value} {env : Env} (I : Nat → Shared → Prop)
  (turn : ∀ n s, I n s → wpAny (model prog w) A (pyNext it) (fun r s₁ => match r with
   | none => R (.ok .next) s₁
   | some v => wpAny (model prog w) A (letOwnedTupleGo target it v) (fun _ s₁' => wpAny (model prog w) A (assign target env v) (fun _ s₂ =>
     wpAny (model prog w) A (forIn ifs true fun c r => if r = true then do let ok ← isTrue c env (eval c env); pure (ForInStep.yield ok) else pure (ForInStep.yield r)) (fun ok s₃ =>
      if ok = true then wpAny (model prog w) A (eval elt env) (fun x s₄ =>
       wpAny (model prog w) A (call (.builtin "list.append") [acc, x]) (fun _ s₅ => ∃ m, m < n ∧ I m s₅) (fun _ _ => False) s₄) (fun _ _ => False) s₃
      else ∃ m, m < n ∧ I m s₃) (fun _ _ => False) s₂) (fun _ _ => False) s₁') (fun _ _ => False) s₁) (fun _ _ => False) s)
  (n : Nat) (h : I n s) : codeAny (model prog w) A (.compLoop (.ListComp elt [⟨target, iter, ifs, 0⟩] scope pos) 0 it acc env) R s := by
 refine codeAny_loop rfl I (fun n s hI => ?_) n h
 show wpAny _ A ((compTurn (.ListComp elt [⟨target, iter, ifs, 0⟩] scope pos) 0 it acc env).onRaise (fun x => do noteFrame x env; theTreesLotGoes x)) _ _ s
 refine wpAny_noted ?_
 rw [compTurn_list]
 refine wpAny_bind (wpAny_standAt (wpAny_bind (wpAny_mono (turn n s hI) (fun r s₁ h₁ => ?_) fun _ _ h' => h'.elim)))
 cases r with
 | none => exact wpAny_pure h₁
 | some v =>
  refine wpAny_bind (wpAny_mono h₁ (fun _ s₁' h₁' => ?_) fun _ _ h' => h'.elim)
  refine wpAny_bind (wpAny_mono h₁' (fun _ s₂ h₂ => wpAny_bind (wpAny_mono h₂ (fun ok s₃ h₃ => ?_) fun _ _ h' => h'.elim)) fun _ _ h' => h'.elim)
  cases ok with
  | false => exact wpAny_pure ⟨rfl, h₃⟩
  | true =>
   exact wpAny_bind (wpAny_bind (wpAny_mono h₃ (fun x s₄ h₄ => wpAny_bind (wpAny_mono h₄ (fun _ s₅ h₅ => wpAny_pure (wpAny_pure ⟨rfl, h₅⟩)) fun _ _ h' => h'.elim)) fun _ _ h' => h'.elim))
end
theorem zhb {env : Env} {x : Str} {c : Addr} (h : env.cells.lookup x = some c) : cellOf env x = pure c := by
 unfold cellOf
 rw [h]
theorem zha {env : Env} : ∀ (names : List (Str × NameKind)) (acc : List (Str × Addr)), (∀ x, (x, NameKind.free) ∈ names → ∃ c, env.cells.lookup x = some c) →
  ∃ cl, (forIn names acc fun (x : Str × NameKind) (cs : List (Str × Addr)) => if (x.2 == NameKind.free) = true then (cellOf env x.1 >>= fun a => pure (ForInStep.yield ((x.1, a) :: cs))) else pure (ForInStep.yield cs) : Sem (List (Str × Addr))) = pure cl ∧
   (∀ p ∈ cl, p ∈ acc ∨ (env.cells.lookup p.1 = some p.2 ∧ (p.1, NameKind.free) ∈ names)) ∧ (∀ p ∈ acc, p ∈ cl) ∧ ∀ x, (x, NameKind.free) ∈ names → ∃ c, (x, c) ∈ cl
 | [], acc, _ => ⟨acc, rfl, fun p hp => .inl hp, fun p hp => hp, fun x hx => by cases hx⟩
 | (n, k) :: r, acc, h => by
  have hr : ∀ x, (x, NameKind.free) ∈ r → ∃ c, env.cells.lookup x = some c := fun x hx => h x (List.mem_cons_of_mem _ hx)
  by_cases hk : k = NameKind.free
  ·subst hk
   obtain ⟨c, hc⟩ := h n List.mem_cons_self
   obtain ⟨cl, e, h1, h2, h3⟩ := zha r ((n, c) :: acc) hr
   refine ⟨cl, ?_, fun p hp => ?_, fun p hp => h2 p (List.mem_cons_of_mem _ hp), fun x hx => ?_⟩
   ·rw [List.forIn_cons, if_pos (show ((n, NameKind.free).2 == NameKind.free) = true from rfl), zhb (x := (n, NameKind.free).1) hc, pure_bind, pure_bind]
    exact e
   ·rcases h1 p hp with q | ⟨q, q2⟩
    ·rcases List.mem_cons.mp q with q | q
     ·exact .inr ⟨by rw [q]; exact hc, by rw [q]; exact List.mem_cons_self⟩
     ·exact .inl q
    ·exact .inr ⟨q, List.mem_cons_of_mem _ q2⟩
   ·rcases List.mem_cons.mp hx with q | q
    ·cases q
     exact ⟨c, h2 _ List.mem_cons_self⟩
    ·exact h3 x q
  ·have hb : ¬ (k == NameKind.free) = true := fun z => hk (beq_iff_eq.mp z)
   obtain ⟨cl, e, h1, h2, h3⟩ := zha r acc hr
   refine ⟨cl, ?_, fun p hp => ?_, h2, fun x hx => ?_⟩
   ·rw [List.forIn_cons, if_neg hb, pure_bind]
    exact e
   ·rcases h1 p hp with q | ⟨q, q2⟩
    ·exact .inl q
    ·exact .inr ⟨q, List.mem_cons_of_mem _ q2⟩
   ·rcases List.mem_cons.mp hx with q | q
    ·cases q
     exact absurd rfl hk
    ·exact h3 x q
theorem zkw {env : Env} {scope : Scope} (h : ∀ x, (x, NameKind.free) ∈ scope.names → ∃ c, env.cells.lookup x = some c) :
  ∃ cl, closureFor scope env = pure cl ∧ (∀ p ∈ cl, env.cells.lookup p.1 = some p.2 ∧ (p.1, NameKind.free) ∈ scope.names) ∧ ∀ x, (x, NameKind.free) ∈ scope.names → ∃ c, (x, c) ∈ cl := by
 obtain ⟨cl, e, h1, _, h3⟩ := zha scope.names [] h
 refine ⟨cl, ?_, fun p hp => ?_, h3⟩
 ·unfold closureFor
  refine Eq.trans ?_ (Eq.trans (congrArg (fun z => z >>= fun cs => (pure cs : Sem _)) e) (pure_bind _ _))
  rfl
 ·rcases h1 p hp with q | q
  ·cases q
  ·exact q
theorem zds {α β : Type} [BEq α] [LawfulBEq α] : ∀ {l : List (α × β)} {x : α} {c : β}, (x, c) ∈ l → ∃ c', l.lookup x = some c'
 | [], _, _, h => by cases h
 | (n, k) :: r, x, c, h => by
  by_cases e : (x == n) = true
  ·exact ⟨k, by simp [List.lookup_cons, e]⟩
  ·have e' : (x == n) = false := by simpa using e
   rcases List.mem_cons.mp h with q | q
   ·cases q
    simp at e
   ·obtain ⟨c', hc⟩ := zds q
    exact ⟨c', by simp [List.lookup_cons, e', hc]⟩
theorem zbM {env : Env} : ∀ {names : List (Str × NameKind)} {x : Str} {k : NameKind},
  (names.map fun (n, k) => if (k == NameKind.free && env.scope.kind == .function && env.kindOf n == some .cell) then (n, NameKind.cell) else (n, k)).lookup x = some k →
  names.lookup x = some k ∨ (k = .cell ∧ names.lookup x = some .free)
 | [], _, _, h => by simp at h
 | (n, k0) :: r, x, k, h => by
  have ih := @zbM env r x k
  have h' : List.lookup x ((if (k0 == NameKind.free && env.scope.kind == .function && env.kindOf n == some .cell) = true then (n, NameKind.cell) else (n, k0)) :: (r.map fun (n, k) => if (k == NameKind.free && env.scope.kind == .function && env.kindOf n == some .cell) then (n, NameKind.cell) else (n, k))) = some k := h
  cases hx : x == n with
  | true =>
   by_cases hc : (k0 == NameKind.free && env.scope.kind == .function && env.kindOf n == some .cell) = true
   ·rw [if_pos hc] at h'
    simp only [List.lookup_cons, hx] at h' ⊢
    cases h'
    simp only [Bool.and_eq_true, beq_iff_eq] at hc
    exact .inr ⟨rfl, by rw [hc.1.1]⟩
   ·rw [if_neg hc] at h'
    simp only [List.lookup_cons, hx] at h' ⊢
    exact .inl h'
  | false =>
   by_cases hc : (k0 == NameKind.free && env.scope.kind == .function && env.kindOf n == some .cell) = true
   ·rw [if_pos hc] at h'
    simp only [List.lookup_cons, hx] at h' ⊢
    exact ih h'
   ·rw [if_neg hc] at h'
    simp only [List.lookup_cons, hx] at h' ⊢
    exact ih h'
abbrev zbw (X : Cx) (N : List Str) (scope : Scope) (cl : List (Str × Addr)) (C : Addr) (s : Shared) (H : Hp) (fp : List Addr) : Cx where
 prog := X.prog
 w := X.w
 K := X.K
 mg := X.mg
 base := X.base
 A := X.A
 N := N
 s₀ := s
 H₀ := H
 env := compEnvC scope cl C X.env
 outer := X.stack
 stack := X.stack
 ex := fp
 fn := fun _ => false
 calm := X.calm
 pn := []
 xe := fun _ _ => False
structure zd8 (X : Cx) (N : List Str) (k : Nat) (caps : List Nat) (scope : Scope) : Prop where
 kind : scope.kind = .function
 nocell : ∀ y ∈ scope.names, y.2 ≠ .cell
 loc : ∀ y ∈ scope.names, y.2 = .local → scope.names.lookup y.1 = some .local
 has : ∀ x, (x, NameKind.free) ∈ scope.names → X.env.kindOf x = some .cell ∨ X.env.kindOf x = some .free
 len : N.length = k + caps.length
 cap : ∀ (i j : Nat) (x : Str), caps[i]? = some j → N[k + i]? = some x → X.N[j]? = some x ∧ Vis X.env.scope x
 nloc : ∀ (i j : Nat) (x : Str), caps[i]? = some j → N[k + i]? = some x → scope.names.lookup x = some .free
def zbu (k : Nat) (caps : List Nat) (σ : St) : St := List.replicate k none ++ caps.map fun j => σ.getD j none
theorem zfr {k : Nat} {caps : List Nat} {σ : St} {i : Nat} {v : V} (h : (zbu k caps σ)[i]? = some (some v)) : ∃ i' j, i = k + i' ∧ caps[i']? = some j ∧ σ[j]? = some (some v) := by
 unfold zbu at h
 by_cases hi : i < k
 ·rw [List.getElem?_append_left (by simpa using hi), List.getElem?_replicate, if_pos hi] at h
  cases h
 ·rw [List.getElem?_append_right (by simpa using hi), List.length_replicate, List.getElem?_map] at h
  obtain ⟨j, hj, e⟩ := Option.map_eq_some_iff.mp h
  refine ⟨i - k, j, by omega, hj, ?_⟩
  rw [List.getD_eq_getElem?_getD] at e
  cases q : σ[j]? with
  | none => rw [q] at e; cases e
  | some o => rw [q] at e; exact congrArg some e
section
variable {X : Cx} {pins : List (Addr × Obj)} {σ : St} {H : Hp} {s : Shared} {N : List Str} {k : Nat} {caps : List Nat} {scope : Scope} {cl : List (Str × Addr)} {fp : List Addr}
theorem Inv.comp {h1 : Heap} {t' : Nat} {m : Str → Option Value} (I : Inv X pins σ H s) (S : zd8 X N k caps scope) (hcl : ∀ p ∈ cl, X.env.cells.lookup p.1 = some p.2 ∧ (p.1, NameKind.free) ∈ scope.names) (hhas : ∀ x, (x, NameKind.free) ∈ scope.names → ∃ c, (x, c) ∈ cl)
  (hf : ∀ b ∈ fp, FpOk X pins H b) (hfo : ∀ b ∈ fp, b < s.heap.objs.size) (hk : ∀ b o, s.heap.get? b = some o → h1.get? b = some o) (hn : h1.Ns s.heap.objs.size m) :
  Inv (zbw X N scope cl s.heap.objs.size s H fp) [] (zbu k caps σ) H { s with heap := h1, toks := t' } := by
 have free_of : ∀ x, ((relabel scope X.env).names.lookup x = some .cell ∨ (relabel scope X.env).names.lookup x = some .free) → (x, NameKind.free) ∈ scope.names := fun x hx => by
  rcases hx with hx | hx
  ·rcases zbM hx with q | ⟨_, q⟩
   ·exact absurd rfl (S.nocell _ (PySem.mem_of_lookup q))
   ·exact PySem.mem_of_lookup q
  ·rcases zbM hx with q | ⟨e, _⟩
   ·exact PySem.mem_of_lookup q
   ·cases e
 have cl_of : ∀ x c, cl.lookup x = some c → X.env.cells.lookup x = some c ∧ (x, NameKind.free) ∈ scope.names := fun x c e => hcl (x, c) (PySem.mem_of_lookup e)
 have nb : ∀ b ∈ fp, ∀ o, X.base.get? b = some o → False := fun b hb o e => by
  obtain ⟨_, _, _, f3, _⟩ := hf b hb
  rcases f3 with z | z
  ·exact I.ok.noex b o e z
  ·exact absurd (Nat.lt_of_lt_of_le (Heap.lt_size e) (Nat.le_trans I.ok.bsz z)) (Nat.lt_irrefl _)
 have ok : (zbw X N scope cl s.heap.objs.size s H fp).Ok := by
  refine ⟨I.ok.mod, S.kind, I.ok.glob, I.ok.blt, Nat.le_refl _, fun x y c h1 h2 => ?_, fun x hx => ?_, (fun x c e => by cases e), I.ok.hd, I.ok.frames, .inl rfl, fun b hb => ?_, I.bs, Nat.le_trans I.ok.bsz I.sz, fun b o e hb => nb b hb o e, fun b hb z => ?_, I.stack, I.stkFree⟩
  ·exact I.ok.inj x y c (cl_of x c h1).1 (cl_of y c h2).1
  ·obtain ⟨c, hc⟩ := hhas x (free_of x hx)
   exact zds hc
  ·obtain ⟨_, _, _, _, f4, _⟩ := hf b hb
   exact ⟨Nat.ne_of_lt (hfo b hb), fun x c e => f4 x c (cl_of x c e).1⟩
  ·obtain ⟨_, f1, f2, _⟩ := hf b hb
   rcases List.mem_cons.mp (I.stkSub b z) with e | e
   ·exact f1 e
   ·exact f2 e
 refine ⟨ok, rfl, I.bare, Un.kept hk, ⟨m, hn, fun i x v e1 e2 e3 => ?_⟩, fun x c e => ?_, I.hok.fresh (Nat.le_refl _), fun x c e => I.freeC x c (cl_of x c e).1, fun p hp => absurd (show p ∈ ([] : List (Addr × Obj)) from hp) (by simp), I.hok.kept hk, ?_⟩
 ·obtain ⟨i', j, rfl, hj, hv⟩ := zfr e2
  obtain ⟨hx, hvis⟩ := S.cap i' j x hj e1
  obtain ⟨m', _, hl⟩ := I.loc
  obtain ⟨u, r, l⟩ := hl j x v hx hv hvis
  refine ⟨u, r, ?_⟩
  have e3' : (relabel scope X.env).names.lookup x = some .local ∨ (relabel scope X.env).names.lookup x = some .cell ∨ (relabel scope X.env).names.lookup x = some .free := e3
  rcases e3' with e3' | e3'
  ·rcases zbM e3' with z | ⟨z, _⟩
   ·rw [S.nloc i' j x hj e1] at z; cases z
   ·cases z
  ·have hfr := free_of x e3'
   obtain ⟨c0, hc0⟩ := hhas x hfr
   obtain ⟨c, hc⟩ := zds hc0
   have hXc := (cl_of x c hc).1
   rcases l with ⟨hk1, _⟩ | ⟨_, c', hc', hcell⟩
   ·rcases S.has x hfr with z | z
    ·rw [hk1] at z; cases z
    ·rw [hk1] at z; cases z
   ·rw [hXc] at hc'
    cases hc'
    exact .inr ⟨e3', c, hc, let ⟨o, ho, hd⟩ := hcell; ⟨o, hk _ _ ho, hd⟩⟩
 ·obtain ⟨v, o, ho, hd⟩ := I.cell x c (cl_of x c e).1
  exact ⟨v, o, hk _ _ ho, hd⟩
 ·show (zbu k caps σ).length = N.length
  unfold zbu
  rw [List.length_append, List.length_replicate, List.length_map]
  exact S.len.symm
theorem Inv.recomp {pins' : List (Addr × Obj)} {σ' : St} {C : Addr} {s3 s' : Shared} {H3 H' : Hp} (I : Inv X pins σ H3 s3) (S : zd8 X N k caps scope) (hcl : ∀ p ∈ cl, X.env.cells.lookup p.1 = some p.2 ∧ (p.1, NameKind.free) ∈ scope.names) (hhas : ∀ x, (x, NameKind.free) ∈ scope.names → ∃ c, (x, c) ∈ cl)
  (hf : ∀ b ∈ fp, FpOk X pins H3 b) (J : Inv (zbw X N scope cl C s3 H3 fp) pins' σ' H' s') : Inv (zbw X N scope cl C s3 H3 fp) pins' (zbu k caps σ) H' s' := by
 have free_of : ∀ x, ((relabel scope X.env).names.lookup x = some .cell ∨ (relabel scope X.env).names.lookup x = some .free) → (x, NameKind.free) ∈ scope.names := fun x hx => by
  rcases hx with hx | hx
  ·rcases zbM hx with q | ⟨_, q⟩
   ·exact absurd rfl (S.nocell _ (PySem.mem_of_lookup q))
   ·exact PySem.mem_of_lookup q
  ·rcases zbM hx with q | ⟨e, _⟩
   ·exact PySem.mem_of_lookup q
   ·cases e
 have cl_of : ∀ x c, cl.lookup x = some c → X.env.cells.lookup x = some c ∧ (x, NameKind.free) ∈ scope.names := fun x c e => hcl (x, c) (PySem.mem_of_lookup e)
 obtain ⟨mC, hnC, _⟩ := J.loc
 refine ⟨J.ok, J.os, J.bare, J.base, ⟨mC, hnC, fun i x v e1 e2 e3 => ?_⟩, J.cell, J.free, J.freeC, J.pin, J.hok, ?_⟩
 ·obtain ⟨i', j, rfl, hj, hv⟩ := zfr e2
  obtain ⟨hx, hvis⟩ := S.cap i' j x hj e1
  obtain ⟨m', _, hl⟩ := I.loc
  obtain ⟨u, r, l⟩ := hl j x v hx hv hvis
  refine ⟨u, r, ?_⟩
  have e3' : (relabel scope X.env).names.lookup x = some .local ∨ (relabel scope X.env).names.lookup x = some .cell ∨ (relabel scope X.env).names.lookup x = some .free := e3
  rcases e3' with e3' | e3'
  ·rcases zbM e3' with z | ⟨z, _⟩
   ·rw [S.nloc i' j x hj e1] at z; cases z
   ·cases z
  ·have hfr := free_of x e3'
   obtain ⟨c0, hc0⟩ := hhas x hfr
   obtain ⟨c, hc⟩ := zds hc0
   have hXc := (cl_of x c hc).1
   rcases l with ⟨hk1, _⟩ | ⟨_, c', hc', hcell⟩
   ·rcases S.has x hfr with z | z
    ·rw [hk1] at z; cases z
    ·rw [hk1] at z; cases z
   ·rw [hXc] at hc'
    cases hc'
    obtain ⟨o, ho, hd⟩ := hcell
    have nfp : c ∉ fp := fun z => (hf c z).2.2.2.2.1 x c hXc rfl
    obtain ⟨sl, q⟩ := J.base.any ho (I.freeC x c hXc) nfp
    exact .inr ⟨e3', c, hc, ⟨_, q, hd⟩⟩
 ·show (zbu k caps σ).length = N.length
  unfold zbu
  rw [List.length_append, List.length_replicate, List.length_map]
  exact S.len.symm
theorem Inv.uncomp {C : Addr} {s3 s' : Shared} {H3 H' : Hp} {σ' : St} {h' : Heap} (I : Inv X pins σ H3 s3) (hC : C = s3.heap.objs.size) (hf : ∀ b ∈ fp, FpOk X pins H3 b)
  (J : Inv (zbw X N scope cl C s3 H3 fp) [] σ' H' s') (hs : Heap.SameBut C s'.heap h') : Inv X pins σ H' { s' with heap := h' } := by
 subst hC
 have nC : ∀ b o, s3.heap.get? b = some o → b ≠ s3.heap.objs.size := fun b o e => Nat.ne_of_lt (Heap.lt_size e)
 have hfree : H' s3.heap.objs.size = none := J.free
 refine I.call' (ch := fp) J.os ⟨fun b o e n hb hx => ?_, fun b o e n hb hx => ?_, fun b o e n hx => J.base.free b o e n hx, fun b o e hx => ?_, J.base.tups, J.base.frzs, J.base.tbls⟩ (fun b u e => ?_) J.bare fun b hb => ?_
 ·exact (hs.2 b (nC b o e)).trans (J.base.keep b o e n hb hx)
 ·obtain ⟨sl, q⟩ := J.base.slot b o e n hb hx
  exact ⟨sl, (hs.2 b (nC b o e)).trans q⟩
 ·obtain ⟨o', q⟩ := J.base.there b o e hx
  exact ⟨o', (hs.2 b (nC b o e)).trans q⟩
 ·refine (J.hok b u e).stay (fun c v hc q => (hs.2 c ?_).trans q) (fun _ q => q) fun _ _ q => q
  rintro rfl
  rcases hc with z | z
  ·rw [z] at hfree; rw [e] at hfree; cases hfree
  ·rw [hfree] at z; cases z
 ·obtain ⟨_, f1, _, f3, f4, f5⟩ := hf b hb
  exact ⟨f3, f1, f4, f5⟩
end
def zfy (k : Nat) (caps : List Nat) (wi : TI) (g : TG) (ts : TT) (te : TE) : TE := fun σ H Q => wi σ H fun J H1 => ∀ D, H1 D = none →
 ∃ W : Nat → Nat → List V → Hp → Prop, (∃ m, W 0 m [] (upd H1 D (.lst []))) ∧ ∀ i m ys H2, W i m ys H2 →
  (J.stop i H2 ∧ Q (.ref D) H2) ∨ (J.go i H2 ∧ ∀ x H3, J.yld i H2 x H3 → g x (zbu k caps σ) H3 fun σ4 H4 => ts σ4 H4 fun b H5 =>
   if b = true then te σ4 H5 fun y H6 => ∃ zs, H6 D = some (.lst zs) ∧ zs.length < sizeLine ∧ ∃ m', m' < m ∧ W (i + 1) m' (ys ++ [y]) (upd H6 D (.lst (zs ++ [y])))
   else ∃ m', m' < m ∧ W (i + 1) m' ys H5)
def tYes : TT := fun _ H Q => Q true H
def PTs (X : Cx) (ifs : List Expr) (t : TT) : Prop :=
 ∀ (pins : List (Addr × Obj)) (s : Shared) (σ : St) (H : Hp) (Q : Bool → Hp → Prop), Inv X pins σ H s → t σ H Q →
  wpAny (model X.prog X.w) X.A (forIn ifs true fun c r => if r = true then do let ok ← isTrue c X.env (eval c X.env); pure (ForInStep.yield ok) else pure (ForInStep.yield r)) (TP X pins σ Q) X.xe s
theorem zbq {X : Cx} : PTs X [] tYes := fun _ _ _ H _ I h => wpAny_tests_nil ⟨H, I, h⟩
theorem zfH {X : Cx} {c : Expr} {t : TT} (h : PT X c t) : PTs X [c] t := fun pins s σ H Q I q => wpAny_tests_one (h pins s σ H Q I q)
section
variable {X : Cx} {N : List Str} {k : Nat} {caps : List Nat} {scope : Scope} {elt tg iter : Expr} {ifs : List Expr} {pos : Pos} {wi : TI} {g : TG} {ts : TT} {te : TE}
theorem zgE {pins : List (Addr × Obj)} {σ : St} {H : Hp} {s : Shared} {Q : VK} {RR : Value → Addr → Result → Shared → Prop} {cl : List (Str × Addr)} {it : Addr} {fp : List Addr} {tn : Nat → Heap → Prop} {J : It} {E : Value → Shared → Prop}
  (hc : X.calm = true) (S : zd8 X N k caps scope) (hcl : ∀ p ∈ cl, X.env.cells.lookup p.1 = some p.2 ∧ (p.1, NameKind.free) ∈ scope.names) (hhas : ∀ x, (x, NameKind.free) ∈ scope.names → ∃ c, (x, c) ∈ cl)
  (hg : ∀ (cl : List (Str × Addr)) (C : Addr) (s : Shared) (H : Hp) (fp : List Addr), PG (zbw X N scope cl C s H fp) tg g) (hts : ∀ (cl : List (Str × Addr)) (C : Addr) (s : Shared) (H : Hp) (fp : List Addr), PTs (zbw X N scope cl C s H fp) ifs ts)
  (he : ∀ (cl : List (Str × Addr)) (C : Addr) (s : Shared) (H : Hp) (fp : List Addr), PE (zbw X N scope cl C s H fp) elt te)
  (I : Inv X pins σ H s) (T : Turn X.prog X.w X.K tg J fp it tn) (st : tn 0 s.heap) (hf : ∀ b ∈ fp, FpOk X pins H b)
  (hw : ∀ D, H D = none → ∃ W : Nat → Nat → List V → Hp → Prop, (∃ m, W 0 m [] (upd H D (.lst []))) ∧ ∀ i m ys H2, W i m ys H2 →
   (J.stop i H2 ∧ Q (.ref D) H2) ∨ (J.go i H2 ∧ ∀ x H3, J.yld i H2 x H3 → g x (zbu k caps σ) H3 fun σ4 H4 => ts σ4 H4 fun b H5 =>
    if b = true then te σ4 H5 fun y H6 => ∃ zs, H6 D = some (.lst zs) ∧ zs.length < sizeLine ∧ ∃ m', m' < m ∧ W (i + 1) m' (ys ++ [y]) (upd H6 D (.lst (zs ++ [y])))
    else ∃ m', m' < m ∧ W (i + 1) m' ys H5))
  (hRR : ∀ D C s' H', (∃ m, s'.heap.Ns C m) → Q (.ref D) H' → FpOk X pins H' C → (∀ h', Heap.SameBut C s'.heap h' → Inv X pins σ H' { s' with heap := h' }) → RR (.ref D) C (.ok .next) s') :
  wpAny (model X.prog X.w) X.A (newList []) (fun acc s₃ => wpAny (model X.prog X.w) X.A (newFunctionEnv scope X.env.globals cl [] X.env.qual none .none (some X.env)) (fun cenv s₄ =>
   codeAny (model X.prog X.w) X.A (.compStart (.ListComp elt [⟨tg, iter, ifs, 0⟩] scope pos) 0 (.ref it) acc { cenv with scope := relabel scope X.env }) (RR acc cenv.locals) s₄) E s₃) E s := by
 refine wpAny_newObj_type (wpAny_newFunctionEnv S.nocell (by intro y hy; simp at hy) (fun h₁ hns₁ hsb₁ => ?_) S.kind)
 dsimp only at hns₁ hsb₁ ⊢
 have hD : H s.heap.objs.size = none := I.hok.fresh (Nat.le_refl _)
 have I3 : Inv X pins σ (upd H s.heap.objs.size (.lst [])) { s with heap := s.heap.push { cls := .type "list", data := .seq ([] : List Value).toArray }, toks := s.toks } := I.lnew (its := []) (ys := []) .nil (Nat.zero_le _)
 have hfp : ∀ b ∈ fp, b < s.heap.objs.size := fun b hb => by
  obtain ⟨o, e, _⟩ := T.obj 0 _ st b hb
  exact Heap.lt_size e
 have hf3 : ∀ b ∈ fp, FpOk X pins (upd H s.heap.objs.size (.lst [])) b := fun b hb => ⟨by rw [zai (Nat.ne_of_lt (hfp b hb))]; exact (hf b hb).1, (hf b hb).2⟩
 generalize hs3 : ({ s with heap := s.heap.push { cls := .type "list", data := .seq ([] : List Value).toArray }, toks := s.toks } : Shared) = s3 at I3
 have e3 : s3.heap = s.heap.push { cls := .type "list", data := .seq ([] : List Value).toArray } := by rw [← hs3]
 have hsz : s3.heap.objs.size = s.heap.objs.size + 1 := by rw [e3, Heap.size_push]
 have hfp3 : ∀ b ∈ fp, b < s3.heap.objs.size := fun b hb => by rw [hsz]; exact Nat.lt_succ_of_lt (hfp b hb)
 have hC : (s.heap.push { cls := .type "list", data := .seq ([] : List Value).toArray }).objs.size = s3.heap.objs.size := by rw [e3]
 have hk : ∀ b o, s3.heap.get? b = some o → h₁.get? b = some o := fun b o e => by
  have nb : b ≠ (s.heap.push { cls := .type "list", data := .seq ([] : List Value).toArray }).objs.size := by rw [hC]; exact Nat.ne_of_lt (Heap.lt_size e)
  rw [e3] at e
  exact (hsb₁.2 b nb).trans (Heap.get?_push_of_some _ e)
 have hns : h₁.Ns s3.heap.objs.size (fun x => ([] : List (Str × Value)).reverse.lookup x) := by rw [← hC]; exact hns₁
 have J0 : Inv (zbw X N scope cl s3.heap.objs.size s3 (upd H s.heap.objs.size (.lst [])) fp) [] (zbu k caps σ) (upd H s.heap.objs.size (.lst [])) { s3 with heap := h₁, toks := s.toks + ([] : List (Str × Value)).length } := I3.comp S hcl hhas hf3 hfp3 hk hns
 have hst : tn 0 h₁ := T.keep 0 _ _ st fun b _ o e => hk b o (by rw [e3]; exact Heap.get?_push_of_some _ e)
 obtain ⟨W, ⟨m0, w0⟩, turn⟩ := hw _ hD
 have stat : ∀ {H' : Hp} {ps : List (Addr × Obj)}, (∀ b ∈ fp, H' b = none) → (∀ p ∈ ps, False) → ∀ b ∈ fp, FpOk (zbw X N scope cl s3.heap.objs.size s3 (upd H s.heap.objs.size (.lst [])) fp) ps H' b := fun {H' ps} hn hp b hb => by
  refine ⟨hn b hb, Nat.ne_of_lt (hfp3 b hb), fun z => J0.ok.exfs b hb z, .inl hb, fun x c e z => ?_, fun p hp' => (hp p (by simpa using hp')).elim⟩
  exact (J0.ok.exf b hb).2 x c e z
 have loop : ∀ s₄ : Shared, s₄ = { s3 with heap := h₁, toks := s.toks + ([] : List (Str × Value)).length } →
   codeAny (model X.prog X.w) X.A (.compLoop (.ListComp elt [⟨tg, iter, ifs, 0⟩] scope pos) 0 (.ref it) (.ref s.heap.objs.size) (compEnvC scope cl s3.heap.objs.size X.env)) (RR (.ref s.heap.objs.size) s3.heap.objs.size) s₄ := by
  rintro s₄ rfl
  refine zgF (fun n s' => ∃ i ys H', Inv (zbw X N scope cl s3.heap.objs.size s3 (upd H s.heap.objs.size (.lst [])) fp) [] (zbu k caps σ) H' s' ∧ tn i s'.heap ∧ (∀ b ∈ fp, H' b = none) ∧ W i n ys H') ?_ m0 ⟨0, [], _, J0, hst, fun b hb => (hf3 b hb).1, w0⟩
  rintro n s5 ⟨i, ys, H5, J5, st5, fr5, w5⟩
  rcases turn i n ys H5 w5 with ⟨stop, qn⟩ | ⟨go, step⟩
  ·refine thn (T.done (zbw X N scope cl s3.heap.objs.size s3 (upd H s.heap.objs.size (.lst [])) fp) rfl rfl rfl hc i [] s5 _ H5 (fun _ _ => False) J5 (stat fr5 (fun _ h => by cases h)) st5 stop) fun r s6 ⟨hr, J6⟩ => ?_
   subst hr
   exact hRR _ _ s6 H5 (let ⟨m, h, _⟩ := J6.loc; ⟨m, h⟩) qn (I3.fpOk (Nat.le_refl _) J6.free) fun h' hs => I3.uncomp rfl hf3 J6 hs
  ·refine thn (T.item (zbw X N scope cl s3.heap.objs.size s3 (upd H s.heap.objs.size (.lst [])) fp) rfl rfl rfl hc i [] s5 _ H5 (fun _ _ => False) J5 (stat fr5 (fun _ h => by cases h)) st5 go) fun r s6 ⟨u, hr, h6⟩ => ?_
   subst hr
   refine thn h6 fun _ s7 ⟨x, H7, J7, r7, y7, st7, fr7⟩ => ?_
   have J7' := J7.pinned (stat fr7 (fun _ h => by cases h)) (T.obj _ _ st7)
   have keep : ∀ {σ8 : St} {H8 : Hp} {s8 : Shared} {m' : Nat} {ys' : List V}, Inv (zbw X N scope cl s3.heap.objs.size s3 (upd H s.heap.objs.size (.lst [])) fp) ([] ++ zgj fp s7.heap) σ8 H8 s8 → m' < n → W (i + 1) m' ys' H8 →
     ∃ m, m < n ∧ ∃ i ys H', Inv (zbw X N scope cl s3.heap.objs.size s3 (upd H s.heap.objs.size (.lst [])) fp) [] (zbu k caps σ) H' s8 ∧ tn i s8.heap ∧ (∀ b ∈ fp, H' b = none) ∧ W i m ys H' := fun {σ8 H8 s8 m' ys'} J8 hm w8 => by
    refine ⟨m', hm, i + 1, ys', H8, I3.recomp S hcl hhas hf3 J8.unpinned, T.keep _ _ _ st7 fun b hb o e => (J8.pin (b, o) (List.mem_append_right _ (List.mem_append_right _ (zcU hb e)))).1, fun b hb => ?_, w8⟩
    obtain ⟨o, e, d⟩ := T.obj _ _ st7 b hb
    exact (J8.pin (b, o) (List.mem_append_right _ (List.mem_append_right _ (zcU hb e)))).2.1
   refine thn (hg cl _ s3 _ fp _ s7 _ H7 x u _ J7' r7 (step x H7 y7)) fun _ s8 ⟨σ8, H8, J8, q8⟩ => ?_
   refine thn (hts cl _ s3 _ fp _ s8 σ8 H8 _ J8 q8) fun ok s9 ⟨H9, J9, q9⟩ => ?_
   cases ok with
   | false =>
    rw [if_neg Bool.false_ne_true] at q9 ⊢
    obtain ⟨m', hm, w9⟩ := q9
    exact keep J9 hm w9
   | true =>
    rw [if_pos rfl] at q9 ⊢
    refine thn (he cl _ s3 _ fp _ s9 σ8 H9 _ J9 q9) fun yv s10 ⟨y, H10, J10, r10, zs, hz, hlt, m', hm, w10⟩ => ?_
    refine thn (zbC _ s10 σ8 H10 (.ref s.heap.objs.size) [y] (.ref s.heap.objs.size) [yv] (fun _ H11 => H11 = upd H10 s.heap.objs.size (.lst (zs ++ [y]))) J10 rfl (.cons r10 .nil) ⟨_, zs, y, rfl, rfl, hz, hlt, rfl⟩) fun _ s11 ⟨_, H11, J11, _, e11⟩ => ?_
    subst e11
    exact keep J11 hm w10
 have fin := codeAny_compStart_list (prog := X.prog) (w := X.w) (A := X.A) (elt := elt) (target := tg) (iter := iter) (ifs := ifs) (rest := []) (scope := scope) (pos := pos) (it := .ref it) (acc := .ref s.heap.objs.size) (env := compEnvC scope cl s3.heap.objs.size X.env) (R := RR (.ref s.heap.objs.size) s3.heap.objs.size) (loop _ rfl)
  (T.self X.A 0 { s3 with heap := h₁, toks := s.toks + ([] : List (Str × Value)).length } _ _ hst (loop _ rfl))
 subst hs3
 exact fin
theorem znr (hc : X.calm = true) (hi : PI X tg iter wi) (S : zd8 X N k caps scope)
  (hg : ∀ (cl : List (Str × Addr)) (C : Addr) (s : Shared) (H : Hp) (fp : List Addr), PG (zbw X N scope cl C s H fp) tg g) (hts : ∀ (cl : List (Str × Addr)) (C : Addr) (s : Shared) (H : Hp) (fp : List Addr), PTs (zbw X N scope cl C s H fp) ifs ts)
  (he : ∀ (cl : List (Str × Addr)) (C : Addr) (s : Shared) (H : Hp) (fp : List Addr), PE (zbw X N scope cl C s H fp) elt te)
  (hs : ∀ x, foldedSetIterable iter X.env x = pure x := by intro _; rfl) : PE X (.ListComp elt [⟨tg, iter, ifs, 0⟩] scope pos) (zfy k caps wi g ts te) := by
 intro pins s σ H Q I h
 obtain ⟨cl, hclos, hcl, hhas⟩ := zkw (env := X.env) (scope := scope) fun x hx => I.ok.has x (S.has x hx)
 rw [eval_ListComp]
 refine wpAny_comprehension_free (use := none) rfl hs hclos S.kind S.loc (thn (hi pins s σ H _ I h) fun xv s₁ h₁ => thn h₁ fun itv s₂ h₂ => ?_)
 obtain ⟨it, fp, tn, J, H2, e, I2, T, st2, f2, hw⟩ := h₂
 subst e
 refine zgE (Q := Q) (RR := fun acc C => compPost (model X.prog X.w) X.A X.xe none (EP X pins σ Q) acc C) hc S hcl hhas hg hts he I2 T st2 f2 hw fun D C s' H' hm q _ hI => ?_
 obtain ⟨m, hm⟩ := hm
 exact ⟨m, hm, fun h' hs => ⟨.ref D, H', hI h' hs, rfl, q⟩⟩
theorem znf {y : Str} {py spos : Pos} {g0 : TG} (hc : X.calm = true) (hi : PI X tg iter wi) (S : zd8 X N k caps scope)
  (hg : ∀ (cl : List (Str × Addr)) (C : Addr) (s : Shared) (H : Hp) (fp : List Addr), PG (zbw X N scope cl C s H fp) tg g) (hts : ∀ (cl : List (Str × Addr)) (C : Addr) (s : Shared) (H : Hp) (fp : List Addr), PTs (zbw X N scope cl C s H fp) ifs ts)
  (he : ∀ (cl : List (Str × Addr)) (C : Addr) (s : Shared) (H : Hp) (fp : List Addr), PE (zbw X N scope cl C s H fp) elt te) (hy : PG X (.Name y py) g0)
  (hsw : swapsWith (.ListComp elt [⟨tg, iter, ifs, 0⟩] scope pos) (some (.Name y py)) spos.line X.env = pure true)
  (hs : ∀ x, foldedSetIterable iter X.env x = pure x := by intro _; rfl) : PS X (.Assign [.Name y py] (.ListComp elt [⟨tg, iter, ifs, 0⟩] scope pos) spos) (tAsg (zfy k caps wi g ts te) g0) := by
 intro pins s σ H D I h
 obtain ⟨cl, hclos, hcl, hhas⟩ := zkw (env := X.env) (scope := scope) fun x hx => I.ok.has x (S.has x hx)
 rw [exec_Assign_Name_used _ _ _ _ hsw]
 refine wpAny_bind (wpAny_standAt (wpAny_bind ?_))
 show wpAny _ X.A (do let _ ← comprehension (.ListComp elt [⟨tg, iter, ifs, 0⟩] scope pos) scope X.env _ (newList []) false (eval iter X.env) (some (assign (.Name y py) X.env))) _ _ s
 refine wpAny_bind (wpAny_mono (wpAny_comprehension_free (use := some (assign (.Name y py) X.env)) (Q := fun _ s' => SP X pins D .next s') rfl hs hclos S.kind S.loc (thn (hi pins s σ H _ I h) fun xv s₁ h₁ => thn h₁ fun itv s₂ h₂ => ?_))
  (fun _ s' hq => wpAny_pure (wpAny_pure hq)) fun _ _ e => e)
 obtain ⟨it, fp, tn, J, H2, e, I2, T, st2, f2, hw⟩ := h₂
 subst e
 refine zgE (Q := fun x H' => g0 x σ H' D.nx) (RR := fun acc C => compPost (model X.prog X.w) X.A X.xe (some (assign (.Name y py) X.env)) (fun _ s' => SP X pins D .next s') acc C) hc S hcl hhas hg hts he I2 T st2 f2 hw fun Da C s' H' hm q fC hI => ?_
 obtain ⟨m, o, es, ep, ho, hd, hk⟩ := hm
 have I3 : Inv X pins σ H' s' := hI s'.heap (Heap.SameBut.refl _ _)
 have I4 := I3.pinned (fp := [C]) (fun b hb => by rw [List.mem_singleton.mp hb]; exact fC) (fun b hb => by rw [List.mem_singleton.mp hb]; exact ⟨o, ho, fun v z => by rw [hd] at z; cases z⟩)
 show wpAny _ X.A (assign (.Name y py) X.env (.ref Da)) _ _ s'
 refine thn (hy _ s' σ H' (.ref Da) (.ref Da) _ I4 rfl q) fun _ s5 ⟨σ5, H5, I5, q5⟩ => ?_
 have hp := I5.pin (C, o) (List.mem_append_right _ (List.mem_append_right _ (zcU (by simp) ho)))
 refine ⟨m, ⟨o, es, ep, hp.1, hd, hk⟩, fun h' hs' => ⟨σ5, H5, ?_, q5⟩⟩
 obtain ⟨f0, f1, f2', f3, f4, f5⟩ := fC
 exact I5.unpinned.turned (t' := s5.toks) (fun b o hb e => (hs'.2 b hb).trans e) hp.2.1 f1 f3 f4 f5
end
def visB (sc : Scope) (x : Str) : Bool := sc.names.lookup x == some .local || (sc.names.lookup x == some .cell || sc.names.lookup x == some .free)
def capB (sc : Scope) (NX N : List Str) (k : Nat) (scope : Scope) : Nat → List Nat → Bool
 | _, [] => true
 | i, j :: r => (match N[k + i]? with
  | some x => NX[j]? == some x && visB sc x && scope.names.lookup x == some .free
  | none => false) && capB sc NX N k scope (i + 1) r
def zfX (sc : Scope) (NX N : List Str) (k : Nat) (caps : List Nat) (scope : Scope) : Bool :=
 scope.kind == .function && scope.names.all (fun y => !(y.2 == .cell)) && scope.names.all (fun y => !(y.2 == .local) || scope.names.lookup y.1 == some .local) &&
 scope.names.all (fun y => !(y.2 == .free) || (sc.names.lookup y.1 == some .cell || sc.names.lookup y.1 == some .free)) && N.length == k + caps.length && capB sc NX N k scope 0 caps
theorem zhc {sc : Scope} {NX N : List Str} {k : Nat} {scope : Scope} : ∀ {i0 : Nat} {caps : List Nat}, capB sc NX N k scope i0 caps = true → ∀ (i j : Nat) (x : Str), caps[i]? = some j → N[k + (i0 + i)]? = some x →
  (NX[j]? = some x ∧ Vis sc x) ∧ scope.names.lookup x = some .free
 | _, [], _, i, j, x, h, _ => by simp at h
 | i0, c :: r, h, i, j, x, hi, hx => by
  unfold capB at h
  rw [Bool.and_eq_true] at h
  cases i with
  | zero =>
   have e : c = j := by simpa using hi
   subst e
   rw [Nat.add_zero] at hx
   rw [hx] at h
   simp only [Bool.and_eq_true, beq_iff_eq, visB, Bool.or_eq_true] at h
   exact ⟨⟨h.1.1.1, h.1.1.2⟩, h.1.2⟩
  | succ i =>
   refine zhc h.2 i j x (by simpa using hi) ?_
   rw [show i0 + 1 + i = i0 + (i + 1) by omega]
   exact hx
theorem zd8.of {X : Cx} {N : List Str} {k : Nat} {caps : List Nat} {scope : Scope} (h : zfX X.env.scope X.N N k caps scope = true) : zd8 X N k caps scope := by
 unfold zfX at h
 simp only [Bool.and_eq_true, beq_iff_eq, List.all_eq_true, Bool.not_eq_true', beq_eq_false_iff_ne, Bool.or_eq_true] at h
 obtain ⟨⟨⟨⟨⟨h1, h2⟩, h3⟩, h4⟩, h5⟩, h6⟩ := h
 refine ⟨h1, h2, fun y hy e => ?_, fun x hx => ?_, h5, fun i j x hi hx => (zhc h6 i j x hi (by rw [Nat.zero_add]; exact hx)).1, fun i j x hi hx => (zhc h6 i j x hi (by rw [Nat.zero_add]; exact hx)).2⟩
 ·rcases h3 y hy with z | z
  ·exact absurd e z
  ·exact z
 ·rcases h4 _ hx with z | z
  ·exact absurd rfl z
  ·exact z
theorem zfJ {X : Cx} {scope : Scope} {elt tg iter : Expr} {ifs : List Expr} {pos spos py : Pos} {y : Str} {wi : TI} {g g0 : TG} {ts : TT} {te : TE} (N : List Str) (k : Nat) (caps : List Nat) (hi : PI X tg iter wi)
  (hg : ∀ (cl : List (Str × Addr)) (C : Addr) (s : Shared) (H : Hp) (fp : List Addr), PG (zbw X N scope cl C s H fp) tg g) (hts : ∀ (cl : List (Str × Addr)) (C : Addr) (s : Shared) (H : Hp) (fp : List Addr), PTs (zbw X N scope cl C s H fp) ifs ts)
  (he : ∀ (cl : List (Str × Addr)) (C : Addr) (s : Shared) (H : Hp) (fp : List Addr), PE (zbw X N scope cl C s H fp) elt te) (hy : PG X (.Name y py) g0) (hc : X.calm = true := by rfl) (hS : zfX X.env.scope X.N N k caps scope = true := by kernel_rfl)
  (hsw : swapsWith (.ListComp elt [⟨tg, iter, ifs, 0⟩] scope pos) (some (.Name y py)) spos.line X.env = pure true := by rfl)
  (hs : ∀ x, foldedSetIterable iter X.env x = pure x := by intro _; rfl) : PS X (.Assign [.Name y py] (.ListComp elt [⟨tg, iter, ifs, 0⟩] scope pos) spos) (tAsg (zfy k caps wi g ts te) g0) := znf hc hi (zd8.of hS) hg hts he hy hsw hs
theorem zaV {X : Cx} {scope : Scope} {elt tg iter : Expr} {ifs : List Expr} {pos : Pos} {wi : TI} {g : TG} {ts : TT} {te : TE} (N : List Str) (k : Nat) (caps : List Nat) (hi : PI X tg iter wi)
  (hg : ∀ (cl : List (Str × Addr)) (C : Addr) (s : Shared) (H : Hp) (fp : List Addr), PG (zbw X N scope cl C s H fp) tg g) (hts : ∀ (cl : List (Str × Addr)) (C : Addr) (s : Shared) (H : Hp) (fp : List Addr), PTs (zbw X N scope cl C s H fp) ifs ts)
  (he : ∀ (cl : List (Str × Addr)) (C : Addr) (s : Shared) (H : Hp) (fp : List Addr), PE (zbw X N scope cl C s H fp) elt te) (hc : X.calm = true := by rfl) (hS : zfX X.env.scope X.N N k caps scope = true := by kernel_rfl)
  (hs : ∀ x, foldedSetIterable iter X.env x = pure x := by intro _; rfl) : PE X (.ListComp elt [⟨tg, iter, ifs, 0⟩] scope pos) (zfy k caps wi g ts te) := znr hc hi (zd8.of hS) hg hts he hs
end L2
set_option Elab.async false
set_option linter.all false
set_option maxRecDepth 100000
set_option maxHeartbeats 4000000
namespace L2
open PySem PySem.Spec PyProof.Rows
section
variable {X : Cx} {tg : Expr}
end
def Itz (K : PySem.W.Frag) (l1 l2 : Addr) : It :=
  ⟨fun i H => ∃ xs ys x y, SqL K H l1 xs ∧ SqL K H l2 ys ∧ xs[i]? = some x ∧ ys[i]? = some y,
   fun i H v H' => ∃ p x y, v = .ref p ∧ H p = none ∧ H' = upd H p (.tup [x, y]) ∧ (∀ xs, SqL K H l1 xs → xs[i]? = some x) ∧ ∀ ys, SqL K H l2 ys → ys[i]? = some y,
   fun i H => ∃ xs ys, SqL K H l1 xs ∧ SqL K H l2 ys ∧ (xs[i]? = none ∨ ys[i]? = none)⟩
theorem zkQ {P : Program} {w : World} {K : PySem.W.Frag} {elts : List Expr} {kk : Nat} {tpos : Pos} (z TI TO i1 i2 l1 l2 : Addr) (D : ZipApart z TI TO i1 i2 l1 l2) : Turn P w K (.Tuple elts kk tpos) (Itz K l1 l2) [z, TI, TO, i1, i2] z
  (fun i h => IsZip h z TI TO .none ∧ IsPair h TI (.ref i1) (.ref i2) ∧ (∃ a b, IsPair h TO a b) ∧ h.IsListIter i1 l1 i ∧ h.IsListIter i2 l2 i) where
 mem := by simp
 obj := fun i h st b hb => by
  obtain ⟨h1, h2, ⟨a, c, h3⟩, ⟨o4, h4, _, d4⟩, ⟨o5, h5, _, d5⟩⟩ := st
  have hb' : b = z ∨ b = TI ∨ b = TO ∨ b = i1 ∨ b = i2 := by simpa using hb
  rcases hb' with rfl | rfl | rfl | rfl | rfl
  ·exact ⟨_, h1, fun v q => by cases q⟩
  ·exact ⟨_, h2, fun v q => by cases q⟩
  ·exact ⟨_, h3, fun v q => by cases q⟩
  ·exact ⟨_, h4, fun v q => by rw [d4] at q; cases q⟩
  ·exact ⟨_, h5, fun v q => by rw [d5] at q; cases q⟩
 keep := fun i h h' st k => by
  obtain ⟨h1, h2, ⟨a, c, h3⟩, h4, h5⟩ := st
  exact ⟨k z (by simp) _ h1, k TI (by simp) _ h2, ⟨a, c, k TO (by simp) _ h3⟩, h4.at fun o e => k i1 (by simp) o e, h5.at fun o e => k i2 (by simp) o e⟩
 item := by
  intro X hP hw hK hc i pins s σ H E I hf st hg
  subst hP hw hK
  obtain ⟨h1, h2, ⟨a, c, h3⟩, h4, h5⟩ := st
  obtain ⟨xs, ys, x, y, hq1, hq2, hx, hy⟩ := hg
  obtain ⟨its1, rv1, p1, hz1⟩ := I.list hq1
  obtain ⟨its2, rv2, p2, hz2⟩ := I.list hq2
  obtain ⟨u1, hu1, ru1⟩ := rv1.get hx
  obtain ⟨u2, hu2, ru2⟩ := rv2.get hy
  refine wpAny_pyNext_zip_item D h1 h2 h3 h4 h5 p1.isList p2.isList (x := u1) (y := u2) (by simpa using hu1) (by simpa using hu2) fun h' g1 g2 g3 g4 g5 gsz gk => ?_
  refine ⟨_, rfl, wpAny_letOwnedTupleGo_zip g1 fun h'' z1 sb => ?_⟩
  have hfr : H s.heap.objs.size = none := I.hok.fresh (Nat.le_refl _)
  have nz : ∀ b o, s.heap.get? b = some o → b ≠ s.heap.objs.size := fun b o e => Nat.ne_of_lt (Heap.lt_size e)
  have zlt : z < s.heap.objs.size := Heap.lt_size h1
  have kk : ∀ b o, b ∉ [z, TI, TO, i1, i2] → s.heap.get? b = some o → h''.get? b = some o := fun b o hb e => by
   have hb' : b ≠ z ∧ b ≠ TI ∧ b ≠ TO ∧ b ≠ i1 ∧ b ≠ i2 := by simpa using hb
   exact (sb.2 b hb'.1).trans (gk b o hb'.1 hb'.2.2.1 hb'.2.2.2.1 hb'.2.2.2.2 e)
  have np : h''.get? s.heap.objs.size = some { cls := .type "tuple", data := .seq #[u1, u2] } := (sb.2 _ (Nat.ne_of_gt zlt)).trans g5
  -- the tracked objects stand, the pair is laid
  have nfp : ∀ b u, H b = some u → b ∉ [z, TI, TO, i1, i2] := fun b u e hb => by
   have := (hf b hb).1
   rw [e] at this; cases this
  have hok1 : HOk X.prog X.w H h'' := fun b u e => (I.hok b u e).stay (fun c v hc q => kk c v (by
   rcases hc with q' | q'
   ·rw [q']; exact nfp b u e
   ·exact nfp c _ q') q) (fun _ q => q) fun _ _ q => q
  have hok2 : HOk X.prog X.w (upd H s.heap.objs.size (.tup [x, y])) h'' := fun b u e => by
   by_cases hb : b = s.heap.objs.size
   ·subst hb
    rw [zab] at e
    cases e
    exact ⟨(by show 2 ≤ sizeLine; decide), [u1, u2], .cons ru1 (.cons ru2 .nil), ⟨_, np, rfl, _, rfl⟩⟩
   ·rw [zai hb] at e
    exact (hok1 b u e).stay (fun c v _ q => q) (fun c q => by rw [zai (zag q hfr)]; exact q) fun c xs q => by rw [zai (zag q hfr)]; exact q
  have I1 : Inv X pins σ (upd H s.heap.objs.size (.tup [x, y])) { s with heap := h'' } := by
   refine I.step (g' := s.gens) (t' := s.toks) (d' := s.drawn) (ch := [z, TI, TO, i1, i2]) (fun b hb => ?_) (fun b o _ _ hc e _ => kk b o hc e) (fun b o _ _ hc e _ => ⟨o.slots, kk b o hc e⟩) (fun b o hc e n => by rw [zai (nz b o e)]; exact n) (fun b o hc e => ⟨o, kk b o hc e⟩)
    (fun b xs e => by rw [zai (zag e hfr)]; exact e) (fun b o u e => by rw [zai (zag e hfr)]; exact e) (fun b ps e => ⟨#[], by rw [zai (zag e hfr), e]; simp⟩) (fun m hm => ?_) hok2 I.bare
   ·obtain ⟨f0, f1, f2, f3, f4, f5⟩ := hf b hb
    exact ⟨f3, f1, f4, f5⟩
   ·obtain ⟨o, es, ep, ho, r⟩ := hm
    refine ⟨o, es, ep, kk _ o (fun hb => ?_) ho, r⟩
    exact (hf _ hb).2.1 rfl
  refine ⟨.ref s.heap.objs.size, _, I1, rfl, ⟨s.heap.objs.size, x, y, rfl, hfr, rfl, fun zs hz => by rw [I.list_inj hz hq1]; exact hx, fun zs hz => by rw [I.list_inj hz hq2]; exact hy⟩, ⟨z1, (sb.2 TI D.TIz).trans (gk TI _ D.TIz D.TITO D.TIi1 D.TIi2 h2), ⟨_, _, (sb.2 TO D.TOz).trans g2⟩, g3.at fun o e => (sb.2 i1 D.i1z).trans e, g4.at fun o e => (sb.2 i2 D.i2z).trans e⟩, fun b hb => ?_⟩
  have e0 := (hf b hb).1
  have hlt : b < s.heap.objs.size := by
   obtain ⟨o4, e4, _⟩ := h4
   obtain ⟨o5, e5, _⟩ := h5
   have hb' : b = z ∨ b = TI ∨ b = TO ∨ b = i1 ∨ b = i2 := by simpa using hb
   rcases hb' with rfl | rfl | rfl | rfl | rfl
   ·exact zlt
   ·exact Heap.lt_size h2
   ·exact Heap.lt_size h3
   ·exact Heap.lt_size e4
   ·exact Heap.lt_size e5
  rw [zai (Nat.ne_of_lt hlt)]
  exact e0
 done := by
  intro X hP hw hK hc i pins s σ H E I hf st hg
  subst hP hw hK
  obtain ⟨h1, h2, ⟨a, c, h3⟩, h4, h5⟩ := st
  obtain ⟨xs, ys, hq1, hq2, hend⟩ := hg
  obtain ⟨its1, rv1, p1, hz1⟩ := I.list hq1
  obtain ⟨its2, rv2, p2, hz2⟩ := I.list hq2
  have he : its1.toArray[i]? = none ∨ its2.toArray[i]? = none := by
   rcases hend with e | e
   ·exact .inl (by simpa using rv1.none_of e)
   ·exact .inr (by simpa using rv2.none_of e)
  refine wpAny_pyNext_zip_end (I.ok.hd hc) D h1 h2 h3 h4 h5 p1.isList p2.isList he fun h' gk => ⟨rfl, ?_⟩
  have kk : ∀ b o, b ∉ [z, TI, TO, i1, i2] → s.heap.get? b = some o → h'.get? b = some o := fun b o hb e => by
   have hb' : b ≠ z ∧ b ≠ TI ∧ b ≠ TO ∧ b ≠ i1 ∧ b ≠ i2 := by simpa using hb
   exact gk b o hb'.1 hb'.2.2.1 hb'.2.2.2.1 hb'.2.2.2.2 e
  have nfp : ∀ b u, H b = some u → b ∉ [z, TI, TO, i1, i2] := fun b u e hb => by
   have := (hf b hb).1
   rw [e] at this; cases this
  refine I.step (h' := h') (g' := s.gens) (t' := s.toks) (d' := s.drawn) (ch := [z, TI, TO, i1, i2]) (fun b hb => ?_) (fun b o _ _ hc e _ => kk b o hc e) (fun b o _ _ hc e _ => ⟨o.slots, kk b o hc e⟩) (fun b o hc e n => n) (fun b o hc e => ⟨o, kk b o hc e⟩)
   (fun b xs e => e) (fun b o u e => e) (fun b ps e => ⟨#[], by rw [e]; simp⟩) (fun m hm => ?_) (fun b u e => ?_) I.bare
  ·obtain ⟨f0, f1, f2, f3, f4, f5⟩ := hf b hb
   exact ⟨f3, f1, f4, f5⟩
  ·obtain ⟨o, es, ep, ho, r⟩ := hm
   refine ⟨o, es, ep, kk _ o (fun hb => ?_) ho, r⟩
   exact (hf _ hb).2.1 rfl
  ·exact (I.hok b u e).stay (fun c v hc q => kk c v (by
    rcases hc with q' | q'
    ·rw [q']; exact nfp b u e
    ·exact nfp c _ q') q) (fun _ q => q) fun _ _ q => q
 self := fun _ _ _ _ _ st h => wpAny_pyIter_zip st.1 h
section
variable {X : Cx} {elts : List Expr} {kk : Nat} {tpos : Pos}
def iZip (K : PySem.W.Frag) (ta : TA) : TI := fun σ H R => ta σ H fun vs H1 => ∃ l1 l2 xs ys, vs = [.ref l1, .ref l2] ∧ SqL K H1 l1 xs ∧ SqL K H1 l2 ys ∧ R (Itz K l1 l2) H1
theorem zo3 {a b : Expr} {ta : TA} {p pos : Pos} (hg : Gl X "zip") (hm : X.mg "zip" = none) (ha : PA X [a, b] ta) (hs : starEach [a, b] X.env = [(false, eval a X.env), (false, eval b X.env)] := by rfl) (hs2 : starEach [b] X.env = [(false, eval b X.env)] := by rfl) :
  PI X (.Tuple elts kk tpos) (.Call (.Name "zip" p) [a, b] [] pos) (iZip X.K ta) := by
 intro pins s σ H R I h
 refine Call_ (zdk I hg hm boot_zip (PyProof.Rows.callWith_type1 (thn (ha pos pins s σ H _ I h) fun us s1 ⟨vs, H1, I1, r1, q1⟩ => ?_) (by rw [hs, hs2]) (by rw [hs2]; rfl)))
 obtain ⟨l1, l2, xs, ys, e, hq1, hq2, q⟩ := q1
 subst e
 cases r1 with
 | cons r rr =>
  cases rr with
  | cons r' rr =>
   cases rr
   cases r
   cases r'
   obtain ⟨its1, rv1, p1, hz1⟩ := I1.list hq1
   obtain ⟨its2, rv2, p2, hz2⟩ := I1.list hq2
   refine call_zip_2 p1.isList p2.isList fun h' g1 g2 g3 g4 g5 gsz gk => ?_
   refine wpAny_pyIter_zip g1 ?_
   have I2 : Inv X pins σ H1 { s1 with heap := h' } := I1.kept (t' := s1.toks) gk
   have hlt : ∀ {l : Addr} {its : Array Value}, s1.heap.IsList l its → l < s1.heap.objs.size := fun ⟨o, e, _⟩ => Heap.lt_size e
   have n1 := hlt p1.isList
   have n2 := hlt p2.isList
   have D : ZipApart (s1.heap.objs.size + 4) (s1.heap.objs.size + 2) (s1.heap.objs.size + 3) s1.heap.objs.size (s1.heap.objs.size + 1) l1 l2 := by
    have a1 : (l1 : Nat) < s1.heap.objs.size := n1
    have a2 : (l2 : Nat) < s1.heap.objs.size := n2
    have ne4 : ∀ {x y : Nat}, x < y → x ≠ y := fun h => Nat.ne_of_lt h
    have lt : ∀ {x : Nat} (k : Nat), x < s1.heap.objs.size → x ≠ s1.heap.objs.size + k := fun k h => Nat.ne_of_lt (Nat.lt_of_lt_of_le h (Nat.le_add_right _ _))
    have nz : ∀ {j k : Nat}, j ≠ k → s1.heap.objs.size + j ≠ s1.heap.objs.size + k := fun h e => h (Nat.add_left_cancel e)
    exact ⟨nz (by decide), nz (by decide), nz (j := 0) (by decide), nz (by decide), nz (by decide), nz (k := 0) (by decide), nz (by decide), nz (k := 0) (by decide), nz (by decide), nz (j := 0) (by decide), lt 4 a1, lt 3 a1, lt 0 a1, lt 1 a1, lt 4 a2, lt 3 a2, lt 0 a2, lt 1 a2⟩
   refine ⟨_, _, _, _, H1, rfl, I2, zkQ _ _ _ _ _ l1 l2 D, ⟨g1, g2, ⟨_, _, g3⟩, g4, g5⟩, fun b hb => ?_, q⟩
   have hb' : b = s1.heap.objs.size + 4 ∨ b = s1.heap.objs.size + 2 ∨ b = s1.heap.objs.size + 3 ∨ b = s1.heap.objs.size ∨ b = s1.heap.objs.size + 1 := by simpa using hb
   have hle : s1.heap.objs.size ≤ b := by
    rcases hb' with rfl | rfl | rfl | rfl | rfl
    ·exact Nat.le_add_right _ _
    ·exact Nat.le_add_right _ _
    ·exact Nat.le_add_right _ _
    ·exact Nat.le_refl _
    ·exact Nat.le_add_right _ _
   exact I1.fpOk hle (I1.hok.fresh hle)
end
end L2
set_option Elab.async false
set_option linter.all false
set_option maxRecDepth 100000
set_option maxHeartbeats 4000000
namespace L2
open PySem PySem.Spec PyProof.Rows
section
variable {k : Nat} {caps : List Nat} {g : TG} {te : TE} {σ : St} {Q : VK} {H1 : Hp} {D : Addr} {J : It} {n : Nat} {ts : TT}
def zcD (D : Addr) (H H' : Hp) : Prop := ∀ b o, b ≠ D → H b = some o → H' b = some o
theorem Same.sameD {H H' : Hp} (S : Same H H') : zcD D H H' := fun b o _ e => S b o e
theorem zeS {QD : Addr → Hp → Prop} (R : Nat → V → Hp → Prop) (mono : ∀ i y H H', R i y H → zcD D H H' → TupK H H' → R i y H') (hn : n ≤ 1000000) (hD : H1 D = none) (hgo : ∀ i H, i < n → Same H1 H → J.go i H) (hstop : ∀ H, Same H1 H → J.stop n H)
  (step : ∀ (i : Nat) (H2 : Hp) (x : V) (H3 : Hp) (ys : List V) (C : V → Hp → Prop), i < n → Same H1 H2 → H2 D = some (.lst ys) → J.yld i H2 x H3 → (∀ y H6, Same H2 H6 → R i y H6 → C y H6) → g x (zbu k caps σ) H3 fun σ4 H4 => te σ4 H4 C)
  (fin : ∀ (ys : List V) (H' : Hp), Same H1 H' → H' D = some (.lst ys) → ys.length = n → (∀ (j : Nat) y, ys[j]? = some y → R j y H') → QD D H') :
  ∃ W : Nat → Nat → List V → Hp → Prop, (∃ m, W 0 m [] (upd H1 D (.lst []))) ∧ ∀ i m ys H2, W i m ys H2 →
   (J.stop i H2 ∧ QD D H2) ∨ (J.go i H2 ∧ ∀ x H3, J.yld i H2 x H3 → g x (zbu k caps σ) H3 fun σ4 H4 => tYes σ4 H4 fun b H5 =>
    if b = true then te σ4 H5 fun y H6 => ∃ zs, H6 D = some (.lst zs) ∧ zs.length < sizeLine ∧ ∃ m', m' < m ∧ W (i + 1) m' (ys ++ [y]) (upd H6 D (.lst (zs ++ [y])))
    else ∃ m', m' < m ∧ W (i + 1) m' ys H5) := by
 refine ⟨fun i m ys H => m + i = n ∧ Same H1 H ∧ H D = some (.lst ys) ∧ ys.length = i ∧ ∀ (j : Nat) y, ys[j]? = some y → R j y H, ⟨n, rfl, Same.new (Same.refl _) hD, zab, rfl, fun j y e => by simp at e⟩, ?_⟩
 rintro i m ys H2 ⟨hm, S2, hd, hl, hR⟩
 by_cases hi : i < n
 ·refine .inr ⟨hgo i H2 hi S2, fun x H3 hy => step i H2 x H3 ys _ hi S2 hd hy fun y H6 S6 r6 => ?_⟩
  refine ⟨ys, S6 _ _ hd, zcc (by omega), m - 1, by omega, by omega, fun b o e => ?_, zab, by rw [List.length_append, hl]; rfl, fun j z e => ?_⟩
  ·rw [zai (zag e hD)]
   exact S6 b o (S2 b o e)
  ·have sd : zcD D H6 (upd H6 D (.lst (ys ++ [y]))) := fun b o nb e => by rw [zai nb]; exact e
   by_cases hj : j < ys.length
   ·rw [List.getElem?_append_left hj] at e
    exact mono j z _ _ (mono j z _ _ (hR j z e) S6.sameD S6.tupK) sd (TupK.lst (TupK.refl _) (S6 _ _ hd))
   ·rw [List.getElem?_append_right (by omega)] at e
    have hj0 : j - ys.length = 0 := by
     have : j - ys.length < [y].length := (List.getElem?_eq_some_iff.mp e).1
     simp at this
     omega
    rw [hj0] at e
    have ez : y = z := by simpa using e
    subst ez
    have ej : j = i := by omega
    subst ej
    exact mono _ _ _ _ r6 sd (TupK.lst (TupK.refl _) (S6 _ _ hd))
 ·have e : i = n := by omega
  subst e
  exact .inl ⟨hstop H2 S2, fin ys H2 S2 hd hl hR⟩
variable {K : PySem.W.Frag} {tl : TE} {ta : TA} {H : Hp}
theorem zla (h : tl σ H fun v H1 => ∃ a, v = .ref a ∧ (∃ xs, SqL K H1 a xs) ∧ ∀ D, H1 D = none →
   ∃ W : Nat → Nat → List V → Hp → Prop, (∃ m, W 0 m [] (upd H1 D (.lst []))) ∧ ∀ i m ys H2, W i m ys H2 →
    ((Itl K a).stop i H2 ∧ Q (.ref D) H2) ∨ ((Itl K a).go i H2 ∧ ∀ x H3, (Itl K a).yld i H2 x H3 → g x (zbu k caps σ) H3 fun σ4 H4 => ts σ4 H4 fun b H5 =>
     if b = true then te σ4 H5 fun y H6 => ∃ zs, H6 D = some (.lst zs) ∧ zs.length < sizeLine ∧ ∃ m', m' < m ∧ W (i + 1) m' (ys ++ [y]) (upd H6 D (.lst (zs ++ [y])))
     else ∃ m', m' < m ∧ W (i + 1) m' ys H5)) : zfy k caps (zlM K tl) g ts te σ H Q := h
theorem zbf {QD : Addr → Hp → Prop} {a : Addr} {xs : List V} (hq : SqL K H1 a xs) (hz : xs.length ≤ 1000000) (q : ∀ D, H1 D = none → ∃ R : Nat → V → Hp → Prop, (∀ i y H H', R i y H → zcD D H H' → TupK H H' → R i y H') ∧
   (∀ (i : Nat) (x : V) (H2 : Hp) (ys : List V) (C : V → Hp → Prop), xs[i]? = some x → Same H1 H2 → H2 D = some (.lst ys) → (∀ y H6, Same H2 H6 → R i y H6 → C y H6) → g x (zbu k caps σ) H2 fun σ4 H4 => te σ4 H4 C) ∧
   ∀ (ys : List V) (H' : Hp), Same H1 H' → H' D = some (.lst ys) → ys.length = xs.length → (∀ (j : Nat) y, ys[j]? = some y → R j y H') → QD D H') :
  ∀ D, H1 D = none →
   ∃ W : Nat → Nat → List V → Hp → Prop, (∃ m, W 0 m [] (upd H1 D (.lst []))) ∧ ∀ i m ys H2, W i m ys H2 →
    ((Itl K a).stop i H2 ∧ QD D H2) ∨ ((Itl K a).go i H2 ∧ ∀ x H3, (Itl K a).yld i H2 x H3 → g x (zbu k caps σ) H3 fun σ4 H4 => tYes σ4 H4 fun b H5 =>
     if b = true then te σ4 H5 fun y H6 => ∃ zs, H6 D = some (.lst zs) ∧ zs.length < sizeLine ∧ ∃ m', m' < m ∧ W (i + 1) m' (ys ++ [y]) (upd H6 D (.lst (zs ++ [y])))
     else ∃ m', m' < m ∧ W (i + 1) m' ys H5) := by
 intro D hD
 obtain ⟨R, hm, hs, hf⟩ := q D hD
 refine zeS (n := xs.length) R hm hz hD (fun i H2 hi S2 => ⟨xs, xs[i], S2.seq hq, by simp [hi]⟩) (fun H2 S2 => ⟨xs, S2.seq hq, Nat.le_refl _⟩) (fun i H2 x H3 ys C hi S2 hd hy hC => ?_) hf
 obtain ⟨e3, hy⟩ := hy
 subst e3
 exact hs i x H3 ys C (hy xs (S2.seq hq)) S2 hd hC
theorem zk7 (h : ta σ H fun vs H1 => ∃ l1 l2 xs ys, vs = [.ref l1, .ref l2] ∧ SqL K H1 l1 xs ∧ SqL K H1 l2 ys ∧ ∀ D, H1 D = none →
   ∃ W : Nat → Nat → List V → Hp → Prop, (∃ m, W 0 m [] (upd H1 D (.lst []))) ∧ ∀ i m ys H2, W i m ys H2 →
    ((Itz K l1 l2).stop i H2 ∧ Q (.ref D) H2) ∨ ((Itz K l1 l2).go i H2 ∧ ∀ x H3, (Itz K l1 l2).yld i H2 x H3 → g x (zbu k caps σ) H3 fun σ4 H4 => ts σ4 H4 fun b H5 =>
     if b = true then te σ4 H5 fun y H6 => ∃ zs, H6 D = some (.lst zs) ∧ zs.length < sizeLine ∧ ∃ m', m' < m ∧ W (i + 1) m' (ys ++ [y]) (upd H6 D (.lst (zs ++ [y])))
     else ∃ m', m' < m ∧ W (i + 1) m' ys H5)) : zfy k caps (iZip K ta) g ts te σ H Q := h
theorem zhX {QD : Addr → Hp → Prop} {l1 l2 : Addr} {xs ys : List V} (hq1 : SqL K H1 l1 xs) (hq2 : SqL K H1 l2 ys) (hz : xs.length ≤ 1000000) (hl : ys.length = xs.length) (q : ∀ D, H1 D = none → ∃ R : Nat → V → Hp → Prop, (∀ i y H H', R i y H → zcD D H H' → TupK H H' → R i y H') ∧
   (∀ (i : Nat) (x y : V) (p : Addr) (H2 : Hp) (zs : List V) (C : V → Hp → Prop), xs[i]? = some x → ys[i]? = some y → Same H1 H2 → H2 D = some (.lst zs) → H2 p = none → (∀ y H6, Same H2 H6 → R i y H6 → C y H6) → g (.ref p) (zbu k caps σ) (upd H2 p (.tup [x, y])) fun σ4 H4 => te σ4 H4 C) ∧
   ∀ (zs : List V) (H' : Hp), Same H1 H' → H' D = some (.lst zs) → zs.length = xs.length → (∀ (j : Nat) y, zs[j]? = some y → R j y H') → QD D H') :
  ∃ m1 m2 xs ys, [V.ref l1, V.ref l2] = [.ref m1, .ref m2] ∧ SqL K H1 m1 xs ∧ SqL K H1 m2 ys ∧ ∀ D, H1 D = none →
   ∃ W : Nat → Nat → List V → Hp → Prop, (∃ m, W 0 m [] (upd H1 D (.lst []))) ∧ ∀ i m ys H2, W i m ys H2 →
    ((Itz K m1 m2).stop i H2 ∧ QD D H2) ∨ ((Itz K m1 m2).go i H2 ∧ ∀ x H3, (Itz K m1 m2).yld i H2 x H3 → g x (zbu k caps σ) H3 fun σ4 H4 => tYes σ4 H4 fun b H5 =>
     if b = true then te σ4 H5 fun y H6 => ∃ zs, H6 D = some (.lst zs) ∧ zs.length < sizeLine ∧ ∃ m', m' < m ∧ W (i + 1) m' (ys ++ [y]) (upd H6 D (.lst (zs ++ [y])))
     else ∃ m', m' < m ∧ W (i + 1) m' ys H5) := by
 refine ⟨l1, l2, xs, ys, rfl, hq1, hq2, fun D hD => ?_⟩
 obtain ⟨R, hm, hs, hf⟩ := q D hD
 refine zeS (n := xs.length) R hm hz hD (fun i H2 hi S2 => ⟨xs, ys, xs[i], ys[i]'(by omega), S2.seq hq1, S2.seq hq2, by simp [hi], by simp [show i < ys.length by omega]⟩) (fun H2 S2 => ⟨xs, ys, S2.seq hq1, S2.seq hq2, .inl (by simp)⟩) (fun i H2 x H3 zs C hi S2 hd hy hC => ?_) hf
 obtain ⟨p, x', y', e1, hp, e3, h1, h2⟩ := hy
 subst e1 e3
 exact hs i x' y' p H2 zs C (h1 xs (S2.seq hq1)) (h2 ys (S2.seq hq2)) S2 hd hp hC
theorem zk9 (h : ta σ H fun vs H1 => ∃ j : Int, vs = [.int j] ∧ -(2 ^ 62) ≤ j ∧ j < 2 ^ 62 ∧ ∀ D, H1 D = none →
   ∃ W : Nat → Nat → List V → Hp → Prop, (∃ m, W 0 m [] (upd H1 D (.lst []))) ∧ ∀ i m ys H2, W i m ys H2 →
    ((Itr 0 j.toNat).stop i H2 ∧ Q (.ref D) H2) ∨ ((Itr 0 j.toNat).go i H2 ∧ ∀ x H3, (Itr 0 j.toNat).yld i H2 x H3 → g x (zbu k caps σ) H3 fun σ4 H4 => ts σ4 H4 fun b H5 =>
     if b = true then te σ4 H5 fun y H6 => ∃ zs, H6 D = some (.lst zs) ∧ zs.length < sizeLine ∧ ∃ m', m' < m ∧ W (i + 1) m' (ys ++ [y]) (upd H6 D (.lst (zs ++ [y])))
     else ∃ m', m' < m ∧ W (i + 1) m' ys H5)) : zfy k caps (znY ta) g ts te σ H Q := h
theorem zfq {QD : Addr → Hp → Prop} {n : Nat} (hz : n ≤ 1000000) (q : ∀ D, H1 D = none → ∃ R : Nat → V → Hp → Prop, (∀ i y H H', R i y H → zcD D H H' → TupK H H' → R i y H') ∧
   (∀ (i : Nat) (H2 : Hp) (zs : List V) (C : V → Hp → Prop), i < n → Same H1 H2 → H2 D = some (.lst zs) → (∀ y H6, Same H2 H6 → R i y H6 → C y H6) → g (.int i) (zbu k caps σ) H2 fun σ4 H4 => te σ4 H4 C) ∧
   ∀ (zs : List V) (H' : Hp), Same H1 H' → H' D = some (.lst zs) → zs.length = n → (∀ (j : Nat) y, zs[j]? = some y → R j y H') → QD D H') :
  ∃ j : Int, [V.int (n : Int)] = [.int j] ∧ -(2 ^ 62) ≤ j ∧ j < 2 ^ 62 ∧ ∀ D, H1 D = none →
   ∃ W : Nat → Nat → List V → Hp → Prop, (∃ m, W 0 m [] (upd H1 D (.lst []))) ∧ ∀ i m ys H2, W i m ys H2 →
    ((Itr 0 j.toNat).stop i H2 ∧ QD D H2) ∨ ((Itr 0 j.toNat).go i H2 ∧ ∀ x H3, (Itr 0 j.toNat).yld i H2 x H3 → g x (zbu k caps σ) H3 fun σ4 H4 => tYes σ4 H4 fun b H5 =>
     if b = true then te σ4 H5 fun y H6 => ∃ zs, H6 D = some (.lst zs) ∧ zs.length < sizeLine ∧ ∃ m', m' < m ∧ W (i + 1) m' (ys ++ [y]) (upd H6 D (.lst (zs ++ [y])))
     else ∃ m', m' < m ∧ W (i + 1) m' ys H5) := by
 refine ⟨n, rfl, by omega, by omega, fun D hD => ?_⟩
 obtain ⟨R, hm, hs, hf⟩ := q D hD
 refine zeS (n := n) R hm hz hD (fun i H2 hi S2 => by rw [Int.toNat_natCast]; exact hi) (fun H2 S2 => by rw [Int.toNat_natCast]; exact Nat.le_refl _) (fun i H2 x H3 zs C hi S2 hd hy hC => ?_) hf
 obtain ⟨e3, hx⟩ := hy
 subst e3 hx
 rw [Int.zero_add]
 exact hs i H3 zs C hi S2 hd hC
end
section
variable {K : PySem.W.Frag} {tb : TS} {D : Ends} {σ : St} {H : Hp} {ta : TA} {g : TG} {u : TGs} {Q : St → Hp → Prop} {v : V} {r : List V}
theorem zmY {n : Nat} {a : Addr} {xs : List V} (h : SqT K H a xs) (hl : xs.length = n) (q : u xs σ H Q) : gTup K n u (.ref a) σ H Q := ⟨a, xs, rfl, h, hl, q⟩
theorem zk1 (h : g v σ H fun σ' H' => u r σ' H' Q) : zpD g u (v :: r) σ H Q := ⟨v, r, rfl, h⟩
theorem zmZ (h : Q σ H) : gNil [] σ H Q := ⟨rfl, h⟩
end
end L2
set_option Elab.async false
set_option linter.all false
set_option maxRecDepth 100000
set_option maxHeartbeats 4000000
namespace L2
open PySem PySem.Spec PyProof.Rows
section
variable {X : Cx} {K : PySem.W.Frag} {σ : St} {H H1 : Hp} {Q : VK} {te : TE} {tl th : TO} {r : V → Option Int → Option Int → Hp → VK → Prop} {QO : Option Int → Hp → Prop}
theorem zkY (h : te σ H fun x H1 => tl σ H1 fun l H2 => th σ H2 fun u H3 => r x l u H3 Q) : tSl r te tl th σ H Q := h
theorem zjs (h : QO none H) : ziQ σ H QO := h
theorem zmP (h : te σ H fun x H1 => ∃ i, x = .int i ∧ QO (some i) H1) : zoo te σ H QO := h
theorem zoS {i : Int} {P : Int → Prop} (h : P i) : ∃ j, V.int i = .int j ∧ P j := ⟨i, rfl, h⟩
theorem zjr {a : Addr} {xs : List V} {lo hi : Option Int} (h : SqL K H a xs) (q : ∀ p, H p = none → Q (.ref p) (upd H p (.lst (cutV xs lo hi)))) : rSlL K (.ref a) lo hi H Q := ⟨a, xs, rfl, h, q⟩
theorem cut1 (x : V) (xs : List V) : cutV (x :: xs) (some 1) none = xs := by
 have e : HT.sIx (x :: xs).length 0 (some 1) = 1 := by
  rw [List.length_cons]
  exact (HT.sIx_nat (xs.length + 1) 0 1).trans (by omega)
 unfold cutV
 rw [e, HT.sIx_none]
 simp
theorem zjq {a : Addr} {x : V} {xs : List V} (h : SqT K H a (x :: xs)) (q : ∀ p, H p = none → Q (.ref p) (upd H p (.tup xs))) : rSlT K (.ref a) (some 1) none H Q := by
 refine ⟨a, x :: xs, rfl, h, fun z => ?_, fun p hp => by rw [cut1]; exact q p hp⟩
 have e : HT.sIx (x :: xs).length 0 (some 1) = 1 := by
  rw [List.length_cons]
  exact (HT.sIx_nat (xs.length + 1) 0 1).trans (by omega)
 rw [e] at z
 exact absurd z.1 (by decide)
def zms (K : PySem.W.Frag) : List V → Hp → VK → Prop := fun xs H Q => ∃ p ys, xs = [.ref p] ∧ ((SqL K H p ys ∧ ∀ l, H l = none → Q (.ref l) (upd H l (.tup ys))) ∨ (SqT K H p ys ∧ Q (.ref p) H))
theorem ziu : zci X (.type "tuple") (zms X.K) := zfY
theorem zoV {l b : Addr} {xs zs : List V} (h : H l = some (.lst xs)) (h' : H b = some (.lst zs)) (z : xs.length + zs.length ≤ sizeLine) (q : ∀ p, H p = none → Q (.ref p) (upd H p (.lst (xs ++ zs)))) : rCat (.ref l) (.ref b) H Q :=
 ⟨l, b, xs, zs, rfl, rfl, h, h', z, q⟩
theorem zgh {l : Addr} {xs : List V} {i : Int} {y : V} (h : H l = some (.lst xs)) (h0 : 0 ≤ i) (h1 : i ≤ xs.length) (z : xs.length < sizeLine) (q : Q .non (upd H l (.lst (xs.take i.toNat ++ y :: xs.drop i.toNat)))) : zjz (.ref l) [.int i, y] H Q :=
 ⟨l, xs, i, y, rfl, rfl, h, h0, h1, z, q⟩
end
section
variable {k : Nat} {caps : List Nat} {g : TG} {te : TE} {σ : St} {Q : VK} {H1 H : Hp} {K : PySem.W.Frag} {tl : TE} {ts : TT}
end
section
variable {g : TG} {tb : TS} {D : Ends} {σ : St} {H : Hp}
theorem zd5 {n : Nat} (hn : n ≤ 1000000) (Pv : Nat → St → Hp → Prop) (h0 : Pv 0 σ H)
  (hs : ∀ i σ H, i < n → Pv i σ H → g (.int i) σ H fun σ2 H2 => tb { D with nx := Pv (i + 1), ct := Pv (i + 1), bk := D.nx } σ2 H2) (hd : ∀ σ H, Pv n σ H → D.nx σ H) :
  ∃ j : Int, [V.int (n : Int)] = [.int j] ∧ -(2 ^ 62) ≤ j ∧ j < 2 ^ 62 ∧ ∃ W : Nat → Nat → St → Hp → Prop, (∃ m, W 0 m σ H) ∧ ∀ k m σ H, W k m σ H →
   ((Itr 0 j.toNat).stop k H ∧ D.nx σ H) ∨ ((Itr 0 j.toNat).go k H ∧ ∃ N : St → Hp → Prop, (∀ σ' H', N σ' H' → ∃ m', m' < m ∧ W (k + 1) m' σ' H') ∧ ∀ x H', (Itr 0 j.toNat).yld k H x H' → g x σ H' fun σ2 H2 => tb { D with nx := N, ct := N, bk := D.nx } σ2 H2) := by
 refine ⟨n, rfl, by omega, by omega, ?_⟩
 rw [Int.toNat_natCast]
 exact zgB Pv h0 (fun i σ H hi p => by rw [Int.zero_add]; exact hs i σ H hi p) hd
theorem zlS {lo hi : Int} {n : Nat} (hb : -1000000 ≤ lo ∧ lo ≤ 1000000) (hn : n ≤ 1000000) (he : hi = lo + n) (Pv : Nat → St → Hp → Prop) (h0 : Pv 0 σ H)
  (hs : ∀ i σ H, i < n → Pv i σ H → g (.int (lo + i)) σ H fun σ2 H2 => tb { D with nx := Pv (i + 1), ct := Pv (i + 1), bk := D.nx } σ2 H2) (hd : ∀ σ H, Pv n σ H → D.nx σ H) :
  ∃ i j : Int, [V.int lo, V.int hi] = [.int i, .int j] ∧ (-(2 ^ 62) ≤ i ∧ i < 2 ^ 62 ∧ -(2 ^ 62) ≤ j ∧ j < 2 ^ 62) ∧ ∃ W : Nat → Nat → St → Hp → Prop, (∃ m, W 0 m σ H) ∧ ∀ k m σ H, W k m σ H →
   ((Itr i (j - i).toNat).stop k H ∧ D.nx σ H) ∨ ((Itr i (j - i).toNat).go k H ∧ ∃ N : St → Hp → Prop, (∀ σ' H', N σ' H' → ∃ m', m' < m ∧ W (k + 1) m' σ' H') ∧ ∀ x H', (Itr i (j - i).toNat).yld k H x H' → g x σ H' fun σ2 H2 => tb { D with nx := N, ct := N, bk := D.nx } σ2 H2) := by
 refine ⟨lo, hi, rfl, by omega, ?_⟩
 have e : (hi - lo).toNat = n := by omega
 rw [e]
 exact zgB Pv h0 hs hd
end
theorem zhW (ns : List Int) (lo hi : Option Int) : ∃ ms : List Int, cutV (ns.map V.int) lo hi = ms.map V.int ∧ ms.length ≤ ns.length := by
 unfold cutV
 rw [List.length_map]
 refine ⟨(ns.drop (HT.sIx ns.length 0 lo)).take (HT.sIx ns.length ns.length hi - HT.sIx ns.length 0 lo), ?_, ?_⟩
 ·rw [List.map_take, List.map_drop]
 ·rw [List.length_take, List.length_drop]
  omega
section
variable {X : Cx} {tg l a b o e : Expr} {es : List Expr} {tl to : TE} {ta t : TA} {p pos apos cpos : Pos}
theorem zaK (K : PySem.W.Frag) (h : X.K = K := by rfl) : IxR X (rIxL K) := h ▸ znT
theorem zaz (K : PySem.W.Frag) (h : X.K = K := by rfl) : IxR X (rIxT K) := h ▸ zpy
theorem zdF (K : PySem.W.Frag) (h : X.K = K := by rfl) : OpR X (compareOp .In) (rIn K false) := h ▸ zjR
theorem zdj (K : PySem.W.Frag) (h : X.K = K := by rfl) : OpR X (compareOp .NotIn) (rIn K true) := h ▸ zgl
theorem zfK (K : PySem.W.Frag) (hu : X.A.units < cLine) (h : X.K = K := by rfl) : OpR X (compareOp .NotEq) (zjx K) := h ▸ zpd hu
theorem znv (K : PySem.W.Frag) (hu : X.A.units < cLine) (h : X.K = K := by rfl) : OpR X (compareOp .Eq) (zjA K) := h ▸ zpf hu
theorem zax (K : PySem.W.Frag) (h : X.K = K := by rfl) : zci X (.builtin "len") (rLen K) := h ▸ zkC
theorem zaR (K : PySem.W.Frag) (h : X.K = K := by rfl) : zci X (.builtin "isinstance") (znd K) := h ▸ zkE
theorem zhi (K : PySem.W.Frag) (h : X.K = K := by rfl) : zci X (.builtin "isinstance") (zjy K) := h ▸ ziv
theorem zcW (K : PySem.W.Frag) (h : X.K = K := by rfl) : zci X (.type "list") (zfF K) := h ▸ zhf
theorem zky (K : PySem.W.Frag) (h : X.K = K := by rfl) : zci X (.type "tuple") (zms K) := h ▸ ziu
theorem zfC (K : PySem.W.Frag) (h : X.K = K := by rfl) : SlR X (rSlL K) := h ▸ zmK
theorem zjf (K : PySem.W.Frag) (h : X.K = K := by rfl) : SlR X (rSlT K) := h ▸ zoA
theorem zaD (K : PySem.W.Frag) (hl : PE X l tl) (h : X.K = K := by rfl) : PI X tg l (zlM K tl) := h ▸ znm hl
theorem znl (K : PySem.W.Frag) (hl : PE X l tl) (h : X.K = K := by rfl) : PI X tg l (iTup K tl) := h ▸ zo4 hl
theorem zg0 {elts : List Expr} {kk : Nat} {tpos : Pos} (K : PySem.W.Frag) (hg : Gl X "zip") (hm : X.mg "zip" = none) (ha : PA X [a, b] ta) (h : X.K = K := by rfl) (hs : starEach [a, b] X.env = [(false, eval a X.env), (false, eval b X.env)] := by rfl) (hs2 : starEach [b] X.env = [(false, eval b X.env)] := by rfl) :
  PI X (.Tuple elts kk tpos) (.Call (.Name "zip" p) [a, b] [] pos) (iZip K ta) := h ▸ zo3 hg hm ha hs hs2
theorem zcx {k : Nat} {u : TGs} {n : Nat} (K : PySem.W.Frag) (hc : X.calm = true) (hp : PGs X es u) (h : X.K = K := by rfl)
  (hn : (assignEach es X.env).length = n := by rfl) (hst : (assignEach es X.env).findIdx? (·.1) = none := by rfl) : PG X (.Tuple es k pos) (gTup K n u) := h ▸ zo5 hc hp hn hst
theorem zcP {name : Str} {T id : String} {r : V → List V → Hp → VK → Prop} (K : PySem.W.Frag) (pa : PlainAttrs T) (slot : Slot T name id) (hty : typeOf (.builtin id) = pure (.type "method_descriptor")) (hm : MtR X id r) (ho : PE X o to) (h : X.K = K := by rfl)
  (hbase : attributeBase o name X.env (eval o X.env) = eval o X.env := by rfl) (hline : (apos.endLine == cpos.line) = true := by rfl) : PE X (.Call (.Attribute o name apos) [] [] cpos) (tBM0 K T r to) := h ▸ zo9 pa slot hty hm ho hbase hline
theorem zcb {name : Str} {T id : String} {r : V → List V → Hp → VK → Prop} (K : PySem.W.Frag) (pa : PlainAttrs T) (slot : Slot T name id) (hty : typeOf (.builtin id) = pure (.type "method_descriptor")) (hm : MtR X id r) (ho : PE X o to) (ha : PA X (e :: es) t) (h : X.K = K := by rfl)
  (hbase : attributeBase o name X.env (eval o X.env) = eval o X.env := by rfl)
  (hfew : ((backTo cpos (starEach (e :: es) X.env)).all (fun x => !x.1) && (backToKw cpos (keywordEach [] X.env)).all (fun x => x.1.isSome)
   && decide ((e :: es).length + ([] : List Keyword).length + (if ([] : List Keyword).isEmpty then 0 else 1) < 30)) = true := by rfl)
  (hline : (apos.endLine == cpos.line) = true := by rfl) (hs : starEach (e :: es) X.env = (false, eval e X.env) :: starEach es X.env := by rfl) (hplain : (backTo cpos (starEach es X.env)).any (·.1) = false := by rfl) :
  PE X (.Call (.Attribute o name apos) (e :: es) [] cpos) (tBM K T r to t) := h ▸ zp2 pa slot hty hm ho ha hbase hfew hline hs hplain
end
structure Rm where
 lit : List Int
 doors : List Nat
abbrev bls (bs : List Bool) : List V := bs.map V.bl
abbrev nts (ds : List Nat) : List V := ds.map fun (d : Nat) => V.int (d : Int)
def RmAt (H : Hp) (v : V) (r : Rm) : Prop := ∃ a l d, v = .ref a ∧ H a = some (.tup [.ref l, .ref d]) ∧ H l = some (.lst (r.lit.map V.int)) ∧ H d = some (.lst (nts r.doors))
def za5 (H : Hp) (a : Addr) (W : List Rm) : Prop := ∃ rs, H a = some (.lst rs) ∧ Paired (RmAt H) rs W
def ze4 (W : List Rm) : Prop := ∀ r ∈ W, ∀ d ∈ r.doors, d < W.length
theorem RmAt.mono {H H' : Hp} {v : V} {r : Rm} (h : RmAt H v r) (S : Same H H') : RmAt H' v r := by
 obtain ⟨a, l, d, e, h1, h2, h3⟩ := h
 exact ⟨a, l, d, e, S _ _ h1, S _ _ h2, S _ _ h3⟩
theorem za5.mono {H H' : Hp} {a : Addr} {W : List Rm} (h : za5 H a W) (S : Same H H') : za5 H' a W := by
 obtain ⟨rs, e, p⟩ := h
 exact ⟨rs, S _ _ e, Paired.mapP p fun _ _ q => q.mono S⟩
theorem Paired.get2 {α β : Type} {F : α → β → Prop} {xs : List α} {ys : List β} (h : Paired F xs ys) {i : Nat} {y : β} (e : ys[i]? = some y) : ∃ x, xs[i]? = some x ∧ F x y := by
 induction h generalizing i with
 | nil => simp at e
 | cons a t ih =>
  cases i with
  | zero => simp at e; subst e; exact ⟨_, rfl, a⟩
  | succ i => obtain ⟨x, h1, h2⟩ := ih (i := i) (by simpa using e); exact ⟨x, by simpa using h1, h2⟩
theorem Paired.of_get {α β : Type} {F : α → β → Prop} : ∀ {xs : List α} {ys : List β}, xs.length = ys.length → (∀ (i : Nat) x y, xs[i]? = some x → ys[i]? = some y → F x y) → Paired F xs ys
 | [], [], _, _ => .nil
 | [], _ :: _, h, _ => by simp at h
 | _ :: _, [], h, _ => by simp at h
 | x :: xs, y :: ys, h, f => .cons (f 0 x y rfl rfl) (Paired.of_get (by simpa using h) fun i a b e1 e2 => f (i + 1) a b (by simpa using e1) (by simpa using e2))
theorem zb8 {ys : List V} {bs : List Bool} (hl : ys.length = bs.length) (h : ∀ (j : Nat) y, ys[j]? = some y → ∃ b, bs[j]? = some b ∧ y = .bl b) : ys = bls bs := by
 apply List.ext_getElem?
 intro j
 rw [List.getElem?_map]
 cases e : ys[j]? with
 | none =>
  have : bs[j]? = none := List.getElem?_eq_none_iff.mpr (by have := List.getElem?_eq_none_iff.mp e; omega)
  rw [this]
  rfl
 | some y =>
  obtain ⟨b, hb, rfl⟩ := h j y e
  rw [hb]
  rfl
theorem zes (bs : List Bool) : (bls bs).all zd6 = true := by
 rw [List.all_eq_true]
 intro x m
 obtain ⟨d, _, rfl⟩ := List.mem_map.mp m
 rfl
theorem zfV (x : Bool) (bs : List Bool) : inV (.bl x) (bls bs) = bs.contains x := by
 rw [Bool.eq_iff_iff]
 simp only [inV, List.any_map, List.any_eq_true, List.contains_iff_mem, Function.comp_apply]
 constructor
 ·rintro ⟨d, m, e⟩
  have e' : d = x := by simpa [eqV] using e
  exact e' ▸ m
 ·intro m
  exact ⟨x, m, by simp [eqV]⟩
theorem zeO (ds : List Int) : (ds.map V.int).all zd6 = true := by
 rw [List.all_eq_true]
 intro x m
 obtain ⟨d, _, rfl⟩ := List.mem_map.mp m
 rfl
theorem zfU (x : Int) (ds : List Int) : inV (.int x) (ds.map V.int) = ds.contains x := by
 rw [Bool.eq_iff_iff]
 simp only [inV, List.any_map, List.any_eq_true, List.contains_iff_mem, Function.comp_apply]
 constructor
 ·rintro ⟨d, m, e⟩
  have e' : d = x := by simpa [eqV] using e
  exact e' ▸ m
 ·intro m
  exact ⟨x, m, by simp [eqV]⟩
def led (bs : List Bool) (ds : List Nat) : List Bool := ds.map fun d => bs.getD d false
def tru (W : List Rm) : Say → List Bool
 | .lamp k => W.map fun r => r.lit.contains k
 | .dark k => W.map fun r => !r.lit.contains k
 | .neg s => (tru W s).map fun b => !b
 | .conj s t => List.zipWith (fun a b => a && b) (tru W s) (tru W t)
 | .disj s t => List.zipWith (fun a b => a || b) (tru W s) (tru W t)
 | .ev s => W.map fun r => !(led (tru W s) r.doors).contains false
 | .so s => W.map fun r => (led (tru W s) r.doors).contains true
theorem zaO (W : List Rm) : ∀ s : Say, (tru W s).length = W.length
 | .lamp k => by simp [tru]
 | .dark k => by simp [tru]
 | .neg s => by simp [tru, zaO W s]
 | .conj s t => by simp [tru, zaO W s, zaO W t]
 | .disj s t => by simp [tru, zaO W s, zaO W t]
 | .ev s => by simp [tru]
 | .so s => by simp [tru]
def Say.kids : Say → List Say
 | .lamp _ => []
 | .dark _ => []
 | .neg s => [s]
 | .conj s t => [s, t]
 | .disj s t => [s, t]
 | .ev s => [s]
 | .so s => [s]
def Say.po : Say → List Say
 | .lamp k => [.lamp k]
 | .dark k => [.dark k]
 | .neg s => .neg s :: s.po
 | .conj s t => .conj s t :: (t.po ++ s.po)
 | .disj s t => .disj s t :: (t.po ++ s.po)
 | .ev s => .ev s :: s.po
 | .so s => .so s :: s.po
theorem Say.po_len : ∀ s : Say, s.po.length ≤ s.sz ∧ 0 < s.po.length
 | .lamp _ => by simp [Say.po, Say.sz]
 | .dark _ => by simp [Say.po, Say.sz]
 | .neg s => by have := Say.po_len s; simp only [Say.po, Say.sz, List.length_cons]; omega
 | .conj s t => by have := Say.po_len s; have := Say.po_len t; simp only [Say.po, Say.sz, List.length_cons, List.length_append]; omega
 | .disj s t => by have := Say.po_len s; have := Say.po_len t; simp only [Say.po, Say.sz, List.length_cons, List.length_append]; omega
 | .ev s => by have := Say.po_len s; simp only [Say.po, Say.sz, List.length_cons]; omega
 | .so s => by have := Say.po_len s; simp only [Say.po, Say.sz, List.length_cons]; omega
theorem Say.po_eq (s : Say) : s.po = s :: (s.kids.reverse.flatMap Say.po) := by
 cases s <;> simp [Say.po, Say.kids]
def Say.post (s : Say) : List Say := s.po.reverse
theorem zjF (k : Int) : (Say.lamp k).post = [.lamp k] := rfl
theorem zjH (k : Int) : (Say.dark k).post = [.dark k] := rfl
theorem zle (s : Say) : (Say.neg s).post = s.post ++ [.neg s] := by simp [Say.post, Say.po]
theorem zni (s : Say) : (Say.ev s).post = s.post ++ [.ev s] := by simp [Say.post, Say.po]
theorem znh (s : Say) : (Say.so s).post = s.post ++ [.so s] := by simp [Say.post, Say.po]
theorem zjI (s t : Say) : (Say.conj s t).post = s.post ++ (t.post ++ [.conj s t]) := by simp [Say.post, Say.po]
theorem zjG (s t : Say) : (Say.disj s t).post = s.post ++ (t.post ++ [.disj s t]) := by simp [Say.post, Say.po]
def Fit (W : List Rm) (p : List (List Bool)) : Prop := ∀ b ∈ p, b.length = W.length
end L2
set_option Elab.async false
set_option linter.all false
set_option maxRecDepth 100000
set_option maxHeartbeats 4000000
namespace L2
open PySem
def Say.dep : Say → Nat
 | .lamp _ => 0
 | .dark _ => 0
 | .neg s => s.dep + 1
 | .conj s t => max s.dep t.dep + 1
 | .disj s t => max s.dep t.dep + 1
 | .ev s => s.dep + 1
 | .so s => s.dep + 1
def Say.sh (k : Int) : Say → Say
 | .lamp n => .lamp (n + k)
 | .dark n => .dark (n + k)
 | .neg s => .neg (s.sh k)
 | .conj s t => .conj (s.sh k) (t.sh k)
 | .disj s t => .disj (s.sh k) (t.sh k)
 | .ev s => .ev (s.sh k)
 | .so s => .so (s.sh k)
end L2
set_option Elab.async false
set_option linter.all false
set_option maxRecDepth 100000
set_option maxHeartbeats 4000000
namespace L2
open PySem PySem.Spec PyProof.Rows
mutual
inductive zbU (H : Hp) : V → PyData → Prop where
 | bl (b : Bool) : zbU H (.bl b) (.bool b)
 | int (i : Int) : zbU H (.int i) (.int i)
 | str (x : Str) : zbU H (.str x) (.str x)
 | lst {a : Addr} {xs : List V} {ds : List PyData} : H a = some (.lst xs) → zb9 H xs ds → zbU H (.ref a) (.list ds)
 | tup {a : Addr} {xs : List V} {ds : List PyData} : H a = some (.tup xs) → zb9 H xs ds → zbU H (.ref a) (.tuple ds)
inductive zb9 (H : Hp) : List V → List PyData → Prop where
 | nil : zb9 H [] []
 | cons {x : V} {xs : List V} {d : PyData} {ds : List PyData} : zbU H x d → zb9 H xs ds → zb9 H (x :: xs) (d :: ds)
end
section
variable {X : Cx} {pins : List (Addr × Obj)} {σ : St} {H : Hp} {s : Shared}
mutual
theorem zbU.reads (I : Inv X pins σ H s) : ∀ {x : V} {d : PyData} {u : Value}, zbU H x d → RelV x u → ∃ as, Reads s.heap u d as
 | _, _, _, .bl b, r => by cases r; exact ⟨_, .bool b⟩
 | _, _, _, .int i, r => by obtain ⟨t, rfl⟩ := r; exact ⟨_, .int i t⟩
 | _, _, _, .str i, r => by obtain ⟨t, rfl⟩ := r; exact ⟨_, .str i t⟩
 | _, _, _, .lst e h, r => by
  cases r
  obtain ⟨its, rv, ⟨o, n, ho, hc, hd, hs⟩, _⟩ := I.list (SqL.of e)
  obtain ⟨as, rs⟩ := zb9.reads I h rv
  exact ⟨_, .list ho hc hs (by simpa using rs)⟩
 | _, _, _, .tup e h, r => by
  cases r
  obtain ⟨its, rv, ⟨o, ho, hc, n, hd⟩, _⟩ := I.tuple (SqT.of e)
  obtain ⟨as, rs⟩ := zb9.reads I h rv
  exact ⟨_, .tuple ho hc hd (by simpa using rs)⟩
theorem zb9.reads (I : Inv X pins σ H s) : ∀ {xs : List V} {ds : List PyData} {us : List Value}, zb9 H xs ds → Vals xs us → ∃ as, ReadsAll s.heap us ds as
 | _, _, _, .nil, r => by cases r; exact ⟨_, .nil⟩
 | _, _, _, .cons h t, r => by
  cases r with
  | cons a b =>
   obtain ⟨as, r1⟩ := zbU.reads I h a
   obtain ⟨bs, r2⟩ := zb9.reads I t b
   exact ⟨_, .cons r1 r2⟩
end
def rEqD (m : Nat) : R2 := fun x y H Q => ∃ dx dy, zbU H x dx ∧ zbU H y dy ∧ dx.canLay0 = true ∧ dy.canLay0 = true ∧ min dx.depth dy.depth ≤ m ∧ Q (.bl (PyData.eqv dx dy)) H
def rNeD (m : Nat) : R2 := fun x y H Q => ∃ dx dy, zbU H x dx ∧ zbU H y dy ∧ dx.canLay0 = true ∧ dy.canLay0 = true ∧ min dx.depth dy.depth ≤ m ∧ Q (.bl (!PyData.eqv dx dy)) H
theorem zqc {m : Nat} (hu : X.A.units + m < cLine) : OpR X (compareOp .Eq) (rEqD m) := by
 intro pins s σ H x y v u Q I rx ry h
 obtain ⟨dx, dy, hx, hy, cx, cy, hm, q⟩ := h
 obtain ⟨as, r1⟩ := hx.reads I rx
 obtain ⟨bs, r2⟩ := hy.reads I ry
 exact SeqAt.compareEq_reads r1 r2 cx cy (by omega) ⟨.bl _, H, I, rfl, q⟩
theorem zpe {m : Nat} (hu : X.A.units + m < cLine) : OpR X (compareOp .NotEq) (rNeD m) := by
 intro pins s σ H x y v u Q I rx ry h
 obtain ⟨dx, dy, hx, hy, cx, cy, hm, q⟩ := h
 obtain ⟨as, r1⟩ := hx.reads I rx
 obtain ⟨bs, r2⟩ := hy.reads I ry
 exact SeqAt.compareNe_reads r1 r2 cx cy (by omega) ⟨.bl _, H, I, rfl, q⟩
end
theorem zkk {A : Around} {k m : Nat} (hr : Room k A) (h : m ≤ 16 * k + 199) : A.units + m < cLine := by have := hr.un; omega
def Say.data : Say → PyData
 | .lamp k => .tuple [.str "lamp", .int k]
 | .dark k => .tuple [.str "dark", .int k]
 | .neg s => .tuple [.str "not", s.data]
 | .conj s t => .tuple [.str "and", s.data, t.data]
 | .disj s t => .tuple [.str "or", s.data, t.data]
 | .ev s => .tuple [.str "every", s.data]
 | .so s => .tuple [.str "some", s.data]
theorem Stm.data {H : Hp} {v : V} {s : Say} (h : Stm H v s) : zbU H v s.data := by
 induction h with
 | lamp e => exact .tup e (.cons (.str _) (.cons (.int _) .nil))
 | dark e => exact .tup e (.cons (.str _) (.cons (.int _) .nil))
 | neg e _ i => exact .tup e (.cons (.str _) (.cons i .nil))
 | conj e _ _ i j => exact .tup e (.cons (.str _) (.cons i (.cons j .nil)))
 | disj e _ _ i j => exact .tup e (.cons (.str _) (.cons i (.cons j .nil)))
 | ev e _ i => exact .tup e (.cons (.str _) (.cons i .nil))
 | so e _ i => exact .tup e (.cons (.str _) (.cons i .nil))
theorem zoO {m : Nat} {x y : V} {dx dy : PyData} {H : Hp} {Q : VK} (hx : zbU H x dx) (hy : zbU H y dy) (cx : dx.canLay0 = true) (cy : dy.canLay0 = true) (hm : min dx.depth dy.depth ≤ m) (q : Q (.bl (!PyData.eqv dx dy)) H) : rNeD m x y H Q := ⟨dx, dy, hx, hy, cx, cy, hm, q⟩
end L2
set_option Elab.async false
set_option linter.all false
set_option maxRecDepth 100000
set_option maxHeartbeats 4000000
namespace L2
open PySem PySem.Spec PyProof.Rows
theorem zii : typeLookup (.type "list_reverseiterator") "__len__" = pure none := by rw [typeLookup_type, builtinLookup_eq_fast]; kernel_rfl
theorem zlI : typeLookup (.type "list_reverseiterator") "__length_hint__" = pure (some (.builtin "list_reverseiterator.__length_hint__")) := by rw [typeLookup_type, builtinLookup_eq_fast]; kernel_rfl
section
variable {prog : Program} {w : World} {A : Around} {E : Value → Shared → Prop} {s : Shared}
theorem zlO {it l : Addr} {i : Int} {Q : Bool → Shared → Prop} (hit : s.heap.IsRevIter it l i) (h : Q false s) : wpAny (model prog w) A (Builtin.List.listLengthHint (.ref it)) Q E s := by
 unfold Builtin.List.listLengthHint
 refine wpAny_bind (wpAny_specialOf hit.typeIs zii ?_)
 show wpAny _ A (specialOf (Value.ref it) (Str.ofString "__length_hint__") >>= _) _ _ _
 refine wpAny_bind (wpAny_specialOf hit.typeIs zlI ?_)
 generalize hid : ("list_reverseiterator.__length_hint__" : String) = id0
 wp_delta
 rw [show splitId id0 = some ("list_reverseiterator", "__length_hint__") from by subst hid; decide +kernel]
 subst hid
 refine wpAny_bind (wpAny_isInstance (T := "list_reverseiterator") (b := true) hit.typeIs (by rw [isSubtype_type]; kernel_rfl) ?_)
 refine wpAny_ite_split (fun hab => absurd hab (by decide)) (fun _ => ?_)
 refine wpAny_ite_split (fun _ => ?_) (fun hab => absurd (by decide +kernel) hab)
 refine wpAny_ite_split (fun hab => absurd hab (by decide +kernel)) (fun _ => ?_)
 exact wpAny_pure h
theorem zio {R : Result → Shared → Prop} {it l : Addr} {items : Array Value} (hh : A.handled = none) (hne : l ≠ it) (hit : s.heap.IsRevIter it l ((items.size : Int) - 1)) (hl : s.heap.IsList l items) (hn : items.size ≤ sizeLine) (S : Addr) (res : Value) (c₀ : Nat) (hSl : S ≠ l) (hSi : S ≠ it)
  (hS : s.heap.get? S = some { cls := .type "list", data := .seq #[] c₀ })
  (hR : ∀ h' tk acc' c', (∀ b o, b ≠ S → b ≠ it → s.heap.get? b = some o → h'.get? b = some o) → h'.get? S = some { cls := .type "list", dict := none, data := .seq acc' c', slots := #[] } →
   ItemsOf (fun i v => items[items.size - 1 - i]? = some v) acc' items.size → R (.ok (.ret res)) { s with heap := h', toks := tk }) :
  wpAny (model prog w) A.in1 (Builtin.List.listExtendWith (.ref S) (.ref it) res)
   (fun fin s' => match fin with | .done f => R (.ok f) s' | .again c' => c'.quiet = true ∧ codeAny (model prog w) A c' R s') (fun e s' => R (.error e) s') s := by
 have W := (Walks.listRev (prog := prog) (w := w) (A := A.in1) hh it l hne items).toS
 have hSf : S ∉ [it, l] := fun hm => by simp at hm; rcases hm with e | e; exact hSi e; exact hSl e
 unfold Builtin.List.listExtendWith
 refine wpAny_bind (wpAny_typeOf hit.typeIs ?_)
 have h1 : Builtin.List.listSameRef (.ref S) (.ref it) = false := by simp [Builtin.List.listSameRef, hSi]
 have h2 : (Value.type "list_reverseiterator" == Value.type "list") = false := by decide
 have h3 : (Value.type "list_reverseiterator" == Value.type "tuple") = false := by decide
 simp only [h1, h2, h3, Bool.or_false, Bool.false_eq_true, if_false]
 refine wpAny_bind (wpAny_pyIter_revIter hit ?_)
 refine wpAny_bind (wpAny_holding (zlO hit ?_))
 refine wpAny_ite_split (fun hab => absurd hab (by decide +kernel)) (fun _ => ?_)
 refine wpAny_pure ⟨plainId_quiet F.plain_extend_loop _, codeAny_extend_loopS W hn S hSf res items.size 0 _ #[] c₀ rfl (Nat.zero_le _) ⟨Nat.zero_le _, by simpa using hit, hl⟩ hS (ItemsOf.nil _) fun s' acc' c' hm hS' hacc => ?_⟩
 rw [Moved.eq_with hm]
 refine hR s'.heap s'.toks acc' c' (fun b o hb hb2 e => hm.heap b o (fun hmem => ?_) e) hS' hacc
 rcases List.mem_cons.mp hmem with e' | hmem
 ·exact hb e'
 ·exact hb2 (List.mem_singleton.mp hmem)
theorem zfZ {Q : Value → Shared → Prop} {it l : Addr} {items : Array Value} (hh : A.handled = none) (hne : l ≠ it) (hit : s.heap.IsRevIter it l ((items.size : Int) - 1)) (hl : s.heap.IsList l items) (hn : items.size ≤ sizeLine)
  (hQ : ∀ h' tk acc' c', (∀ b o, b ≠ it → s.heap.get? b = some o → h'.get? b = some o) → h'.get? s.heap.objs.size = some { cls := .type "list", dict := none, data := .seq acc' c', slots := #[] } →
   ItemsOf (fun i v => items[items.size - 1 - i]? = some v) acc' items.size → Q (.ref s.heap.objs.size) { s with heap := h', toks := tk }) :
  wpAny (model prog w) A (call (.type "list") [.ref it]) Q E s := by
 have hlt : ∀ {b : Addr} {o : Obj}, s.heap.get? b = some o → b ≠ s.heap.objs.size := fun e => Nat.ne_of_lt (Heap.lt_size e)
 obtain ⟨oi, hoi, _⟩ := id hit
 obtain ⟨ol, hol, _⟩ := id hl
 refine callType_codes (Q₁ := fun obj s₁ => obj = .ref s.heap.objs.size ∧ s₁ = { s with heap := s.heap.push { cls := .type "list", data := .seq #[] } }) F.called_list (F.typeCall_list_1 _) F.entry_list_init
  (code_list_new _ ⟨rfl, rfl⟩) fun obj s₁ h₁ => ?_
 obtain ⟨rfl, rfl⟩ := h₁
 have hS : (s.heap.push { cls := .type "list", data := .seq #[] }).get? s.heap.objs.size = some { cls := .type "list", data := .seq #[] } := Heap.get?_push_size _ rfl
 refine ⟨⟨_, hS, rfl⟩, F.args_list_init_2 _ _, ?_⟩
 show wpAny _ _ (do let old ← Builtin.List.listItems (.ref s.heap.objs.size); Builtin.List.listUpdate (.ref s.heap.objs.size) (fun _ => #[]); letGo old.toList.reverse; Builtin.List.listExtendWith (.ref s.heap.objs.size) (.ref it) .none) _ _ _
 refine wpAny_bind ?_
 unfold Builtin.List.listItems
 refine wpAny_bind (wpAny_seqItems hS rfl (wpAny_pure ?_))
 show wpAny _ _ (updateSeq s.heap.objs.size (fun _ => #[]) >>= fun _ => letGo (#[] : Array Value).toList.reverse >>= fun _ => Builtin.List.listExtendWith (.ref s.heap.objs.size) (.ref it) .none) _ _ _
 refine wpAny_bind (wpAny_updateSeq hS rfl ?_)
 have hS₂ := Heap.get?_update_self (Obj.mapSeq (fun _ => (#[] : Array Value))) hS rfl
 have oth : ∀ b o, b ≠ s.heap.objs.size → s.heap.get? b = some o → ((s.heap.push { cls := .type "list", data := .seq #[] }).update s.heap.objs.size (Obj.mapSeq (fun _ => (#[] : Array Value)))).get? b = some o :=
  fun b o hb e => (Heap.get?_update_other _ _ (Ne.symm hb)).trans (Heap.get?_push_of_some _ e)
 refine wpAny_bind (wpAny_letGo ?_)
 refine zio (A := A.in1) hh hne (hit.at fun o e => oth it o (hlt e) e) (hl.at fun o e => oth l o (hlt e) e) hn _ .none _ (hlt hol).symm (hlt hoi).symm hS₂ fun h' tk acc' c' hk hS' hacc => ?_
 exact ⟨rfl, hQ h' tk acc' c' (fun b o hb e => hk b o (hlt e) hb (oth b o (hlt e) e)) hS' hacc⟩
end
section
variable {X : Cx}
theorem Paired.rev0 {α β : Type} {F : α → β → Prop} {xs : List α} {ys : List β} (h : Paired F xs ys) : Paired F xs.reverse ys.reverse := by
 induction h with
 | nil => exact .nil
 | cons a _ ih => rw [List.reverse_cons, List.reverse_cons]; exact Paired.snoc ih a
def zhn (K : PySem.W.Frag) (ta : TA) : TE := fun σ H Q => ta σ H fun vs H1 => ∃ l xs, vs = [.ref l] ∧ SqL K H1 l xs ∧ ∀ q, H1 q = none → Q (.ref q) (upd H1 q (.lst xs.reverse))
theorem zkP {its : List Value} {xs : List V} (rv : Vals xs its) {acc : Array Value} (h : ItemsOf (fun i v => its.toArray[its.toArray.size - 1 - i]? = some v) acc its.toArray.size) : Vals xs.reverse acc.toList := by
 have e : acc.toList = its.reverse := by
  obtain ⟨hz, hv⟩ := h
  apply List.ext_getElem?
  intro i
  cases hi : acc[i]? with
  | none =>
   have h1 : acc.size ≤ i := Array.getElem?_eq_none_iff.mp hi
   rw [List.getElem?_eq_none (by simpa using h1), List.getElem?_eq_none (by simp at hz ⊢; omega)]
  | some v =>
   have h2 := hv i v hi
   have h3 : i < acc.size := (Array.getElem?_eq_some_iff.mp hi).1
   simp at h2 hz
   rw [Array.getElem?_toList, hi, List.getElem?_reverse (by omega), h2]
 rw [e]
 exact Paired.rev0 rv
theorem zia {a : Expr} {ta : TA} {p p2 pos pos2 : Pos} (K : PySem.W.Frag) (hgL : Gl X "list") (hmL : X.mg "list" = none) (hg : Gl X "reversed") (hm : X.mg "reversed" = none) (ha : PA X [a] ta) (hK : X.K = K := by rfl) (hc : X.calm = true := by rfl)
  (hs : starEach [a] X.env = [(false, eval a X.env)] := by rfl) (hs2 : starEach [.Call (.Name "reversed" p2) [a] [] pos2] X.env = [(false, eval (.Call (.Name "reversed" p2) [a] [] pos2) X.env)] := by rfl) :
  PE X (.Call (.Name "list" p) [.Call (.Name "reversed" p2) [a] [] pos2] [] pos) (zhn K ta) := by
 subst hK
 intro pins s σ H Q I h
 refine wpAny_Call_Name_kw (zdk I hgL hmL PySem.Pv.boot_list ?_ (by decide) (by decide))
 refine PyProof.Rows.callWith_type1 ?_ hs2 rfl
 rw [hs2]
 show wpAny _ _ (spliced ((false, eval (.Call (.Name "reversed" p2) [a] [] pos2) X.env) :: backTo pos [])) _ _ s
 refine Calls.spliced_cons ?_
 refine Call_ (zdk I hg hm boot_reversed (PyProof.Rows.callWith_type1 (thn (ha pos2 pins s σ H _ I h) fun us s1 ⟨vs, H1, I1, r1, q1⟩ => ?_) hs rfl))
 obtain ⟨l, xs, e, hq, q⟩ := q1
 subst e
 cases r1 with
 | cons r rr =>
  cases rr
  cases r
  obtain ⟨its, rv, p', hz⟩ := I1.list hq
  have hl := rv.length
  refine call_reversed_list p'.isList ?_
  refine Calls.spliced_nil ?_
  have hit : (s1.heap.push (revObj l (((its.toArray.size : Nat) : Int) - 1))).IsRevIter s1.heap.objs.size l (((its.toArray.size : Nat) : Int) - 1) := ⟨_, Heap.get?_push_size _ rfl, rfl, rfl⟩
  have hll : l ≠ s1.heap.objs.size := by
   obtain ⟨o, ho, _⟩ := p'.isList
   exact Nat.ne_of_lt (Heap.lt_size ho)
  have I2 : Inv X pins σ H1 { s1 with heap := s1.heap.push (revObj l (((its.toArray.size : Nat) : Int) - 1)) } := I1.kept (t' := s1.toks) fun b o e => Heap.get?_push_of_some _ e
  refine zfZ (I1.ok.hd hc) hll hit (p'.isList.at fun o e => Heap.get?_push_of_some _ e) (by rw [List.size_toArray]; omega) fun h' tk acc c hk hn hacc => ?_
  have hrv := zkP rv hacc
  have hlen := hrv.length
  have hsz : (s1.heap.push (revObj l (((its.toArray.size : Nat) : Int) - 1))).objs.size = s1.heap.objs.size + 1 := Heap.size_push _ _
  refine ⟨.ref (s1.heap.push (revObj l (((its.toArray.size : Nat) : Int) - 1))).objs.size, _, I1.laid (t' := tk) (fun b o e => hk b o (Nat.ne_of_lt (Heap.lt_size e)) (Heap.get?_push_of_some _ e)) (by rw [hsz]; exact Nat.le_succ _) (show zbD X.prog X.w _ h' _ (.lst xs.reverse) from ⟨by rw [List.length_reverse]; exact hz, acc.toList, c, hrv, by simpa using hn⟩), rfl, q _ (I1.hok.fresh (by rw [hsz]; exact Nat.le_succ _))⟩
end
section
variable {X : Cx} {pins : List (Addr × Obj)} {σ : St} {H : Hp} {s : Shared} {a : Addr} {kvs : List (Key × V)}
end
theorem zh6 {K : PySem.W.Frag} {ta : TA} {σ : St} {H : Hp} {Q : VK} (h : ta σ H fun vs H1 => ∃ l xs, vs = [.ref l] ∧ SqL K H1 l xs ∧ ∀ q, H1 q = none → Q (.ref q) (upd H1 q (.lst xs.reverse))) : zhn K ta σ H Q := h
theorem zm6 {td ty : TE} {σ : St} {H : Hp} {Q : VK} (h : td σ H fun x H1 => ty σ H1 fun y H2 => ∃ a v, x = .ref a ∧ DGet H2 a y (some v) ∧ Q v H2) : zou td ty σ H Q := h
end L2
set_option Elab.async false
set_option linter.all false
set_option maxRecDepth 100000
set_option maxHeartbeats 4000000
namespace L2
open PySem
section
variable {ε α : Type} (ar : ε → Nat) (f : ε → List α → α)
def runG : List ε → List α → Option (List α)
 | [], p => some p
 | e :: r, p => if ar e ≤ p.length then runG r (p.take (p.length - ar e) ++ [f e (p.drop (p.length - ar e))]) else none
variable {ar f}
theorem zmN {e : ε} {r : List ε} {p : List α} (h : ar e = 0) : runG ar f (e :: r) p = runG ar f r (p ++ [f e []]) := by
 show (if _ then _ else _) = _
 rw [if_pos (by omega), h, Nat.sub_zero, List.take_length, List.drop_length]
theorem zkW {e : ε} {r : List ε} {p : List α} {a : α} (h : ar e = 1) : runG ar f (e :: r) (p ++ [a]) = runG ar f r (p ++ [f e [a]]) := by
 show (if _ then _ else _) = _
 have hl : (p ++ [a]).length = p.length + 1 := by simp
 rw [if_pos (by omega), h, hl, Nat.add_sub_cancel, List.take_left, List.drop_left]
theorem zmM {e : ε} {r : List ε} {p : List α} {a b : α} (h : ar e = 2) : runG ar f (e :: r) (p ++ [a] ++ [b]) = runG ar f r (p ++ [f e [a, b]]) := by
 show (if _ then _ else _) = _
 have hl : (p ++ [a] ++ [b]).length = p.length + 2 := by simp
 rw [if_pos (by omega), h, hl, Nat.add_sub_cancel, List.append_assoc, List.take_left, List.drop_left]
 rfl
theorem zjn {e : ε} {r : List ε} {p q : List α} (h : runG ar f (e :: r) p = some q) : ar e ≤ p.length := by
 by_cases c : ar e ≤ p.length
 ·exact c
 ·have : runG ar f (e :: r) p = none := if_neg c
  rw [this] at h
  cases h
theorem zcI : ∀ (a b : List ε) (p : List α), runG ar f (a ++ b) p = (runG ar f a p).bind fun q => runG ar f b q
 | [], b, p => rfl
 | e :: r, b, p => by
  show (if _ then runG ar f (r ++ b) _ else none) = ((if _ then runG ar f r _ else none) : Option _).bind _
  split
  ·exact zcI r b _
  ·rfl
end
def truF (W : List Rm) (t : Say) (as : List (List Bool)) : List Bool := match t, as with
 | .lamp k, _ => tru W (.lamp k)
 | .dark k, _ => tru W (.dark k)
 | .neg _, [a] => a.map fun b => !b
 | .conj _ _, [a, b] => List.zipWith (fun a b => a && b) a b
 | .disj _ _, [a, b] => List.zipWith (fun a b => a || b) a b
 | .ev _, [a] => W.map fun r => !(led a r.doors).contains false
 | .so _, [a] => W.map fun r => (led a r.doors).contains true
 | _, _ => []
def Say.arity (s : Say) : Nat := s.kids.length
theorem zcH (W : List Rm) : ∀ (s : Say) (p : List (List Bool)), runG Say.arity (truF W) s.post p = some (p ++ [tru W s])
 | .lamp k, p => by rw [zjF, zmN] <;> rfl
 | .dark k, p => by rw [zjH, zmN] <;> rfl
 | .neg s, p => by rw [zle, zcI, zcH W s p, Option.bind_some, zkW] <;> rfl
 | .ev s, p => by rw [zni, zcI, zcH W s p, Option.bind_some, zkW] <;> rfl
 | .so s, p => by rw [znh, zcI, zcH W s p, Option.bind_some, zkW] <;> rfl
 | .conj s t, p => by rw [zjI, zcI, zcH W s p, Option.bind_some, zcI, zcH W t _, Option.bind_some, zmM] <;> rfl
 | .disj s t, p => by rw [zjG, zcI, zcH W s p, Option.bind_some, zcI, zcH W t _, Option.bind_some, zmM] <;> rfl
def Say.good (nt : Bool) : Say → Prop
 | .lamp k => 1 ≤ k
 | .dark k => 1 ≤ k
 | .neg s => nt = true ∧ Say.good nt s
 | .conj s t => Say.good nt s ∧ Say.good nt t
 | .disj s t => Say.good nt s ∧ Say.good nt t
 | .ev s => Say.good nt s
 | .so s => Say.good nt s
end L2
set_option Elab.async false
set_option linter.all false
set_option maxRecDepth 100000
set_option maxHeartbeats 4000000
namespace L2
open PySem
theorem zpA {x : V} {A B : Prop} (h : A) : if decide (x = x) = true then A else B := by rw [if_pos (decide_eq_true rfl)]; exact h
theorem zp7 {x y : V} {A B : Prop} (n : ¬ x = y) (h : B) : if decide (x = y) = true then A else B := by rw [if_neg (by rw [decide_eq_false n]; exact Bool.false_ne_true)]; exact h
theorem zhP {x y : Str} {A B : Prop} (n : x ≠ y) (h : B) : if decide (V.str x = V.str y) = true then A else B := zp7 (fun e => n (V.str.inj e)) h
theorem zbO {c A B : Prop} {_ : Decidable c} (h1 : c → A) (h2 : ¬ c → B) : if decide c = true then A else B := ite2 (fun z => h1 (of_decide_eq_true z)) fun z => h2 (of_decide_eq_false (Bool.eq_false_iff.mpr z))
theorem zc8 {x : V} {A B : Prop} (h : B) : if (!decide (x = x)) = true then A else B := by rw [decide_eq_true rfl]; exact iteF h
theorem zdq {H : Hp} {p r : Addr} {o : HO} (h : upd H p o r = none) : H r = none ∧ r ≠ p := by
 have n : r ≠ p := fun e => by rw [e, zab] at h; cases h
 rw [zai n] at h
 exact ⟨h, n⟩
def cell (ns : List Int) (k : Nat) : Int := ns.getD k 0
def spAt (K : PySem.W.Frag) : Sp := fun vs H Q _ => ∃ (a : Addr) (ns : List Int) (k : Nat), vs = [.ref a, .int k] ∧ SqL K H a (ns.map V.int) ∧ Q (.int (cell ns k)) H
def zfz : Sp := fun vs H Q _ => ∃ i : Int, vs = [.int i] ∧ Q (.bl true) H
def zmj : Sp := fun vs H Q _ => ∃ (x y : V) (n : Nat), vs = [x, y] ∧ Als H n [x] [y] ∧ n ≤ 400000 ∧ ∀ H', Same H H' → Q (.bl true) H'
theorem zl4 {ns : List Int} {k : Nat} (h : k < ns.length) : atI (ns.map V.int) (k : Int) = some (.int (cell ns k)) :=
 zcj (by rw [List.getElem?_map, List.getElem?_eq_getElem h]; simp [cell, List.getD, h])
def Say.leaf : Say → Bool
 | .lamp _ => true
 | .dark _ => true
 | _ => false
def Say.join : Say → Bool
 | .conj _ _ => true
 | .disj _ _ => true
 | _ => false
theorem znL (s : Say) : inV (.str s.tag) [.str "lamp", .str "dark"] = Say.leaf s := by cases s <;> (dsimp only [Say.tag, Say.leaf, Say.join]; decide +kernel)
theorem zpx (s : Say) : inV (.str s.tag) [.str "and", .str "or"] = Say.join s := by cases s <;> (dsimp only [Say.tag, Say.leaf, Say.join]; decide +kernel)
theorem zbZ (x : V) (xs : List V) : atI (x :: xs) 0 = some x := zcj (j := 0) rfl
theorem Stm.parts {H : Hp} {v : V} {s : Say} (h : Stm H v s) : ∃ a xs, v = .ref a ∧ H a = some (.tup (.str s.tag :: xs)) ∧ (Say.leaf s = false → Stms H xs s.kids) := by
 cases h with
 | lamp e => exact ⟨_, _, rfl, e, fun z => by cases z⟩
 | dark e => exact ⟨_, _, rfl, e, fun z => by cases z⟩
 | neg e h => exact ⟨_, _, rfl, e, fun _ => .cons h .nil⟩
 | conj e h h' => exact ⟨_, _, rfl, e, fun _ => .cons h (.cons h' .nil)⟩
 | disj e h h' => exact ⟨_, _, rfl, e, fun _ => .cons h (.cons h' .nil)⟩
 | ev e h => exact ⟨_, _, rfl, e, fun _ => .cons h .nil⟩
 | so e h => exact ⟨_, _, rfl, e, fun _ => .cons h .nil⟩
theorem zj4 {s : Say} (h : Say.leaf s = true) : s.kids = [] := by cases s <;> first | rfl | cases h
theorem zcX {α β : Type} {F : α → β → Prop} {xs : List α} {x : α} {ys : List β} (h : Paired F (xs ++ [x]) ys) : ∃ ys0 y, ys = ys0 ++ [y] ∧ Paired F xs ys0 ∧ F x y := by
 induction xs generalizing ys with
 | nil =>
  cases h with
  | cons a t => cases t; exact ⟨[], _, rfl, .nil, a⟩
 | cons z r ih =>
  cases h with
  | cons a t =>
   obtain ⟨ys0, y, rfl, p, q⟩ := ih t
   exact ⟨_ :: ys0, y, rfl, .cons a p, q⟩
theorem zbE {α : Type} (xs : List α) : xs = [] ∨ ∃ ys y, xs = ys ++ [y] := by
 rcases List.eq_nil_or_concat xs with h | ⟨ys, y, h⟩
 ·exact .inl h
 ·exact .inr ⟨ys, y, by rw [h, List.concat_eq_append]⟩
def pl (ss : List Say) : Nat := (ss.map fun s => s.po.length).sum
theorem zhA (a b : List Say) : pl (a ++ b) = pl a + pl b := by simp [pl]
theorem zjJ (s : Say) : s.po.length = 1 + pl s.kids := by cases s <;> simp [Say.po, Say.kids, pl] <;> omega
theorem znj (ss : List Say) : (ss.reverse.flatMap Say.po).length = pl ss := by
 induction ss with
 | nil => rfl
 | cons a r ih => simp only [List.reverse_cons, List.flatMap_append, List.length_append, ih, pl, List.map_cons, List.sum_cons, List.flatMap_cons, List.flatMap_nil, List.append_nil]; omega
theorem zhz (ss : List Say) : ss.length ≤ pl ss := by
 induction ss with
 | nil => exact Nat.le_refl _
 | cons a r ih => have := (Say.po_len a).2; simp only [List.length_cons, pl, List.map_cons, List.sum_cons] at ih ⊢; omega
def zml : Sp := fun vs H Q _ => ∃ (a : Addr) (v : V) (W : List Rm) (s : Say), vs = [.ref a, v] ∧ za5 H a W ∧ W.length ≤ 1000 ∧ Stm H v s ∧ Say.leaf s = true ∧ ∀ (l : Addr) (H' : Hp), Same H H' → H l = none → H' l = some (.lst (bls (tru W s))) → Q (.ref l) H'
def two (k : Str) (a b : List Bool) : List Bool := if k = "and" then List.zipWith (fun a b => a && b) a b else List.zipWith (fun a b => a || b) a b
def ziZ : Sp := fun vs H Q _ => ∃ (k : Str) (a b : Addr) (x y : List Bool), vs = [.str k, .ref a, .ref b] ∧ H a = some (.lst (bls x)) ∧ H b = some (.lst (bls y)) ∧ x.length = y.length ∧ x.length ≤ 1000 ∧ ∀ (l : Addr) (H' : Hp), Same H H' → H l = none → H' l = some (.lst (bls (two k x y))) → Q (.ref l) H'
theorem ziA {f : Bool → Bool → Bool} {x y : List Bool} {i : Nat} {a b : V} (h1 : (bls x)[i]? = some a) (h2 : (bls y)[i]? = some b) : ∃ c d, a = .bl c ∧ b = .bl d ∧ (List.zipWith f x y)[i]? = some (f c d) := by
 rw [List.getElem?_map] at h1 h2
 obtain ⟨c, hc, rfl⟩ := Option.map_eq_some_iff.mp h1
 obtain ⟨d, hd, rfl⟩ := Option.map_eq_some_iff.mp h2
 exact ⟨c, d, rfl, rfl, by simp [List.getElem?_zipWith, hc, hd]⟩
def zox : Sp := fun vs H Q _ => ∃ (a b : Addr) (ds : List Nat) (x : List Bool), vs = [.ref a, .ref b] ∧ H a = some (.lst (nts ds)) ∧ H b = some (.lst (bls x)) ∧ (∀ d ∈ ds, d < x.length) ∧ ds.length ≤ 1000 ∧ ∀ (l : Addr) (H' : Hp), Same H H' → H l = none → H' l = some (.lst (bls (led x ds))) → Q (.ref l) H'
theorem zdm {x : List Bool} {d : Nat} (h : d < x.length) : atI (bls x) (d : Int) = some (.bl (x.getD d false)) := zcj (by rw [List.getElem?_map, List.getElem?_eq_getElem h]; simp [List.getD, h])
theorem zcy {ds : List Nat} {i : Nat} {v : V} (h : (nts ds)[i]? = some v) : ∃ d, ds[i]? = some d ∧ v = .int (d : Int) := by
 rw [List.getElem?_map] at h
 obtain ⟨d, hd, rfl⟩ := Option.map_eq_some_iff.mp h
 exact ⟨d, hd, rfl⟩
theorem zj3 (x : List Bool) (ds : List Nat) : (led x ds).length = ds.length := by simp [led]
def zcZ (W : List Rm) (k : Str) (x : List Bool) : List Bool := if k = "every" then W.map fun r => !(led x r.doors).contains false else W.map fun r => (led x r.doors).contains true
def zmo : Sp := fun vs H Q _ => ∃ (a : Addr) (k : Str) (b : Addr) (W : List Rm) (x : List Bool), vs = [.ref a, .str k, .ref b] ∧ za5 H a W ∧ ze4 W ∧ W.length ≤ 1000 ∧ (∀ r ∈ W, r.doors.length ≤ 1000) ∧ H b = some (.lst (bls x)) ∧ x.length = W.length ∧
 ∀ (l : Addr) (H' : Hp), Same H H' → H l = none → H' l = some (.lst (bls (zcZ W k x))) → Q (.ref l) H'
theorem zeU (W : List Rm) (k : Str) (x : List Bool) : (zcZ W k x).length = W.length := by unfold zcZ; split <;> simp
theorem zez {α β : Type} {F : α → β → Prop} {xs : List α} {y : β} {ys : List β} (h : Paired F xs (ys ++ [y])) : ∃ xs0 x, xs = xs0 ++ [x] ∧ Paired F xs0 ys ∧ F x y := by
 induction ys generalizing xs with
 | nil =>
  cases h with
  | cons a t => cases t; exact ⟨[], _, rfl, .nil, a⟩
 | cons z r ih =>
  cases h with
  | cons a t =>
   obtain ⟨xs0, x, rfl, p, q⟩ := ih t
   exact ⟨_ :: xs0, x, rfl, .cons a p, q⟩
theorem Paired.rev {α β : Type} {F : α → β → Prop} {xs : List α} {ys : List β} (h : Paired F xs ys) : Paired F xs.reverse ys.reverse := by
 induction h with
 | nil => exact .nil
 | cons a _ ih => rw [List.reverse_cons, List.reverse_cons]; exact Paired.snoc ih a
def TrAt (fo : Addr) (H : Hp) (v : V) (b : List Bool) : Prop := ∃ c, v = .ref c ∧ c ≠ fo ∧ H c = some (.lst (bls b))
theorem TrAt.mono {fo : Addr} {H H' : Hp} {v : V} {b : List Bool} (h : TrAt fo H v b) (S : zcD fo H H') : TrAt fo H' v b := by
 obtain ⟨c, e, n, h⟩ := h
 exact ⟨c, e, n, S c _ n h⟩
theorem zcv {H : Hp} {D : Addr} {o : HO} : zcD D H (upd H D o) := fun b u n e => by rw [zai n]; exact e
theorem zcD.trans {D : Addr} {H H1 H2 : Hp} (a : zcD D H H1) (b : zcD D H1 H2) : zcD D H H2 := fun c o n e => b c o n (a c o n e)
theorem zdP {fo : Addr} {H H' : Hp} {vs : List V} {bs : List (List Bool)} (h : Paired (TrAt fo H) vs bs) (S : zcD fo H H') : Paired (TrAt fo H') vs bs := Paired.mapP h fun _ _ q => q.mono S
theorem zlT {W : List Rm} {p : List (List Bool)} {b : List Bool} (h : Fit W p) (e : b.length = W.length) : Fit W (p ++ [b]) := fun x m => by
 rcases List.mem_append.mp m with m | m
 ·exact h x m
 ·rw [List.mem_singleton.mp m]; exact e
theorem ziI {k : Str} {x y : List Bool} (h : x.length = y.length) : (two k x y).length = x.length := by unfold two; split <;> simp [h]
def zhp : Sp := fun vs H Q _ => ∃ (a : Addr) (v : V) (W : List Rm) (s : Say), vs = [.ref a, v] ∧ za5 H a W ∧ ze4 W ∧ W.length ≤ 1000 ∧ (∀ r ∈ W, r.doors.length ≤ 1000) ∧ Stm H v s ∧ s.sz ≤ 100000 ∧
 ∀ (l : Addr) (H' : Hp), Same H H' → H' l = some (.lst (bls (tru W s))) → Q (.ref l) H'
def zmn : Sp := fun vs H Q _ => ∃ (n p m : Int), vs = [.int n, .int p, .int m] ∧ 0 < p ∧ 0 < m ∧ Q (.int (n * 48271 % p % m)) H
def zoz : Sp := fun vs H Q _ => ∃ n : Int, vs = [.int n] ∧ ∀ (c : Int) (H' : Hp), 0 ≤ c → Same H H' → Q (.int c) H'
def zmk : Sp := fun vs H Q _ => ∃ (a b : Addr) (ds : List Nat) (x : List Bool), vs = [.ref b, .ref a] ∧ H a = some (.lst (nts ds)) ∧ H b = some (.lst (bls x)) ∧ (∀ d ∈ ds, d < x.length) ∧ ds.length ≤ 1000 ∧ ∀ (l : Addr) (H' : Hp), Same H H' → H l = none → H' l = some (.lst (bls (led x ds))) → Q (.ref l) H'
def zbF (W : List Rm) (k : Str) (x : List Bool) : List Bool := if k = "every" then W.map fun r => !(led x r.doors).contains false else if k = "some" then W.map fun r => (led x r.doors).contains true else x.map fun b => !b
def zdQ : Sp := fun vs H Q _ => ∃ (k : Str) (b a : Addr) (W : List Rm) (x : List Bool), vs = [.str k, .ref b, .ref a] ∧ za5 H a W ∧ ze4 W ∧ W.length ≤ 1000 ∧ (∀ r ∈ W, r.doors.length ≤ 1000) ∧ H b = some (.lst (bls x)) ∧ x.length = W.length ∧
 ∀ (l : Addr) (H' : Hp), Same H H' → H l = none → H' l = some (.lst (bls (zbF W k x))) → Q (.ref l) H'
theorem zdI {W : List Rm} {k : Str} {x : List Bool} (h : x.length = W.length) : (zbF W k x).length = W.length := by unfold zbF; split <;> (try split) <;> simp [h]
def ze2 (W : List Rm) (k : Str) (n : Int) : List Bool := W.map fun r => decide (r.lit.contains n = decide (k = "lamp"))
theorem zed (W : List Rm) (n : Int) : ze2 W "lamp" n = tru W (.lamp n) := by
 unfold ze2 tru
 apply List.map_congr_left
 intro r _
 cases r.lit.contains n <;> simp
theorem zfh (W : List Rm) (n : Int) : ze2 W "dark" n = tru W (.dark n) := by
 unfold ze2 tru
 apply List.map_congr_left
 intro r _
 have h : ¬ ("dark" : Str) = "lamp" := by decide +kernel
 cases r.lit.contains n <;> simp [h]
def zfA : Sp := fun vs H Q _ => ∃ (k : Str) (n : Int) (a : Addr) (W : List Rm), vs = [.str k, .int n, .ref a] ∧ za5 H a W ∧ W.length ≤ 1000 ∧ ∀ (l : Addr) (H' : Hp), Same H H' → H l = none → H' l = some (.lst (bls (ze2 W k n))) → Q (.ref l) H'
def Pr (W : List Rm) (p : Addr) (H : Hp) (v : V) (s : Say) : Prop := ∃ t u c, v = .ref t ∧ t ≠ p ∧ H t = some (.tup [u, .ref c]) ∧ Stm H u s ∧ c ≠ p ∧ H c = some (.lst (bls (tru W s)))
theorem Pr.mono {W : List Rm} {p : Addr} {H H' : Hp} {v : V} {s : Say} (h : Pr W p H v s) (S : zcD p H H') (T : TupK H H') : Pr W p H' v s := by
 obtain ⟨t, u, c, e, n, h1, st, nc, h2⟩ := h
 exact ⟨t, u, c, e, n, T _ _ h1, st.mono T, nc, S _ _ nc h2⟩
theorem zbQ {W : List Rm} {p : Addr} {H H' : Hp} {vs : List V} {ss : List Say} (h : Paired (Pr W p H) vs ss) (S : zcD p H H') (T : TupK H H') : Paired (Pr W p H') vs ss := Paired.mapP h fun _ _ q => q.mono S T
def zd2 (k : Str) (s t : Say) : Say := if k = "and" then .conj s t else .disj s t
theorem zmF (W : List Rm) (k : Str) (s t : Say) : two k (tru W s) (tru W t) = tru W (zd2 k s t) := by
 unfold two zd2
 split <;> simp [tru]
theorem zhN (k : Str) (s t : Say) : (zd2 k s t).sz = s.sz + t.sz + 2 := by unfold zd2; split <;> simp [Say.sz]
theorem zfk {nt : Bool} {k : Str} {s t : Say} (h1 : Say.good nt s) (h2 : Say.good nt t) : Say.good nt (zd2 k s t) := by unfold zd2; split <;> exact ⟨h1, h2⟩
theorem zkd {H : Hp} {a : Addr} {k : Str} {u v : V} {s t : Say} (hk : k = "and" ∨ k = "or") (e : H a = some (.tup [.str k, u, v])) (h1 : Stm H u s) (h2 : Stm H v t) : Stm H (.ref a) (zd2 k s t) := by
 rcases hk with rfl | rfl
 ·rw [zd2, if_pos rfl]; exact .conj e h1 h2
 ·rw [zd2, if_neg (by decide +kernel)]; exact .disj e h1 h2
def zi7 : Sp := fun vs H Q _ => ∃ (p : Addr) (k : Str) (W : List Rm) (xs : List V) (v1 v2 : V) (s1 s2 : Say), vs = [.ref p, .str k] ∧ (k = "and" ∨ k = "or") ∧ W.length ≤ 1000 ∧ H p = some (.lst (xs ++ [v1] ++ [v2])) ∧ Pr W p H v1 s1 ∧ Pr W p H v2 s2 ∧ xs.length ≤ 1000 ∧
 ∀ (v : V) (H' : Hp), zcD p H H' → TupK H H' → H' p = some (.lst (xs ++ [v])) → Pr W p H' v (zd2 k s1 s2) → Q .non H'
theorem in2 (k : Str) (a b : Str) : inV (.str k) [.str a, .str b] = true ↔ (k = a ∨ k = b) := by
 have h : inV (.str k) [.str a, .str b] = ((a == k) || (b == k)) := by simp [inV, eqV]
 rw [h, Bool.or_eq_true, beq_iff_eq, beq_iff_eq]
 exact ⟨fun z => z.elim (fun e => .inl e.symm) fun e => .inr e.symm, fun z => z.elim (fun e => .inl e.symm) fun e => .inr e.symm⟩
theorem in3 (k : Str) (a b c : Str) : inV (.str k) [.str a, .str b, .str c] = true ↔ (k = a ∨ k = b ∨ k = c) := by
 have h : inV (.str k) [.str a, .str b, .str c] = ((a == k) || ((b == k) || (c == k))) := by simp [inV, eqV]
 rw [h, Bool.or_eq_true, Bool.or_eq_true, beq_iff_eq, beq_iff_eq, beq_iff_eq]
 exact ⟨fun z => z.elim (fun e => .inl e.symm) fun z => z.elim (fun e => .inr (.inl e.symm)) fun e => .inr (.inr e.symm), fun z => z.elim (fun e => .inl e.symm) fun z => z.elim (fun e => .inr (.inl e.symm)) fun e => .inr (.inr e.symm)⟩
theorem znX {c : Bool} {P A B : Prop} (hB : B) (h1 : B → c = true → P) : if c = true then P else (if false = true then A else B) := by
 cases c with
 | true => exact iteT (h1 hB rfl)
 | false => exact iteF (iteF hB)
theorem znW {c : Bool} {P : Prop} {A B : Hp → Prop} {H : Hp} (hB : ∀ H', Same H H' → B H') (h1 : (∀ H', Same H H' → B H') → c = true → P) : if c = true then P else (if false = true then A H else B H) := by
 cases c with
 | true => exact iteT (h1 hB rfl)
 | false => exact iteF (iteF (hB H (Same.refl _)))
def oneS (k : Str) (s : Say) : Say := if k = "every" then .ev s else if k = "some" then .so s else .neg s
theorem znw (W : List Rm) (k : Str) (s : Say) : zbF W k (tru W s) = tru W (oneS k s) := by
 unfold zbF oneS
 split <;> (try split) <;> simp [tru]
theorem znx (k : Str) (s : Say) : (oneS k s).sz = s.sz + 2 := by unfold oneS; split <;> (try split) <;> simp [Say.sz]
theorem zjS {nt : Bool} {k : Str} {s : Say} (hk : k = "every" ∨ k = "some" ∨ (k = "not" ∧ nt = true)) (h : Say.good nt s) : Say.good nt (oneS k s) := by
 have a1 : ¬ ("some" : Str) = "every" := by decide +kernel
 have a2 : ¬ ("not" : Str) = "every" := by decide +kernel
 have a3 : ¬ ("not" : Str) = "some" := by decide +kernel
 rcases hk with rfl | rfl | ⟨rfl, e⟩
 ·rw [oneS, if_pos rfl]; exact h
 ·rw [oneS, if_neg a1, if_pos rfl]; exact h
 ·rw [oneS, if_neg a2, if_neg a3]; exact ⟨e, h⟩
theorem zlo {H : Hp} {a : Addr} {k : Str} {u : V} {s : Say} (hk : k = "every" ∨ k = "some" ∨ k = "not") (e : H a = some (.tup [.str k, u])) (h : Stm H u s) : Stm H (.ref a) (oneS k s) := by
 have a1 : ¬ ("some" : Str) = "every" := by decide +kernel
 have a2 : ¬ ("not" : Str) = "every" := by decide +kernel
 have a3 : ¬ ("not" : Str) = "some" := by decide +kernel
 rcases hk with rfl | rfl | rfl
 ·rw [oneS, if_pos rfl]; exact .ev e h
 ·rw [oneS, if_neg a1, if_pos rfl]; exact .so e h
 ·rw [oneS, if_neg a2, if_neg a3]; exact .neg e h
theorem zp5 (i : Int) : ∃ n : Int, atI [V.int 1, .int 2, .int 1000000007] (i % 3) = some (.int n) ∧ 1 ≤ n := by
 have h0 : 0 ≤ i % 3 := Int.emod_nonneg _ (by decide)
 have h1 : i % 3 < 3 := Int.emod_lt_of_pos _ (by decide)
 have h : i % 3 = 0 ∨ i % 3 = 1 ∨ i % 3 = 2 := by omega
 rcases h with e | e | e <;> rw [e]
 ·exact ⟨1, rfl, by decide⟩
 ·exact ⟨2, rfl, by decide⟩
 ·exact ⟨1000000007, rfl, by decide⟩
theorem znR (ks : List Str) (i : Int) (h : 0 < ks.length) : ∃ k, atI (ks.map V.str) (i % (ks.length : Int)) = some (.str k) ∧ k ∈ ks := by
 have h0 : 0 ≤ i % (ks.length : Int) := Int.emod_nonneg _ (by omega)
 have h1 : i % (ks.length : Int) < (ks.length : Int) := Int.emod_lt_of_pos _ (by omega)
 obtain ⟨j, hj⟩ : ∃ j : Nat, i % (ks.length : Int) = (j : Int) := ⟨(i % (ks.length : Int)).toNat, by omega⟩
 have hlt : j < ks.length := by omega
 rw [hj]
 exact ⟨ks[j], zcj (by rw [List.getElem?_map, List.getElem?_eq_getElem hlt]; rfl), List.getElem_mem hlt⟩
theorem zd9 (a b : List Say) : szs (a ++ b) = szs a + szs b := by simp [szs]
def zi9 (nt : Bool) : Sp := fun vs H Q _ => ∃ (c a kd : Addr) (ns : List Int) (W : List Rm) (ks : List Str), vs = [.ref c, .ref a, .ref kd] ∧ H c = some (.lst (ns.map V.int)) ∧ ns.length ≤ 90 ∧ za5 H a W ∧ ze4 W ∧ W.length ≤ 1000 ∧ (∀ r ∈ W, r.doors.length ≤ 1000) ∧
 H kd = some (.lst (ks.map V.str)) ∧ 0 < ks.length ∧ ks.length ≤ 1000 ∧ (nt = false → ¬ ("not" : Str) ∈ ks) ∧
 ∀ (t c' : Addr) (u : V) (s : Say) (H' : Hp), Same H H' → H' t = some (.tup [u, .ref c']) → Stm H' u s → H' c' = some (.lst (bls (tru W s))) → s.sz ≤ 7 * ns.length + 3 → Say.good nt s → Q (.ref t) H'
def dps (ss : List Say) : Nat := (ss.map fun s => s.dep + 1).sum
theorem zfW (a b : List Say) : dps (a ++ b) = dps a + dps b := by simp [dps]
theorem zeQ (s : Say) : dps [s] = s.dep + 1 := by simp [dps]
theorem zgv (k : Str) (s t : Say) : (zd2 k s t).dep + 1 ≤ s.dep + 1 + (t.dep + 1) := by unfold zd2; split <;> (simp only [Say.dep]; omega)
theorem zlp (k : Str) (s : Say) : (oneS k s).dep = s.dep + 1 := by unfold oneS; split <;> (try split) <;> rfl
def zkS (nt : Bool) : Sp := fun vs H Q _ => ∃ (c a kd : Addr) (ns : List Int) (W : List Rm) (ks : List Str), vs = [.ref c, .ref a, .ref kd] ∧ H c = some (.lst (ns.map V.int)) ∧ ns.length ≤ 90 ∧ za5 H a W ∧ ze4 W ∧ W.length ≤ 1000 ∧ (∀ r ∈ W, r.doors.length ≤ 1000) ∧
 H kd = some (.lst (ks.map V.str)) ∧ 0 < ks.length ∧ ks.length ≤ 1000 ∧ (nt = false → ¬ ("not" : Str) ∈ ks) ∧
 ∀ (t c' : Addr) (u : V) (s : Say) (H' : Hp), Same H H' → H' t = some (.tup [u, .ref c']) → Stm H' u s → H' c' = some (.lst (bls (tru W s))) → s.sz ≤ 7 * ns.length + 3 → s.dep ≤ ns.length → Say.good nt s → Q (.ref t) H'
def zi6 (ks : List Str) : Sp := fun vs H Q _ => vs = [] ∧ ∀ (l : Addr) (H' : Hp), Same H H' → H' l = some (.lst (ks.map V.str)) → Q (.ref l) H'
def zf1 (n : Nat) (W : List Rm) : Prop := ∀ r ∈ W, (∀ d ∈ r.doors, d < n) ∧ r.doors.length ≤ n ∧ r.lit.length ≤ 3
def RmD (D : Addr) (H : Hp) (v : V) (r : Rm) : Prop := ∃ a l d, v = .ref a ∧ l ≠ D ∧ d ≠ D ∧ H a = some (.tup [.ref l, .ref d]) ∧ H l = some (.lst (r.lit.map V.int)) ∧ H d = some (.lst (nts r.doors))
theorem RmD.mono {D : Addr} {H H' : Hp} {v : V} {r : Rm} (h : RmD D H v r) (S : zcD D H H') (T : TupK H H') : RmD D H' v r := by
 obtain ⟨a, l, d, e, n1, n2, h1, h2, h3⟩ := h
 exact ⟨a, l, d, e, n1, n2, T _ _ h1, S _ _ n1 h2, S _ _ n2 h3⟩
theorem RmD.rm {D : Addr} {H : Hp} {v : V} {r : Rm} (h : RmD D H v r) : RmAt H v r := by
 obtain ⟨a, l, d, e, n1, n2, h1, h2, h3⟩ := h
 exact ⟨a, l, d, e, h1, h2, h3⟩
theorem zht {D : Addr} {H H' : Hp} {vs : List V} {W : List Rm} (h : Paired (RmD D H) vs W) (S : zcD D H H') (T : TupK H H') : Paired (RmD D H') vs W := Paired.mapP h fun _ _ q => q.mono S T
theorem zmv (x : Int) (n : Nat) : 0 ≤ x % ((n : Int) + 1) ∧ x % ((n : Int) + 1) ≤ n := by
 have h0 : 0 ≤ x % ((n : Int) + 1) := Int.emod_nonneg _ (by omega)
 have h1 : x % ((n : Int) + 1) < (n : Int) + 1 := Int.emod_lt_of_pos _ (by omega)
 omega
theorem zki {α : Type} (f : α → V) (xs : List α) (i : Nat) (y : α) : (xs.map f).take i ++ f y :: (xs.map f).drop i = (xs.take i ++ y :: xs.drop i).map f := by
 rw [List.map_append, List.map_cons, List.map_take, List.map_drop]
theorem zkj {α : Type} (xs : List α) (i : Nat) (y : α) : (xs.take i ++ y :: xs.drop i).length = xs.length + 1 := by
 rw [List.length_append, List.length_cons, List.length_take, List.length_drop]
 omega
theorem zkh {α : Type} {xs : List α} {i : Nat} {y z : α} (h : z ∈ xs.take i ++ y :: xs.drop i) : z = y ∨ z ∈ xs := by
 rcases List.mem_append.mp h with h | h
 ·exact .inr (List.mem_of_mem_take h)
 ·rcases List.mem_cons.mp h with h | h
  ·exact .inl h
  ·exact .inr (List.mem_of_mem_drop h)
theorem zhj {D : Addr} {H : Hp} {ys : List V} {W : List Rm} (hd : H D = some (.lst ys)) (hl : ys.length = W.length) (h : ∀ (j : Nat) y, ys[j]? = some y → ∃ r, W[j]? = some r ∧ RmD D H y r) : za5 H D W := by
 refine ⟨ys, hd, Paired.of_get hl fun i v r e1 e2 => ?_⟩
 obtain ⟨r', e3, z⟩ := h i v e1
 rw [e2] at e3
 cases e3
 exact z.rm
def zmp : Sp := fun vs H Q _ => ∃ (a : Addr) (W : List Rm), vs = [.ref a] ∧ za5 H a W ∧ W.length ≤ 1000 ∧ ∀ (b : Addr) (H' : Hp), Same H H' → H b = none → za5 H' b W → Q (.ref b) H'
def shR (k : Int) (r : Rm) : Rm := ⟨r.lit.map (· + k), r.doors⟩
def shW (k : Int) (W : List Rm) : List Rm := W.map (shR k)
theorem zji {n : Nat} {k : Int} {W : List Rm} (h : zf1 n W) : zf1 n (shW k W) := fun r m => by
 obtain ⟨r0, m0, rfl⟩ := List.mem_map.mp m
 obtain ⟨h1, h2, h3⟩ := h r0 m0
 exact ⟨h1, h2, by simp [shR]; exact h3⟩
theorem zjk (k : Int) (W : List Rm) : (shW k W).length = W.length := List.length_map _
def zhq : Sp := fun vs H Q _ => ∃ (a : Addr) (k : Int) (W : List Rm), vs = [.ref a, .int k] ∧ za5 H a W ∧ W.length ≤ 1000 ∧ (∀ r ∈ W, r.lit.length ≤ 1000) ∧ ∀ (b : Addr) (H' : Hp), Same H H' → H b = none → za5 H' b (shW k W) → Q (.ref b) H'
theorem zhO (H : Hp) : ∀ ns : List Int, Als H ns.length (ns.map V.int) (ns.map V.int)
 | [] => .nil
 | n :: r => .int n (zhO H r)
theorem zjX (H : Hp) : ∀ ns : List Nat, Als H ns.length (nts ns) (nts ns)
 | [] => .nil
 | n :: r => .int n (zjX H r)
theorem zjo {H : Hp} {n : Nat} : ∀ {xs ys : List V} {W : List Rm}, Paired (RmAt H) xs W → Paired (RmAt H) ys W → zf1 n W → ∃ m, m ≤ W.length * (n + 6) ∧ Als H m xs ys
 | _, _, _, .nil, .nil, _ => ⟨0, Nat.zero_le _, .nil⟩
 | _, _, _, .cons (l₂ := W) (b := r) h1 t1, .cons h2 t2, hs => by
  obtain ⟨m, hm, al⟩ := zjo t1 t2 fun r hr => hs r (List.mem_cons_of_mem _ hr)
  obtain ⟨a, l, d, rfl, a1, a2, a3⟩ := h1
  obtain ⟨a', l', d', rfl, b1, b2, b3⟩ := h2
  obtain ⟨s1, s2, s3⟩ := hs r (List.mem_cons_self ..)
  refine ⟨_, ?_, .tup a1 b1 (.lst a2 b2 (zhO H _) (.lst a3 b3 (zjX H _) .nil)) al⟩
  rw [List.length_cons, Nat.add_mul]
  omega
theorem zf6 {H : Hp} {a b : Addr} {W : List Rm} {n : Nat} (h1 : za5 H a W) (h2 : za5 H b W) (hs : zf1 n W) : ∃ m, m ≤ W.length * (n + 6) + 1 ∧ Als H m [.ref a] [.ref b] := by
 obtain ⟨xs, e1, p1⟩ := h1
 obtain ⟨ys, e2, p2⟩ := h2
 obtain ⟨m, hm, al⟩ := zjo p1 p2 hs
 exact ⟨0 + m + 1, by omega, .lst e1 e2 al .nil⟩
theorem zeC (k n : Int) (ns : List Int) : (ns.map (· + k)).contains (n + k) = ns.contains n := by
 rw [Bool.eq_iff_iff, List.contains_iff_mem, List.contains_iff_mem, List.mem_map]
 constructor
 ·rintro ⟨m, hm, e⟩
  have : m = n := by omega
  exact this ▸ hm
 ·intro h
  exact ⟨n, h, rfl⟩
theorem zdR (k : Int) (W : List Rm) : ∀ s : Say, tru (shW k W) (s.sh k) = tru W s
 | .lamp n => by simp only [Say.sh, tru, shW, List.map_map]; exact List.map_congr_left fun r _ => zeC k n r.lit
 | .dark n => by simp only [Say.sh, tru, shW, List.map_map]; exact List.map_congr_left fun r _ => congrArg (!·) (zeC k n r.lit)
 | .neg s => by simp only [Say.sh, tru, zdR k W s]
 | .conj s t => by simp only [Say.sh, tru, zdR k W s, zdR k W t]
 | .disj s t => by simp only [Say.sh, tru, zdR k W s, zdR k W t]
 | .ev s => by simp only [Say.sh, tru, zdR k W s]; simp only [shW, List.map_map]; exact List.map_congr_left fun r _ => rfl
 | .so s => by simp only [Say.sh, tru, zdR k W s]; simp only [shW, List.map_map]; exact List.map_congr_left fun r _ => rfl
theorem zeA {W : List Rm} {n : Nat} (h : zf1 n W) (e : W.length = n) : ze4 W := fun r m d hd => by rw [e]; exact (h r m).1 d hd
end L2
set_option Elab.async false
set_option linter.all false
set_option maxRecDepth 100000
set_option maxHeartbeats 4000000
namespace L2
open PySem
def PWt (H : Hp) (v : V) (e : Bool × Say) : Prop := ∃ a u, v = .ref a ∧ H a = some (.tup [u, .bl e.1]) ∧ Stm H u e.2
theorem PWt.mono {H H' : Hp} {v : V} {e : Bool × Say} (h : PWt H v e) (T : TupK H H') : PWt H' v e := by
 obtain ⟨a, u, r, e, s⟩ := h
 exact ⟨a, u, r, T _ _ e, s.mono T⟩
def zi2 : Sp := fun vs H Q _ => ∃ (v : V) (s : Say), vs = [v] ∧ Stm H v s ∧ s.sz ≤ 100000 ∧ ∀ (l : Addr) (ps : List V) (H' : Hp), Same H H' → H l = none → H' l = some (.lst ps) → Stms H' ps s.post → Q (.ref l) H'
def zgd : Sp := fun vs H Q _ => ∃ (v : V) (s : Say), vs = [v] ∧ Stm H v s ∧ s.sz ≤ 100000 ∧ Say.good false s ∧ ∀ (H' : Hp), Same H H' → Q (.bl true) H'
theorem zfx {W : List Rm} {t : Say} {as : List (List Bool)} (ha : as.length = t.arity) (h : ∀ a ∈ as, a.length = W.length) : (truF W t as).length = W.length := by
 cases t <;> simp only [Say.arity, Say.kids, List.length_cons, List.length_nil] at ha
 ·simp [truF, tru]
 ·simp [truF, tru]
 ·match as, ha with
  | [a], _ => simp [truF]; exact h a (by simp)
 ·match as, ha with
  | [a, b], _ => simp [truF]; rw [h a (by simp), h b (by simp)]; omega
 ·match as, ha with
  | [a, b], _ => simp [truF]; rw [h a (by simp), h b (by simp)]; omega
 ·match as, ha with
  | [a], _ => simp [truF]
 ·match as, ha with
  | [a], _ => simp [truF]
theorem zkJ {t : Say} (h : Say.leaf t = true) : t.arity = 0 := by cases t <;> first | rfl | cases h
theorem zeV {t : Say} (h : Say.join t = true) : t.arity = 2 := by cases t <;> first | rfl | cases h
theorem zkI {t : Say} (h : Say.leaf t = false) (g : Say.join t = false) : t.arity = 1 := by cases t <;> first | rfl | (cases h; done) | (cases g; done)
theorem Stm.leafK {H : Hp} {v : V} {t : Say} (h : Stm H v t) (hl : Say.leaf t = true) : ∃ a k, v = .ref a ∧ H a = some (.tup [.str t.tag, .int k]) ∧ (t = .lamp k ∨ t = .dark k) := by
 cases h with
 | lamp e => exact ⟨_, _, rfl, e, .inl rfl⟩
 | dark e => exact ⟨_, _, rfl, e, .inr rfl⟩
 | neg e h => cases hl
 | conj e h h' => cases hl
 | disj e h h' => cases hl
 | ev e h => cases hl
 | so e h => cases hl
theorem zlV {α : Type} {xs : List α} {i : Nat} {x : α} (h : xs[i]? = some x) : xs.drop i = x :: xs.drop (i + 1) := by
 obtain ⟨hlt, e⟩ := List.getElem?_eq_some_iff.mp h
 rw [List.drop_eq_getElem_cons hlt, e]
theorem zlK {W : List Rm} {t : Say} {k : Int} (h : t = .lamp k ∨ t = .dark k) : ze2 W t.tag k = truF W t [] := by
 rcases h with rfl | rfl
 ·exact zed W k
 ·exact zfh W k
theorem zol {W : List Rm} {t : Say} {x y : List Bool} (h : Say.join t = true) : two t.tag x y = truF W t [x, y] := by
 cases t with
 | conj _ _ => rw [two, if_pos (by rfl)]; rfl
 | disj _ _ => rw [two, if_neg (by show ¬ ("or" : Str) = "and"; decide +kernel)]; rfl
 | _ => cases h
theorem zqa {W : List Rm} {t : Say} {x : List Bool} (hl : Say.leaf t = false) (hj : Say.join t = false) : zbF W t.tag x = truF W t [x] := by
 cases t with
 | lamp _ => cases hl
 | dark _ => cases hl
 | conj _ _ => cases hj
 | disj _ _ => cases hj
 | neg z => rw [zbF, if_neg (by show ¬ ("not" : Str) = "every"; decide +kernel), if_neg (by show ¬ ("not" : Str) = "some"; decide +kernel)]; rfl
 | ev _ => rw [zbF, if_pos (by rfl)]; rfl
 | so _ => rw [zbF, if_neg (by show ¬ ("some" : Str) = "every"; decide +kernel), if_pos (by rfl)]; rfl
def PF2 (H : Hp) (v : V) (e : Say × Say) : Prop := ∃ t u1 u2, v = .ref t ∧ H t = some (.tup [u1, u2]) ∧ Stm H u1 e.1 ∧ Stm H u2 e.2
theorem PF2.mono {H H' : Hp} {v : V} {e : Say × Say} (h : PF2 H v e) (T : TupK H H') : PF2 H' v e := by
 obtain ⟨t, u1, u2, r, e, s1, s2⟩ := h
 exact ⟨t, u1, u2, r, T _ _ e, s1.mono T, s2.mono T⟩
end L2
set_option Elab.async false
set_option linter.all false
set_option maxRecDepth 100000
set_option maxHeartbeats 4000000
namespace L2
open PySem PySem.Spec PyProof.Rows
structure ClsF (K : PySem.W.Frag) (C : Addr) (fs : List Str) : Prop where
 cl : Cls K C
 no : ∀ f ∈ fs, zgP K C f
def HasM (P : Program) (w : World) (K : PySem.W.Frag) (mg : Str → Option Value) (base : Heap) (C : Addr) (m : Str) (k : Nat) (ps : List Str) (sp : Sp) : Prop :=
 ∃ (f : Addr) (fd : FuncData), Cls K C ∧ Meth K C m f ∧ zdo K fd ps [] ∧ FnOk P w K mg base CX0 k f fd ps sp
def HasC (P : Program) (w : World) (K : PySem.W.Frag) (mg : Str → Option Value) (base : Heap) (C : Addr) (x : Str) (k : Nat) (ps : List Str) (sp : Sp) : Prop :=
 ∃ (f : Addr) (fd : FuncData), mg x = some (.ref C) ∧ Mk K C f ∧ zdo K fd ps [] ∧ FnOk P w K mg base CX0 k f fd ps sp
structure zb4 (K : PySem.W.Frag) (C : Addr) (x qual : Str) (st : Stmt) (ps : List Str) (f : Addr) (fd : FuncData) : Prop where
 fn : Fun K x qual st f fd
 m : Meth K C x f
 b : zdo K fd ps []
section
variable {P : Program} {w : World} {K : PySem.W.Frag} {mg : Str → Option Value} {base : Heap} {x qual : Str} {k : Nat} {ps : List Str} {sp : Sp} {st : Stmt} {f C : Addr} {fd : FuncData}
theorem zb4.has (D : zb4 K C x qual st ps f fd) (c : Cls K C) (F : FnOk P w K mg base CX0 k f fd ps sp) : HasM P w K mg base C x k ps sp := ⟨f, fd, c, D.m, D.b, F⟩
theorem zb4.make (D : zb4 K C "__init__" qual st ps f fd) (M : Mk K C f) (hm : mg x = some (.ref C)) (F : FnOk P w K mg base CX0 k f fd ps sp) : HasC P w K mg base C x k ps sp := ⟨f, fd, hm, M, D.b, F⟩
theorem HasM.imp {sp' : Sp} (h : HasM P w K mg base C x k ps sp) (i : ∀ vs H Q E, sp' vs H Q E → sp vs H Q E) : HasM P w K mg base C x k ps sp' :=
 let ⟨f, fd, a, b, c, F⟩ := h
 ⟨f, fd, a, b, c, F.imp i⟩
end
def zos (C : Addr) (ta : TE) (f : Str) : TE := fun σ H Q => ta σ H fun x H1 => ∃ a dx fs v, x = .ref a ∧ H1 a = some (.ins C dx fs) ∧ fs.lookup f = some v ∧ Q v H1
def zoC (C : Addr) (ta tv : TE) (f : Str) : TS := fun D σ H => tv σ H fun y H1 => ta σ H1 fun x H2 => ∃ a dx fs, x = .ref a ∧ H2 a = some (.ins C dx fs) ∧ fs.length < 1000 ∧ D.nx σ (upd H2 a (.ins C dx (putF f y fs)))
section
variable {X : Cx} {o value : Expr} {f : Str} {pos pos' : Pos} {ta tv : TE} {C : Addr} {F : List Str}
theorem zaw (c : ClsF X.K C F) (he : PE X o ta) (hf : f ∈ F := by decide +kernel) (hb : attributeBase o f X.env (eval o X.env) = eval o X.env := by rfl) : PE X (.Attribute o f pos) (zos C ta f) := by
 intro pins s σ H Q I h
 refine zoe hb (thn (he pins s σ H _ I h) fun u s1 ⟨x, H1, I1, rx, a, dx, fs, v, ex, ea, l, q⟩ => ?_)
 subst ex
 obtain rfl : u = Value.ref a := rx
 exact zin I1 ea c.cl (c.no f hf) l fun u' s2 I2 ru => ⟨v, H1, I2, ru, q⟩
theorem zcO (c : ClsF X.K C F) (ha : PE X o ta) (hv : PE X value tv) (hf : f ∈ F := by decide +kernel) (hs : swapsWith value (some (.Attribute o f pos')) pos.line X.env = pure false := by rfl) : PS X (.Assign [.Attribute o f pos'] value pos) (zoC C ta tv f) := by
 intro pins s σ H D I h
 refine plainObj_wpAny_Assign_Attribute (thn (hv pins s σ H _ I h) fun u s1 ⟨y, H1, I1, ry, q⟩ => thn (ha pins s1 σ H1 _ I1 q) fun ov s2 ⟨x, H2, I2, rx, a, dx, fs, ex, ea, l, q2⟩ => ?_) hs
 subst ex
 obtain rfl : ov = Value.ref a := rx
 exact zh3 I2 ea c.cl (c.no f hf) l ry fun s3 I3 => ⟨σ, _, I3, q2⟩
end
section
variable {X : Cx} {j k : Nat} {C : Addr} {ps : List Str} {sp : Sp} {x m : Str} {p pos apos : Pos} {e o : Expr} {es : List Expr} {ta : TE} {t : TA}
theorem zcL {pl : Sem Bool} (h : HasM X.prog X.w X.K X.mg X.base C m k ps sp) (hr : Room j X.A) (he : PE X o ta) (ha : PA X (e :: es) t) (hk : k ≤ j := by decide)
  (hst : starEach (e :: es) X.env = (false, eval e X.env) :: starEach es X.env := by rfl) (hpl : (backTo pos (starEach es X.env)).any (·.1) = false := by rfl)
  (ht : eval (.Call (.Attribute o m apos) (e :: es) [] pos) X.env = (do
   let ov ← eval o X.env
   standAt apos.atName
   let (f, first) ← holding [ov] (getMethod ov m pl)
   callWith pos f first (backTo pos (starEach (e :: es) X.env)) (backToKw pos (keywordEach [] X.env))) := by rfl) :
  PE X (.Call (.Attribute o m apos) (e :: es) [] pos) (zmH C m sp [] E0 ta t) := by
 obtain ⟨f, fd, c, M, b, F⟩ := h
 exact zno (pl := pl) he c M F (hr.mono hk) b .nil zll ha hst hpl ht
theorem zd0 (h : HasC X.prog X.w X.K X.mg X.base C x k ps sp) (hr : Room j X.A) (ha : PA X (e :: es) t) (hk : k + 1 ≤ j := by decide) (hg : Gl X x := by rfl) (hdb : (x == ("__debug__" : Str)) = false := by decide)
  (he : starEach (e :: es) X.env = (false, eval e X.env) :: starEach es X.env := by rfl) (hpl : (backTo pos (starEach es X.env)).any (·.1) = false := by rfl) :
  PE X (.Call (.Name x p) (e :: es) [] pos) (zmI C sp [] E0 t) := by
 obtain ⟨f, fd, m, M, b, F⟩ := h
 exact znp M F (hr.mono hk) hg m b .nil zll ha hdb he hpl
end
section
variable {C : Addr} {ta tv : TE} {t : TA} {f m : Str} {σ : St} {H : Hp} {Q : VK} {D : Ends} {sp : Sp}
theorem zm1 (q : ta σ H fun x H1 => ∃ a dx fs v, x = .ref a ∧ H1 a = some (.ins C dx fs) ∧ fs.lookup f = some v ∧ Q v H1) : zos C ta f σ H Q := q
theorem zkZ (q : tv σ H fun y H1 => ta σ H1 fun x H2 => ∃ a dx fs, x = .ref a ∧ H2 a = some (.ins C dx fs) ∧ fs.length < 1000 ∧ D.nx σ (upd H2 a (.ins C dx (putF f y fs)))) : zoC C ta tv f D σ H := q
theorem zmU (q : ta σ H fun x H1 => ∃ a dx fs, x = .ref a ∧ H1 a = some (.ins C dx fs) ∧ fs.lookup m = none ∧ t σ H1 fun vs H2 => sp (x :: (vs ++ [])) H2 Q E0) : zmH C m sp [] E0 ta t σ H Q := q
theorem zmV (q : t σ H fun vs H1 => ∀ x dx, H1 x = none → H1 dx = none → dx ≠ x → sp (.ref x :: (vs ++ [])) (upd (upd H1 dx (.own x)) x (.ins C dx [])) (fun v H2 => v = .non ∧ Q (.ref x) H2) E0) : zmI C sp [] E0 t σ H Q := q
theorem zm2 {a dx : Addr} {fs : List (Str × V)} {v : V} (h : H a = some (.ins C dx fs)) (l : fs.lookup f = some v) (q : Q v H) : ∃ a' dx' fs' v', V.ref a = .ref a' ∧ H a' = some (.ins C dx' fs') ∧ fs'.lookup f = some v' ∧ Q v' H := ⟨a, dx, fs, v, rfl, h, l, q⟩
end
theorem zk0 {C : Addr} {H : Hp} {m : Str} {R : Prop} {a dx : Addr} {fs : List (Str × V)} (h : H a = some (.ins C dx fs)) (l : fs.lookup m = none) (q : R) : ∃ a' dx' fs', V.ref a = .ref a' ∧ H a' = some (.ins C dx' fs') ∧ fs'.lookup m = none ∧ R := ⟨a, dx, fs, rfl, h, l, q⟩
theorem zbY {C : Addr} {H : Hp} {f : Str} {y : V} {R : Hp → Prop} {a dx : Addr} {fs : List (Str × V)} (h : H a = some (.ins C dx fs)) (l : fs.length < 1000) (q : R (upd H a (.ins C dx (putF f y fs)))) : ∃ a' dx' fs', V.ref a = .ref a' ∧ H a' = some (.ins C dx' fs') ∧ fs'.length < 1000 ∧ R (upd H a' (.ins C dx' (putF f y fs'))) := ⟨a, dx, fs, rfl, h, l, q⟩
def SamB (bs : List Addr) (H H' : Hp) : Prop := ∀ c o, c ∉ bs → H c = some o → H' c = some o
theorem SamB.refl (bs : List Addr) (H : Hp) : SamB bs H H := fun _ _ _ h => h
theorem SamB.trans {bs : List Addr} {H H1 H2 : Hp} (a : SamB bs H H1) (b : SamB bs H1 H2) : SamB bs H H2 := fun c o n h => b c o n (a c o n h)
theorem Same.samB {bs : List Addr} {H H' : Hp} (a : Same H H') : SamB bs H H' := fun c o _ h => a c o h
theorem SamB.more {bs cs : List Addr} {H H' : Hp} (a : SamB bs H H') (h : ∀ b ∈ bs, b ∈ cs) : SamB cs H H' := fun c o n e => a c o (fun z => n (h c z)) e
theorem SamB.put {bs : List Addr} {H H' : Hp} {b : Addr} {o : HO} (a : SamB bs H H') (h : b ∈ bs) : SamB bs H (upd H' b o) := fun c u n e => by
 have nb : c ≠ b := fun z => n (by rw [z]; exact h)
 rw [zai nb]
 exact a c u n e
theorem SamB.new {bs : List Addr} {H H' : Hp} {p : Addr} {o : HO} (a : SamB bs H H') (h : H' p = none) : SamB bs H (upd H' p o) := fun c u n e => by
 have q := a c u n e
 rw [zai (fun z => by rw [z, h] at q; cases q)]
 exact q
theorem SamB.free {bs : List Addr} {H H' : Hp} {p : Addr} (a : SamB bs H H') (h : H' p = none) (n : p ∉ bs) : H p = none := by
 cases q : H p with
 | none => rfl
 | some o =>
  rw [a p o n q] at h
  cases h
end L2
set_option Elab.async false
set_option linter.all false
set_option maxRecDepth 100000
set_option maxHeartbeats 4000000
namespace L2
open PySem PySem.Spec PyProof.Rows
def Ite (K : PySem.W.Frag) (l : Addr) : It :=
  ⟨fun i H => ∃ xs x, SqL K H l xs ∧ xs[i]? = some x,
   fun i H v H' => ∃ p x, v = .ref p ∧ H p = none ∧ H' = upd H p (.tup [.int i, x]) ∧ ∀ xs, SqL K H l xs → xs[i]? = some x,
   fun i H => ∃ xs, SqL K H l xs ∧ xs[i]? = none⟩
theorem ziM {P : Program} {w : World} {K : PySem.W.Frag} {elts : List Expr} {kk : Nat} {tpos : Pos} (e it l : Addr) (hne : e ≠ it) : Turn P w K (.Tuple elts kk tpos) (Ite K l) [e, it] e
  (fun i h => (∃ old, IsEnum h e it ((i : Nat) : Int) old) ∧ h.IsListIter it l i) where
 mem := by simp
 obj := fun i h st b hb => by
  obtain ⟨⟨old, h1⟩, ⟨o4, h4, _, d4⟩⟩ := st
  have hb' : b = e ∨ b = it := by simpa using hb
  rcases hb' with rfl | rfl
  ·exact ⟨_, h1, fun v q => by cases q⟩
  ·exact ⟨_, h4, fun v q => by rw [d4] at q; cases q⟩
 keep := fun i h h' st k => by
  obtain ⟨⟨old, h1⟩, h4⟩ := st
  exact ⟨⟨old, k e (by simp) _ h1⟩, h4.at fun o e => k it (by simp) o e⟩
 item := by
  intro X hP hw hK hc i pins s σ H E I hf st hg
  subst hP hw hK
  obtain ⟨⟨old, h1⟩, h4⟩ := st
  obtain ⟨xs, x, hq, hx⟩ := hg
  obtain ⟨its, rv, p1, hz⟩ := I.list hq
  obtain ⟨u, hu, ru⟩ := rv.get hx
  refine wpAny_pyNext_enum_item h1 h4 p1.isList (x := u) (by simpa using hu) hne fun h' g1 g4 g5 gsz gk => ?_
  refine ⟨_, rfl, wpAny_letOwnedTupleGo_enum g1 fun h'' z1 sb => ?_⟩
  have hfr : H s.heap.objs.size = none := I.hok.fresh (Nat.le_refl _)
  have nz : ∀ b o, s.heap.get? b = some o → b ≠ s.heap.objs.size := fun b o e => Nat.ne_of_lt (Heap.lt_size e)
  have zlt : e < s.heap.objs.size := Heap.lt_size h1
  have kk : ∀ b o, b ∉ [e, it] → s.heap.get? b = some o → h''.get? b = some o := fun b o hb q => by
   have hb' : b ≠ e ∧ b ≠ it := by simpa using hb
   exact (sb.2 b hb'.1).trans (gk b o hb'.1 hb'.2 q)
  have np : h''.get? s.heap.objs.size = some { cls := .type "tuple", data := .seq #[.int i s.toks, u] } := (sb.2 _ (Nat.ne_of_gt zlt)).trans g5
  have nfp : ∀ b u, H b = some u → b ∉ [e, it] := fun b u q hb => by
   have := (hf b hb).1
   rw [q] at this; cases this
  have hok1 : HOk X.prog X.w H h'' := fun b u q => (I.hok b u q).stay (fun c v hc r => kk c v (by
   rcases hc with q' | q'
   ·rw [q']; exact nfp b u q
   ·exact nfp c _ q') r) (fun _ q => q) fun _ _ q => q
  have hok2 : HOk X.prog X.w (upd H s.heap.objs.size (.tup [.int i, x])) h'' := fun b v q => by
   by_cases hb : b = s.heap.objs.size
   ·subst hb
    rw [zab] at q
    cases q
    exact ⟨(by show 2 ≤ sizeLine; decide), [.int i s.toks, u], .cons ⟨_, rfl⟩ (.cons ru .nil), ⟨_, np, rfl, _, rfl⟩⟩
   ·rw [zai hb] at q
    exact (hok1 b v q).stay (fun c v _ q => q) (fun c q => by rw [zai (zag q hfr)]; exact q) fun c xs q => by rw [zai (zag q hfr)]; exact q
  have I1 : Inv X pins σ (upd H s.heap.objs.size (.tup [.int i, x])) { s with heap := h'', toks := s.toks + 1 } := by
   refine I.step (g' := s.gens) (t' := s.toks + 1) (d' := s.drawn) (ch := [e, it]) (fun b hb => ?_) (fun b o _ _ hc q _ => kk b o hc q) (fun b o _ _ hc q _ => ⟨o.slots, kk b o hc q⟩) (fun b o hc q n => by rw [zai (nz b o q)]; exact n) (fun b o hc q => ⟨o, kk b o hc q⟩)
    (fun b xs q => by rw [zai (zag q hfr)]; exact q) (fun b o u q => by rw [zai (zag q hfr)]; exact q) (fun b ps q => ⟨#[], by rw [zai (zag q hfr), q]; simp⟩) (fun m hm => ?_) hok2 I.bare
   ·obtain ⟨f0, f1, f2, f3, f4, f5⟩ := hf b hb
    exact ⟨f3, f1, f4, f5⟩
   ·obtain ⟨o, es, ep, ho, r⟩ := hm
    refine ⟨o, es, ep, kk _ o (fun hb => ?_) ho, r⟩
    exact (hf _ hb).2.1 rfl
  have e2 : ((i : Nat) : Int) + 1 = ((i + 1 : Nat) : Int) := by omega
  rw [e2] at z1
  refine ⟨.ref s.heap.objs.size, _, I1, rfl, ⟨s.heap.objs.size, x, rfl, hfr, rfl, fun zs hz => by rw [I.list_inj hz hq]; exact hx⟩, ⟨⟨_, z1⟩, g4.at fun o q => (sb.2 it (Ne.symm hne)).trans q⟩, fun b hb => ?_⟩
  have e0 := (hf b hb).1
  have hlt : b < s.heap.objs.size := by
   obtain ⟨o4, e4, _⟩ := h4
   have hb' : b = e ∨ b = it := by simpa using hb
   rcases hb' with rfl | rfl
   ·exact zlt
   ·exact Heap.lt_size e4
  rw [zai (Nat.ne_of_lt hlt)]
  exact e0
 done := by
  intro X hP hw hK hc i pins s σ H E I hf st hg
  subst hP hw hK
  obtain ⟨⟨old, h1⟩, h4⟩ := st
  obtain ⟨xs, hq, hend⟩ := hg
  obtain ⟨its, rv, p1, hz⟩ := I.list hq
  refine wpAny_pyNext_enum_end (I.ok.hd hc) h1 h4 p1.isList (by simpa using rv.none_of hend) fun h' gk => ⟨rfl, ?_⟩
  obtain ⟨f0, f1, f2, f3, f4, f5⟩ := hf it (by simp)
  exact I.turned (t' := s.toks) (fun b o hb q => gk b o hb q) f0 f1 f3 f4 f5
 self := fun _ _ _ _ _ st h => by
  obtain ⟨⟨old, h1⟩, _⟩ := st
  exact wpAny_pyIter_enum h1 h
section
variable {X : Cx} {elts : List Expr} {kk : Nat} {tpos : Pos}
def znZ (K : PySem.W.Frag) (ta : TA) : TI := fun σ H R => ta σ H fun vs H1 => ∃ l xs, vs = [.ref l] ∧ SqL K H1 l xs ∧ R (Ite K l) H1
theorem znn {a : Expr} {ta : TA} {p pos : Pos} (hg : Gl X "enumerate") (hm : X.mg "enumerate" = none) (ha : PA X [a] ta) (hs : starEach [a] X.env = [(false, eval a X.env)] := by rfl) :
  PI X (.Tuple elts kk tpos) (.Call (.Name "enumerate" p) [a] [] pos) (znZ X.K ta) := by
 intro pins s σ H R I h
 refine Call_ (zdk I hg hm boot_enumerate (PyProof.Rows.callWith_type1 (thn (ha pos pins s σ H _ I h) fun us s1 ⟨vs, H1, I1, r1, q1⟩ => ?_) hs rfl))
 obtain ⟨l, xs, e, hq, q⟩ := q1
 subst e
 cases r1 with
 | cons r rr =>
  cases rr
  cases r
  obtain ⟨its, rv, p', hz⟩ := I1.list hq
  refine call_enumerate_list p'.isList fun h' g1 g2 gsz gk => ?_
  refine wpAny_pyIter_enum g1 ?_
  have I2 : Inv X pins σ H1 { s1 with heap := h' } := I1.kept (t' := s1.toks) gk
  refine ⟨_, _, _, _, H1, rfl, I2, ziM (s1.heap.objs.size + 1) s1.heap.objs.size l (Nat.ne_of_gt (Nat.lt_succ_self _)), ⟨⟨_, g1⟩, g2⟩, fun b hb => ?_, q⟩
  have hb' : b = s1.heap.objs.size + 1 ∨ b = s1.heap.objs.size := by simpa using hb
  have hle : s1.heap.objs.size ≤ b := by
   rcases hb' with rfl | rfl
   ·exact Nat.le_add_right _ _
   ·exact Nat.le_refl _
  exact I1.fpOk hle (I1.hok.fresh hle)
theorem zhB {a : Expr} {ta : TA} {p pos : Pos} (K : PySem.W.Frag) (hg : Gl X "enumerate") (hm : X.mg "enumerate" = none) (ha : PA X [a] ta) (h : X.K = K := by rfl) (hs : starEach [a] X.env = [(false, eval a X.env)] := by rfl) :
  PI X (.Tuple elts kk tpos) (.Call (.Name "enumerate" p) [a] [] pos) (znZ K ta) := h ▸ znn hg hm ha hs
end
section
variable {k : Nat} {caps : List Nat} {g : TG} {ts : TT} {te : TE} {σ : St} {H1 : Hp} {K : PySem.W.Frag} {J : It}
theorem zdu {QD : Addr → Hp → Prop} (n : Nat) (q : ∀ D, H1 D = none → ∃ R : Nat → List V → Hp → Prop, R 0 [] (upd H1 D (.lst [])) ∧ (∀ i ys H2, i < n → R i ys H2 → J.go i H2) ∧ (∀ ys H2, R n ys H2 → J.stop n H2) ∧
   (∀ (i : Nat) (ys : List V) (H2 : Hp) (x : V) (H3 : Hp) (Cy : V → Hp → Prop) (Cn : Hp → Prop), i < n → R i ys H2 → J.yld i H2 x H3 → (∀ y H6 zs, H6 D = some (.lst zs) → zs.length < sizeLine → R (i + 1) (ys ++ [y]) (upd H6 D (.lst (zs ++ [y]))) → Cy y H6) → (∀ H5, R (i + 1) ys H5 → Cn H5) →
    g x (zbu k caps σ) H3 fun σ4 H4 => ts σ4 H4 fun b H5 => if b = true then te σ4 H5 Cy else Cn H5) ∧
   ∀ (ys : List V) (H' : Hp), R n ys H' → QD D H') :
  ∀ D, H1 D = none →
   ∃ W : Nat → Nat → List V → Hp → Prop, (∃ m, W 0 m [] (upd H1 D (.lst []))) ∧ ∀ i m ys H2, W i m ys H2 →
    (J.stop i H2 ∧ QD D H2) ∨ (J.go i H2 ∧ ∀ x H3, J.yld i H2 x H3 → g x (zbu k caps σ) H3 fun σ4 H4 => ts σ4 H4 fun b H5 =>
     if b = true then te σ4 H5 fun y H6 => ∃ zs, H6 D = some (.lst zs) ∧ zs.length < sizeLine ∧ ∃ m', m' < m ∧ W (i + 1) m' (ys ++ [y]) (upd H6 D (.lst (zs ++ [y])))
     else ∃ m', m' < m ∧ W (i + 1) m' ys H5) := by
 intro D hD
 obtain ⟨R, h0, hgo, hst, hs, hf⟩ := q D hD
 refine ⟨fun i m ys H2 => i ≤ n ∧ m = n - i ∧ R i ys H2, ⟨n, Nat.zero_le _, rfl, h0⟩, ?_⟩
 rintro i m ys H2 ⟨hi, rfl, hr⟩
 by_cases hlt : i < n
 ·refine .inr ⟨hgo i ys H2 hlt hr, fun x H3 hy => ?_⟩
  exact hs i ys H2 x H3 _ _ hlt hr hy (fun y H6 zs e1 e2 r => ⟨zs, e1, e2, n - (i + 1), by omega, by omega, rfl, r⟩) fun H5 r => ⟨n - (i + 1), by omega, by omega, rfl, r⟩
 ·have : i = n := by omega
  subst this
  exact .inl ⟨hst ys H2 hr, hf ys H2 hr⟩
theorem zlb {ta : TA} {H : Hp} {Q : VK} (h : ta σ H fun vs H1 => ∃ l xs, vs = [.ref l] ∧ SqL K H1 l xs ∧ ∀ D, H1 D = none →
   ∃ W : Nat → Nat → List V → Hp → Prop, (∃ m, W 0 m [] (upd H1 D (.lst []))) ∧ ∀ i m ys H2, W i m ys H2 →
    ((Ite K l).stop i H2 ∧ Q (.ref D) H2) ∨ ((Ite K l).go i H2 ∧ ∀ x H3, (Ite K l).yld i H2 x H3 → g x (zbu k caps σ) H3 fun σ4 H4 => ts σ4 H4 fun b H5 =>
     if b = true then te σ4 H5 fun y H6 => ∃ zs, H6 D = some (.lst zs) ∧ zs.length < sizeLine ∧ ∃ m', m' < m ∧ W (i + 1) m' (ys ++ [y]) (upd H6 D (.lst (zs ++ [y])))
     else ∃ m', m' < m ∧ W (i + 1) m' ys H5)) : zfy k caps (znZ K ta) g ts te σ H Q := h
end
end L2
set_option Elab.async false
set_option linter.all false
set_option maxRecDepth 100000
set_option maxHeartbeats 4000000
namespace L2
open PySem PySem.Spec PyProof.Rows
section
variable {prog : Program} {w : World} {A : Around} {E : Value → Shared → Prop} {s : Shared}
theorem zn1 {b : Bool} {Q : Int → Shared → Prop} (h : Q (hashInt (if b = true then 1 else 0)) { s with toks := s.toks + 1 }) : wpAny (model prog w) A (pyHash (.bool b)) Q E s := by
 have hT : s.TypeIs (.bool b) "bool" := rfl
 have hr := rawHash_range (if b = true then 1 else 0)
 unfold pyHash
 have nh : [Value.bool b].any Value.onHeap = false := rfl
 refine wpAny_bind ?_
 rw [cRoomFor, if_neg (by rw [nh]; exact Bool.false_ne_true)]
 refine wpAny_pure (wpAny_bind (wpAny_specialOf hT PySem.F.slot_bool_hash.lookup ?_))
 show wpAny _ _ (if (some (Value.builtin "int.__hash__") == some Value.none) = true then _ else _) Q E s
 rw [if_neg (by rw [beq_builtin_none]; exact Bool.false_ne_true)]
 refine wpAny_bind (wpAny_specialOf hT PySem.F.slot_bool_hash.lookup ?_)
 show wpAny _ _ (callSpecialIfBoundUnlessNone? (.bool b) "__hash__" _ >>= _) Q E s
 refine wpAny_bind (wpAny_callSpecialIfBoundUnlessNone?_slot hT PySem.F.slot_bool_hash (wpAny_call_entry PySem.F.slot_bool_hash hT entry_int_hash
  (show wpAny _ _ (do ret (← mkInt (rawHash (if b = true then 1 else 0)))) _ _ s from ?_) (args_int_hash _)))
 refine wpAny_ret_mkInt ?_
 show wpAny _ _ (if (decide (-(2 : Int) ^ 63 ≤ rawHash (if b = true then 1 else 0)) && decide (rawHash (if b = true then 1 else 0) < 2 ^ 63)) = true then _ else _) Q E _
 rw [if_pos (by rw [decide_eq_true hr.1, decide_eq_true hr.2]; rfl)]
 exact wpAny_pure h
theorem zcp {b : Bool} {v : Value} (h : (match v with | .bool c => c == b | _ => false) = true) : v = .bool b := by
 cases v <;> first | (cases h; done) | (rename_i c; rw [beq_iff_eq.mp h])
def zfu (prog : Program) (w : World) : PySem.KeyKind prog w Bool where
 is := fun b v => match v with | .bool c => c == b | _ => false
 hash := fun b => hashInt (if b = true then 1 else 0)
 inj := fun v a b ha hb => by
  have e1 := zcp ha
  have e2 := zcp hb
  rw [e1] at e2
  injection e2
 byValue := fun k v h => by rw [zcp h]; rfl
 pyHash := fun hv h => by rw [zcp hv]; exact zn1 h
 eqBool := fun {A E s a b u v Q} hu hv h => by
  rw [zcp hu, zcp hv]
  refine SeqAt.EqAt.bool_bool a b _ _ _ _ ?_
  have e : (a == b) = decide (a = b) := by cases a <;> cases b <;> rfl
  rw [e]; exact h
 «strs» := fun k x t v h => by cases h
end
def kn (a : Addr) (o : Obj) : HO := .ext fun h => h.get? a = some o
theorem zfi {P : Program} {w : World} {H : Hp} {h : Heap} {a : Addr} {o : Obj} (ok : HOk P w H h) (e : H a = some (kn a o)) : h.get? a = some o := (ok a _ e).1
theorem znP {P : Program} {w : World} {H : Hp} {h : Heap} {a : Addr} {o : Obj} (e : h.get? a = some o) : zbD P w H h a (kn a o) := ⟨e, ⟨o, e⟩, fun _ _ p k => k _ p⟩
abbrev BXs := List (List Bool × Addr × Value)
def BObj (P : Program) (w : World) (o : Obj) (xs : BXs) : Prop := o.ExactDict ∧ xs.length ≤ 1000 ∧ (∃ es ep, o.data = .dict es ep ∧ es.toList = xs.map (entryOfKey (tupleKind (zfu P w)))) ∧ (xs.map (·.1)).Nodup
def BD (P : Program) (w : World) (H : Hp) (a : Addr) (xs : BXs) : Prop := (a == sysModules) = false ∧ (∃ o, H a = some (kn a o) ∧ BObj P w o xs) ∧ ∀ x ∈ xs, H x.2.1 = some (.tup (x.1.map V.bl))
theorem zkF {P : Program} {w : World} : ∀ {ks : List Bool} {us : List Value}, Vals (ks.map V.bl) us → ItemsAre (zfu P w) ks us
 | [], _, r => by rw [List.map_nil] at r; cases r; exact .nil
 | k :: ks, _, r => by
  rw [List.map_cons] at r
  cases r with
  | cons h t =>
   cases h
   exact .cons (by show (k == k) = true; simp) (zkF t)
theorem zet {P : Program} {w : World} {H : Hp} {h : Heap} {a : Addr} {ks : List Bool} (ok : HOk P w H h) (e : H a = some (.tup (ks.map V.bl))) : (tupleKind (zfu P w)).is h ks a := by
 obtain ⟨_, its, r, o, h1, h2, n, h3⟩ := (show zbD P w H h a (.tup (ks.map V.bl)) from ok a _ e)
 exact ⟨o, its.toArray, n, h1, h2, h3, by simpa using zkF r⟩
section
variable {P : Program} {w : World} {H H' : Hp} {h : Heap} {a : Addr} {xs : BXs}
theorem BD.of (b : BD P w H a xs) (ok : HOk P w H h) : h.DictOfH (tupleKind (zfu P w)) a xs := by
 obtain ⟨_, ⟨o, e, hx, _, ⟨es, ep, h1, h2⟩, hn⟩, hk⟩ := b
 exact ⟨o, es, ep, zfi ok e, hx, h1, h2, fun x m => zet ok (hk x m), hn⟩
theorem BD.few (b : BD P w H a xs) : xs.length ≤ 1000 := let ⟨_, ⟨_, _, _, h, _⟩, _⟩ := b; h
theorem BD.sys (b : BD P w H a xs) : (a == sysModules) = false := b.1
theorem BD.mono (b : BD P w H a xs) (e : ∀ o, H a = some o → H' a = some o) (T : TupK H H') : BD P w H' a xs :=
 ⟨b.1, let ⟨o, h1, h2⟩ := b.2.1; ⟨o, e _ h1, h2⟩, fun x m => T _ _ (b.2.2 x m)⟩
end
def zme : TE := fun _ H Q => ∀ p, H p = none → (p == sysModules) = false → Q (.ref p) (upd H p (kn p { cls := .type "dict", data := .dict #[] }))
def zov (P : Program) (w : World) (td ty : TE) : TE := fun σ H Q => td σ H fun x H1 => ty σ H1 fun y H2 => ∃ a xs b kk ka v, x = .ref a ∧ BD P w H2 a xs ∧ y = .ref b ∧ H2 b = some (.tup (kk.map V.bl)) ∧ atKey xs kk = some (ka, Value.ref v) ∧ Q (.ref v) H2
def ziV (P : Program) (w : World) (ty td : TE) : TE := fun σ H Q => ty σ H fun y H1 => td σ H1 fun x H2 => ∃ a xs b kk, x = .ref a ∧ BD P w H2 a xs ∧ y = .ref b ∧ H2 b = some (.tup (kk.map V.bl)) ∧ Q (.bl (!(atKey xs kk).isSome)) H2
def zoE (P : Program) (w : World) (td ty tv : TE) : TS := fun D σ H => tv σ H fun v H1 => td σ H1 fun x H2 => ty σ H2 fun y H3 => ∃ a xs b kk va, v = .ref va ∧ x = .ref a ∧ BD P w H3 a xs ∧ y = .ref b ∧ H3 b = some (.tup (kk.map V.bl)) ∧ xs.length < 1000 ∧
 ∀ o, BObj P w o (storedH xs kk b (.ref va)) → D.nx σ (upd H3 a (kn a o))
theorem ze5 {K : Type} [DecidableEq K] {xs : List (K × Addr × Value)} {k : K} {a : Addr} {v : Value} : (storedH xs k a v).length ≤ xs.length + 1 := by
 unfold storedH
 split
 ·rw [List.length_map]; omega
 ·rw [List.length_append]; exact Nat.le_refl _
section
variable {X : Cx} {o i value : Expr} {pos pos' : Pos} {td ty tv : TE}
theorem zli : PE X (.Dict [] [] pos) zme := fun pins s σ H Q I h =>
 wpAny_Dict_empty ⟨.ref s.heap.objs.size, _, I.laid (a := s.heap.objs.size) (o := kn s.heap.objs.size { cls := .type "dict", data := .dict #[] }) (t' := s.toks) (fun _ _ q => Heap.get?_push_of_some _ q) (Nat.le_refl _) (znP (Heap.get?_push_size _ rfl)), rfl,
  h _ (I.hok.fresh (Nat.le_refl _)) (beq_eq_false_iff_ne.mpr (Ne.symm (Nat.ne_of_lt I.big)))⟩
theorem znt (hu : X.A.units + 1 < cLine) (ho : PE X o td) (hi : PE X i ty) (hs : NoSl i) : PE X (.Subscript o i pos) (zov X.prog X.w td ty) := by
 intro pins s σ H Q I h
 refine ziX PySem.F.slot_dict_getitem.lookup hs (thn (ho pins s σ H _ I h) fun u s1 ⟨x, H1, I1, rx, q1⟩ => thn (hi pins s1 σ H1 _ I1 q1) fun iv s2 ⟨y, H2, I2, ry, a, xs, b, kk, ka, v, ex, bd, ey, eb, l, q2⟩ => ?_)
 subst ex ey
 obtain rfl : u = Value.ref a := rx
 obtain rfl : iv = Value.ref b := ry
 have dd := bd.of I2.hok
 exact ⟨dd.typeIs, wpAny_getItem_heap (tupleKind_room_in1 hu) (zet I2.hok eb) dd l ⟨.ref v, H2, I2.tok _, rfl, q2⟩⟩
theorem zjQ (hu : X.A.units + 1 < cLine) (hi : PE X i ty) (ho : PE X o td) : PC X .NotIn i o (ziV X.prog X.w ty td) := by
 intro pins s σ H Q I h
 refine thn (hi pins s σ H _ I h) fun iv s1 ⟨y, H1, I1, ry, q1⟩ => thn (ho pins s1 σ H1 _ I1 q1) fun u s2 ⟨x, H2, I2, rx, a, xs, b, kk, ex, bd, ey, eb, q2⟩ => ?_
 subst ex ey
 obtain rfl : u = Value.ref a := rx
 obtain rfl : iv = Value.ref b := ry
 exact wpAny_notIn_heap (tupleKind_room_in1 hu) (zet I2.hok eb) bd.sys (bd.of I2.hok) ⟨.bl (!(atKey xs kk).isSome), H2, I2.tok _, rfl, q2⟩
theorem zng (hu : X.A.units + 1 < cLine) (ho : PE X o td) (hi : PE X i ty) (hv : PE X value tv) (hs : swapsWith value (some (.Subscript o i pos')) pos.line X.env = pure false) :
  PS X (.Assign [.Subscript o i pos'] value pos) (zoE X.prog X.w td ty tv) := by
 intro pins s σ H D I h
 refine wpAny_Assign_Subscript (thn (hv pins s σ H _ I h) fun r s1 ⟨v, H1, I1, rv, q1⟩ => thn (ho pins s1 σ H1 _ I1 q1) fun u s2 ⟨x, H2, I2, rx, q2⟩ => thn (hi pins s2 σ H2 _ I2 q2) fun iv s3 ⟨y, H3, I3, ry, a, xs, b, kk, va, ev, ex, bd, ey, eb, hl, q3⟩ => ?_) hs
 subst ev ex ey
 obtain rfl : u = Value.ref a := rx
 obtain rfl : iv = Value.ref b := ry
 obtain rfl : r = Value.ref va := rv
 have hz : xs.length ≤ sizeLine := Nat.le_of_lt (zjd (Nat.le_of_lt hl))
 refine wpAny_setItem_heap (hsz := hz) (tupleKind_room_in1 hu) (zet I3.hok eb) (bd.of I3.hok) fun h' dd' hsb => ?_
 obtain ⟨q, es, ep, hq, h2, h3, h4, _, h5⟩ := dd'
 obtain ⟨_, ⟨o0, e0, _⟩, _⟩ := bd
 refine ⟨σ, _, zg9 I3 (by rw [e0]; exact True.intro) hsb ⟨q, hq⟩ (znP hq), q3 q ⟨h2, ?_, ⟨es, ep, h3, h4⟩, h5⟩⟩
 have := ze5 (xs := xs) (k := kk) (a := b) (v := .ref va)
 omega
end
end L2
set_option Elab.async false
set_option linter.all false
set_option maxRecDepth 100000
set_option maxHeartbeats 4000000
namespace L2
open PySem PySem.Spec PyProof.Rows
section
variable {prog : Program} {w : World} {A : Around} {E : Value → Shared → Prop} {s : Shared} {d it v : Addr} {od : Obj} {es : Array DictEntry} {ep i : Nat}
theorem ziC (d : Addr) (hd : (d == sysModules) = false) : MeetsIn prog w (Builtin.«dict.values» ⟨[.ref d], []⟩) (fun _ R s => s.TypeIs (.ref d) "dict" ∧ R (.ok (.ret (.ref s.heap.objs.size))) { s with heap := s.heap.push { cls := .type "dict_values", data := .fields #[.ref d] } }) :=
 .of_wp fun A R s ⟨hT, h⟩ => by
  refine wpAny_bind ?_
  unfold Builtin.Dict.noArgs
  refine wpAny_bind (wpAny_notOrdered_dict hT ?_)
  refine (show wpAny _ _ (pure d) _ _ s from wpAny_pure ?_)
  show wpAny _ _ (Builtin.Dict.showsAll d >>= _) _ _ s
  unfold Builtin.Dict.showsAll
  rw [if_neg (show ¬ (d == sysModules) = true from fun z => by rw [hd] at z; cases z)]
  exact wpAny_bind (wpAny_pure (wpAny_bind (wpAny_newObj_type (wpAny_pure ⟨_, rfl, h⟩))))
theorem ziD {Q : Value → Shared → Prop} (hv : s.heap.IsValuesView v d) (ho : s.heap.get? d = some od) (hdat : od.data = .dict es ep)
  (hQ : Q (.ref s.heap.objs.size) { s with heap := s.heap.push { cls := .type "dict_valueiterator", data := .fields #[.ref d, .int 0 0, .int es.size 0, .int ep 0] } }) : wpAny (model prog w) A (pyIter (.ref v)) Q E s := by
 obtain ⟨ov, e1, e2, e3⟩ := id hv
 refine wpAny_pyIter_slot hv.typeIs PySem.F.slot_dict_values_iter (wpAny_call_entry PySem.F.slot_dict_values_iter hv.typeIs PySem.F.entry_dict_values_iter ?_ (PySem.F.args_dict_values_iter_1 _))
 unfold Builtin.«dict_values.__iter__» Builtin.Dict_items.dictOf Builtin.Dict_items.newIterator
 refine wpAny_bind (wpAny_pure (wpAny_bind (wpAny_bind (wpAny_field e1 e3 (x := .ref d) rfl (wpAny_pure ?_)))))
 refine wpAny_bind (wpAny_bind (wpAny_dictEntries ho hdat (wpAny_bind (wpAny_dictEpoch ho hdat ?_))))
 simp only [show Builtin.Dict_items.ownsTuple "dict_valueiterator" = false from by decide, Bool.false_eq_true, if_false]
 refine wpAny_newObj_type (wpAny_pure ⟨_, rfl, "dict_valueiterator", _, ⟨_, Heap.get?_push_size _ rfl, rfl⟩, PySem.F.slot_dict_valueiterator_next.lookup, ?_⟩)
 simpa [rawInt] using hQ
theorem zfv {Q : Option Value → Shared → Prop} {x : Value} (hit : s.heap.IsValIter it d i es.size ep) (ho : s.heap.get? d = some od) (hdat : od.data = .dict es ep) (hx : es[i]?.map (·.val) = some x)
  (hQ : ∀ h', h'.IsValIter it d (i + 1) es.size ep → Heap.SameBut it s.heap h' → Q (some x) { s with heap := h' }) : wpAny (model prog w) A (pyNext (.ref it)) Q E s := by
 obtain ⟨oi, e1, e2, e3⟩ := id hit
 unfold pyNext
 refine wpAny_bind (wpAny_attempt (wpAny_callSpecial?_slot (name := Str.ofString "__next__") hit.typeIs PySem.F.slot_dict_valueiterator_next
  (wpAny_call_entry PySem.F.slot_dict_valueiterator_next hit.typeIs PySem.F.entry_dict_valueiterator_next ?_ (PySem.F.args_dict_valueiterator_next_1 _))))
 refine wpAny_bind (wpAny_pure (wpAny_bind (wpAny_bind ?_)))
 refine wpAny_bind (wpAny_typeNameOfWhole_valiter hit.typeIs (wpAny_pure (wpAny_bind (wpAny_fieldsOf e1 e3 ?_))))
 simp only [show Builtin.Dict_items.ownsTuple "dict_valueiterator" = false from by decide, Bool.false_eq_true, if_false]
 show wpAny _ _ (if (Value.ref d == Value.none) = true then _ else _) _ _ s
 rw [if_neg (show ¬ (Value.ref d == Value.none) = true from fun z => by cases z)]
 refine wpAny_bind (wpAny_pure (wpAny_bind (wpAny_dictEntries ho hdat ?_)))
 rw [if_neg (show ¬ _ from by simp)]
 refine wpAny_bind (wpAny_pure (wpAny_bind (wpAny_dictEpoch ho hdat ?_)))
 rw [if_neg (show ¬ _ from by simp)]
 refine wpAny_pure ?_
 obtain ⟨en, hen, rfl⟩ := Option.map_eq_some_iff.mp hx
 have hlt : i < es.size := (Array.getElem?_eq_some_iff.mp hen).1
 have hval : es[i] = en := (Array.getElem?_eq_some_iff.mp hen).2
 simp only [show ¬ ((i : Int) < 0) from by omega, if_false, Int.toNat_natCast, hen]
 refine wpAny_bind (wpAny_bind (wpAny_typeNameOfWhole_valiter hit.typeIs (wpAny_pure ?_)))
 refine wpAny_bind (wpAny_isOneOf_valiter hit.typeIs ?_)
 show wpAny _ _ (setField (.ref it) 1 (rawInt ((i : Int) + 1)) >>= _) _ _ s
 refine wpAny_bind (wpAny_setField e1 e3 (by simp) ?_)
 have hit' : (s.heap.update it (Obj.mapFields (·.setIfInBounds 1 (rawInt ((i : Int) + 1))))).IsValIter it d (i + 1) es.size ep :=
  ⟨_, Heap.get?_update_self _ e1 (Obj.isFreed_of_fields (Obj.data_mapFields e3 _)), (Obj.cls_mapFields ..).trans e2, by rw [Obj.data_mapFields e3]; simp [rawInt]⟩
 have hT' := Heap.IsValIter.typeIs (s := { s with heap := s.heap.update it (Obj.mapFields (·.setIfInBounds 1 (rawInt ((i : Int) + 1)))) }) hit'
 refine wpAny_bind (wpAny_holding (wpAny_bind (wpAny_isOneOf_valiter hT' (wpAny_bind (wpAny_isOneOf_valiter hT' ?_)))))
 refine (show wpAny _ _ (pure en.val) _ _ _ from wpAny_pure (wpAny_pure ⟨_, rfl, wpAny_pure (hQ _ hit' (Heap.SameBut.update ..))⟩))
theorem zf8 {Q : Option Value → Shared → Prop} (hh : A.handled = none) (hit : s.heap.IsValIter it d i es.size ep) (ho : s.heap.get? d = some od) (hdat : od.data = .dict es ep) (hx : es.size ≤ i)
  (hQ : ∀ h', Heap.ExtBut it s.heap h' → Q none { s with heap := h' }) : wpAny (model prog w) A (pyNext (.ref it)) Q E s := by
 obtain ⟨oi, e1, e2, e3⟩ := id hit
 unfold pyNext
 refine wpAny_bind (wpAny_attempt (wpAny_callSpecial?_slot (name := Str.ofString "__next__") hit.typeIs PySem.F.slot_dict_valueiterator_next
  (wpAny_call_entry PySem.F.slot_dict_valueiterator_next hit.typeIs PySem.F.entry_dict_valueiterator_next ?_ (PySem.F.args_dict_valueiterator_next_1 _))))
 refine wpAny_bind (wpAny_pure (wpAny_bind (wpAny_bind ?_)))
 refine wpAny_bind (wpAny_typeNameOfWhole_valiter hit.typeIs (wpAny_pure (wpAny_bind (wpAny_fieldsOf e1 e3 ?_))))
 simp only [show Builtin.Dict_items.ownsTuple "dict_valueiterator" = false from by decide, Bool.false_eq_true, if_false]
 show wpAny _ _ (if (Value.ref d == Value.none) = true then _ else _) _ _ s
 rw [if_neg (show ¬ (Value.ref d == Value.none) = true from fun z => by cases z)]
 refine wpAny_bind (wpAny_pure (wpAny_bind (wpAny_dictEntries ho hdat ?_)))
 rw [if_neg (show ¬ _ from by simp)]
 refine wpAny_bind (wpAny_pure (wpAny_bind (wpAny_dictEpoch ho hdat ?_)))
 rw [if_neg (show ¬ _ from by simp)]
 refine wpAny_pure ?_
 simp only [show ¬ ((i : Int) < 0) from by omega, if_false, Int.toNat_natCast, Array.getElem?_eq_none hx]
 refine wpAny_bind (wpAny_bind (wpAny_typeNameOfWhole_valiter hit.typeIs (wpAny_pure ?_)))
 show wpAny _ _ (setField (.ref it) 0 .none >>= _) _ _ s
 refine wpAny_bind (wpAny_setField e1 e3 (by simp) ?_)
 show wpAny _ _ (newExc (.type "StopIteration") [] >>= _) _ _ _
 simp only [newExc, newTuple]
 refine wpAny_bind (wpAny_bind (wpAny_newObj_type ?_ (by size_fits)))
 refine wpAny_bind (m := firstArgMember _ _) (wpAny_of_eq (a := Value.none) (by first | rfl | (simp only [firstArgMember]; rfl)) (wpAny_newObj_type ?_ (by size_fits)))
 simp only [raiseNew]
 refine wpAny_bind (wpAny_handled ?_)
 rw [show A.in1.handled = none from hh]
 refine wpAny_bind (wpAny_pure (wpAny_throw ?_))
 refine (wpAny_bind (wpAny_isInstance (T := "StopIteration") (b := true) ⟨_, Heap.get?_push_size _ rfl, rfl⟩ isSubtype_stop ?_))
 refine wpAny_pure (hQ _ ?_)
 exact ((Heap.SameBut.update ..).extBut.push _).push _
end
def Itw (d : Addr) (od : Obj) (xs : BXs) : It :=
 ⟨fun i H => i < xs.length ∧ H d = some (kn d od), fun i H x H' => H' = H ∧ ∃ k a v, xs[i]? = some (k, a, Value.ref v) ∧ x = .ref v, fun i H => i = xs.length ∧ H d = some (kn d od)⟩
theorem zfn {P : Program} {w : World} {es : Array DictEntry} {xs : BXs} (h : es.toList = xs.map (entryOfKey (tupleKind (zfu P w)))) : es.size = xs.length ∧ ∀ (i : Nat) (x : List Bool × Addr × Value), xs[i]? = some x → es[i]?.map (·.val) = some x.2.2 := by
 refine ⟨by rw [← Array.length_toList, h, List.length_map], fun i x e => ?_⟩
 rw [← Array.getElem?_toList, h, List.getElem?_map, e]
 rfl
theorem ziK {P : Program} {w : World} {K : PySem.W.Frag} {tg : Expr} {od : Obj} {es : Array DictEntry} {ep : Nat} {xs : BXs} (d it : Addr) (hdat : od.data = .dict es ep) (hes : es.toList = xs.map (entryOfKey (tupleKind (zfu P w)))) (hrf : ∀ x ∈ xs, ∃ v, x.2.2 = Value.ref v) :
  Turn P w K tg (Itw d od xs) [it] it (fun i h => h.IsValIter it d i es.size ep) where
 mem := by simp
 obj := fun i h st b hb => by
  have e : b = it := by simpa using hb
  subst e
  obtain ⟨o, e, c, dd⟩ := st
  exact ⟨o, e, fun v z => by rw [dd] at z; cases z⟩
 keep := fun i h h' st k => st.at fun o e => k it (by simp) o e
 item := by
  intro X hP hw hK hc i pins s σ H E I hf st hg
  subst hP hw hK
  obtain ⟨hi, hd⟩ := hg
  have hx : xs[i]? = some xs[i] := List.getElem?_eq_getElem hi
  obtain ⟨v, ev⟩ := hrf _ (List.getElem_mem hi)
  have hval := (zfn hes).2 i _ hx
  rw [ev] at hval
  obtain ⟨f0, f1, f2, f3, f4, f5⟩ := hf it (by simp)
  refine zfv st (zfi I.hok hd) hdat hval fun h' st' sb => ?_
  have I1 : Inv X pins σ H { s with heap := h' } := I.turned (t' := s.toks) (fun b o hb e => (sb.2 b hb).trans e) f0 f1 f3 f4 f5
  obtain ⟨o, e, c, dd⟩ := id st'
  refine ⟨.ref v, rfl, zlQ (s := { s with heap := h' }) e c dd (by decide) ⟨.ref v, H, I1, rfl, ⟨rfl, xs[i].1, xs[i].2.1, v, ?_, rfl⟩, st', fun b hb => (hf b hb).1⟩⟩
  rw [hx, ← ev]
 done := by
  intro X hP hw hK hc i pins s σ H E I hf st hg
  subst hP hw hK
  obtain ⟨hi, hd⟩ := hg
  obtain ⟨f0, f1, f2, f3, f4, f5⟩ := hf it (by simp)
  exact zf8 (I.ok.hd hc) st (zfi I.hok hd) hdat (by rw [(zfn hes).1, hi]; exact Nat.le_refl _) fun h' eb => ⟨rfl, I.turned (t' := s.toks) (fun b o hb e => eb b o hb e) f0 f1 f3 f4 f5⟩
 self := fun _ _ _ _ _ st h => wpAny_pyIter_valiter st h
section
variable {X : Cx} {tg o : Expr} {apos cpos : Pos} {td : TE}
def zpB (P : Program) (w : World) (td : TE) : TI := fun σ H R => td σ H fun x H1 => ∃ d xs, x = .ref d ∧ BD P w H1 d xs ∧ (∀ x ∈ xs, ∃ v, x.2.2 = Value.ref v) ∧ ∀ od, H1 d = some (kn d od) → R (Itw d od xs) H1
theorem znk (ho : PE X o td) (hbase : attributeBase o "values" X.env (eval o X.env) = eval o X.env := by rfl) (hline : (apos.endLine == cpos.line) = true := by rfl) : PI X tg (.Call (.Attribute o "values" apos) [] [] cpos) (zpB X.prog X.w td) := by
 intro pins s σ H R I h
 refine wpAny_Call_method0_late hbase hline (thn (ho pins s σ H _ I h) fun v s1 ⟨x, H1, I1, r1, d, xs, ex, bd, hrf, q⟩ => ?_)
 subst ex
 obtain rfl : v = Value.ref d := r1
 have dd := bd.of I1.hok
 obtain ⟨hs, ⟨od, ed, hx, _, ⟨es, ep, h1, h2⟩, hn⟩, hk⟩ := id bd
 have hod := zfi I1.hok ed
 refine ⟨"dict", "dict.values", PySem.F.plainAttrs_dict, PySem.F.slot_dict_values, PySem.F.type_dict_values, dd.typeIs, fun b e => ?_, Calls.callWith_builtin rfl (PySem.evalArgs_none ?_)⟩
 ·cases e
  exact ⟨od, hod, hx.2.1⟩
 ·refine call_meetsIn PySem.F.slot_dict_values dd.typeIs PySem.F.entry_dict_values (PySem.F.args_dict_values_1 _) (ziC d hs) ⟨dd.typeIs, ?_⟩
  have I2 : Inv X pins σ H1 { s1 with heap := s1.heap.push { cls := .type "dict_values", data := .fields #[.ref d] } } := I1.kept (t' := s1.toks) fun b o e => Heap.get?_push_of_some _ e
  refine ziD (v := s1.heap.objs.size) ⟨_, Heap.get?_push_size _ rfl, rfl, rfl⟩ (zfi I2.hok ed) h1 ?_
  have I3 := I2.kept (t' := s1.toks) (h' := (s1.heap.push { cls := .type "dict_values", data := .fields #[.ref d] }).push { cls := .type "dict_valueiterator", data := .fields #[.ref d, .int 0 0, .int es.size 0, .int ep 0] }) fun b o e => Heap.get?_push_of_some _ e
  refine ⟨_, [(s1.heap.push { cls := .type "dict_values", data := .fields #[.ref d] }).objs.size], _, Itw d od xs, H1, rfl, I3, ziK d _ h1 h2 hrf, ⟨_, Heap.get?_push_size _ rfl, rfl, rfl⟩, fun b hb => ?_, q od ed⟩
  have e : b = (s1.heap.push { cls := .type "dict_values", data := .fields #[.ref d] }).objs.size := by simpa using hb
  subst e
  exact I2.fpOk (Nat.le_refl _) (I2.hok.fresh (Nat.le_refl _))
section
variable {P : Program} {w : World} {td ty tv : TE} {σ : St} {H : Hp} {Q : VK} {D : Ends}
theorem zjw (h : ty σ H fun y H1 => td σ H1 fun x H2 => ∃ a xs b kk, x = .ref a ∧ BD P w H2 a xs ∧ y = .ref b ∧ H2 b = some (.tup (kk.map V.bl)) ∧ Q (.bl (!(atKey xs kk).isSome)) H2) : ziV P w ty td σ H Q := h
theorem zna (h : td σ H fun x H1 => ty σ H1 fun y H2 => ∃ a xs b kk ka v, x = .ref a ∧ BD P w H2 a xs ∧ y = .ref b ∧ H2 b = some (.tup (kk.map V.bl)) ∧ atKey xs kk = some (ka, Value.ref v) ∧ Q (.ref v) H2) : zov P w td ty σ H Q := h
theorem zm9 (h : tv σ H fun v H1 => td σ H1 fun x H2 => ty σ H2 fun y H3 => ∃ a xs b kk va, v = .ref va ∧ x = .ref a ∧ BD P w H3 a xs ∧ y = .ref b ∧ H3 b = some (.tup (kk.map V.bl)) ∧ xs.length < 1000 ∧ ∀ o, BObj P w o (storedH xs kk b (.ref va)) → D.nx σ (upd H3 a (kn a o))) : zoE P w td ty tv D σ H := h
theorem zjv (h : ty σ H fun y H1 => td σ H1 fun x H2 => ∃ a o, x = .ref a ∧ DGet H2 a y o ∧ Q (.bl (!o.isSome)) H2) : ziT ty td σ H Q := h
theorem zk6 (h : td σ H fun x H1 => ∃ a, x = .ref a ∧ IsD H1 a ∧ ty σ H1 fun y H2 => ∃ o, DGet H2 a y o ∧ Q (o.getD .non) H2) : zmf td ty σ H Q := h
theorem zk4 (h : ∀ p, H p = none → Q (.ref p) (upd H p (.dT []))) : zmc σ H Q := h
theorem zk5 (h : ∀ p, H p = none → (p == sysModules) = false → Q (.ref p) (upd H p (kn p { cls := .type "dict", data := .dict #[] }))) : zme σ H Q := h
theorem zoR {ta : TE} (h : ta σ H fun x H1 => Q (.bl (decide (x = .non))) H1) : tIsN ta σ H Q := h
theorem zmR {ta : TE} (h : ta σ H fun x H1 => Q (.bl (!decide (x = .non))) H1) : zoq ta σ H Q := h
end
theorem zk8 {P : Program} {w : World} {k : Nat} {caps : List Nat} {g : TG} {ts : TT} {te : TE} {σ : St} {H : Hp} {Q : VK} (h : td σ H fun x H1 => ∃ d xs, x = .ref d ∧ BD P w H1 d xs ∧ (∀ x ∈ xs, ∃ v, x.2.2 = Value.ref v) ∧ ∀ od, H1 d = some (kn d od) → ∀ D, H1 D = none →
   ∃ W : Nat → Nat → List V → Hp → Prop, (∃ m, W 0 m [] (upd H1 D (.lst []))) ∧ ∀ i m ys H2, W i m ys H2 →
    ((Itw d od xs).stop i H2 ∧ Q (.ref D) H2) ∨ ((Itw d od xs).go i H2 ∧ ∀ x H3, (Itw d od xs).yld i H2 x H3 → g x (zbu k caps σ) H3 fun σ4 H4 => ts σ4 H4 fun b H5 =>
     if b = true then te σ4 H5 fun y H6 => ∃ zs, H6 D = some (.lst zs) ∧ zs.length < sizeLine ∧ ∃ m', m' < m ∧ W (i + 1) m' (ys ++ [y]) (upd H6 D (.lst (zs ++ [y])))
     else ∃ m', m' < m ∧ W (i + 1) m' ys H5)) : zfy k caps (zpB P w td) g ts te σ H Q := h
end
end L2
set_option Elab.async false
set_option linter.all false
set_option maxRecDepth 100000
set_option maxHeartbeats 4000000
namespace L2
open PySem PySem.Spec PyProof.Rows
def zf0 (kf : Nat → Int) : Option (Nat × Value × Tok) → Array Value
 | none => #[]
 | some (i, v, t) => #[v, .int (kf i) t]
def zhL : Option Addr → Value
 | none => .none
 | some q => .ref q
abbrev lstO (xs : Array Value) (c : Nat) : Obj := { cls := .type "list", data := .seq xs c }
section
variable {X : Cx} {pins : List (Addr × Obj)} {σ : St} {H : Hp} {l q : Addr} {xs : List V} {kf : Nat → Int} {kq : Option Addr} {kw : List (Str × Value)} {R : Result → Shared → Prop}
def zkN (X : Cx) (pins : List (Addr × Obj)) (σ : St) (H : Hp) (xs : List V) (kf : Nat → Int) : Option Addr → Prop
 | none => ∀ (i : Nat) (x : V), xs[i]? = some x → x = .int (kf i)
 | some q => ∀ (i : Nat) (x : V) (u : Value) (s : Shared), xs[i]? = some x → RelV x u → Inv X pins σ H s → wpAny (model X.prog X.w) X.A.in1 (call (.ref q) [u]) (fun val s' => ∃ t, val = .int (kf i) t ∧ Inv X pins σ H s' ∧ ∀ b o, FpOk X pins H b → s.heap.get? b = some o → s'.heap.get? b = some o) (fun _ _ => False) s
theorem zlF (hc : X.calm = true) (hq : SqL X.K H l xs) (hk : zkN X pins σ H xs kf kq) {I S : Addr} (fI : FpOk X pins H I) (fS : FpOk X pins H S) (hIS : I ≠ S)
  (hE : xs = [] → ∀ s, Inv X pins σ H s → ∃ d, kw = [(Str.ofString "default", d)] ∧ R (.ok (.ret d)) s)
  (hR : ∀ (i : Nat) (x : V) (v : Value) (s : Shared), xs[i]? = some x → RelV x v → (∀ j, j < xs.length → kf j ≤ kf i) → Inv X pins σ H s → R (.ok (.ret v)) s) :
  ∀ (r j : Nat) (b : Option (Nat × Value × Tok)) (s : Shared) (c : Nat), xs.length - j = r → j ≤ xs.length → Inv X pins σ H s → s.heap.IsListIter I l j → s.heap.get? S = some (lstO (zf0 kf b) c) →
   (b = none ↔ j = 0) → (∀ i v t, b = some (i, v, t) → ∃ x, xs[i]? = some x ∧ RelV x v ∧ ∀ j', j' < j → kf j' ≤ kf i) →
   codeAny (model X.prog X.w) X.A (.builtin "max.loop" ⟨[.ref I, zhL kq, .ref S], kw⟩) R s := by
 have hname : (toString "max" ++ toString ".loop" : String) = "max.loop" := by decide
 intro r
 induction r with
 | zero =>
  intro j b s c hr hj J hit hS hb0 hb
  have hje : j = xs.length := by omega
  obtain ⟨its, rv, p, hz⟩ := J.list hq
  have hl := rv.length
  refine codeAny_builtin PySem.F.entry_max_loop ?_
  rw [Around.under_plainId PySem.F.plain_max_loop _]
  show wpAny _ X.A.in1 (seqItems? (.ref S) >>= _) _ _ _
  refine wpAny_bind (wpAny_seqItems hS rfl ?_)
  show wpAny _ X.A.in1 (tryCatch (pyNext (.ref I)) _ >>= _) _ _ _
  refine wpAny_bind (wpAny_tryCatch (wpAny_pyNext_list_end (J.ok.hd hc) hit p.isList (by simp; omega) fun h' eb => ?_))
  obtain ⟨f0, f1, f2, f3, f4, f5⟩ := fI
  have J1 : Inv X pins σ H { s with heap := h' } := J.turned (t' := s.toks) (fun b o hb e => eb b o hb e) f0 f1 f3 f4 f5
  have hS1 := eb S _ (Ne.symm hIS) hS
  cases b with
  | none =>
   have hx : xs = [] := List.length_eq_zero_iff.mp (by rw [← hje]; exact hb0.mp rfl)
   obtain ⟨d, rfl, hd⟩ := hE hx _ J1
   exact wpAny_bind (wpAny_rule (wpAny_pure hd))
  | some bb =>
   obtain ⟨i, v, t⟩ := bb
   obtain ⟨x, hx, rx, hm⟩ := hb i v t rfl
   show wpAny _ X.A.in1 (updateSeq S (fun _ => #[]) >>= _) _ _ _
   refine wpAny_bind (wpAny_updateSeq (hz := (by show 2 ≤ sizeLine; decide)) hS1 rfl (wpAny_bind (wpAny_letGo (wpAny_pure ?_))))
   have s1 := Heap.SameBut.update h' S (Obj.mapSeq fun _ => (#[] : Array Value))
   obtain ⟨g0, g1, g2, g3, g4, g5⟩ := fS
   exact hR i x v _ hx rx (fun j' hj' => hm j' (by omega)) (J1.turned (t' := s.toks) (fun b o hb e => (s1.2 b hb).trans e) g0 g1 g3 g4 g5)
 | succ r ih =>
  intro j b s c hr hj J hit hS hb0 hb
  have hlt : j < xs.length := by omega
  obtain ⟨its, rv, p, hz⟩ := J.list hq
  have hx : xs[j]? = some xs[j] := List.getElem?_eq_getElem hlt
  obtain ⟨u, hu, ru⟩ := rv.get hx
  generalize xs[j] = x at hx ru
  refine codeAny_builtin PySem.F.entry_max_loop ?_
  rw [Around.under_plainId PySem.F.plain_max_loop _]
  show wpAny _ X.A.in1 (seqItems? (.ref S) >>= _) _ _ _
  refine wpAny_bind (wpAny_seqItems hS rfl ?_)
  show wpAny _ X.A.in1 (tryCatch (pyNext (.ref I)) _ >>= _) _ _ _
  refine wpAny_bind (wpAny_tryCatch (wpAny_pyNext_list_item hit p.isList (x := u) (by simpa using hu) fun h' hit' sb => ?_))
  have fI' := fI
  obtain ⟨f0, f1, f2, f3, f4, f5⟩ := fI'
  have J1 : Inv X pins σ H { s with heap := h' } := J.turned (t' := s.toks) (fun b o hb e => (sb.2 b hb).trans e) f0 f1 f3 f4 f5
  have hS1 : h'.get? S = some (lstO (zf0 kf b) c) := (sb.2 S (Ne.symm hIS)).trans hS
  obtain ⟨oI, hoI, hoc, hod⟩ := id hit'
  have upd : ∀ (t2 : Tok) (s2 : Shared), Inv X pins σ H s2 → s2.heap.get? I = some oI → s2.heap.get? S = some (lstO (zf0 kf b) c) → (∀ i v t, b = some (i, v, t) → kf i ≤ kf j) → codeAny (model X.prog X.w) X.A (.builtin "max.loop" ⟨[.ref I, zhL kq, .ref S], kw⟩) R { s2 with heap := s2.heap.update S (Obj.mapSeq fun _ => #[u, .int (kf j) t2]) } := by
   intro t2 s2 J2 hI2 hS2 hle
   have s1 := Heap.SameBut.update s2.heap S (Obj.mapSeq fun _ => #[u, .int (kf j) t2])
   obtain ⟨g0, g1, g2, g3, g4, g5⟩ := fS
   have J3 : Inv X pins σ H { s2 with heap := s2.heap.update S (Obj.mapSeq fun _ => #[u, .int (kf j) t2]) } := J2.turned (t' := s2.toks) (fun b o hb e => (s1.2 b hb).trans e) g0 g1 g3 g4 g5
   refine ih (j + 1) (some (j, u, t2)) _ _ (by omega) hlt J3 ⟨oI, (s1.2 I hIS).trans hI2, hoc, hod⟩ (get?_update_seq hS2 fun _ => #[u, .int (kf j) t2]) ⟨(fun z => by cases z), fun z => by omega⟩ fun i v t e => ?_
   cases e
   refine ⟨x, hx, ru, fun j' hj' => ?_⟩
   by_cases ej : j' = j
   ·rw [ej]; exact Int.le_refl _
   ·cases hbb : b with
    | none => have := hb0.mp hbb; omega
    | some bb =>
     obtain ⟨i', v', t'⟩ := bb
     obtain ⟨_, _, _, hm⟩ := hb i' v' t' hbb
     exact Int.le_trans (hm j' (by omega)) (hle i' v' t' hbb)
  have stay : ∀ (s2 : Shared), Inv X pins σ H s2 → s2.heap.get? I = some oI → s2.heap.get? S = some (lstO (zf0 kf b) c) → (∀ i v t, b = some (i, v, t) → kf j ≤ kf i) → b ≠ none → codeAny (model X.prog X.w) X.A (.builtin "max.loop" ⟨[.ref I, zhL kq, .ref S], kw⟩) R s2 := by
   intro s2 J2 hI2 hS2 hle hbn
   refine ih (j + 1) b s2 c (by omega) hlt J2 ⟨oI, hI2, hoc, hod⟩ hS2 ⟨fun z => absurd z hbn, fun z => by omega⟩ fun i v t e => ?_
   obtain ⟨x', hx', rx', hm⟩ := hb i v t e
   refine ⟨x', hx', rx', fun j' hj' => ?_⟩
   by_cases ej : j' = j
   ·rw [ej]; exact hle i v t e
   ·exact hm j' (by omega)
  cases kq with
  | none =>
   have ex := hk j x hx
   subst ex
   obtain ⟨t2, rfl⟩ := ru
   cases b with
   | none =>
    show wpAny _ X.A.in1 (updateSeq S (fun _ => #[.int (kf j) t2, .int (kf j) t2]) >>= _) _ _ _
    refine wpAny_bind (wpAny_updateSeq (hz := (by show 0 ≤ sizeLine; decide)) hS1 rfl ?_)
    rw [hname]
    exact wpAny_pure ⟨plainId_quiet PySem.F.plain_max_loop _, upd t2 _ J1 hoI hS1 fun _ _ _ z => by cases z⟩
   | some bb =>
    obtain ⟨i', v', t'⟩ := bb
    show wpAny _ X.A.in1 (tryCatch (holding [.int (kf j) t2, .int (kf j) t2] (richCompare .Gt (.int (kf j) t2) (.int (kf i') t') >>= _)) _ >>= _) _ _ _
    refine wpAny_bind (wpAny_tryCatch (wpAny_holding (wpAny_bind (CmpOf.ints_gt (prog := X.prog) (w := X.w) (A := X.A.in1) (P := fun i v => ∃ t, v = .int (kf i) t) kf (fun i v h => h) j i' _ _ _ _ _ ⟨t2, rfl⟩ ⟨t', rfl⟩ ?_))))
    refine wpAny_bind (wpAny_holding (wpAny_truthy_bool (wpAny_bind (wpAny_letGo (wpAny_pure ?_)))))
    by_cases hgt : kf j > kf i'
    ·simp only [hgt, decide_true, if_true]
     refine wpAny_bind (wpAny_updateSeq (hz := (by show 2 ≤ sizeLine; decide)) hS1 rfl (wpAny_bind (wpAny_letGo ?_)))
     rw [hname]
     exact wpAny_pure ⟨plainId_quiet PySem.F.plain_max_loop _, upd t2 _ J1 hoI hS1 fun _ _ _ z => by cases z; omega⟩
    ·simp only [hgt, decide_false, Bool.false_eq_true, if_false]
     refine wpAny_bind (wpAny_letGo ?_)
     rw [hname]
     exact wpAny_pure ⟨plainId_quiet PySem.F.plain_max_loop _, stay _ J1 hoI hS1 (fun _ _ _ z => by cases z; omega) (by intro z; cases z)⟩
  | some q =>
   show wpAny _ X.A.in1 (tryCatch (holding [u] (call (.ref q) [u])) _ >>= _) _ _ _
   refine wpAny_bind (wpAny_tryCatch (wpAny_holding (wpAny_mono (hk j x u _ hx ru J1) (fun val s2 hv => ?_) fun _ _ z => z.elim)))
   obtain ⟨t2, rfl, J2, hkeep⟩ := hv
   have hI2 := hkeep I _ fI hoI
   have hS2 := hkeep S _ fS hS1
   cases b with
   | none =>
    show wpAny _ X.A.in1 (updateSeq S (fun _ => #[u, .int (kf j) t2]) >>= _) _ _ _
    refine wpAny_bind (wpAny_updateSeq (hz := (by show 0 ≤ sizeLine; decide)) hS2 rfl ?_)
    rw [hname]
    exact wpAny_pure ⟨plainId_quiet PySem.F.plain_max_loop _, upd t2 _ J2 hI2 hS2 fun _ _ _ z => by cases z⟩
   | some bb =>
    obtain ⟨i', v', t'⟩ := bb
    show wpAny _ X.A.in1 (tryCatch (holding [u, .int (kf j) t2] (richCompare .Gt (.int (kf j) t2) (.int (kf i') t') >>= _)) _ >>= _) _ _ _
    refine wpAny_bind (wpAny_tryCatch (wpAny_holding (wpAny_bind (CmpOf.ints_gt (prog := X.prog) (w := X.w) (A := X.A.in1) (P := fun i v => ∃ t, v = .int (kf i) t) kf (fun i v h => h) j i' _ _ _ _ _ ⟨t2, rfl⟩ ⟨t', rfl⟩ ?_))))
    refine wpAny_bind (wpAny_holding (wpAny_truthy_bool (wpAny_bind (wpAny_letGo (wpAny_pure ?_)))))
    by_cases hgt : kf j > kf i'
    ·simp only [hgt, decide_true, if_true]
     refine wpAny_bind (wpAny_updateSeq (hz := (by show 2 ≤ sizeLine; decide)) hS2 rfl (wpAny_bind (wpAny_letGo ?_)))
     rw [hname]
     exact wpAny_pure ⟨plainId_quiet PySem.F.plain_max_loop _, upd t2 _ J2 hI2 hS2 fun _ _ _ z => by cases z; omega⟩
    ·simp only [hgt, decide_false, Bool.false_eq_true, if_false]
     refine wpAny_bind (wpAny_letGo ?_)
     rw [hname]
     exact wpAny_pure ⟨plainId_quiet PySem.F.plain_max_loop _, stay _ J2 hI2 hS2 (fun _ _ _ z => by cases z; omega) (by intro z; cases z)⟩
theorem ze1 (a v : Value) : argsOk "max" ⟨[a], [(Str.ofString "default", v)]⟩ := by unfold argsOk; kernel_rfl
theorem zgr (hc : X.calm = true) {s : Shared} (J : Inv X pins σ H s) (hq : SqL X.K H l xs) (hk : zkN X pins σ H xs kf kq)
  (hE : xs = [] → ∀ s, Inv X pins σ H s → ∃ d, kw = [(Str.ofString "default", d)] ∧ R (.ok (.ret d)) s)
  (hR : ∀ (i : Nat) (x : V) (v : Value) (s : Shared), xs[i]? = some x → RelV x v → (∀ j, j < xs.length → kf j ≤ kf i) → Inv X pins σ H s → R (.ok (.ret v)) s) {oI : Obj} (hoI : oI = { cls := .type "list_iterator", data := .fields #[.ref l, .int 0 0] }) :
  codeAny (model X.prog X.w) X.A (.builtin "max.loop" ⟨[.ref s.heap.objs.size, zhL kq, .ref (s.heap.push oI).objs.size], kw⟩) R { s with heap := (s.heap.push oI).push (lstO #[] 0) } := by
 subst hoI
 have J1 : Inv X pins σ H { s with heap := s.heap.push { cls := .type "list_iterator", data := .fields #[.ref l, .int 0 0] } } := J.kept (t' := s.toks) fun b o e => Heap.get?_push_of_some _ e
 have J2 := J1.kept (t' := s.toks) (h' := (s.heap.push { cls := .type "list_iterator", data := .fields #[.ref l, .int 0 0] }).push (lstO #[] 0)) fun b o e => Heap.get?_push_of_some _ e
 have hsz : (s.heap.push { cls := .type "list_iterator", data := .fields #[.ref l, .int 0 0] }).objs.size = s.heap.objs.size + 1 := Heap.size_push _ _
 have fI : FpOk X pins H s.heap.objs.size := J.fpOk (Nat.le_refl _) (J.hok.fresh (Nat.le_refl _))
 have fS : FpOk X pins H (s.heap.push { cls := .type "list_iterator", data := .fields #[.ref l, .int 0 0] }).objs.size := J1.fpOk (Nat.le_refl _) (J1.hok.fresh (Nat.le_refl _))
 refine zlF hc hq hk fI fS (by rw [hsz]; exact Nat.ne_of_lt (Nat.lt_succ_self _)) hE hR xs.length 0 none _ 0 rfl (Nat.zero_le _) J2 ⟨_, Heap.get?_push_of_some _ (Heap.get?_push_size _ rfl), rfl, rfl⟩ (Heap.get?_push_size _ rfl) ⟨fun _ => rfl, fun _ => rfl⟩ fun i v t z => by cases z
theorem zhd (hc : X.calm = true) {s : Shared} {Q : Value → Shared → Prop} {E : Value → Shared → Prop} (J : Inv X pins σ H s) (hq : SqL X.K H l xs) (hk : zkN X pins σ H xs kf (some q)) (hne : xs ≠ [])
  (hR : ∀ (i : Nat) (x : V) (v : Value) (s : Shared), xs[i]? = some x → RelV x v → (∀ j, j < xs.length → kf j ≤ kf i) → Inv X pins σ H s → Q v s) :
  wpAny (model X.prog X.w) X.A (call (.builtin "max") [.ref l] [(Str.ofString "key", .ref q)]) Q E s := by
 have hname : (toString "max" ++ toString ".loop" : String) = "max.loop" := by decide
 obtain ⟨its, rv, p, hz⟩ := J.list hq
 refine PyProof.Rows.kmk_tree PySem.F.kind_max PySem.F.plain_max PySem.F.entry_max (PyProof.Rows.kmk_max_key _ _) ?_
 show wpAny _ X.A.in1 (Builtin.Builtins.bindParams "max" ["key", "default"] 0 ⟨[], [(Str.ofString "key", .ref q)]⟩ >>= _) _ _ s
 refine wpAny_bind (wpAny_of_eq (show Builtin.Builtins.bindParams "max" ["key", "default"] 0 ⟨[], [(Str.ofString "key", .ref q)]⟩ = pure [some (.ref q), none] from rfl) (wpAny_bind (wpAny_pure ?_)))
 refine wpAny_bind (wpAny_pyIter_list p.isList (wpAny_bind (wpAny_newList ?_ (Nat.zero_le _))))
 rw [hname]
 exact wpAny_pure ⟨plainId_quiet PySem.F.plain_max_loop _, zgr (kq := some q) (kw := []) hc J hq hk (fun z => absurd z hne) hR rfl⟩
theorem zhe (hc : X.calm = true) {s : Shared} {d : Value} {Q : Value → Shared → Prop} {E : Value → Shared → Prop} (J : Inv X pins σ H s) (hq : SqL X.K H l xs) (hk : zkN X pins σ H xs kf none)
  (hE : xs = [] → ∀ s, Inv X pins σ H s → Q d s)
  (hR : ∀ (i : Nat) (x : V) (v : Value) (s : Shared), xs[i]? = some x → RelV x v → (∀ j, j < xs.length → kf j ≤ kf i) → Inv X pins σ H s → Q v s) :
  wpAny (model X.prog X.w) X.A (call (.builtin "max") [.ref l] [(Str.ofString "default", d)]) Q E s := by
 have hname : (toString "max" ++ toString ".loop" : String) = "max.loop" := by decide
 obtain ⟨its, rv, p, hz⟩ := J.list hq
 refine PyProof.Rows.kmk_tree PySem.F.kind_max PySem.F.plain_max PySem.F.entry_max (ze1 _ _) ?_
 show wpAny _ X.A.in1 (Builtin.Builtins.bindParams "max" ["key", "default"] 0 ⟨[], [(Str.ofString "default", d)]⟩ >>= _) _ _ s
 refine wpAny_bind (wpAny_of_eq (show Builtin.Builtins.bindParams "max" ["key", "default"] 0 ⟨[], [(Str.ofString "default", d)]⟩ = pure [none, some d] from rfl) (wpAny_bind (wpAny_pure ?_)))
 refine wpAny_bind (wpAny_pyIter_list p.isList (wpAny_bind (wpAny_newList ?_ (Nat.zero_le _))))
 rw [hname]
 exact wpAny_pure ⟨plainId_quiet PySem.F.plain_max_loop _, zgr (kq := none) (kw := [(Str.ofString "default", d)]) hc J hq hk (fun z s J => ⟨d, rfl, hE z s J⟩) hR rfl⟩
end
end L2
set_option Elab.async false
set_option linter.all false
set_option maxRecDepth 100000
set_option maxHeartbeats 4000000
namespace L2
open PySem PySem.Spec PyProof.Rows
abbrev known (o : Obj) : HO := .frz o (.ext fun _ => True)
section
variable {P : Program} {w : World} {H H' : Hp} {h h' : Heap} {a b c : Addr} {o : Obj} {v u : HO}
theorem zfS (e : h.get? a = some o) : zbD P w H h a (known o) := ⟨e, trivial, ⟨o, e⟩, fun _ _ _ _ => trivial⟩
theorem HOk.knw (x : HOk P w H h) (e : H a = some (known o)) : h.get? a = some o := (x a _ e).1
end
section
variable {X : Cx} {k j i : Nat} {f c : Addr} {fd : FuncData} {ps : List Str} {sp : Sp} {x y : Str} {p pos : Pos} {e : Expr} {es : List Expr} {t : TA}
def FnAt (K : PySem.W.Frag) (H : Hp) (f : Addr) : Prop := PySem.W.keepIn K (.ref f) = true ∨ ∃ o fd, H f = some (known o) ∧ o.data = .func fd
end
def zoj (qual : Str) (oc : Obj) : Prop := ∃ vs t, oc.data = .fields vs ∧ vs[1]? = some (.str qual t)
def zbP (T : Addr) (qual : Str) (pos : Pos) (H : Hp) : Prop := ∃ ps, H T = some (.tbl ps) ∧ (ps = #[] ∨ ∃ (c : Addr) (oc : Obj), ps = #[rawInt pos.line, rawInt pos.col, .ref c] ∧ H c = some (known oc) ∧ zoj qual oc)
def SamT (T : Addr) (H H' : Hp) : Prop := ∀ b o, b ≠ T → H b = some o → H' b = some o
abbrev zj6 (qual : Str) (params : Arguments) (body : Expr) (scope : Scope) (cl : List (Str × Addr)) (pm : Value) (c : Addr) (ctv : Value) : FuncData := PySem.W.kla_fn "<lambda>" qual params body scope cl pm (.ref c) ctv
def Clo (qual : Str) (params : Arguments) (body : Expr) (scope : Scope) (cl : List (Str × Addr)) (fd : FuncData) (H : Hp) (f : Addr) : Prop :=
 ∃ (pm ctv : Value) (c : Addr) (oc : Obj), fd = zj6 qual params body scope cl pm c ctv ∧ H f = some (known { cls := .type "function", data := .func fd }) ∧ H c = some (known oc) ∧ zoj qual oc
def zgR (mg : Str → Option Value) (base : Heap) : Prop := ∃ bm ob, mg "__builtins__" = some (.ref bm) ∧ bm ≠ builtinsNs ∧ base.get? bm = some ob ∧ ob.cls = .type "module" ∧ ob.dict = some builtinsNs ∧ ob.data = .plain
theorem SamT.refl (T : Addr) (H : Hp) : SamT T H H := fun _ _ _ h => h
theorem SamT.trans {T : Addr} {H H1 H2 : Hp} (a : SamT T H H1) (b : SamT T H1 H2) : SamT T H H2 := fun c o n h => b c o n (a c o n h)
theorem Same.samT {T : Addr} {H H' : Hp} (a : Same H H') : SamT T H H' := fun c o _ h => a c o h
theorem zbP.mono {T : Addr} {qual : Str} {pos : Pos} {H H' : Hp} (h : zbP T qual pos H) (S : Same H H') : zbP T qual pos H' := by
 obtain ⟨ps, e, z⟩ := h
 refine ⟨ps, S _ _ e, ?_⟩
 rcases z with z | ⟨c, oc, z, h1, h2⟩
 ·exact .inl z
 ·exact .inr ⟨c, oc, z, S _ _ h1, h2⟩
def tLam (T : Addr) (qual : Str) (pos : Pos) (params : Arguments) (body : Expr) (scope : Scope) (cl : List (Str × Addr)) : TE := fun _ H Q =>
 zbP T qual pos H ∧ ∀ (f : Addr) (fd : FuncData) (H' : Hp), SamT T H H' → zbP T qual pos H' → H f = none → Clo qual params body scope cl fd H' f → Q (.ref f) H'
section
variable {X : Cx}
theorem zo8 {params : Arguments} {body : Expr} {scope : Scope} {pos : Pos} {T cc : Addr} {cl : List (Str × Addr)} {qual : Str} (hdef : defaultsOf params X.env = ([], [])) (hq : X.env.qual ++ "<lambda>" = qual) (hcl : closureFor scope X.env = pure cl) (hcode : X.env.code = .ref cc) (C : PySem.W.CodeHd X.base cc T) (B : zgR X.mg X.base) :
  PE X (.Lambda params body scope pos) (tLam T qual pos params body scope cl) := by
 subst hq
 intro pins s σ H Q I h
 obtain ⟨⟨ps, hT, hps⟩, q⟩ := h
 refine PySem.W.kla_eval hdef ?_
 have hTs : s.heap.get? T = some (PySem.W.tabObj ps) := I.hok T _ hT
 have hgs := I.mod.glob.keeps I.bk
 have nT : ∀ b o, X.base.get? b = some o → b ≠ T := fun b o e z => by
  have := (I.bs b o e).2
  rw [z, hT] at this; cases this
 have hgT : mainGlobals ≠ T := by
  obtain ⟨o, es, ep, e, _⟩ := I.mod.glob
  exact nT _ o e
 have hb : s.heap.BuiltinsAt X.mg T := by
  obtain ⟨bm, ob, b1, b2, b3, b4, b5, b6⟩ := B
  refine ⟨bm, ob, b1, b2, fun z => ?_, nT _ ob b3, I.bk _ _ b3, b4, b5, b6⟩
  obtain ⟨o, es, ep, e, hd, _⟩ := I.mod.glob
  rw [z, e] at b3; cases b3; rw [hd] at b6; cases b6
 have hTl : T < s.heap.objs.size := Heap.lt_size hTs
 rcases hps with rfl | ⟨c, oc, rfl, hc, ho⟩
 ·refine PySem.W.kla_makeFunction (mg := X.mg) hcl I.ok.glob hgs hcode (C.keeps I.bk) hTs trivial rfl hgT hb fun c ctv h' tk hx hge hlt hrec htb => ?_
  obtain ⟨c₂, oc, vs, t, e2, hoc, hd, hv⟩ := hrec
  cases e2
  have fr : ∀ {b : Addr}, s.heap.objs.size ≤ b → H b = none := fun hb => I.hok.fresh hb
  have hc0 : H c = none := fr hge
  have hf0 : H h'.objs.size = none := fr (Nat.le_trans hge (Nat.le_of_lt hlt))
  have ncT : T ≠ c := Nat.ne_of_lt (Nat.lt_of_lt_of_le hTl hge)
  have nfT : T ≠ h'.objs.size := Nat.ne_of_lt (Nat.lt_of_lt_of_le hTl (Nat.le_trans hge (Nat.le_of_lt hlt)))
  have ncf : c ≠ h'.objs.size := Nat.ne_of_lt hlt
  let fo : Obj := PySem.W.kla_obj "<lambda>" (X.env.qual ++ "<lambda>") params body scope cl ((X.mg "__name__").getD .none) c ctv
  have kp : ∀ b o, b ≠ T → s.heap.get? b = some o → (h'.push fo).get? b = some o := fun b o n e => Heap.get?_push_of_some _ (hx b o n e)
  let tb : Array Value := #[] ++ #[rawInt pos.line, rawInt pos.col, .ref c]
  let H' : Hp := upd (upd (upd H T (.tbl tb)) c (known oc)) h'.objs.size (known fo)
  have atf : H' h'.objs.size = some (known fo) := zab
  have atc : H' c = some (known oc) := by show upd _ _ _ _ = _; rw [zai ncf]; exact zab
  have atT : H' T = some (.tbl tb) := by show upd _ _ _ _ = _; rw [zai nfT, zai ncT]; exact zab
  have els : ∀ b, b ≠ T → b ≠ c → b ≠ h'.objs.size → H' b = H b := fun b n1 n2 n3 => by show upd _ _ _ _ = _; rw [zai n3, zai n2, zai n1]
  have S : SamT T H H' := fun b o n e => by rw [els b n (zag e hc0) (zag e hf0)]; exact e
  have hTn : (h'.push fo).get? T = some (PySem.W.tabObj tb) := Heap.get?_push_of_some _ htb
  have un : Un X.fs [] H H' s.heap (h'.push fo) := by
   refine ⟨fun b ob z n hb hx => kp b ob (fun y => by rw [y, hT] at n; cases n) z, fun b ob z n hb hx => ⟨ob.slots, kp b ob (fun y => by rw [y, hT] at n; cases n) z⟩, fun b ob z n hx => ?_, fun b ob z hx => ?_, fun b xs z => S b _ (zch z hT (by intro y; cases y)) z, fun b ob xs z => S b _ (zch z hT (by intro y; cases y)) z, fun b xs z => ?_⟩
   ·have l := Heap.lt_size z
    rw [els b (fun y => by rw [y, hT] at n; cases n) (Nat.ne_of_lt (Nat.lt_of_lt_of_le l hge)) (Nat.ne_of_lt (Nat.lt_of_lt_of_le l (Nat.le_trans hge (Nat.le_of_lt hlt))))]
    exact n
   ·by_cases hb : b = T
    ·exact ⟨_, by rw [hb]; exact hTn⟩
    ·exact ⟨ob, kp b ob hb z⟩
   ·by_cases hb : b = T
    ·subst hb
     rw [hT] at z; cases z
     exact ⟨_, atT⟩
    ·exact ⟨#[], by rw [S b _ hb z]; simp⟩
  have hok : HOk X.prog X.w H' (h'.push fo) := fun b u z => by
   by_cases h1 : b = h'.objs.size
   ·subst h1; rw [atf] at z; cases z
    exact zfS (Heap.get?_push_size _ rfl)
   ·by_cases h2 : b = c
    ·subst h2; rw [atc] at z; cases z
     exact zfS (Heap.get?_push_of_some _ hoc)
    ·by_cases h3 : b = T
     ·subst h3; rw [atT] at z; cases z
      exact hTn
     ·rw [els b h3 h2 h1] at z
      refine (I.hok b u z).stay (fun y v hy e => kp y v ?_ e) (fun y e => S y _ (zch e hT (by intro z; cases z)) e) fun y xs e => S y _ (zch e hT (by intro z; cases z)) e
      rcases hy with rfl | hy
      ·exact h3
      ·exact zch hy hT (by intro z; cases z)
  exact ⟨.ref h'.objs.size, H', I.un un hok, rfl, q _ _ H' S ⟨tb, atT, .inr ⟨c, oc, by show #[] ++ _ = _; rw [Array.empty_append], atc, vs, t, hd, hv⟩⟩ hf0 ⟨_, _, c, oc, rfl, atf, atc, vs, t, hd, hv⟩⟩
 ·refine PySem.W.kla_makeFunctionHit (mg := X.mg) (cv := .ref c) hcl I.ok.glob hgs hcode (C.keeps I.bk) hTs (by simp [TriplesOk, rawInt]) (by simp [codeAmong, rawInt]) hb fun ctv h' tk hk hsz => ?_
  have hf0 : H h'.objs.size = none := I.hok.fresh hsz
  have S : Same H (upd H h'.objs.size (known { cls := .type "function", data := .func (zj6 (X.env.qual ++ "<lambda>") params body scope cl ((X.mg "__name__").getD .none) c ctv) })) := fun b o e => by rw [zai (zag e hf0)]; exact e
  refine ⟨.ref h'.objs.size, _, I.laid (fun b u e => Heap.get?_push_of_some _ (hk b u e)) hsz (o := known { cls := .type "function", data := .func (zj6 (X.env.qual ++ "<lambda>") params body scope cl ((X.mg "__name__").getD .none) c ctv) }) (zfS (Heap.get?_push_size _ rfl)), rfl, q _ _ _ S.samT (zbP.mono ⟨_, hT, .inr ⟨c, oc, rfl, hc, ho⟩⟩ S) hf0 ⟨_, _, c, oc, rfl, zab, S _ _ hc, ho⟩⟩
end
def zoa (P : Program) (w : World) (K : PySem.W.Frag) (mg : Str → Option Value) (base : Heap) (N : List Str) (qual : Str) (scope : Scope) (f : Addr) (cd : Value) (cl : List (Str × Addr)) (A : Around) (outer : List Env) (s : Shared) (H : Hp) : Cx where
 prog := P
 w := w
 K := K
 mg := mg
 base := base
 A := A.deeper (PySem.W.envX qual scope s.heap.objs.size f cd cl)
 N := N
 s₀ := s
 H₀ := H
 env := PySem.W.envX qual scope s.heap.objs.size f cd cl
 outer := outer
 stack := PySem.W.envX qual scope s.heap.objs.size f cd cl :: outer
 ex := []
 calm := true
 fn := fun _ => false
 pn := []
 xe := fun _ _ => False
theorem zeu {x : Str} {u : Value} : ∀ {ps : List Str} {us : List Value} {i : Nat}, ps.Nodup → ps[i]? = some x → us[i]? = some u → (ps.zip us).reverse.lookup x = some u
 | [], _, i, _, h, _ => by simp at h
 | _ :: _, [], i, _, _, h => by simp at h
 | p :: ps, v :: us, 0, nd, h1, h2 => by
  simp at h1 h2; subst h1; subst h2
  rw [List.zip_cons_cons, List.reverse_cons, List.lookup_append]
  have : (ps.zip us).reverse.lookup p = none := by
   rw [List.lookup_eq_none_iff]
   intro a ha
   rw [List.mem_reverse] at ha
   obtain ⟨a1, a2⟩ := a
   have := (List.of_mem_zip ha).1
   simp only [bne_iff_ne, ne_eq]
   rintro rfl
   exact (List.nodup_cons.mp nd).1 this
  rw [this]
  simp
 | p :: ps, v :: us, i + 1, nd, h1, h2 => by
  rw [List.zip_cons_cons, List.reverse_cons, List.lookup_append, zeu (i := i) (List.nodup_cons.mp nd).2 (by simpa using h1) (by simpa using h2)]
  rfl
end L2
set_option Elab.async false
set_option linter.all false
set_option maxRecDepth 100000
set_option maxHeartbeats 4000000
namespace L2
open PySem PySem.Spec PyProof.Rows
abbrev Tabs := List (Addr × Addr)
def zkO (h base : Heap) : Prop := ∀ b o, h.get? b = some o → (∀ xs n, o.data ≠ .seq xs n) → (∀ vs, o.data ≠ .fields vs) → base.get? b = some o
def zcr (ts : Tabs) (a : Addr) (u : Option HO) : Hp := fun b => if b ∈ ts.map (·.2) then some (.tbl #[]) else if b = a then u else none
theorem zkn {P : Program} {w : World} {K : PySem.W.Frag} {mg mb : Str → Option Value} {k : Nat} {fa a : Addr} {fd : FuncData} {x : Str} {sp : Sp} {s₁ : Shared} {vs : List Value} {ns : List Int} {ts : Tabs}
  (KX : K.In s₁.heap) (hns : s₁.heap.Ns mainGlobals mg) (hbn : s₁.heap.Ns builtinsNs mb) (hbb : ∀ x : Str, x ≠ "__name__" → mb x = bootBuiltins x) (hlim : s₁.heap.NoLimit) (hg : s₁.gens = #[]) (hT : PySem.W.TabsAt ts s₁.heap) (hnt : PySem.W.noTabs K = true) (hbm : zgR mg s₁.heap)
  (ha : s₁.heap.get? a = some { cls := .type "list", data := .seq vs.toArray }) (hi : IntsAre vs ns) (hl : ns.length ≤ sizeLine) (hr : Room k callerA)
  (F : ∀ base : Heap, K.In base → base.Ns mainGlobals mg → zgR mg base → (∀ q ∈ ts, PySem.W.CodeHd base q.1 q.2) → zkO s₁.heap base → FnOk P w K mg base CX0 k fa fd [x] sp) (hbind : ∀ (s : Shared) (u : Value), BindsTo s fd ⟨[u], []⟩ [(x, u)])
  (hsp : ∀ H : Hp, (∀ q ∈ ts, H q.2 = some (.tbl #[])) → SqL K H a (ns.map V.int) → sp [.ref a] H (fun v _ => v = .bl true) fun _ _ _ => False) :
  codeAny (model P w) callerA (.call (.ref fa) ⟨[.ref a], []⟩) (fun r s' => r = .ok (.ret (.bool true)) ∧ OldK s₁.heap s'.heap ∧ s'.os = s₁.os ∧ AllBare s'.gens) s₁ := by
 have rv := zf7 hi
 have lenV := hi.length
 have atTab : ∀ {b : Addr}, b ∈ ts.map (·.2) → s₁.heap.get? b = some (PySem.W.tabObj #[]) := fun hb => by
  obtain ⟨q, hq, rfl⟩ := List.mem_map.mp hb
  exact (hT q hq).2
 have naT : a ∉ ts.map (·.2) := fun z => by
  have := atTab z
  rw [ha] at this
  cases this
 have kT : ∀ {b : Addr} {o : Obj}, K.lookup b = some o → b ∉ ts.map (·.2) := fun {b o} e z => by
  have e1 := atTab z
  rw [KX b o e] at e1
  have h2 := List.all_eq_true.mp hnt (b, o) (PySem.W.mem_of_lookupK e)
  cases e1
  exact absurd (show false = true from h2) Bool.false_ne_true
 have core : ∀ u : Option HO, SqL K (zcr ts a u) a (ns.map V.int) → (∀ v, u = some v → ∃ ob xs, v = .frz ob (.lst xs)) → HOk P w (zcr ts a u) s₁.heap → (u ≠ none → K.lookup a = none) →
   codeAny (model P w) callerA (.call (.ref fa) ⟨[.ref a], []⟩) (fun r s' => r = .ok (.ret (.bool true)) ∧ OldK s₁.heap s'.heap ∧ s'.os = s₁.os ∧ AllBare s'.gens) s₁ := by
  intro u hS hu hok hK
  have tT : ∀ {b : Addr}, b ∈ ts.map (·.2) → zcr ts a u b = some (.tbl #[]) := fun hb => if_pos hb
  have tA : zcr ts a u a = u := by unfold zcr; rw [if_neg naT, if_pos rfl]
  have tN : ∀ {b : Addr}, b ∉ ts.map (·.2) → b ≠ a → zcr ts a u b = none := fun h1 h2 => by unfold zcr; rw [if_neg h1, if_neg h2]
  have un0 : ∀ {b : Addr} {o : Obj}, s₁.heap.get? b = some o → o.cls ≠ .none → o.cls ≠ .type "list" → zcr ts a u b = none := fun {b o} e h1 h2 => by
   refine tN (fun z => ?_) fun z => ?_
   ·have := atTab z; rw [e] at this; cases this; exact h1 rfl
   ·subst z; rw [ha] at e; cases e; exact h2 rfl
  have base_of : ∀ {b : Addr} {o : Obj}, s₁.heap.get? b = some o → zcr ts a u b = none → (hidT s₁.heap (zcr ts a u)).get? b = some o := fun e n => zlP e n
  have nsK : ∀ {b : Addr} {m : Str → Option Value}, s₁.heap.Ns b m → (hidT s₁.heap (zcr ts a u)).Ns b m := fun {b m} ⟨o, es, ep, e, d, r⟩ => by
   refine ⟨o, es, ep, base_of e (tN (fun z => ?_) fun z => ?_), d, r⟩
   ·have := atTab z; rw [e] at this; cases this; cases d
   ·subst z; rw [ha] at e; cases e; cases d
  have hKb : K.In (hidT s₁.heap (zcr ts a u)) := fun b o e => base_of (KX b o e) (by
   by_cases hb : b = a
   ·subst hb
    rw [tA]
    cases hu' : u with
    | none => rfl
    | some v => rw [hK (by rw [hu']; simp)] at e; cases e
   ·exact tN (kT e) hb)
  have hM : Mod K mg (hidT s₁.heap (zcr ts a u)) := ⟨hKb, nsK hns, ⟨mb, nsK hbn, hbb⟩, let ⟨mc, h1, h2⟩ := hlim; ⟨mc, nsK h1, h2⟩⟩
  have e0 : Env0 P w K mg (hidT s₁.heap (zcr ts a u)) callerA [] s₁ (zcr ts a u) := ⟨rfl, hM, fun b o e => znI e, Nat.le_of_eq (zkm _ _), trivial, fun b hb => absurd (show b ∈ ([] : List Addr) from hb) (by simp), hok, .of_eq hg⟩
  have hB : zgR mg (hidT s₁.heap (zcr ts a u)) := by
   obtain ⟨bm, ob, b1, b2, b3, b4, b5⟩ := hbm
   exact ⟨bm, ob, b1, b2, base_of b3 (un0 b3 (by rw [b4]; nofun) (by rw [b4]; intro z; injection z with z; exact absurd z (by decide))), b4, b5⟩
  have hC : ∀ q ∈ ts, PySem.W.CodeHd (hidT s₁.heap (zcr ts a u)) q.1 q.2 := fun q hq => by
   obtain ⟨o, vs, file, tf, flags, tg, inF, text, tt, e1, e2, r⟩ := (hT q hq).1
   exact ⟨o, vs, file, tf, flags, tg, inF, text, tt, base_of e1 (un0 e1 (by rw [e2]; nofun) (by rw [e2]; intro z; injection z with z; exact absurd z (by decide))), e2, r⟩
  have hKB : zkO s₁.heap (hidT s₁.heap (zcr ts a u)) := fun b o e h1 h2 => base_of e (tN (fun z => by
   have e2 := atTab z
   rw [e] at e2
   cases e2
   exact h2 _ rfl) fun z => by
   subst z
   rw [ha] at e
   cases e
   exact h1 _ _ rfl)
  refine codeAny_mono ((F _ hKb (nsK hns) hB hC hKB).run callerA [] s₁ (zcr ts a u) ⟨[.ref a], []⟩ [.ref a] [.ref a] _ _ hr e0 (hbind s₁ (.ref a)) (.cons rfl .nil) (hsp _ (fun q hq => tT (List.mem_map_of_mem hq)) hS)) fun r s' h => ?_
  cases r with
  | error e => exact False.elim h
  | ok fl =>
   cases fl with
   | next => exact False.elim h
   | brk => exact False.elim h
   | cont => exact False.elim h
   | ret u' =>
    obtain ⟨v, H', os, bare, un, hok', r', q⟩ := h
    have q' : v = .bl true := q
    subst q'
    obtain rfl : u' = Value.bool true := r'
    have nfs : ∀ b : Addr, b ∉ frs ([] : List Env) := fun b z => absurd (show b ∈ ([] : List Addr) from z) (by simp)
    have fin : ∀ b o, s₁.heap.get? b = some o → b ∉ ts.map (·.2) → s'.heap.get? b = some o := fun b o e hb => by
     by_cases hba : b = a
     ·subst hba
      cases hu' : u with
      | none => exact un.keep b o e (by rw [tA, hu']) (nfs b) (by simp)
      | some v =>
       obtain ⟨ob, xs, rfl⟩ := hu v hu'
       have z : zcr ts b u b = some (.frz ob (.lst xs)) := by rw [tA, hu']
       obtain ⟨e1, _⟩ := hok b _ z
       obtain ⟨e2, _⟩ := hok' b _ (un.frzs b ob _ z)
       rw [e] at e1; cases e1
       exact e2
     ·exact un.keep b o e (tN hb hba) (nfs b) (by simp)
    have grown : ∀ b o, s₁.heap.get? b = some o → b ∈ ts.map (·.2) → isCodeTable s₁.heap b ∧ o = PySem.W.tabObj #[] ∧ ∃ ps, s'.heap.get? b = some (PySem.W.tabObj ps) := fun b o e hb => by
     have hb' := hb
     obtain ⟨q, hq, rfl⟩ := List.mem_map.mp hb'
     have e2 := (hT q hq).2
     rw [e] at e2
     obtain ⟨more, e3⟩ := un.tbls q.2 #[] (tT hb)
     exact ⟨((hT q hq).1.tab (hT q hq).2).isCodeTable, Option.some.inj e2, _, hok' q.2 _ e3⟩
    refine ⟨rfl, ⟨fun b o e => ?_, fun b o e => ?_⟩, os, bare⟩
    ·by_cases hb : b ∈ ts.map (·.2)
     ·obtain ⟨ht, rfl, ps, hP⟩ := grown b o e hb
      exact .inr (.inl ⟨ht, rfl, #[], ps, rfl, by rw [Array.empty_append]; exact hP⟩)
     ·exact .inl (fin b o e hb)
    ·by_cases hb : b ∈ ts.map (·.2)
     ·obtain ⟨_, _, ps, hP⟩ := grown b o e hb
      exact ⟨_, hP⟩
     ·exact ⟨o, fin b o e hb⟩
 have okT : ∀ (u : Option HO) (b : Addr) (v : HO), zcr ts a u b = some v → (b ∈ ts.map (·.2) ∧ v = .tbl #[]) ∨ (b = a ∧ u = some v) := fun u b v z => by
  unfold zcr at z
  split at z
  ·cases z; exact .inl ⟨by assumption, rfl⟩
  ·split at z
   ·exact .inr ⟨by assumption, z⟩
   ·cases z
 cases hk : K.lookup a with
 | some o =>
  have e := KX a o hk
  rw [ha] at e
  cases e
  refine core none (.inr ⟨_, vs.toArray, _, hk, rfl, rfl, rfl, by rw [List.size_toArray, lenV]; exact hl, by simpa using rv⟩) (fun v z => by cases z) (fun b v z => ?_) fun z => absurd rfl z
  rcases okT none b v z with ⟨hb, rfl⟩ | ⟨_, z⟩
  ·exact atTab hb
  ·cases z
 | none =>
  refine core (some (.frz { cls := .type "list", data := .seq vs.toArray } (.lst (ns.map V.int)))) (.inl (.inr ⟨{ cls := .type "list", data := .seq vs.toArray }, by unfold zcr; rw [if_neg naT, if_pos rfl]⟩)) (fun v z => by cases z; exact ⟨_, _, rfl⟩) (fun b v z => ?_) fun _ => hk
  rcases okT _ b v z with ⟨hb, rfl⟩ | ⟨e1, e2⟩
  ·exact atTab hb
  ·subst e1
   cases e2
   exact ⟨ha, by rw [List.length_map]; exact hl, vs, _, rv, ha⟩
theorem ziB {l : PySem.W.OpenLaw} {n k : Nat} {q : Program} {loose : List Str} {XP : (Str → Option Value) → Heap → Prop} {YP : World → Heap → Prop} {d : DefRec} {K : Params → PySem.W.Frag} {x : Str}
  (hn : l.most = some n) (hn2 : n ≤ sizeLine) (hdf : d.params.defaults = []) (hr : Room k callerA)
  (hY : ∀ (w : World) (h : Heap), YP w h → (K w.params).In h)
  (F : ∀ (w : World) (mg : Str → Option Value) (fa : Addr) (h : Heap), YP w h → (K w.params).In h → h.Ns mainGlobals mg → mg d.name = some (.ref fa) → (∀ (x : Str) (C : Addr) (bmB : List Value) (newId : String), PySem.W.nsIn (K w.params) mainGlobals x = some (some (.ref C)) → PySem.W.excIn (K w.params) C bmB newId = true → OwnCls x C bmB newId mg h) →
   ∃ (fd : FuncData) (ts : Tabs) (sp : Sp), PySem.W.TabsAt ts h ∧ PySem.W.noTabs (K w.params) = true ∧ (∀ (s : Shared) (u : Value), BindsTo s fd ⟨[u], []⟩ [(x, u)]) ∧
    (∀ base : Heap, (K w.params).In base → base.Ns mainGlobals mg → zgR mg base → (∀ q ∈ ts, PySem.W.CodeHd base q.1 q.2) → zkO h base → FnOk l.prog w (K w.params) mg base CX0 k fa fd [x] sp) ∧
    ∀ (H : Hp) (a : Addr) (ns : List Int), ns.length ≤ n → (∀ q ∈ ts, H q.2 = some (.tbl #[])) → SqL (K w.params) H a (ns.map V.int) → sp [.ref a] H (fun v _ => v = .bl true) fun _ _ _ => False) :
  PySem.W.WalkO q loose XP YP l.row.toRowW d [] (fun f vs => PySem.call f vs) := by
 refine Att.attach_call hn hdf fun w s₀ s₁ mg mb fa o pm cd doc a vs ns G Y ho hd hcd hmg hobj hints hlen hg => ?_
 have KX := hY w _ Y
 obtain ⟨fd, ts, sp, hT, hnt, hb, hF, hsp⟩ := F w mg fa _ Y KX G.T.g hmg (fun x C bmB newId e q => PySem.W.own_of_in KX (PySem.W.topRead_of G.T) e q)
 exact zkn KX G.T.g G.T.b G.T.builtins G.T.nolimit hg hT hnt G.T.bmain hobj hints (Nat.le_trans hlen hn2) hr hF hb fun H hO hS => hsp H a ns hlen hO hS
end L2
set_option Elab.async false
set_option linter.all false
set_option maxRecDepth 100000
set_option maxHeartbeats 4000000
namespace L2
open PySem PySem.Spec PyProof.Rows
def LT (H H' : Hp) : Prop := (∀ b xs, H b = some (.lst xs) → H' b = some (.lst xs)) ∧ TupK H H'
theorem SamT.lt {T : Addr} {H H' : Hp} {ps : Array Value} (S : SamT T H H') (h : H T = some (.tbl ps)) : LT H H' := ⟨fun b xs e => S b _ (zch e h (by intro z; cases z)) e, fun b xs e => S b _ (zch e h (by intro z; cases z)) e⟩
theorem RmAt.lt {H H' : Hp} {v : V} {r : Rm} (h : RmAt H v r) (S : LT H H') : RmAt H' v r := by
 obtain ⟨a, l, d, e, h1, h2, h3⟩ := h
 exact ⟨a, l, d, e, S.2 _ _ h1, S.1 _ _ h2, S.1 _ _ h3⟩
theorem za5.lt {H H' : Hp} {a : Addr} {W : List Rm} (h : za5 H a W) (S : LT H H') : za5 H' a W := by
 obtain ⟨rs, e, p⟩ := h
 exact ⟨rs, S.1 _ _ e, Paired.mapP p fun _ _ q => q.lt S⟩
theorem Fun.okC {P : Program} {w : World} {K : PySem.W.Frag} {mg : Str → Option Value} {base : Heap} {x qual : Str} {st : Stmt} {f cc : Addr} {fd : FuncData} {N ps : List Str} {k : Nat} {sp : Sp} (F : Fun K x qual st f fd) (S : zav N ps (zaf st)) (hcd : fd.code = .ref cc) (len : ∀ vs H Q E, sp vs H Q E → vs.length = ps.length)
  (hbody : ∀ (A : Around) (outer : List Env) (s : Shared) (H : Hp) (vs : List V) (Q : VK) (E : XK), Room k (A.deeper (envOfC qual (zaf st) s.heap.objs.size f (.ref cc))) → sp vs H Q E →
   ∃ t, PSs (cxOf CX0 P w K mg base N qual (zaf st) f (.ref cc) A outer s H E).nox (zar st) t ∧ t { nx := fun _ H' => Q .non H', rt := Q } (start N vs) H) : FnOk P w K mg base CX0 (k + 1) f fd ps sp := by
 obtain ⟨oc, od, kV, doc, pm, an, cdv, ct, osl, rfl, lk, hc⟩ := F.ex
 obtain rfl : cdv = .ref cc := hcd
 refine zpF lk hc S len fun A outer s H vs Q E hr hsp => ?_
 obtain ⟨t, h, q⟩ := hbody A outer s H vs Q E hr hsp
 exact ⟨t, h.nox, q⟩
section
variable {k : Nat} {caps : List Nat} {g : TG} {te : TE} {σ : St} {H1 : Hp} {K : PySem.W.Frag}
end
def lamQ (x : Str) : Str := x ++ ".<locals>." ++ "<lambda>"
def zhr (K : PySem.W.Frag) (T : Addr) : Sp := fun vs H Q _ => ∃ (a : Addr) (ns : List Int), vs = [.ref a] ∧ SqL K H a (ns.map V.int) ∧ ns.length ≤ 63 ∧ H T = some (.tbl #[]) ∧ ∀ H', Q (.bl true) H'
theorem zbP.tbl {T : Addr} {q : Str} {pos : Pos} {H : Hp} (h : zbP T q pos H) : ∃ ps, H T = some (.tbl ps) := let ⟨ps, e, _⟩ := h; ⟨ps, e⟩
def zp6 (s : Stmt) : Arguments × Expr × Scope × Pos := match zar s with
 | [.Return (some (.Call _ [_, .Lambda a b sc p] _ _)) _] => (a, b, sc, p)
 | _ => (zau s, .Constant .none 0 ⟨0, 0, 0, 0⟩, zaf s, ⟨0, 0, 0, 0⟩)
theorem walk_tab1 {l : PySem.W.OpenLaw} {k : Nat} {q : Program} {loose : List Str} {XP : (Str → Option Value) → Heap → Prop} {YP : World → Heap → Prop} {d : DefRec} {K : Params → PySem.W.Frag}
  (hn : l.most = some 63) (hdf : d.params.defaults = []) (hr : Room k callerA)
  (hY : ∀ (w : World) (h : Heap), YP w h → (K w.params).In h)
  (F : ∀ (w : World) (mg : Str → Option Value) (fa : Addr) (h : Heap), YP w h → (K w.params).In h → h.Ns mainGlobals mg → mg d.name = some (.ref fa) → (∀ (x : Str) (C : Addr) (bmB : List Value) (newId : String), PySem.W.nsIn (K w.params) mainGlobals x = some (some (.ref C)) → PySem.W.excIn (K w.params) C bmB newId = true → OwnCls x C bmB newId mg h) →
   ∃ (fd : FuncData) (cc T : Addr), PySem.W.codeHdIn (K w.params) cc T = true ∧ h.get? T = some (PySem.W.tabObj #[]) ∧ PySem.W.noTabs (K w.params) = true ∧ (∀ (s : Shared) (u : Value), BindsTo s fd ⟨[u], []⟩ [("_law_script", u)]) ∧
    ∀ base : Heap, (K w.params).In base → base.Ns mainGlobals mg → zgR mg base → PySem.W.CodeHd base cc T → zkO h base → FnOk l.prog w (K w.params) mg base CX0 k fa fd ["_law_script"] (zhr (K w.params) T)) :
  PySem.W.WalkO q loose XP YP l.row.toRowW d [] (fun f vs => PySem.call f vs) := by
 refine ziB (x := "_law_script") (n := 63) hn (by decide) hdf hr hY fun w mg fa h Y KX G hmg hOwn => ?_
 obtain ⟨fd, cc, T, ht, htt, hnt, hb, hF⟩ := F w mg fa h Y KX G hmg hOwn
 refine ⟨fd, [(cc, T)], zhr (K w.params) T, fun q hq => ?_, hnt, hb, fun base kb nb bm hc hKB => hF base kb nb bm (hc _ (List.mem_singleton_self _)) hKB, fun H a ns hl hO hS => ⟨a, ns, rfl, hS, hl, hO _ (List.mem_singleton_self (cc, T)), fun _ => rfl⟩⟩
 rw [List.mem_singleton.mp hq]
 exact ⟨PySem.W.codeHd_of_K KX ht, htt⟩
end L2
set_option Elab.async false
set_option linter.all false
set_option maxRecDepth 100000
set_option maxHeartbeats 4000000
namespace L2
open PySem PySem.Spec PyProof.Rows
structure zgQ (ps : List Str) (sc : Scope) : Prop where
 kind : sc.kind = .function
 co : sc.isCoroutine = false
 gen : sc.isGenerator = false
 nd : ps.Nodup
 par : ∀ x ∈ ps, sc.names.lookup x = some .local
 nocell : ∀ z ∈ sc.names, z.2 ≠ .cell
 nofree : ∀ z ∈ sc.names, z.2 ≠ .free
def zoy (P : Program) (w : World) (K : PySem.W.Frag) (mg : Str → Option Value) (base : Heap) (k : Nat) (qual : Str) (body : Expr) (scope : Scope) (ps : List Str) (f : Addr) (cd : Addr) (oc : Obj) (fo : Obj) : Sp := fun vs H Q _ =>
 vs.length = ps.length ∧ H f = some (known fo) ∧ H cd = some (known oc) ∧
  ∀ (A : Around) (outer : List Env) (s : Shared), Room k (A.deeper (PySem.W.envX qual scope s.heap.objs.size f (.ref cd) [])) → ∃ t, PE (zoa P w K mg base ps qual scope f (.ref cd) [] A outer s H) body t ∧ t (vs.map some) H Q
theorem zob {P : Program} {w : World} {K : PySem.W.Frag} {mg : Str → Option Value} {base : Heap} {k : Nat} {qual : Str} {params : Arguments} {body : Expr} {scope : Scope} {cd : Addr} {ps : List Str} {f : Addr} {oc : Obj} {pm ctv : Value}
  (S : zgQ ps scope) (hoc : zoj qual oc) :
  FnOk P w K mg base CX0 (k + 1) f (zj6 qual params body scope [] pm cd ctv) ps (zoy P w K mg base k qual body scope ps f cd oc { cls := .type "function", data := .func (zj6 qual params body scope [] pm cd ctv) }) := by
 refine ⟨fun vs H Q E h => h.1, fun A outer s H args us vs Q E hr e0 hb r hsp => ?_⟩
 obtain ⟨hl, hf, hcd, hbody⟩ := hsp
 have lim : s.heap.NoLimit := e0.mod.nolimit.keeps fun b o e => (e0.bs b o e).1
 have hul : us.length = ps.length := by rw [← r.length]; exact hl
 obtain ⟨vs', t', hd', hv'⟩ := hoc
 refine PySem.W.kla_callFunE hr.depth (e0.hok.knw hf) rfl S.co S.gen rfl ⟨cd, oc, vs', t', rfl, e0.hok.knw hcd, hd', hv'⟩ (hb _ _ _ _ ?_)
 refine wpAny_newFunctionEnv S.nocell (fun ⟨z1, z2⟩ hz => S.par _ (List.of_mem_zip hz).1) (fun h₁ hns hsb => ?_) S.kind
 have hk₁ : ∀ b ob, s.heap.get? b = some ob → h₁.get? b = some ob := fun b ob e => hsb.extBut b ob (Nat.ne_of_lt (Heap.lt_size e)) (Heap.get?_push_of_some _ e)
 refine ⟨lim.keeps hk₁, ?_⟩
 show codeAny _ _ (.expr body (PySem.W.envX qual scope s.heap.objs.size f (.ref cd) [])) _ _
 obtain ⟨t, ht, hq⟩ := hbody A outer s (hr.deeper _)
 have I : Inv (zoa P w K mg base ps qual scope f (.ref cd) [] A outer s H) [] (vs.map some) H { s with heap := h₁, toks := s.toks + (ps.zip us).length } := by
  have noA : ∀ b : Addr, b ∉ (zoa P w K mg base ps qual scope f (.ref cd) [] A outer s H).ex := fun b z => absurd (show b ∈ ([] : List Addr) from z) (by simp)
  refine ⟨⟨e0.mod, S.kind, rfl, rfl, Nat.le_refl _, fun a b d h1 _ => ?_, fun a ha => ?_, fun a d z _ => absurd (show false = true from z) Bool.false_ne_true, fun _ => hr.hd, Around.frames_deeper e0.frames, .inr ⟨rfl, rfl⟩, fun b z => absurd z (noA b), fun b ob e => ⟨(e0.bs b ob e).1, (e0.bs b ob e).2⟩, e0.bsz, fun b _ _ => noA b, fun b z => absurd z (noA b), e0.funs, fun b hb => e0.frf b hb⟩,
   rfl, e0.bare, Un.kept hk₁, ⟨_, hns, fun i a vv h1 h2 h3 => ?_⟩, fun a d h => ?_, e0.hok.fresh (Nat.le_refl _), fun a d h => ?_, fun p hp => absurd (show p ∈ ([] : List (Addr × Obj)) from hp) (by simp), e0.hok.kept hk₁, ?_⟩
  ·exact absurd (show ([] : List (Str × Addr)).lookup a = some d from h1) (by simp)
  ·have ha : scope.names.lookup a = some .cell ∨ scope.names.lookup a = some .free := ha
   rcases ha with ha | ha
   ·exact absurd rfl (S.nocell _ (PySem.mem_of_lookup ha))
   ·exact absurd rfl (S.nofree _ (PySem.mem_of_lookup ha))
  ·rw [List.getElem?_map] at h2
   obtain ⟨v2, h2, e2⟩ := Option.map_eq_some_iff.mp h2
   cases e2
   have h1 : ps[i]? = some a := h1
   obtain ⟨u2, hu2, r2⟩ := r.get h2
   exact ⟨u2, r2, .inl ⟨S.par a (List.mem_of_getElem? h1), zeu S.nd h1 hu2⟩⟩
  ·exact absurd (show ([] : List (Str × Addr)).lookup a = some d from h) (by simp)
  ·exact absurd (show ([] : List (Str × Addr)).lookup a = some d from h) (by simp)
  ·show (vs.map some).length = ps.length
   simp [hl]
 refine PySem.W.kla_codeExpr (wpAny_mono (ht [] _ _ _ _ I hq) (fun rr s' hs => ?_) fun e s' hs => False.elim hs)
 obtain ⟨x', H', J, rx, qx⟩ := hs
 exact ⟨x', H', J.os, J.bare, J.base, J.hok, rx, qx⟩
section
variable {X : Cx} {j : Nat} {a lam : Expr} {ta : TA} {tl : TE} {p pos kp : Pos}
theorem znS {pins : List (Addr × Obj)} {σ : St} {H : Hp} {xs : List V} {kf : Nat → Int} {q : Addr} {fd : FuncData} {ps : List Str} {sp : Sp} {k : Nat} (F : FnOk X.prog X.w X.K X.mg X.base CX0 k q fd ps sp) (hb : zdo X.K fd ps []) (hr : Room (k + 1) X.A)
  (h : ∀ i x, xs[i]? = some x → sp [x] H (fun v H' => v = .int (kf i) ∧ H' = H) E0) : zkN X pins σ H xs kf (some q) := by
 intro i x u s hx rx I
 have hsp := h i x hx
 have r1 : Vals [x] [u] := .cons rx .nil
 have hl : ([u] ++ [] : List Value).length = ps.length := by rw [List.append_nil, ← r1.length]; exact F.len _ _ _ _ hsp
 have hb' := hb s [u] I.kIn hl
 rw [List.append_nil] at hb'
 refine wpAny_call (codeAny_mono (F.run X.A.in1 X.stack s H ⟨[u], []⟩ [u] [x] _ E0 hr.in1 I.env0.in1 hb' r1 hsp) fun rr s' hq => ?_)
 cases rr with
 | error e => exact False.elim hq
 | ok fl =>
  cases fl with
  | next => exact False.elim hq
  | brk => exact False.elim hq
  | cont => exact False.elim hq
  | ret u' =>
   obtain ⟨v, H', os, bare, un, hok, rv, ev, eH⟩ := hq
   subst ev eH
   obtain ⟨t, rfl⟩ := rv
   obtain ⟨v2, H2, I2, r2, ⟨e1, e2⟩⟩ := I.after (Q := fun v H'' => v = .int (kf i) ∧ H'' = H') ⟨.int (kf i), H', os, bare, un, hok, ⟨t, rfl⟩, rfl, rfl⟩
   rw [e2] at I2
   refine ⟨t, rfl, I2, fun b o fb e => un.keep b o e fb.1 (fun z => ?_) (by simp)⟩
   rcases List.mem_cons.mp (I.stkSub b z) with z | z
   ·exact fb.2.1 z
   ·exact fb.2.2.1 z
def one1 (P : V → Hp → Prop) : List V → Hp → Prop := fun zs H => match zs with
 | [z] => P z H
 | _ => False
def zf3 (X : Cx) (j : Nat) (Q : VK) (vs : List V) (fv : V) (H2 : Hp) : Prop := ∃ (l : Addr) (xs : List V) (q : Addr) (fd : FuncData) (ps : List Str) (sp : Sp) (k : Nat) (kf : Nat → Int), vs = [.ref l] ∧ fv = .ref q ∧ SqL X.K H2 l xs ∧ xs ≠ [] ∧ k + 1 ≤ j ∧
 FnOk X.prog X.w X.K X.mg X.base CX0 k q fd ps sp ∧ zdo X.K fd ps [] ∧ (∀ i x, xs[i]? = some x → sp [x] H2 (fun v H' => v = .int (kf i) ∧ H' = H2) E0) ∧ ∀ i x, xs[i]? = some x → (∀ j, j < xs.length → kf j ≤ kf i) → Q x H2
def ziR (X : Cx) (j : Nat) (ta : TA) (tl : TE) : TE := fun σ H Q => ta σ H fun vs H1 => tl σ H1 fun fv H2 => zf3 X j Q vs fv H2
theorem zjN (hr : Room j X.A) (hm : X.mg "max" = none) (ha : PA X [a] ta) (hl : PE X lam tl) (hg : Gl X "max" := by rfl) (hc : X.calm = true := by rfl) (he : starEach [a] X.env = [(false, eval a X.env)] := by rfl) :
  PE X (.Call (.Name "max" p) [a] [⟨some "key", lam, kp⟩] pos) (ziR X j ta tl) := by
 intro pins s σ H Q I h
 refine wpAny_Call_Name_kw (zdk I hg hm boot_max ?_)
 refine callWith_kw (thn (ha pos pins s σ H _ I h) fun us s1 ⟨vs, H1, I1, r, q1⟩ => ?_) (by rw [he]; rfl) (by rw [he]; rfl) rfl rfl
 refine thn (zjK hl zmt pos pins s1 σ H1 (one1 (zf3 X j Q vs)) I1 q1) fun ws s2 ⟨zs, H2, I2, rz, q2⟩ => ?_
 cases rz with
 | nil => exact False.elim q2
 | @cons z wz _ _ rz1 rr =>
  cases rr with
  | cons _ _ => exact False.elim q2
  | nil =>
   obtain ⟨l, xs, q, fd, ps, sp, k, kf, rfl, rfl, hS, hne, hk, F, hb, hsp, hQ⟩ := (show zf3 X j Q vs z H2 from q2)
   obtain ⟨u, rfl, ru⟩ := r.one
   cases ru
   cases rz1
   exact zhd hc I2 hS (znS F hb (hr.mono hk) hsp) hne fun i x v s3 hx rx hmx I3 => ⟨x, H2, I3, rx, hQ i x hx hmx⟩
def zf4 (K : PySem.W.Frag) (Q : VK) (vs : List V) (d : V) (H2 : Hp) : Prop := ∃ (l : Addr) (ns : List Int), vs = [.ref l] ∧ SqL K H2 l (ns.map V.int) ∧ (ns = [] → Q d H2) ∧ ∀ m ∈ ns, (∀ k ∈ ns, k ≤ m) → Q (.int m) H2
def ziS (K : PySem.W.Frag) (ta : TA) (td : TE) : TE := fun σ H Q => ta σ H fun vs H1 => td σ H1 fun d H2 => zf4 K Q vs d H2
theorem zjO (hm : X.mg "max" = none) (ha : PA X [a] ta) (hl : PE X lam tl) (hg : Gl X "max" := by rfl) (hc : X.calm = true := by rfl) (he : starEach [a] X.env = [(false, eval a X.env)] := by rfl) :
  PE X (.Call (.Name "max" p) [a] [⟨some "default", lam, kp⟩] pos) (ziS X.K ta tl) := by
 intro pins s σ H Q I h
 refine wpAny_Call_Name_kw (zdk I hg hm boot_max ?_)
 refine callWith_kw (thn (ha pos pins s σ H _ I h) fun us s1 ⟨vs, H1, I1, r, q1⟩ => ?_) (by rw [he]; rfl) (by rw [he]; rfl) rfl rfl
 refine thn (zjK hl zmt pos pins s1 σ H1 (one1 (zf4 X.K Q vs)) I1 q1) fun ws s2 ⟨zs, H2, I2, rz, q2⟩ => ?_
 cases rz with
 | nil => exact False.elim q2
 | @cons z wz _ _ rz1 rr =>
  cases rr with
  | cons _ _ => exact False.elim q2
  | nil =>
   obtain ⟨l, ns, rfl, hS, h0, hQ⟩ := (show zf4 X.K Q vs z H2 from q2)
   obtain ⟨u, rfl, ru⟩ := r.one
   cases ru
   refine zhe (kf := fun i => ns.getD i 0) hc I2 hS (fun i x hx => ?_) (fun e s3 I3 => ⟨z, H2, I3, rz1, h0 (List.map_eq_nil_iff.mp e)⟩) fun i x v s3 hx rx hmx I3 => ⟨x, H2, I3, rx, ?_⟩
   ·rw [List.getElem?_map] at hx
    obtain ⟨n, hn, rfl⟩ := Option.map_eq_some_iff.mp hx
    show V.int n = V.int (ns.getD i 0)
    rw [List.getD_eq_getElem?_getD, hn]; rfl
   ·rw [List.getElem?_map] at hx
    obtain ⟨n, hn, rfl⟩ := Option.map_eq_some_iff.mp hx
    have hi : ns.getD i 0 = n := by rw [List.getD_eq_getElem?_getD, hn]; rfl
    refine hQ n (List.mem_of_getElem? hn) fun k hk => ?_
    obtain ⟨jj, hj, rfl⟩ := List.mem_iff_getElem.mp hk
    have : ns.getD jj 0 ≤ ns.getD i 0 := hmx jj (by rw [List.length_map]; exact hj)
    rw [hi] at this
    have e2 : ns.getD jj 0 = ns[jj] := by rw [List.getD_eq_getElem?_getD, List.getElem?_eq_getElem hj]; rfl
    rw [← e2]; exact this
theorem zjt {X : Cx} {j : Nat} {ta : TA} {tl : TE} {σ : St} {H : Hp} {Q : VK} (h : ta σ H fun vs H1 => tl σ H1 fun fv H2 => zf3 X j Q vs fv H2) : ziR X j ta tl σ H Q := h
theorem zju {K : PySem.W.Frag} {ta : TA} {td : TE} {σ : St} {H : Hp} {Q : VK} (h : ta σ H fun vs H1 => td σ H1 fun d H2 => zf4 K Q vs d H2) : ziS K ta td σ H Q := h
def zo1 : List V → Hp → VK → Prop := fun xs H Q => ∃ a kvs, xs = [.ref a] ∧ H a = some (.dK kvs) ∧ ∀ p, H p = none → Q (.ref p) (upd H p (.lst (kvs.map fun kv => kV kv.1)))
theorem zft (hc : X.calm = true := by rfl) : zci X (.type "list") zo1 := by
 intro pins s σ H xs us Q I r h
 obtain ⟨a, kvs, rfl, ha, q⟩ := h
 obtain ⟨u, rfl, ru⟩ := r.one
 cases ru
 obtain ⟨z, lo, vs, rel, dd⟩ := zpI I.hok ha
 obtain ⟨ep, hat⟩ := dd.dictAt
 have hlen := rel.length
 refine PySem.W.kdl_call (PySem.W.kdl_dict (knd := zbV X.prog X.w) (kvs := vs) (ep := ep) lo) (I.ok.hd hc) hat (by omega) fun h' tk acc c hk hD hacc => ?_
 have hf : H s.heap.objs.size = none := I.hok.fresh (Nat.le_refl _)
 refine ⟨.ref s.heap.objs.size, _, I.laid (t' := tk) (o := .lst (kvs.map fun kv => kV kv.1)) hk (Nat.le_refl _) ⟨by rw [List.length_map]; exact z, acc.toList, c, ?_, by rw [Array.toArray_toList]; exact hD⟩, rfl, q _ hf⟩
 have hal : acc.toList.length = kvs.length := by rw [Array.length_toList, hacc.1, hlen]
 refine Paired.of_get (by rw [List.length_map, hal]) fun i x u e1 e2 => ?_
 rw [List.getElem?_map] at e1
 obtain ⟨kv, hkv, rfl⟩ := Option.map_eq_some_iff.mp e1
 obtain ⟨k, y, hy, hk2⟩ := hacc.2 i u (by rw [← Array.getElem?_toList]; exact e2)
 have : kv.1 = k := by
  have h1 := congrArg (fun l => l[i]?) rel.keys
  simp only [List.getElem?_map, hkv, hy, Option.map_some] at h1
  exact Option.some.inj h1
 rw [this]
 rcases zbr (k := k) (v := u) hk2 with ⟨n, t, rfl, rfl⟩ | ⟨n, t, rfl, rfl⟩
 ·exact ⟨t, rfl⟩
 ·exact ⟨t, rfl⟩
def rSum (K : PySem.W.Frag) : List V → Hp → VK → Prop := fun xs H Q => ∃ (a : Addr) (ns : List Int), xs = [.ref a] ∧ SqL K H a (ns.map V.int) ∧ Q (.int ns.sum) H
theorem zl1 (hc : X.calm = true := by rfl) : zci X (.builtin "sum") (rSum X.K) := by
 intro pins s σ H xs us Q I r h
 obtain ⟨a, ns, rfl, ha, q⟩ := h
 obtain ⟨u, rfl, ru⟩ := r.one
 cases ru
 obtain ⟨its, rv, p, hz⟩ := I.list ha
 have hi := zfl rv
 obtain ⟨ys, hy⟩ := hi.allInts.items
 have hl' : s.heap.IsList a (intItems ys) := hy ▸ p.isList
 refine sum_intListG (I.ok.hd hc) hl' fun h' tk t' hk => ?_
 have e1 : ns = ys.toList.map (·.1) := by
  rw [← nums_intItems, ← hy]
  exact (show numsOf its.toArray.toList = ns from hi.numsOf).symm
 have e2 : preSum (numAt ys) ys.size = ns.sum := by rw [preSum_eq, List.take_of_length_le (by simp), e1]
 rw [e2]
 exact ⟨.int ns.sum, H, I.kept (t' := tk) hk, ⟨t', rfl⟩, q⟩
theorem zkz (K : PySem.W.Frag) (h : X.K = K := by rfl) (hc : X.calm = true := by rfl) : zci X (.builtin "sum") (rSum K) := h ▸ zl1 hc
def zo0 (K : PySem.W.Frag) : List V → Hp → VK → Prop := fun xs H Q => ∃ (a : Addr) (ns : List Int), xs = [.ref a] ∧ SqL K H a (ns.map V.int) ∧ ns.length < 64 ∧ ∀ (p : Addr) (ms : List Int), H p = none → ms.Perm ns → ms.Pairwise (· ≤ ·) → Q (.ref p) (upd H p (.lst (ms.map V.int)))
theorem zgx : ∀ {us : List Value} {ns : List Int}, IntsAre us ns → Vals (ns.map V.int) us
 | _, _, .nil => .nil
 | _, _, .cons n t r => .cons ⟨t, rfl⟩ (zgx r)
theorem zkA : zci X (.builtin "sorted") (zo0 X.K) := by
 intro pins s σ H xs us Q I r h
 obtain ⟨a, ns, rfl, ha, h64, q⟩ := h
 obtain ⟨u, rfl, ru⟩ := r.one
 cases ru
 obtain ⟨its, rv, p, hz⟩ := I.list ha
 have hi := zfl rv
 have hlen := rv.length
 rw [List.length_map] at hlen
 refine sorted_ints p.isList hi (by omega) fun out ms a1 a2 a3 => ?_
 obtain ⟨e, he⟩ := sortedAll_at s.heap its out
 have hml := a2.length_eq
 refine ⟨.ref (s.heap.objs.size + 1), _, I.laid (t' := s.toks) (o := .lst (ms.map V.int)) (fun b ob z => sortedAll_old z) (Nat.le_succ _) ⟨by rw [List.length_map, sizeLine_eq]; omega, out.toList, e, zgx a1, by rw [Array.toArray_toList]; exact he⟩, rfl, q _ ms (I.hok.fresh (Nat.le_succ _)) a2 a3⟩
theorem zfs (K : PySem.W.Frag) (h : X.K = K := by rfl) : zci X (.builtin "sorted") (zo0 K) := h ▸ zkA
end
end L2
set_option Elab.async false
set_option linter.all false
set_option maxRecDepth 100000
set_option maxHeartbeats 4000000
namespace L2
open PySem PySem.Spec PyProof.Rows
def evens {α : Type} : List α → List α
 | [] => []
 | [x] => [x]
 | x :: _ :: r => x :: evens r
theorem zo2 {α : Type} (xs : List α) : ∀ (m a : Nat), m = (xs.length - a + 1) / 2 → ((List.range m).map fun k => a + 2 * k).filterMap (xs[·]?) = evens (xs.drop a)
 | 0, a, h => by
  have : xs.length ≤ a := by omega
  rw [List.drop_eq_nil_of_le this]; rfl
 | m + 1, a, h => by
  have hlt : a < xs.length := by omega
  have ih := zo2 xs m (a + 2) (by omega)
  rw [List.range_succ_eq_map, List.map_cons, List.filterMap_cons, List.map_map]
  have e0 : xs[a + 2 * 0]? = some xs[a] := by rw [Nat.mul_zero, Nat.add_zero]; exact List.getElem?_eq_getElem hlt
  rw [e0]
  have ef : ((fun k => a + 2 * k) ∘ Nat.succ) = fun k => a + 2 + 2 * k := by funext k; show a + 2 * (k + 1) = _; omega
  rw [ef, ih, List.drop_eq_getElem_cons hlt]
  cases hd : xs.drop (a + 1) with
  | nil =>
   have : xs.drop (a + 2) = [] := by rw [show a + 2 = (a + 1) + 1 by omega, ← List.drop_drop, hd]; rfl
   rw [this]; rfl
  | cons y r =>
   have : xs.drop (a + 2) = r := by rw [show a + 2 = (a + 1) + 1 by omega, ← List.drop_drop, hd]; rfl
   rw [this]; rfl
theorem zgC {α : Type} : ∀ xs : List α, (evens xs).length = (xs.length + 1) / 2
 | [] => by simp [evens]
 | [_] => by simp [evens]
 | _ :: _ :: r => by simp only [evens, List.length_cons, zgC r]; omega
theorem zeP {α : Type} : ∀ (xs : List α) (i : Nat), (evens xs)[i]? = xs[2 * i]?
 | [], i => by simp [evens]
 | [x], 0 => rfl
 | [x], i + 1 => by
  rw [List.getElem?_eq_none (by simp [evens]), List.getElem?_eq_none (by simp; omega)]
 | x :: y :: r, 0 => rfl
 | x :: y :: r, i + 1 => by
  simp only [evens, List.getElem?_cons_succ]
  rw [zeP r i, show 2 * (i + 1) = 2 * i + 1 + 1 by omega, List.getElem?_cons_succ, List.getElem?_cons_succ]
theorem zod {lo : Option Int} {a n : Nat} (h : (lo = none ∧ a = 0) ∨ lo = some (a : Int)) : sliceBounds lo none (some 2) n = (((min a n : Nat) : Int), (n : Int), 2) := by
 rcases h with ⟨rfl, rfl⟩ | rfl
 ·simp [sliceBounds]
 ·have : ¬ (a : Int) < 0 := by omega
  simp [sliceBounds, this]
  omega
theorem zoZ (a n : Nat) (h : a ≤ n) : sliceRange (a : Int) (n : Int) 2 = (List.range ((n - a + 1) / 2)).map fun k => a + 2 * k := by
 unfold sliceRange
 simp only [show (2 : Int) > 0 from by decide, if_true]
 have e : (if (a : Int) < (n : Int) then ((n : Int) - a + 2 - 1) / 2 else 0).toNat = (n - a + 1) / 2 := by
  split <;> omega
 rw [e]
 refine List.map_congr_left fun k _ => ?_
 omega
theorem zh9 {items : List Value} {lo : Option Int} {a : Nat} (h : (lo = none ∧ a = 0) ∨ lo = some (a : Int)) : slicePick items.toArray lo none (some 2) = (evens (items.drop a)).toArray := by
 unfold slicePick
 rw [List.size_toArray, zod h]
 show ((sliceRange ((min a items.length : Nat) : Int) (items.length : Int) 2).filterMap fun i => items.toArray[i]?).toArray = _
 rw [zoZ _ _ (Nat.min_le_right _ _)]
 have e : (fun i : Nat => items.toArray[i]?) = fun i => items[i]? := by funext i; simp
 rw [e, zo2 items _ (min a items.length) rfl]
 congr 2
 by_cases hl : a ≤ items.length
 ·rw [Nat.min_eq_left hl]
 ·rw [Nat.min_eq_right (by omega), List.drop_eq_nil_of_le (by omega), List.drop_eq_nil_of_le (by omega)]
theorem Vals.evens : ∀ {xs : List V} {us : List Value}, Vals xs us → Vals (L2.evens xs) (L2.evens us)
 | _, _, .nil => .nil
 | _, _, .cons r .nil => .cons r .nil
 | _, _, .cons r (.cons _ t) => .cons r (Vals.evens t)
section
variable {X : Cx} {e st : Expr} {lo : Option Expr} {te : TE} {tl tc : TO} {pos p2 : Pos}
def tSl2 (K : PySem.W.Frag) (te : TE) (tl tc : TO) : TE := fun σ H Q => te σ H fun x H1 => tl σ H1 fun l H2 => tc σ H2 fun c H3 => ∃ (a : Addr) (xs : List V) (n : Nat), x = .ref a ∧ SqL K H3 a xs ∧ c = some 2 ∧ ((l = none ∧ n = 0) ∨ l = some (n : Int)) ∧ ∀ p, H3 p = none → Q (.ref p) (upd H3 p (.lst (evens (xs.drop n))))
theorem zjM (he : PE X e te) (hl : PO X lo tl) (hc : PO X (some st) tc) : PE X (.Subscript e (.Slice lo none (some st) p2) pos) (tSl2 X.K te tl tc) := by
 intro pins s σ H Q I h
 refine Subscript_ (thn (he pins s σ H _ I h) fun v s1 ⟨x, H1, I1, r1, q1⟩ => ?_)
 refine wpAny_Slice (thn (hl pins s1 σ H1 _ I1 q1) fun vl s2 ⟨l, H2, I2, pl, q2⟩ => ?_)
 rw [evalPart_none]
 refine wpAny_pure (thn (hc pins s2 σ H2 _ I2 q2) fun vc s3 ⟨c, H3, I3, pc, a, xs, n, ex, hx, ec, hn, q⟩ => ?_)
 subst ex ec
 cases r1
 have I4 : Inv X pins σ H3 { s3 with heap := s3.heap.push { cls := .type "slice", data := .fields #[vl, .none, vc] } } := I3.kept (t' := s3.toks) fun b ob q => Heap.get?_push_of_some _ q
 obtain ⟨its, r, ht, hz⟩ := I4.list hx
 show wpAny (model X.prog X.w) X.A (subscriptTail e (.Slice lo none (some st) p2) (.ref a) (.ref s3.heap.objs.size)) (EP X pins σ Q) X.xe { s3 with heap := s3.heap.push { cls := .type "slice", data := .fields #[vl, .none, vc] } }
 refine tail_any (ops := [.ref a, .ref s3.heap.objs.size]) ht.isList.typeIs slot_list_getitem.lookup ?_ (by with_unfolding_all rfl)
 refine wpAny_getItem_list_slice ht.isList (Heap.IsSliceOf.new ..) pl .none pc (by simp) ?_ (by rw [List.size_toArray, ← r.length]; exact hz)
 rw [zh9 hn]
 refine ⟨.ref _, _, I4.laid (t' := s3.toks) (o := .lst (evens (xs.drop n))) (fun b ob q => Heap.get?_push_of_some _ q) (Nat.le_refl _) ?_, rfl, q _ (I4.hok.fresh (Nat.le_refl _))⟩
 refine ⟨?_, _, 0, (r.drop n).evens, Heap.get?_push_size _ rfl⟩
 rw [zgC, List.length_drop]
 omega
theorem zfb (K : PySem.W.Frag) (he : PE X e te) (hl : PO X lo tl) (hc : PO X (some st) tc) (h : X.K = K := by rfl) : PE X (.Subscript e (.Slice lo none (some st) p2) pos) (tSl2 K te tl tc) := h ▸ zjM he hl hc
theorem zjp {K : PySem.W.Frag} {σ : St} {H : Hp} {Q : VK} (h : te σ H fun x H1 => tl σ H1 fun l H2 => tc σ H2 fun c H3 => ∃ (a : Addr) (xs : List V) (n : Nat), x = .ref a ∧ SqL K H3 a xs ∧ c = some 2 ∧ ((l = none ∧ n = 0) ∨ l = some (n : Int)) ∧ ∀ p, H3 p = none → Q (.ref p) (upd H3 p (.lst (evens (xs.drop n))))) : tSl2 K te tl tc σ H Q := h
end
end L2
set_option Elab.async false
set_option linter.all false
set_option maxRecDepth 100000
set_option maxHeartbeats 4000000
namespace L2
open PySem PySem.Spec PyProof.Rows
section
variable {X : Cx} {tg : Expr}
end
section
variable {g : TG} {tb : TS} {D : Ends} {σ : St} {H : Hp} {ta : TA}
end
end L2
set_option Elab.async false
set_option linter.all false
set_option maxRecDepth 100000
set_option maxHeartbeats 4000000
namespace L2
open PySem
section
variable {k : Nat} {caps : List Nat} {g : TG} {te : TE} {σ : St} {H1 : Hp} {ts : TT} {K : PySem.W.Frag}
end
theorem zpO (xs : List V) (k : Nat) : cutV xs none (some (k : Int)) = xs.take k := by
 unfold cutV
 rw [HT.sIx_nat, HT.sIx_none, Nat.sub_zero, List.drop_zero]
 by_cases h : k ≤ xs.length
 ·rw [Nat.min_eq_left h]
 ·rw [Nat.min_eq_right (by omega), List.take_length, List.take_of_length_le (by omega)]
theorem zlY (xs : List V) (k : Nat) : cutV xs (some (k : Int)) none = xs.drop k := by
 unfold cutV
 rw [HT.sIx_nat, HT.sIx_none]
 by_cases h : k ≤ xs.length
 ·rw [Nat.min_eq_left h, List.take_of_length_le (by rw [List.length_drop]; exact Nat.le_refl _)]
 ·rw [Nat.min_eq_right (by omega), Nat.sub_self, List.take_zero, List.drop_eq_nil_of_le (by omega)]
def tv (W : List Rm) (s : Say) (j : Nat) : Bool := (tru W s).getD j false
theorem zgT (W : List Rm) (s t : Say) {j : Nat} (h : j < W.length) : tv W (.conj s t) j = (tv W s j && tv W t j) := by
 have h1 : j < (tru W s).length := by rw [zaO]; exact h
 have h2 : j < (tru W t).length := by rw [zaO]; exact h
 simp [tv, tru, List.getD, List.getElem?_zipWith, List.getElem?_eq_getElem h1, List.getElem?_eq_getElem h2]
theorem ziJ (W : List Rm) (s t : Say) {j : Nat} (h : j < W.length) : tv W (.disj s t) j = (tv W s j || tv W t j) := by
 have h1 : j < (tru W s).length := by rw [zaO]; exact h
 have h2 : j < (tru W t).length := by rw [zaO]; exact h
 simp [tv, tru, List.getD, List.getElem?_zipWith, List.getElem?_eq_getElem h1, List.getElem?_eq_getElem h2]
theorem zpQ {W : List Rm} (t : Say) {j : Nat} {r : Rm} (h : W[j]? = some r) : tv W (.ev t) j = !(led (tru W t) r.doors).contains false := by
 simp [tv, tru, List.getD, h]
theorem zpP {W : List Rm} (t : Say) {j : Nat} {r : Rm} (h : W[j]? = some r) : tv W (.so t) j = (led (tru W t) r.doors).contains true := by
 simp [tv, tru, List.getD, h]
def zea : List Str := ["and", "or", "every", "some", "dark", "lamp", "lamp", "dark", "or", "lamp"]
end L2
set_option Elab.async false
set_option linter.all false
set_option maxRecDepth 100000
set_option maxHeartbeats 4000000
namespace L2
open PySem PySem.Spec PyProof.Rows
section
variable {prog : Program} {w : World} {A : Around} {E : Value → Shared → Prop} {s : Shared}
end
section
variable {prog : Program} {w : World} {A : Around} {E : Value → Shared → Prop} {s : Shared}
end
section
variable {X : Cx} {elts : List Expr} {kk : Nat} {tpos : Pos}
end
section
variable {K : PySem.W.Frag} {tb : TS} {D : Ends} {σ : St} {H : Hp} {ta : TA} {g : TG}
end
end L2
set_option Elab.async false
set_option linter.all false
set_option maxRecDepth 100000
set_option maxHeartbeats 4000000
namespace L2
open PySem PySem.Spec PyProof.Rows
section
variable {X : Cx}
def rInD (m : Nat) : R2 := fun x y H Q => ∃ a xs ds dx, y = .ref a ∧ H a = some (.lst xs) ∧ zb9 H xs ds ∧ zbU H x dx ∧ PyData.canLayAll0 ds = true ∧ dx.canLay0 = true ∧ 1 + min (PyData.depthAll ds) dx.depth ≤ m ∧ Q (.bl (ds.any fun d => PyData.eqv d dx)) H
theorem zmu {m : Nat} (hu : X.A.units + m < cLine) : OpR X (compareOp .In) (rInD m) := by
 intro pins s σ H x y v u Q I rx ry h
 obtain ⟨a, xs, ds, dx, rfl, e, hds, hdx, c1, c2, hm, q⟩ := h
 obtain ⟨as, r1⟩ := hdx.reads I rx
 obtain ⟨bs, r2⟩ := (zbU.lst e hds).reads I ry
 exact SeqAt.in_list_reads r2 r1 c1 c2 (by omega) ⟨.bl _, H, I, rfl, q⟩
end
theorem zoT {m : Nat} {x : V} {H : Hp} {Q : VK} {a : Addr} {xs : List V} {ds : List PyData} {dx : PyData} (e : H a = some (.lst xs)) (hds : zb9 H xs ds) (hdx : zbU H x dx) (c1 : PyData.canLayAll0 ds = true) (c2 : dx.canLay0 = true) (hm : 1 + min (PyData.depthAll ds) dx.depth ≤ m)
  (q : Q (.bl (ds.any fun d => PyData.eqv d dx)) H) : rInD m x (.ref a) H Q := ⟨a, xs, ds, dx, rfl, e, hds, hdx, c1, c2, hm, q⟩
section
variable {K : PySem.W.Frag} {σ : St} {H : Hp} {Q : VK} {ta tb tc : TE} {r r' : R2} {rr : V → Hp → VK → Prop} {i : Int}
end
theorem zeq : ∀ ns : List Int, PyData.canLayAll0 (ns.map PyData.int) = true
 | [] => rfl
 | a :: r => by rw [List.map_cons, PyData.canLayAll0, zeq r]; rfl
end L2
set_option Elab.async false
set_option linter.all false
set_option maxRecDepth 100000
set_option maxHeartbeats 4000000
namespace L2
open PySem PySem.Spec PyProof.Rows
section
variable {α : Type} {p q : List α} {x : α} {k : Nat}
end
theorem zlX (ns : List Int) (lo hi : Nat) : ∃ ms : List Int, cutV (ns.map V.int) (some (lo : Int)) (some ((lo : Int) + (hi : Int))) = ms.map V.int ∧ ms.length ≤ hi := by
 obtain ⟨ms, e, _⟩ := zhW ns (some (lo : Int)) (some ((lo : Int) + (hi : Int)))
 refine ⟨ms, e, ?_⟩
 have h := congrArg List.length e
 rw [List.length_map] at h
 rw [← h]
 unfold cutV
 rw [show ((lo : Int) + (hi : Int)) = ((lo + hi : Nat) : Int) from by omega, HT.sIx_nat, HT.sIx_nat, List.length_take]
 omega
end L2
set_option Elab.async false
set_option linter.all false
set_option maxRecDepth 100000
set_option maxHeartbeats 4000000
namespace L2
open PySem
theorem zfw {W : List Rm} (k : Int) {j : Nat} {r : Rm} (h : W[j]? = some r) : tv W (.lamp k) j = r.lit.contains k := by
 simp [tv, tru, List.getD, h]
theorem zgS {W : List Rm} (k : Int) {j : Nat} {r : Rm} (h : W[j]? = some r) : tv W (.dark k) j = !r.lit.contains k := by
 simp [tv, tru, List.getD, h]
end L2
set_option Elab.async false
set_option linter.all false
set_option maxRecDepth 100000
set_option maxHeartbeats 4000000
namespace L2
open PySem
theorem zfP (W : List Rm) (t : Say) (ds : List Nat) (b : Bool) : (led (tru W t) ds).contains b = true ↔ ∃ d ∈ ds, tv W t d = b := by
 rw [List.contains_iff_mem]
 exact List.mem_map
theorem zma {W : List Rm} (s : Say) {j : Nat} (h : j < W.length) : tv W (.neg s) j = !tv W s j := by
 have h1 : j < (tru W s).length := by rw [zaO]; exact h
 simp [tv, tru, List.getD, List.getElem?_eq_getElem h1]
theorem zmA {W : List Rm} (t : Say) {j : Nat} {r : Rm} (h : W[j]? = some r) : tv W (.ev t) j = true ↔ ∀ d ∈ r.doors, tv W t d = true := by
 rw [zpQ t h, Bool.not_eq_true', Bool.eq_false_iff, Ne, zfP]
 constructor
 ·intro z d hd
  cases hb : tv W t d with
  | true => rfl
  | false => exact absurd ⟨d, hd, hb⟩ z
 ·rintro z ⟨d, hd, e⟩
  rw [z d hd] at e
  cases e
theorem zhs {W : List Rm} (t : Say) {j : Nat} {r : Rm} (h : W[j]? = some r) : tv W (.so t) j = true ↔ ∃ d ∈ r.doors, tv W t d = true := by
 rw [zpP t h, zfP]
def Bis (W : List Rm) (R : List (Nat × Nat)) : Prop := ∀ i j, (i, j) ∈ R → ∃ r1 r2, W[i]? = some r1 ∧ W[j]? = some r2 ∧ (∀ k, r1.lit.contains k = r2.lit.contains k) ∧
 (∀ d ∈ r1.doors, ∃ e ∈ r2.doors, (d, e) ∈ R) ∧ ∀ e ∈ r2.doors, ∃ d ∈ r1.doors, (d, e) ∈ R
theorem zpM {W : List Rm} {R : List (Nat × Nat)} (hb : Bis W R) : ∀ (s : Say) {i j : Nat}, (i, j) ∈ R → tv W s i = tv W s j := by
 intro s
 induction s with
 | lamp k =>
  intro i j h
  obtain ⟨r1, r2, e1, e2, hl, _, _⟩ := hb i j h
  rw [zfw k e1, zfw k e2, hl]
 | dark k =>
  intro i j h
  obtain ⟨r1, r2, e1, e2, hl, _, _⟩ := hb i j h
  rw [zgS k e1, zgS k e2, hl]
 | neg s ih =>
  intro i j h
  obtain ⟨r1, r2, e1, e2, _, _, _⟩ := hb i j h
  rw [zma s (List.getElem?_eq_some_iff.mp e1).1, zma s (List.getElem?_eq_some_iff.mp e2).1, ih h]
 | conj s t ih1 ih2 =>
  intro i j h
  obtain ⟨r1, r2, e1, e2, _, _, _⟩ := hb i j h
  rw [zgT W s t (List.getElem?_eq_some_iff.mp e1).1, zgT W s t (List.getElem?_eq_some_iff.mp e2).1, ih1 h, ih2 h]
 | disj s t ih1 ih2 =>
  intro i j h
  obtain ⟨r1, r2, e1, e2, _, _, _⟩ := hb i j h
  rw [ziJ W s t (List.getElem?_eq_some_iff.mp e1).1, ziJ W s t (List.getElem?_eq_some_iff.mp e2).1, ih1 h, ih2 h]
 | ev s ih =>
  intro i j h
  obtain ⟨r1, r2, e1, e2, _, f, b⟩ := hb i j h
  rw [Bool.eq_iff_iff, zmA s e1, zmA s e2]
  constructor
  ·intro z e he
   obtain ⟨d, hd, hp⟩ := b e he
   rw [← ih hp]; exact z d hd
  ·intro z d hd
   obtain ⟨e, he, hp⟩ := f d hd
   rw [ih hp]; exact z e he
 | so s ih =>
  intro i j h
  obtain ⟨r1, r2, e1, e2, _, f, b⟩ := hb i j h
  rw [Bool.eq_iff_iff, zhs s e1, zhs s e2]
  constructor
  ·rintro ⟨d, hd, z⟩
   obtain ⟨e, he, hp⟩ := f d hd
   exact ⟨e, he, by rw [← ih hp]; exact z⟩
  ·rintro ⟨e, he, z⟩
   obtain ⟨d, hd, hp⟩ := b e he
   exact ⟨d, hd, by rw [ih hp]; exact z⟩
end L2
set_option linter.all false
namespace L2
structure Eqv (R : Nat → Nat → Bool) : Prop where
 refl : ∀ i, R i i = true
 symm : ∀ {i j}, R i j = true → R j i = true
 trans : ∀ {i j k}, R i j = true → R j k = true → R i k = true
def zcA (R : Nat → Nat → Bool) (i : Nat) : Bool := (List.range i).all fun j => !R j i
def clsN (n : Nat) (R : Nat → Nat → Bool) : Nat := (List.range n).countP (zcA R)
theorem zdN {R : Nat → Nat → Bool} {i : Nat} : zcA R i = true ↔ ∀ j, j < i → R j i = false := by
 unfold zcA
 rw [List.all_eq_true]
 constructor
 ·intro h j hj
  have := h j (List.mem_range.mpr hj)
  simpa using this
 ·intro h j hj
  rw [h j (List.mem_range.mp hj)]; rfl
theorem zfQ {R : Nat → Nat → Bool} (E : Eqv R) : ∀ i, ∃ y, y ≤ i ∧ R y i = true ∧ zcA R y = true := by
 intro i
 induction i using Nat.strongRecOn with
 | _ i ih =>
  cases h : zcA R i with
  | true => exact ⟨i, Nat.le_refl _, E.refl i, h⟩
  | false =>
   have : ∃ z, z < i ∧ R z i = true := by
    unfold zcA at h
    rw [List.all_eq_false] at h
    obtain ⟨z, hz, hr⟩ := h
    exact ⟨z, List.mem_range.mp hz, by simpa using hr⟩
   obtain ⟨z, hz, hr⟩ := this
   obtain ⟨y, h1, h2, h3⟩ := ih z hz
   exact ⟨y, by omega, E.trans h2 hr, h3⟩
theorem zgD {α : Type} {p q : α → Bool} : ∀ {l : List α} {x : α}, (∀ y ∈ l, p y = true → q y = true) → x ∈ l → q x = true → p x = false → l.countP p < l.countP q
 | a :: r, x, h, hx, hq, hp => by
  rw [List.countP_cons, List.countP_cons]
  have hr := List.countP_mono_left (p := p) (q := q) (l := r) fun y hy => h y (List.mem_cons_of_mem _ hy)
  rcases List.mem_cons.mp hx with rfl | hx
  ·rw [hq, hp]
   simp only [if_pos]
   simp
   omega
  ·have ih := zgD (l := r) (fun y hy => h y (List.mem_cons_of_mem _ hy)) hx hq hp
   have ha := h a List.mem_cons_self
   cases hpa : p a with
   | false => simp; omega
   | true => rw [ha hpa]; simp; omega
theorem zgG (n : Nat) (R : Nat → Nat → Bool) : clsN n R ≤ n := by
 have := List.countP_le_length (p := zcA R) (l := List.range n)
 rw [List.length_range] at this
 exact this
theorem zkv {n : Nat} {R : Nat → Nat → Bool} (h : 0 < n) : 1 ≤ clsN n R := by
 unfold clsN
 exact List.countP_pos_iff.mpr ⟨0, List.mem_range.mpr h, rfl⟩
theorem zlZ {n : Nat} {R R' : Nat → Nat → Bool} (h : ∀ i j, R' i j = true → R i j = true) : clsN n R ≤ clsN n R' := by
 refine List.countP_mono_left fun i _ hi => ?_
 rw [zdN] at hi ⊢
 intro j hj
 cases e : R' j i with
 | false => rfl
 | true => rw [← hi j hj, h j i e]
theorem zpL {n : Nat} {R R' : Nat → Nat → Bool} (E : Eqv R) (E' : Eqv R') (h : ∀ i j, R' i j = true → R i j = true) {i j : Nat} (hi : i < n) (hj : j < n) (hr : R i j = true) (hr' : R' i j = false) : clsN n R < clsN n R' := by
 obtain ⟨k, hk, hki, hkf⟩ := zfQ E i
 have : ∃ x, x < n ∧ R x k = true ∧ R' x k = false := by
  cases e : R' i k with
  | false => exact ⟨i, hi, E.symm hki, e⟩
  | true =>
   refine ⟨j, hj, E.symm (E.trans hki hr), ?_⟩
   cases e2 : R' j k with
   | false => rfl
   | true => rw [← hr', E'.trans e (E'.symm e2)]
 obtain ⟨x, hx, hxk, hxk'⟩ := this
 obtain ⟨y, hy, hyx, hyf⟩ := zfQ E' x
 have hyk : R y k = true := E.trans (h _ _ hyx) hxk
 have hne : y ≠ k := fun z => by
  subst z
  rw [E'.symm hyx] at hxk'
  cases hxk'
 refine zgD (x := y) (fun i _ hi => ?_) (List.mem_range.mpr (by omega)) hyf ?_
 ·rw [zdN] at hi ⊢
  intro j hj
  cases e : R' j i with
  | false => rfl
  | true => rw [← hi j hj, h j i e]
 ·cases e : zcA R y with
  | false => rfl
  | true =>
   rw [zdN] at e hkf
   rcases Nat.lt_or_gt_of_ne hne with z | z
   ·rw [← hkf y z, hyk]
   ·rw [← e k z, E.symm hyk]
theorem zcz {α : Type} [DecidableEq α] : ∀ {l m : List α}, l.Nodup → (∀ x ∈ l, x ∈ m) → l.length ≤ m.length
 | [], _, _, _ => Nat.zero_le _
 | x :: r, m, hn, hs => by
  rw [List.nodup_cons] at hn
  have hx := hs x List.mem_cons_self
  have := zcz (l := r) (m := m.erase x) hn.2 fun y hy => by
   have hne : y ≠ x := fun z => hn.1 (z ▸ hy)
   exact (List.mem_erase_of_ne hne).mpr (hs y (List.mem_cons_of_mem _ hy))
  rw [List.length_erase_of_mem hx] at this
  have hp := List.length_pos_of_mem hx
  rw [List.length_cons]
  omega
theorem zl0 {n : Nat} {R : Nat → Nat → Bool} (E : Eqv R) {l : List Nat} (hl : ∀ x ∈ l, x < n) (hp : l.Pairwise fun a b => R a b = false) : l.length ≤ clsN n R := by
 have hc : ∀ i, ∃ y, y ≤ i ∧ R y i = true ∧ zcA R y = true := zfQ E
 let rep : Nat → Nat := fun i => Classical.choose (hc i)
 have hrep : ∀ i, rep i ≤ i ∧ R (rep i) i = true ∧ zcA R (rep i) = true := fun i => Classical.choose_spec (hc i)
 have hnd : (l.map rep).Nodup := by
  unfold List.Nodup
  rw [List.pairwise_map]
  refine hp.imp fun {a b} hab z => ?_
  have h1 := (hrep a).2.1
  have h2 := (hrep b).2.1
  rw [z] at h1
  rw [E.trans (E.symm h1) h2] at hab
  cases hab
 have hlen := zcz (m := (List.range n).filter (zcA R)) hnd fun x hx => by
  obtain ⟨a, ha, rfl⟩ := List.mem_map.mp hx
  have hl' := hl a ha
  have h1 := hrep a
  exact List.mem_filter.mpr ⟨List.mem_range.mpr (by omega), h1.2.2⟩
 rw [List.length_map, ← List.countP_eq_length_filter] at hlen
 exact hlen
def zbT (Ls : List (List Bool)) (i j : Nat) : Bool := Ls.all fun t => t.getD i false == t.getD j false
theorem zbh {Ls : List (List Bool)} {i j : Nat} : zbT Ls i j = true ↔ ∀ t ∈ Ls, t.getD i false = t.getD j false := by
 unfold zbT
 rw [List.all_eq_true]
 constructor
 ·intro h t ht; exact beq_iff_eq.mp (h t ht)
 ·intro h t ht; exact beq_iff_eq.mpr (h t ht)
theorem zcq {Ls : List (List Bool)} {i j : Nat} {t : List Bool} (ht : t ∈ Ls) (h : t.getD i false ≠ t.getD j false) : zbT Ls i j = false := by
 cases e : zbT Ls i j with
 | false => rfl
 | true => exact absurd (zbh.mp e t ht) h
theorem zb3 (Ls : List (List Bool)) : Eqv (zbT Ls) :=
 ⟨fun i => zbh.mpr fun _ _ => rfl, fun h => zbh.mpr fun t ht => (zbh.mp h t ht).symm, fun h g => zbh.mpr fun t ht => (zbh.mp h t ht).trans (zbh.mp g t ht)⟩
theorem zdv {Ls Ms : List (List Bool)} (h : ∀ t ∈ Ls, t ∈ Ms) {i j : Nat} (e : zbT Ms i j = true) : zbT Ls i j = true := zbh.mpr fun t ht => zbh.mp e t (h t ht)
abbrev clsL (n : Nat) (Ls : List (List Bool)) : Nat := clsN n (zbT Ls)
def zeb (c : Nat) : Nat := [1, 1, 2, 3, 8, 27, 112, 565, 3396, 23779].getD c 23779
theorem zff : ∀ c, c < 9 → (c - 1) * (zeb c + 1) ≤ zeb (c + 1) ∧ zeb c ≤ zeb (c + 1) ∧ (1 ≤ c → 2 ≤ zeb (c + 1)) := by decide
theorem zdr : ∀ {c d : Nat}, c ≤ d → d ≤ 9 → zeb c ≤ zeb d := by
 intro c d h
 induction h with
 | refl => intro _; exact Nat.le_refl _
 | @step m _ ih =>
  intro h9
  exact Nat.le_trans (ih (by omega)) (zff m (by omega)).2.1
theorem zif {c : Nat} (h : c ≤ 9) : zeb c ≤ 23779 := zdr h (Nat.le_refl 9)
end L2
set_option Elab.async false
set_option linter.all false
set_option maxRecDepth 100000
set_option maxHeartbeats 4000000
namespace L2
open PySem PySem.Spec PyProof.Rows
def stb (tb : Bool) : HO → Prop
 | .lst _ => True
 | .tup _ => True
 | .frz _ _ => True
 | .tbl _ => tb = true
 | .ins _ _ ((n, _) :: _) => n = ("size" : Str)
 | _ => False
def Kp (tb : Bool) (H H' : Hp) : Prop := ∀ c o, stb tb o → H c = some o → H' c = some o
section
variable {tb : Bool} {H H1 H2 H' : Hp} {c : Addr} {o u : HO}
theorem Kp.refl (tb : Bool) (H : Hp) : Kp tb H H := fun _ _ _ h => h
theorem Kp.trans (a : Kp tb H H1) (b : Kp tb H1 H2) : Kp tb H H2 := fun c o s h => b c o s (a c o s h)
theorem Same.kp (a : Same H H') : Kp tb H H' := fun c o _ h => a c o h
theorem Kp.lt (a : Kp tb H H') : LT H H' := ⟨fun b xs h => a _ _ True.intro h, fun b xs h => a _ _ True.intro h⟩
theorem Kp.tupK (a : Kp tb H H') : TupK H H' := a.lt.2
theorem Kp.lst (a : Kp tb H H') {xs : List V} (h : H c = some (.lst xs)) : H' c = some (.lst xs) := a _ _ True.intro h
theorem Kp.new (a : Kp tb H H') (h : H' c = none) : Kp tb H (upd H' c o) := fun b v s e => by
 have q := a b v s e
 rw [zai (fun z => by rw [z, h] at q; cases q)]
 exact q
theorem Kp.put (a : Kp tb H H') (h : H c = none) : Kp tb H (upd H' c o) := fun b v s e => by
 rw [zai (zag e h)]
 exact a b v s e
theorem Kp.chg (a : Kp tb H H') (h : H c = some u) (n : ¬ stb tb u) : Kp tb H (upd H' c o) := fun b v s e => by
 rw [zai (fun z => by subst z; rw [h] at e; cases e; exact n s)]
 exact a b v s e
end
theorem zbP.kp {T : Addr} {q : Str} {pos : Pos} {H H' : Hp} (h : zbP T q pos H) (K : Kp true H H') : zbP T q pos H' := by
 obtain ⟨ps, e, z⟩ := h
 refine ⟨ps, K _ _ rfl e, ?_⟩
 rcases z with z | ⟨c, oc, z, h1, h2⟩
 ·exact .inl z
 ·exact .inr ⟨c, oc, z, K _ _ True.intro h1, h2⟩
structure Sy where
 s : Say
 t : Say
 k : Nat
def notB (t : List Bool) : List Bool := t.map fun b => !b
theorem zjY (t : List Bool) : notB (notB t) = t := by
 unfold notB
 rw [List.map_map]
 have : ((fun b => !b) ∘ fun b => !b) = (id : Bool → Bool) := by funext b; cases b <;> rfl
 rw [this, List.map_id]
def SyOk (W : List Rm) (y : Sy) : Prop := tru W y.t = notB (tru W y.s) ∧ Say.good false y.s ∧ Say.good false y.t ∧ y.s.sz ≤ 3 * y.k ∧ y.t.sz ≤ 3 * y.k
def syF (k : Int) (l : Addr) (x u : V) : List (Str × V) := [("size", .int k), ("truths", .ref l), ("straight", x), ("turned", u)]
def SyAt (C : Addr) (W : List Rm) (H : Hp) (v : V) (y : Sy) : Prop := ∃ a dx l x u, v = .ref a ∧ H a = some (.ins C dx (syF y.k l x u)) ∧ H l = some (.lst (bls (tru W y.s))) ∧ Stm H x y.s ∧ Stm H u y.t ∧ SyOk W y
theorem SyAt.kp {tb : Bool} {C : Addr} {W : List Rm} {H H' : Hp} {v : V} {y : Sy} (h : SyAt C W H v y) (K : Kp tb H H') : SyAt C W H' v y := by
 obtain ⟨a, dx, l, x, u, e, h1, h2, h3, h4, h5⟩ := h
 exact ⟨a, dx, l, x, u, e, K _ _ rfl h1, K _ _ True.intro h2, h3.mono K.tupK, h4.mono K.tupK, h5⟩
theorem SyAt.ok {C : Addr} {W : List Rm} {H : Hp} {v : V} {y : Sy} (h : SyAt C W H v y) : SyOk W y := let ⟨_, _, _, _, _, _, _, _, _, _, h⟩ := h; h
theorem zkR (k : Int) (l : Addr) (x u : V) : (syF k l x u).lookup ("size" : Str) = some (.int k) := rfl
theorem zcN {t : List Bool} {j : Nat} (h : j < t.length) : (notB t).getD j false = !t.getD j false := by
 simp [notB, List.getD, List.getElem?_eq_getElem h]
def Sy.turn (y : Sy) : Sy := ⟨y.t, y.s, y.k⟩
def Sy.both (x y : Sy) : Sy := ⟨.conj x.s y.s, .disj x.t y.t, x.k + y.k + 1⟩
def Sy.some (y : Sy) : Sy := ⟨.so y.s, .ev y.t, y.k + 1⟩
theorem SyOk.turn {W : List Rm} {y : Sy} (h : SyOk W y) : SyOk W y.turn := ⟨by show tru W y.s = notB (tru W y.t); rw [h.1, zjY], h.2.2.1, h.2.1, h.2.2.2.2, h.2.2.2.1⟩
theorem zmE : ∀ a b : List Bool, List.zipWith (fun x y => x || y) (notB a) (notB b) = notB (List.zipWith (fun x y => x && y) a b)
 | [], _ => by simp [notB]
 | _ :: _, [] => by simp [notB]
 | x :: a, y :: b => by
  have ih := zmE a b
  simp only [notB, List.map_cons, List.zipWith_cons_cons] at ih ⊢
  rw [ih]
  cases x <;> cases y <;> rfl
theorem SyOk.both {W : List Rm} {x y : Sy} (h : SyOk W x) (g : SyOk W y) : SyOk W (x.both y) := by
 obtain ⟨h1, h2, h3, h4, h5⟩ := h
 obtain ⟨g1, g2, g3, g4, g5⟩ := g
 refine ⟨?_, ⟨h2, g2⟩, ⟨h3, g3⟩, ?_, ?_⟩
 ·show List.zipWith (fun a b => a || b) (tru W x.t) (tru W y.t) = notB (List.zipWith (fun a b => a && b) (tru W x.s) (tru W y.s))
  rw [h1, g1, zmE]
 ·simp only [Sy.both, Say.sz]; omega
 ·simp only [Sy.both, Say.sz]; omega
theorem SyOk.some {W : List Rm} {y : Sy} (hv : ze4 W) (h : SyOk W y) : SyOk W y.some := by
 obtain ⟨h1, h2, h3, h4, h5⟩ := h
 refine ⟨?_, h2, h3, ?_, ?_⟩
 ·show (W.map fun r => !(led (tru W y.t) r.doors).contains false) = notB (W.map fun r => (led (tru W y.s) r.doors).contains true)
  unfold notB
  rw [List.map_map]
  refine List.map_congr_left fun r hr => ?_
  show (!(led (tru W y.t) r.doors).contains false) = !(led (tru W y.s) r.doors).contains true
  congr 1
  rw [Bool.eq_iff_iff, zfP, zfP]
  constructor
  ·rintro ⟨d, hd, e⟩
   refine ⟨d, hd, ?_⟩
   have hdl := hv r hr d hd
   have e : (tru W y.t).getD d false = false := e
   rw [h1, zcN (by rw [zaO]; exact hdl)] at e
   show (tru W y.s).getD d false = true
   cases z : (tru W y.s).getD d false with
   | true => rfl
   | false => rw [z] at e; cases e
  ·rintro ⟨d, hd, e⟩
   refine ⟨d, hd, ?_⟩
   have hdl := hv r hr d hd
   have e : (tru W y.s).getD d false = true := e
   show (tru W y.t).getD d false = false
   rw [h1, zcN (by rw [zaO]; exact hdl), e]; rfl
 ·simp only [Sy.some, Say.sz]; omega
 ·simp only [Sy.some, Say.sz]; omega
theorem ziW {W : List Rm} {k : Int} (h : 1 ≤ k) : SyOk W ⟨.lamp k, .dark k, 1⟩ := by
 refine ⟨?_, h, h, Nat.le_refl _, Nat.le_refl _⟩
 show (W.map fun r => !r.lit.contains k) = notB (W.map fun r => r.lit.contains k)
 unfold notB
 rw [List.map_map]; rfl
def k2 (i j : Nat) : List Key := [.inl (i : Int), .inl (j : Int)]
theorem zhM {i j i' j' : Nat} (h : k2 i j = k2 i' j') : i = i' ∧ j = j' := by
 simp only [k2, List.cons.injEq, Sum.inl.injEq, and_true] at h
 omega
def zdH (n : Nat) (kvs : List (List Key × V)) : Prop := (kvs.map (·.1)).Nodup ∧ ∀ p ∈ kvs, ∃ i j, i < n ∧ j < n ∧ p.1 = k2 i j
theorem zdH.few {n : Nat} {kvs : List (List Key × V)} (h : zdH n kvs) : kvs.length ≤ n * n := by
 have := zcz (l := kvs.map (·.1)) (m := (List.range n).flatMap fun i => (List.range n).map fun j => k2 i j) h.1 fun k hk => by
  obtain ⟨p, hp, rfl⟩ := List.mem_map.mp hk
  obtain ⟨i, j, hi, hj, e⟩ := h.2 p hp
  rw [e]
  exact List.mem_flatMap.mpr ⟨i, List.mem_range.mpr hi, List.mem_map.mpr ⟨j, List.mem_range.mpr hj, rfl⟩⟩
 rw [List.length_map, List.length_flatMap] at this
 simp only [List.length_map, List.length_range, List.map_const', List.sum_replicate_nat] at this
 exact this
theorem zdH.nil (n : Nat) : zdH n [] := ⟨List.nodup_nil, fun p h => by cases h⟩
theorem zdX {κ : Type} [DecidableEq κ] {kvs : List (κ × V)} {k : κ} {v : V} (h : (valV kvs k).isSome = true) : (putK kvs k v).map (·.1) = kvs.map (·.1) := by
 unfold putK
 rw [zcE, h, if_pos rfl, List.map_map]
 refine List.map_congr_left fun p _ => ?_
 show (if p.1 = k then (p.1, v) else p).1 = p.1
 split <;> rfl
theorem zdH.put {n i j : Nat} {kvs : List (List Key × V)} {v : V} (h : zdH n kvs) (hi : i < n) (hj : j < n) : zdH n (putK kvs (k2 i j) v) := by
 refine ⟨?_, fun p hp => ?_⟩
 ·cases hv : valV kvs (k2 i j) with
  | none => exact znJ v h.1 hv
  | some u => rw [zdX (by rw [hv]; rfl)]; exact h.1
 ·have hk : p.1 ∈ (putK kvs (k2 i j) v).map (·.1) := List.mem_map.mpr ⟨p, hp, rfl⟩
  cases hv : valV kvs (k2 i j) with
  | none =>
   rw [zep v hv] at hp
   rcases List.mem_append.mp hp with hp | hp
   ·exact h.2 p hp
   ·rw [List.mem_singleton.mp hp]; exact ⟨i, j, hi, hj, rfl⟩
  | some u =>
   rw [zdX (by rw [hv]; rfl)] at hk
   obtain ⟨q, hq, e⟩ := List.mem_map.mp hk
   rw [← e]; exact h.2 q hq
def zdO (C : Addr) (W : List Rm) (H : Hp) (Ls : List (List Bool)) (m : Nat) (v : V) (i j : Nat) : Prop := ∃ y, SyAt C W H v y ∧ tv W y.s i = true ∧ tv W y.s j = false ∧ y.k ≤ m ∧ (tru W y.s ∈ Ls ∨ tru W y.t ∈ Ls)
def zcB (C : Addr) (W : List Rm) (H : Hp) (kvs : List (List Key × V)) (Ls : List (List Bool)) (m : Nat) : Prop := zdH W.length kvs ∧ (∀ i j, i < W.length → j < W.length → (valV kvs (k2 i j) = none ↔ zbT Ls i j = true)) ∧ ∀ i j v, valV kvs (k2 i j) = some v → zdO C W H Ls m v i j
theorem zdO.kp {tb : Bool} {C : Addr} {W : List Rm} {H H' : Hp} {Ls : List (List Bool)} {m : Nat} {v : V} {i j : Nat} (h : zdO C W H Ls m v i j) (K : Kp tb H H') : zdO C W H' Ls m v i j := by
 obtain ⟨y, h1, h2⟩ := h
 exact ⟨y, h1.kp K, h2⟩
theorem zcB.kp {tb : Bool} {C : Addr} {W : List Rm} {H H' : Hp} {kvs : List (List Key × V)} {Ls : List (List Bool)} {m : Nat} (h : zcB C W H kvs Ls m) (K : Kp tb H H') : zcB C W H' kvs Ls m := ⟨h.1, h.2.1, fun i j v e => (h.2.2 i j v e).kp K⟩
theorem zdO.more {C : Addr} {W : List Rm} {H : Hp} {Ls Ms : List (List Bool)} {m m' : Nat} {v : V} {i j : Nat} (h : zdO C W H Ls m v i j) (s : ∀ t ∈ Ls, t ∈ Ms) (hm : m ≤ m') : zdO C W H Ms m' v i j := by
 obtain ⟨y, h1, h2, h3, h4, h5⟩ := h
 exact ⟨y, h1, h2, h3, Nat.le_trans h4 hm, h5.imp (s _) (s _)⟩
theorem zcB.up {C : Addr} {W : List Rm} {H : Hp} {kvs : List (List Key × V)} {Ls : List (List Bool)} {m m' : Nat} (h : zcB C W H kvs Ls m) (hm : m ≤ m') : zcB C W H kvs Ls m' := ⟨h.1, h.2.1, fun i j v e => (h.2.2 i j v e).more (fun _ z => z) hm⟩
theorem zdO.sep {C : Addr} {W : List Rm} {H : Hp} {Ls : List (List Bool)} {m : Nat} {v : V} {i j : Nat} (h : zdO C W H Ls m v i j) (hi : i < W.length) (hj : j < W.length) : zbT Ls i j = false := by
 obtain ⟨y, h1, h2, h3, _, h5⟩ := h
 rcases h5 with h5 | h5
 ·exact zcq h5 (by rw [show (tru W y.s).getD i false = true from h2, show (tru W y.s).getD j false = false from h3]; exact Bool.noConfusion)
 ·refine zcq h5 ?_
  rw [h1.ok.1, zcN (by rw [zaO]; exact hi), zcN (by rw [zaO]; exact hj), show (tru W y.s).getD i false = true from h2, show (tru W y.s).getD j false = false from h3]
  exact Bool.noConfusion
theorem zcB.symm {C : Addr} {W : List Rm} {H : Hp} {kvs : List (List Key × V)} {Ls : List (List Bool)} {m i j : Nat} (h : zcB C W H kvs Ls m) (hi : i < W.length) (hj : j < W.length) (e : valV kvs (k2 i j) ≠ none) : valV kvs (k2 j i) ≠ none := fun z => e ((h.2.1 i j hi hj).mpr ((zb3 Ls).symm ((h.2.1 j i hj hi).mp z)))
structure zbX (C : Addr) (W : List Rm) (H : Hp) (Ls : List (List Bool)) (t : List Bool) (m : Nat) (k0 : List (List Key × V)) (c0 : Bool) (P : Nat → Nat → Prop) (kvs : List (List Key × V)) (c : Bool) : Prop where
 grid : zdH W.length kvs
 val : ∀ i j v, valV kvs (k2 i j) = some v → zdO C W H (t :: Ls) m v i j
 keep : ∀ i j, valV kvs (k2 i j) = none → valV k0 (k2 i j) = none
 done : ∀ i j, P i j → valV kvs (k2 i j) ≠ none ∧ valV kvs (k2 j i) ≠ none
 same : c = false → ∀ i j, valV k0 (k2 i j) = none → valV kvs (k2 i j) = none
 chg : c0 = true → c = true
 symm : ∀ i j, i < W.length → j < W.length → valV kvs (k2 i j) ≠ none → valV kvs (k2 j i) ≠ none
theorem zbX.kp {tb : Bool} {C : Addr} {W : List Rm} {H H' : Hp} {Ls : List (List Bool)} {t : List Bool} {m : Nat} {k0 kvs : List (List Key × V)} {c0 c : Bool} {P : Nat → Nat → Prop} (h : zbX C W H Ls t m k0 c0 P kvs c) (K : Kp tb H H') : zbX C W H' Ls t m k0 c0 P kvs c :=
 ⟨h.grid, fun i j v e => (h.val i j v e).kp K, h.keep, h.done, h.same, h.chg, h.symm⟩
theorem zbX.imp {C : Addr} {W : List Rm} {H : Hp} {Ls : List (List Bool)} {t : List Bool} {m : Nat} {k0 kvs : List (List Key × V)} {c0 c : Bool} {P P' : Nat → Nat → Prop} (h : zbX C W H Ls t m k0 c0 P kvs c) (i : ∀ i j, P' i j → P i j) : zbX C W H Ls t m k0 c0 P' kvs c :=
 ⟨h.grid, h.val, h.keep, fun a b p => h.done a b (i a b p), h.same, h.chg, h.symm⟩
theorem zbX.start {C : Addr} {W : List Rm} {H : Hp} {Ls : List (List Bool)} {t : List Bool} {m : Nat} {k0 : List (List Key × V)} {c0 : Bool} (h : zcB C W H k0 Ls m) : zbX C W H Ls t m k0 c0 (fun _ _ => False) k0 c0 :=
 ⟨h.1, fun i j v e => (h.2.2 i j v e).more (fun _ z => List.mem_cons_of_mem _ z) (Nat.le_refl _), fun _ _ e => e, fun _ _ z => z.elim, fun _ _ _ e => e, fun z => z, fun i j hi hj e => h.symm hi hj e⟩
theorem zbX.put {C : Addr} {W : List Rm} {H : Hp} {Ls : List (List Bool)} {t : List Bool} {m : Nat} {k0 kvs : List (List Key × V)} {c0 c : Bool} {P : Nat → Nat → Prop} {a b : Nat} {v u : V} (h : zbX C W H Ls t m k0 c0 P kvs c) (ha : a < W.length) (hb : b < W.length) (hv : zdO C W H (t :: Ls) m v a b) (hu : zdO C W H (t :: Ls) m u b a) :
  zbX C W H Ls t m k0 c0 (fun i j => P i j ∨ (i = a ∧ j = b)) (putK (putK kvs (k2 a b) v) (k2 b a) u) true := by
 have val2 : ∀ i j, valV (putK (putK kvs (k2 a b) v) (k2 b a) u) (k2 i j) = if k2 i j = k2 b a then some u else if k2 i j = k2 a b then some v else valV kvs (k2 i j) := fun i j => by rw [zhk, zhk]
 refine ⟨(h.grid.put ha hb).put hb ha, fun i j w e => ?_, fun i j e => ?_, fun i j p => ?_, (fun z => by cases z), (fun _ => rfl), fun i j hi hj e => ?_⟩
 ·rw [val2] at e
  split at e
  ·rename_i hk
   obtain ⟨rfl, rfl⟩ := zhM hk
   cases e; exact hu
  ·split at e
   ·rename_i hk
    obtain ⟨rfl, rfl⟩ := zhM hk
    cases e; exact hv
   ·exact h.val i j w e
 ·rw [val2] at e
  split at e
  ·cases e
  ·split at e
   ·cases e
   ·exact h.keep i j e
 ·have nn : ∀ i j, valV kvs (k2 i j) ≠ none → valV (putK (putK kvs (k2 a b) v) (k2 b a) u) (k2 i j) ≠ none := fun i j z => by
   rw [val2]
   split
   ·simp
   ·split
    ·simp
    ·exact z
  rcases p with p | ⟨rfl, rfl⟩
  ·exact ⟨nn _ _ (h.done i j p).1, nn _ _ (h.done i j p).2⟩
  ·refine ⟨?_, ?_⟩
   ·rw [val2]
    split
    ·simp
    ·rw [if_pos rfl]; simp
   ·rw [val2, if_pos rfl]; simp
 ·rw [val2] at e ⊢
  split
  ·simp
  ·rename_i n1
   split
   ·simp
   ·rename_i n2
    have m1 : ¬ k2 i j = k2 b a := fun z => n2 (by obtain ⟨rfl, rfl⟩ := zhM z; rfl)
    have m2 : ¬ k2 i j = k2 a b := fun z => n1 (by obtain ⟨rfl, rfl⟩ := zhM z; rfl)
    rw [if_neg m1, if_neg m2] at e
    exact h.symm i j hi hj e
theorem zbX.known {C : Addr} {W : List Rm} {H : Hp} {Ls : List (List Bool)} {t : List Bool} {m : Nat} {k0 kvs : List (List Key × V)} {c0 c : Bool} {P : Nat → Nat → Prop} {a b : Nat} (h : zbX C W H Ls t m k0 c0 P kvs c) (h1 : valV kvs (k2 a b) ≠ none) (h2 : valV kvs (k2 b a) ≠ none) : zbX C W H Ls t m k0 c0 (fun i j => P i j ∨ (i = a ∧ j = b)) kvs c :=
 ⟨h.grid, h.val, h.keep, fun i j p => by
  rcases p with p | ⟨rfl, rfl⟩
  ·exact h.done i j p
  ·exact ⟨h1, h2⟩, h.same, h.chg, h.symm⟩
theorem zbX.end {C : Addr} {W : List Rm} {H : Hp} {Ls : List (List Bool)} {t : List Bool} {m : Nat} {k0 kvs : List (List Key × V)} {c0 c : Bool} {P : Nat → Nat → Prop} (h : zbX C W H Ls t m k0 c0 P kvs c) (h0 : zcB C W H k0 Ls m) (hP : ∀ i j, i < W.length → j < W.length → t.getD i false = true → t.getD j false = false → P i j) : zcB C W H kvs (t :: Ls) m := by
 refine ⟨h.grid, fun i j hi hj => ⟨fun e => ?_, fun e => ?_⟩, h.val⟩
 ·have e0 := (h0.2.1 i j hi hj).mp (h.keep i j e)
  refine zbh.mpr fun u hu => ?_
  rcases List.mem_cons.mp hu with rfl | hu
  ·cases z1 : u.getD i false with
   | true =>
    cases z2 : u.getD j false with
    | true => rfl
    | false => exact absurd e (h.done i j (hP i j hi hj z1 z2)).1
   | false =>
    cases z2 : u.getD j false with
    | false => rfl
    | true => exact absurd e (h.done j i (hP j i hj hi z2 z1)).2
  ·exact zbh.mp e0 u hu
 ·cases z : valV kvs (k2 i j) with
  | none => rfl
  | some v => rw [(h.val i j v z).sep hi hj] at e; cases e
end L2
set_option Elab.async false
set_option linter.all false
set_option maxRecDepth 100000
set_option maxHeartbeats 4000000
namespace L2
open PySem PySem.Spec PyProof.Rows
theorem zmr {σ : St} {H : Hp} {A B : Hp → Prop} (h : A H) : tYes σ H fun b H5 => if b = true then A H5 else B H5 := by
 show if true = true then A H else B H
 exact iteT h
theorem SamB.kp {tb : Bool} {bs : List Addr} {H H' : Hp} (S : SamB bs H H') (h : ∀ b ∈ bs, ∀ o, H b = some o → ¬ stb tb o) : Kp tb H H' := fun c o s e => S c o (fun z => h c z o e s) e
structure Wd (H : Hp) (a : Addr) (W : List Rm) : Prop where
 at_ : za5 H a W
 valid : ze4 W
 pos : 0 < W.length
 few : W.length ≤ 9
 doors : ∀ r ∈ W, r.doors.length ≤ 9
 lits : ∀ r ∈ W, r.lit.length ≤ 3 ∧ ∀ k ∈ r.lit, 1 ≤ k
theorem Wd.kp {tb : Bool} {H H' : Hp} {a : Addr} {W : List Rm} (h : Wd H a W) (K : Kp tb H H') : Wd H' a W := ⟨h.at_.lt K.lt, h.valid, h.pos, h.few, h.doors, h.lits⟩
theorem Wd.doors1000 {H : Hp} {a : Addr} {W : List Rm} (h : Wd H a W) : ∀ r ∈ W, r.doors.length ≤ 1000 := fun r m => by have := h.doors r m; omega
def zey (C : Addr) : Sp := fun vs H Q _ => ∃ (x dx : Addr) (a b c d : V), vs = [.ref x, a, b, c, d] ∧ H x = some (.ins C dx []) ∧ ∀ H' : Hp, SamB [x] H H' → H' x = some (.ins C dx [("size", a), ("truths", b), ("straight", c), ("turned", d)]) → Q .non H'
def zi5 (C : Addr) : Sp := fun vs H Q _ => ∃ (wd : Addr) (k : Int) (W : List Rm), vs = [.ref wd, .int k] ∧ Wd H wd W ∧ 1 ≤ k ∧ ∀ (v : V) (H' : Hp), Same H H' → SyAt C W H' v ⟨.lamp k, .dark k, 1⟩ → Q v H'
def zgW (C : Addr) : Sp := fun vs H Q _ => ∃ (v : V) (W : List Rm) (y : Sy), vs = [v] ∧ SyAt C W H v y ∧ W.length ≤ 9 ∧ ∀ (u : V) (H' : Hp), Same H H' → SyAt C W H' u y.turn → Q u H'
def zja (C : Addr) : Sp := fun vs H Q _ => ∃ (v u : V) (W : List Rm) (x y : Sy), vs = [v, u] ∧ SyAt C W H v x ∧ SyAt C W H u y ∧ W.length ≤ 9 ∧ ∀ (z : V) (H' : Hp), Same H H' → SyAt C W H' z (x.both y) → Q z H'
def zi1 (C : Addr) : Sp := fun vs H Q _ => ∃ (wd : Addr) (v : V) (W : List Rm) (y : Sy), vs = [.ref wd, v] ∧ Wd H wd W ∧ SyAt C W H v y ∧ ∀ (z : V) (H' : Hp), Same H H' → SyAt C W H' z y.some → Q z H'
theorem zlH {C x dx : Addr} {H H' : Hp} {fs : List (Str × V)} (hx : H x = none) (hdx : H dx = none) (ne : dx ≠ x) (S : SamB [x] (upd (upd H dx (.own x)) x (.ins C dx [])) H') : Same H H' := fun b o e => by
 have n1 := zag e hx
 have n2 := zag e hdx
 exact S b o (by simpa using n1) (by rw [zai n1, zai n2]; exact e)
def totS : List Sy → Nat
 | [] => 0
 | y :: r => y.k + 1 + totS r
def allT (W : List Rm) (j : Nat) (ys : List Sy) : Bool := ys.all fun y => tv W y.s j
def zcM : List Sy → List Sy
 | x :: y :: r => x.both y :: zcM r
 | r => r
theorem zmG {W : List Rm} (x y : Sy) {j : Nat} (h : j < W.length) : tv W (x.both y).s j = (tv W x.s j && tv W y.s j) := zgT W x.s y.s h
theorem zfe {W : List Rm} {j : Nat} (h : j < W.length) : ∀ ys : List Sy, allT W j (zcM ys) = allT W j ys
 | [] => rfl
 | [_] => rfl
 | x :: y :: r => by
  have ih := zfe h r
  unfold allT at ih ⊢
  simp only [zcM, List.all_cons, zmG x y h, ih, Bool.and_assoc]
theorem zfc : ∀ ys : List Sy, totS (zcM ys) = totS ys
 | [] => rfl
 | [_] => rfl
 | x :: y :: r => by
  have ih := zfc r
  simp only [zcM, totS, ih, Sy.both]; omega
theorem zfd : ∀ ys : List Sy, (zcM ys).length = (ys.length + 1) / 2
 | [] => by simp [zcM]
 | [_] => by simp [zcM]
 | x :: y :: r => by simp only [zcM, List.length_cons, zfd r]; omega
theorem zdp {C : Addr} {W : List Rm} {H : Hp} {v : V} {y : Sy} {D : Addr} {zs : List V} {o : HO} (h : SyAt C W H v y) (hD : H D = some (.lst zs)) (hz : ∀ z ∈ zs, ∃ a, z = V.ref a) (hW : 0 < W.length) : SyAt C W (upd H D o) v y := by
 obtain ⟨a, dx, l, x, u, e, h1, h2, h3, h4, h5⟩ := h
 have n1 : a ≠ D := zch h1 hD (by intro z; cases z)
 have n2 : l ≠ D := fun z => by
  subst z
  rw [h2] at hD
  have e := HO.lst.inj (Option.some.inj hD)
  have hl : (tru W y.s).length = W.length := zaO W y.s
  cases ht : tru W y.s with
  | nil => rw [ht] at hl; simp at hl; omega
  | cons b r =>
   rw [ht] at e
   obtain ⟨a', z'⟩ := hz (V.bl b) (by rw [← e]; exact List.mem_cons_self)
   cases z'
 exact ⟨a, dx, l, x, u, e, zcC n1 h1, zcC n2 h2, h3.mono (TupK.lst (TupK.refl _) hD), h4.mono (TupK.lst (TupK.refl _) hD), h5⟩
theorem SyAt.isRef {C : Addr} {W : List Rm} {H : Hp} {v : V} {y : Sy} (h : SyAt C W H v y) : ∃ a, v = .ref a := let ⟨a, _, _, _, _, e, _⟩ := h; ⟨a, e⟩
theorem zgY {C : Addr} {W : List Rm} {H : Hp} {xs : List V} {ys : List Sy} (h : Paired (SyAt C W H) xs ys) : ∀ z ∈ xs, ∃ a, z = V.ref a := fun z hz => by
 obtain ⟨i, hi, rfl⟩ := List.mem_iff_getElem.mp hz
 obtain ⟨y, _, e⟩ := Paired.get1 h (List.getElem?_eq_getElem hi)
 exact e.isRef
theorem SyAt.mono {C : Addr} {W : List Rm} {H H' : Hp} {v : V} {y : Sy} (h : SyAt C W H v y) (S : Same H H') : SyAt C W H' v y := h.kp (tb := false) S.kp
def zbp : List Sy → List Sy
 | x :: y :: r => x.both y :: zbp r
 | _ => []
theorem zhT : ∀ ys : List Sy, (zbp ys).length = ys.length / 2
 | [] => rfl
 | [_] => by simp [zbp]
 | x :: y :: r => by simp only [zbp, List.length_cons, zhT r]; omega
theorem zgz : ∀ ys : List Sy, zbp ys ++ ys.drop (2 * (zbp ys).length) = zcM ys
 | [] => rfl
 | [_] => rfl
 | x :: y :: r => by
  have ih := zgz r
  simp only [zbp, List.length_cons, zcM, List.cons_append]
  rw [show 2 * ((zbp r).length + 1) = 2 * (zbp r).length + 1 + 1 by omega, List.drop_succ_cons, List.drop_succ_cons, ih]
theorem zhU : ∀ (ys : List Sy) (i : Nat) (x y : Sy), ys[2 * i]? = some x → ys[2 * i + 1]? = some y → (zbp ys)[i]? = some (x.both y)
 | [], i, x, y, h, _ => by simp at h
 | [z], i, x, y, _, h => by rw [List.getElem?_eq_none (by simp)] at h; cases h
 | a :: b :: r, 0, x, y, h1, h2 => by
  have h1 : some a = some x := h1
  have h2 : some b = some y := h2
  cases h1; cases h2; rfl
 | a :: b :: r, i + 1, x, y, h1, h2 => by
  rw [show 2 * (i + 1) = 2 * i + 1 + 1 by omega, List.getElem?_cons_succ, List.getElem?_cons_succ] at h1
  rw [show 2 * (i + 1) + 1 = 2 * i + 1 + 1 + 1 by omega, List.getElem?_cons_succ, List.getElem?_cons_succ] at h2
  simp only [zbp, List.getElem?_cons_succ]
  exact zhU r i x y h1 h2
theorem Paired.drop {α β : Type} {F : α → β → Prop} : ∀ {xs : List α} {ys : List β} (n : Nat), Paired F xs ys → Paired F (xs.drop n) (ys.drop n)
 | _, _, 0, h => h
 | _, _, _ + 1, .nil => .nil
 | _, _, n + 1, .cons _ t => Paired.drop n t
def ze6 (C : Addr) : Sp := fun vs H Q _ => ∃ (l : Addr) (xs : List V) (ys : List Sy) (W : List Rm), vs = [.ref l] ∧ H l = some (.lst xs) ∧ Paired (SyAt C W H) xs ys ∧ ys ≠ [] ∧ ys.length ≤ 1000 ∧ 0 < W.length ∧ W.length ≤ 9 ∧
 ∀ (v : V) (y : Sy) (H' : Hp), Same H H' → SyAt C W H' v y → (∀ j, j < W.length → tv W y.s j = allT W j ys) → y.k + 1 = totS ys → Q v H'
def zi4 : Sp := fun vs H Q _ => ∃ (wd : Addr) (W : List Rm), vs = [.ref wd] ∧ Wd H wd W ∧ ∀ (a : Addr) (ks : List Int) (H' : Hp), Same H H' → H a = none → H' a = some (.lst (ks.map V.int)) → ks.length ≤ 1000 → (∀ k, k ∈ ks ↔ ∃ r ∈ W, k ∈ r.lit) → Q (.ref a) H'
def ziz (kvs : List (Key × V)) (ks : List Int) : Prop := kvs.map (·.1) = ks.map Sum.inl
theorem zj9 {kvs : List (Key × V)} {ks : List Int} {k : Int} {v : V} (h : ziz kvs ks) : ∃ ks', ziz (putK kvs (.inl k) v) ks' ∧ ks'.length ≤ ks.length + 1 ∧ ∀ n, n ∈ ks' ↔ n ∈ ks ∨ n = k := by
 cases hv : valV kvs (.inl k) with
 | none =>
  refine ⟨ks ++ [k], ?_, by simp, fun n => by simp⟩
  unfold ziz
  rw [zep v hv, List.map_append, h, List.map_append]; rfl
 | some u =>
  refine ⟨ks, ?_, by omega, fun n => ?_⟩
  ·unfold ziz
   rw [zdX (by rw [hv]; rfl)]; exact h
  ·refine ⟨.inl, fun z => z.elim id fun e => ?_⟩
   subst e
   have := ziG hv
   rw [h] at this
   obtain ⟨m, hm, e⟩ := List.mem_map.mp this
   cases e; exact hm
def zeo (P : Program) (w : World) (C : Addr) (W : List Rm) (R : Sy → Prop) (H : Hp) (d : Addr) (xs : BXs) : Prop := BD P w H d xs ∧ ∀ x ∈ xs, ∃ va y, x.2.2 = Value.ref va ∧ SyAt C W H (.ref va) y ∧ x.1 = tru W y.s ∧ R y
def zmm (P : Program) (w : World) (C : Addr) : Sp := fun vs H Q _ => ∃ (d : Addr) (v : V) (W : List Rm) (R : Sy → Prop) (xs : BXs) (y : Sy), vs = [.ref d, v] ∧ zeo P w C W R H d xs ∧ SyAt C W H v y ∧ R y ∧ xs.length < 900 ∧ 0 < W.length ∧ W.length ≤ 9 ∧
 ∀ (H' : Hp) (xs' : BXs), SamB [d] H H' → zeo P w C W R H' d xs' → xs'.length ≤ xs.length + 1 → (∀ k, (k ∈ xs.map (·.1) ∨ k = tru W y.s) → k ∈ xs'.map (·.1)) → Q .non H'
theorem zgb {κ : Type} [DecidableEq κ] {xs : List (κ × Addr × Value)} {k : κ} {a : Addr} {v : Value} : ∀ n, (n ∈ xs.map (·.1) ∨ n = k) → n ∈ (storedH xs k a v).map (·.1) := fun n h => by
 unfold storedH
 split
 ·rename_i hs
  have hk : k ∈ xs.map (·.1) := by
   unfold atKey at hs
   rw [Option.isSome_map] at hs
   obtain ⟨p, hp⟩ := Option.isSome_iff_exists.mp hs
   have h1 := List.find?_some hp
   exact List.mem_map.mpr ⟨p, List.mem_of_find?_eq_some hp, of_decide_eq_true h1⟩
  have e : (xs.map (putAt k v)).map (·.1) = xs.map (·.1) := by
   rw [List.map_map]
   refine List.map_congr_left fun p _ => ?_
   show (putAt k v p).1 = p.1
   unfold putAt; split <;> rfl
  rw [e]
  rcases h with h | rfl
  ·exact h
  ·exact hk
 ·rw [List.map_append]
  rcases h with h | rfl
  ·exact List.mem_append_left _ h
  ·exact List.mem_append_right _ (List.mem_singleton_self _)
theorem zew {κ : Type} [DecidableEq κ] {xs : List (κ × Addr × Value)} {k : κ} {a : Addr} {v : Value} {x : κ × Addr × Value} (h : x ∈ storedH xs k a v) : x ∈ xs ∨ (x.1 = k ∧ x.2.2 = v ∧ (x.2.1 = a ∨ ∃ z ∈ xs, z.2.1 = x.2.1 ∧ z.1 = k)) := by
 unfold storedH at h
 split at h
 ·obtain ⟨z, hz, rfl⟩ := List.mem_map.mp h
  unfold putAt
  split
  ·rename_i e
   exact .inr ⟨e, rfl, .inr ⟨z, hz, rfl, e⟩⟩
  ·exact .inl hz
 ·rcases List.mem_append.mp h with h | h
  ·exact .inl h
  ·rw [List.mem_singleton.mp h]; exact .inr ⟨rfl, rfl, .inl rfl⟩
theorem zgO {κ : Type} [DecidableEq κ] {xs : List (κ × Addr × Value)} {k : κ} {p : Addr × Value} (h : atKey xs k = some p) : (k, p) ∈ xs := by
 unfold atKey at h
 obtain ⟨z, hz, e⟩ := Option.map_eq_some_iff.mp h
 have h0 := List.find?_some hz
 have h1 : z.1 = k := of_decide_eq_true h0
 have h2 := List.mem_of_find?_eq_some hz
 obtain ⟨z1, z2⟩ := z
 have h1 : z1 = k := h1
 have e : z2 = p := e
 subst h1 e
 exact h2
def tlF (wd b : Addr) (c : Bool) (al : List (Str × V)) : List (Str × V) := ("world", .ref wd) :: ("best", .ref b) :: ("changed", .bl c) :: al
theorem zgV (wd b : Addr) (c : Bool) (al : List (Str × V)) : (tlF wd b c al).length = al.length + 3 := rfl
theorem zgU (wd b : Addr) (c c' : Bool) (al : List (Str × V)) : putF "changed" (.bl c') (tlF wd b c al) = tlF wd b c' al := by unfold tlF; rfl
theorem ziO {CT dx : Addr} {wd b : Addr} {c : Bool} {al : List (Str × V)} {tb : Bool} : ¬ stb tb (.ins CT dx (tlF wd b c al)) := fun z => absurd (show ("world" : Str) = "size" from z) (by decide +kernel)
structure Tl (CT CS : Addr) (W : List Rm) (H : Hp) (a dx wd b : Addr) (c : Bool) (al : List (Str × V)) (kvs : List (List Key × V)) (Ls : List (List Bool)) (m : Nat) : Prop where
 obj : H a = some (.ins CT dx (tlF wd b c al))
 best : H b = some (.dT kvs)
 ok : zcB CS W H kvs Ls m
 few : al.length ≤ 10
def zgX (CT CS : Addr) : Sp := fun vs H Q _ => ∃ (a dx wd b : Addr) (v : V) (c : Bool) (al : List (Str × V)) (kvs : List (List Key × V)) (W : List Rm) (Ls : List (List Bool)) (m : Nat) (y : Sy), vs = [.ref a, v] ∧ Tl CT CS W H a dx wd b c al kvs Ls m ∧ SyAt CS W H v y ∧ y.k ≤ m ∧ 0 < W.length ∧ W.length ≤ 9 ∧
 ∀ (H' : Hp) (c' : Bool) (kvs' : List (List Key × V)), SamB [a, b] H H' → Tl CT CS W H' a dx wd b c' al kvs' (tru W y.s :: Ls) m → (c = true → c' = true) → (c' = false → ∀ i j, i < W.length → j < W.length → zbT Ls i j = true → zbT (tru W y.s :: Ls) i j = true) → Q .non H'
def idxs (b : Bool) (t : List Bool) (n : Nat) : List Nat := (List.range n).filter fun j => t.getD j false == b
theorem zer {b : Bool} {t : List Bool} {n j : Nat} : j ∈ idxs b t n ↔ j < n ∧ t.getD j false = b := by
 unfold idxs
 rw [List.mem_filter, List.mem_range, beq_iff_eq]
theorem zhQ (b : Bool) (t : List Bool) (n : Nat) : (idxs b t n).length ≤ n := by
 unfold idxs
 have := List.length_filter_le (fun j => t.getD j false == b) (List.range n)
 rw [List.length_range] at this
 exact this
theorem zd4 (b : Bool) (t : List Bool) (n : Nat) : idxs b t (n + 1) = if t.getD n false = b then idxs b t n ++ [n] else idxs b t n := by
 unfold idxs
 rw [List.range_succ, List.filter_append]
 split
 ·rename_i h
  rw [List.filter_cons, if_pos (beq_iff_eq.mpr h)]; rfl
 ·rename_i h
  rw [List.filter_cons, if_neg (fun z => h (beq_iff_eq.mp z))]; simp
theorem zev {CT dx a b wd : Addr} {c : Bool} {al : List (Str × V)} {kvs : List (List Key × V)} {H H' : Hp} (ho : H a = some (.ins CT dx (tlF wd b c al))) (hb : H b = some (.dT kvs)) (S : SamB [a, b] H H') : Kp true H H' := S.kp fun z hz o e s => by
 simp only [List.mem_cons, List.not_mem_nil, or_false] at hz
 rcases hz with rfl | rfl
 ·rw [ho] at e; cases e; exact ziO s
 ·rw [hb] at e; cases e; exact s
theorem zg5 (a : List Nat) (n : Nat) : nts (a ++ [n]) = nts a ++ [V.int (n : Int)] := by simp [nts]
structure zcQ (W : List Rm) (Ls : List (List Bool)) (m room : Nat) (ds : List Nat) (ys : List Sy) (left ws : List Nat) : Prop where
 len : ws.length = ys.length
 ok : ∀ y ∈ ys, tv W y.s room = true ∧ y.k ≤ m
 sub : ∀ d ∈ left, d ∈ ds
 fin : ∀ d ∈ ds, d ∈ left ∨ ∃ y ∈ ys, tv W y.s d = false
 wlt : ∀ x ∈ ws, x < W.length ∧ zbT Ls room x = false
 wp : ws.Pairwise fun a b => zbT Ls a b = false
 wl : ∀ x ∈ ws, ∀ d ∈ left, zbT Ls x d = false
theorem zcQ.start (W : List Rm) (Ls : List (List Bool)) (m room : Nat) (ds : List Nat) : zcQ W Ls m room ds [] ds [] := ⟨rfl, fun _ h => by simp at h, fun _ h => h, fun _ h => .inl h, fun _ h => by simp at h, List.Pairwise.nil, fun _ h => by simp at h⟩
theorem zcQ.step {W : List Rm} {Ls : List (List Bool)} {m room x : Nat} {ds left ws : List Nat} {ys : List Sy} {y : Sy} (h : zcQ W Ls m room ds ys left ws) (hr : room < W.length) (hd : ∀ d ∈ ds, d < W.length) (hx : x ∈ left) (hy : tru W y.t = notB (tru W y.s)) (h1 : tv W y.s room = true) (h2 : tv W y.s x = false) (h3 : y.k ≤ m) (h4 : tru W y.s ∈ Ls ∨ tru W y.t ∈ Ls) :
  zcQ W Ls m room ds (ys ++ [y]) (left.filter fun d => tv W y.s d) (ws ++ [x]) := by
 have sep : ∀ i j, i < W.length → j < W.length → tv W y.s i ≠ tv W y.s j → zbT Ls i j = false := fun i j hi hj hn => by
  rcases h4 with h4 | h4
  ·exact zcq h4 hn
  ·refine zcq h4 ?_
   rw [hy, zcN (by rw [zaO]; exact hi), zcN (by rw [zaO]; exact hj)]
   exact fun z => hn (Bool.not_inj z)
 have hxl := hd x (h.sub x hx)
 refine ⟨by simp [h.len], fun z hz => ?_, fun d z => h.sub d (List.mem_filter.mp z).1, fun d z => ?_, fun z hz => ?_, ?_, fun z hz d hd' => ?_⟩
 ·rcases List.mem_append.mp hz with hz | hz
  ·exact h.ok z hz
  ·rw [List.mem_singleton.mp hz]; exact ⟨h1, h3⟩
 ·rcases h.fin d z with z1 | ⟨y', z1, z2⟩
  ·cases e : tv W y.s d with
   | true => exact .inl (List.mem_filter.mpr ⟨z1, e⟩)
   | false => exact .inr ⟨y, by simp, e⟩
  ·exact .inr ⟨y', List.mem_append_left _ z1, z2⟩
 ·rcases List.mem_append.mp hz with hz | hz
  ·exact h.wlt z hz
  ·rw [List.mem_singleton.mp hz]
   exact ⟨hxl, sep _ _ hr hxl (by rw [h1, h2]; exact Bool.noConfusion)⟩
 ·refine List.pairwise_append.mpr ⟨h.wp, List.pairwise_singleton _ _, fun a ha b hb => ?_⟩
  rw [List.mem_singleton.mp hb]
  exact h.wl a ha x hx
 ·obtain ⟨hd1, hd2⟩ := List.mem_filter.mp hd'
  rcases List.mem_append.mp hz with hz | hz
  ·exact h.wl z hz d hd1
  ·rw [List.mem_singleton.mp hz]
   exact sep _ _ hxl (hd d (h.sub d hd1)) (by rw [h2, hd2]; exact Bool.noConfusion)
theorem zcQ.end {W : List Rm} {Ls : List (List Bool)} {m room : Nat} {ds ws : List Nat} {ys : List Sy} (h : zcQ W Ls m room ds ys [] ws) (hr : room < W.length) (hne : ds ≠ []) : ys ≠ [] ∧ ys.length + 1 ≤ clsL W.length Ls ∧ (∀ y ∈ ys, tv W y.s room = true ∧ y.k ≤ m) ∧ ∀ d ∈ ds, ∃ y ∈ ys, tv W y.s d = false := by
 have f : ∀ d ∈ ds, ∃ y ∈ ys, tv W y.s d = false := fun d hd => (h.fin d hd).resolve_left (by simp)
 refine ⟨fun z => ?_, ?_, h.ok, f⟩
 ·cases ds with
  | nil => exact hne rfl
  | cons d r =>
   obtain ⟨y, hy, _⟩ := f d List.mem_cons_self
   rw [z] at hy; simp at hy
 ·have := zl0 (n := W.length) (zb3 Ls) (l := room :: ws) (fun x hx => by
   rcases List.mem_cons.mp hx with rfl | hx
   ·exact hr
   ·exact (h.wlt x hx).1) (List.pairwise_cons.mpr ⟨fun x hx => (h.wlt x hx).2, h.wp⟩)
  rw [List.length_cons, h.len] at this
  exact this
abbrev agQ : Str := lamQ "Tellers.sayings_against"
def zge (CT CS T : Addr) (pos : Pos) : Sp := fun vs H Q _ => ∃ (a dx wd b : Addr) (c : Bool) (al : List (Str × V)) (kvs : List (List Key × V)) (W : List Rm) (Ls : List (List Bool)) (m room : Nat) (l : Addr) (ds : List Nat), vs = [.ref a, .int room, .ref l] ∧ Tl CT CS W H a dx wd b c al kvs Ls m ∧ H l = some (.lst (nts ds)) ∧ room < W.length ∧
 (∀ d ∈ ds, d < W.length ∧ valV kvs (k2 room d) ≠ none) ∧ ds ≠ [] ∧ ds.length ≤ 1000 ∧ W.length ≤ 9 ∧ zbP T agQ pos H ∧
 ∀ (l' : Addr) (xs : List V) (ys : List Sy) (H' : Hp), SamT T H H' → zbP T agQ pos H' → H' l' = some (.lst xs) → Paired (SyAt CS W H') xs ys → ys ≠ [] → ys.length + 1 ≤ clsL W.length Ls → (∀ y ∈ ys, tv W y.s room = true ∧ y.k ≤ m) → (∀ d ∈ ds, ∃ y ∈ ys, tv W y.s d = false) → Q (.ref l') H'
theorem SamT.kp {T : Addr} {H H' : Hp} {ps : Array Value} (S : SamT T H H') (h : H T = some (.tbl ps)) : Kp false H H' := fun c o s e => S c o (fun z => by
 subst z
 rw [h] at e; cases e; exact Bool.noConfusion (show false = true from s)) e
theorem SamT.tl {CT CS T a dx wd b : Addr} {c : Bool} {al : List (Str × V)} {kvs : List (List Key × V)} {W : List Rm} {Ls : List (List Bool)} {m : Nat} {H H' : Hp} {ps : Array Value} (S : SamT T H H') (h : H T = some (.tbl ps)) (t : Tl CT CS W H a dx wd b c al kvs Ls m) : Tl CT CS W H' a dx wd b c al kvs Ls m :=
 ⟨S _ _ (zch t.obj h (by intro z; cases z)) t.obj, S _ _ (zch t.best h (by intro z; cases z)) t.best, t.ok.kp (S.kp h), t.few⟩
theorem Same.tl {CT CS a dx wd b : Addr} {c : Bool} {al : List (Str × V)} {kvs : List (List Key × V)} {W : List Rm} {Ls : List (List Bool)} {m : Nat} {H H' : Hp} (S : Same H H') (t : Tl CT CS W H a dx wd b c al kvs Ls m) : Tl CT CS W H' a dx wd b c al kvs Ls m :=
 ⟨S _ _ t.obj, S _ _ t.best, t.ok.kp (tb := false) S.kp, t.few⟩
def zjh (H : Hp) : Option V → Int
 | some (.ref a) => match H a with
  | some (.ins _ _ fs) => match fs.lookup ("size" : Str) with
   | some (.int n) => n
   | _ => 0
  | _ => 0
 | _ => 0
theorem zjg {H : Hp} {a C dx l : Addr} {n : Int} {x u : V} (h : H a = some (.ins C dx (syF n l x u))) : zjh H (some (.ref a)) = n := by
 show (match H a with
  | some (.ins _ _ fs) => match fs.lookup ("size" : Str) with
   | some (.int n) => n
   | _ => 0
  | _ => 0) = n
 rw [h]
 show (match (syF n l x u).lookup ("size" : Str) with
   | some (.int n) => n
   | _ => 0) = n
 rw [zkR]
theorem zc1 {α : Type} (p : α → Bool) {l : List α} {i : Nat} {x : α} (h : l[i]? = some x) : (l.take (i + 1)).filter p = if p x = true then (l.take i).filter p ++ [x] else (l.take i).filter p := by
 rw [List.take_add_one, h, List.filter_append]
 show _ ++ List.filter p [x] = _
 rw [List.filter_cons]
 split <;> simp
end L2
set_option Elab.async false
set_option linter.all false
set_option maxRecDepth 100000
set_option maxHeartbeats 4000000
namespace L2
open PySem PySem.Spec PyProof.Rows
structure Ta (CT CS T : Addr) (pos : Pos) (W : List Rm) (H : Hp) (a dx wd b : Addr) (c : Bool) (va : V) (kvs : List (List Key × V)) (Ls : List (List Bool)) (m : Nat) : Prop where
 tl : Tl CT CS W H a dx wd b c [("always", va)] kvs Ls m
 alw : ∃ y, SyAt CS W H va y ∧ y.k = 1 ∧ ∀ j, j < W.length → tv W y.s j = true
 tab : zbP T agQ pos H
 wd : Wd H wd W
section
variable {CT CS T a dx wd b : Addr} {pos : Pos} {W : List Rm} {H H' : Hp} {c : Bool} {va : V} {kvs : List (List Key × V)} {Ls : List (List Bool)} {m : Nat}
theorem Ta.same (t : Ta CT CS T pos W H a dx wd b c va kvs Ls m) (S : Same H H') : Ta CT CS T pos W H' a dx wd b c va kvs Ls m :=
 ⟨S.tl t.tl, let ⟨y, h, z⟩ := t.alw; ⟨y, h.mono S, z⟩, t.tab.mono S, t.wd.kp (tb := false) S.kp⟩
theorem Ta.samT (t : Ta CT CS T pos W H a dx wd b c va kvs Ls m) (S : SamT T H H') (tab : zbP T agQ pos H') : Ta CT CS T pos W H' a dx wd b c va kvs Ls m := by
 obtain ⟨ps, hT⟩ := t.tab.tbl
 exact ⟨S.tl hT t.tl, let ⟨y, h, z⟩ := t.alw; ⟨y, h.kp (S.kp hT), z⟩, tab, t.wd.kp (S.kp hT)⟩
theorem Ta.out (t : Ta CT CS T pos W H a dx wd b c va kvs Ls m) {d : Addr} (S : SamB [d] H H') (h : ∀ o, H d = some o → ¬ stb true o) (na : d ≠ a) (nb : d ≠ b) : Ta CT CS T pos W H' a dx wd b c va kvs Ls m := by
 have K : Kp true H H' := S.kp fun z hz o e => by
  rw [List.mem_singleton.mp hz] at e
  exact h o e
 exact ⟨⟨S _ _ (by simpa using Ne.symm na) t.tl.obj, S _ _ (by simpa using Ne.symm nb) t.tl.best, t.tl.ok.kp K, t.tl.few⟩, let ⟨y, h, z⟩ := t.alw; ⟨y, h.kp K, z⟩, t.tab.kp K, t.wd.kp K⟩
end
theorem ziN {m : Nat} : ∀ {ys : List Sy}, (∀ y ∈ ys, y.k ≤ m) → totS ys ≤ ys.length * (m + 1)
 | [], _ => Nat.zero_le _
 | y :: r, h => by
  have h1 := h y List.mem_cons_self
  have h2 := ziN (ys := r) fun z hz => h z (List.mem_cons_of_mem _ hz)
  rw [totS, List.length_cons, Nat.add_mul]
  omega
def capS (c m : Nat) : Nat := max 2 ((c - 1) * (m + 1))
theorem zoc {c : Nat} (h1 : 1 ≤ c) (h9 : c < 9) : capS c (zeb c) ≤ zeb (c + 1) := by
 have h := zff c h9
 unfold capS
 rw [Nat.max_le]
 exact ⟨h.2.2 h1, h.1⟩
def zqb (CS : Addr) (W : List Rm) (H : Hp) (Ls : List (List Bool)) (m room : Nat) (ds : List Nat) (v : V) (y : Sy) : Prop := SyAt CS W H v y ∧ tv W y.s room = true ∧ (∀ d ∈ ds, tv W y.s d = false) ∧ y.k + 1 ≤ capS (clsL W.length Ls) m
def zjb (CT CS T : Addr) (pos : Pos) : Sp := fun vs H Q _ => ∃ (a dx wd b : Addr) (c : Bool) (va : V) (kvs : List (List Key × V)) (W : List Rm) (Ls : List (List Bool)) (m room : Nat) (l : Addr) (ds : List Nat), vs = [.ref a, .int room, .ref l] ∧ Ta CT CS T pos W H a dx wd b c va kvs Ls m ∧ H l = some (.lst (nts ds)) ∧ room < W.length ∧ (∀ d ∈ ds, d < W.length) ∧ ds.length ≤ 9 ∧
 (∀ H' : Hp, SamT T H H' → zbP T agQ pos H' → (∃ d ∈ ds, valV kvs (k2 room d) = none) → Q .non H') ∧ ∀ (v : V) (y : Sy) (H' : Hp), SamT T H H' → zbP T agQ pos H' → (∀ d ∈ ds, valV kvs (k2 room d) ≠ none) → zqb CS W H' Ls m room ds v y → Q v H'
def ziy (kvs : List (Key × V)) (es : List Nat) : Prop := kvs.map (·.1) = es.map fun n : Nat => Sum.inl (n : Int)
theorem zj8 {kvs : List (Key × V)} {es : List Nat} {e : Nat} {v : V} (h : ziy kvs es) (hn : es.Nodup) : ∃ es', ziy (putK kvs (.inl (e : Int)) v) es' ∧ es'.Nodup ∧ ∀ n, n ∈ es' ↔ n ∈ es ∨ n = e := by
 cases hv : valV kvs (.inl (e : Int)) with
 | none =>
  refine ⟨es ++ [e], ?_, ?_, fun n => by simp⟩
  ·unfold ziy
   rw [zep v hv, List.map_append, h, List.map_append]; rfl
  ·refine List.nodup_append.mpr ⟨hn, by simp, fun a ha b hb z => ?_⟩
   rw [List.mem_singleton.mp hb] at z
   subst z
   refine zhl hv ?_
   rw [h]
   exact List.mem_map.mpr ⟨_, ha, rfl⟩
 | some u =>
  refine ⟨es, ?_, hn, fun n => ?_⟩
  ·unfold ziy
   rw [zdX (by rw [hv]; rfl)]; exact h
  ·refine ⟨.inl, fun z => z.elim id fun z => ?_⟩
   subst z
   have := ziG hv
   rw [h] at this
   obtain ⟨m, hm, z⟩ := List.mem_map.mp this
   have : (m : Int) = (n : Int) := Sum.inl.inj z
   have : m = n := by omega
   exact this ▸ hm
def dAt (W : List Rm) (i : Nat) : List Nat := (W[i]?.map (·.doors)).getD []
theorem zc9 {W : List Rm} {i : Nat} {r : Rm} (h : W[i]? = some r) : dAt W i = r.doors := by unfold dAt; rw [h]; rfl
def zl6 (W : List Rm) (kvs : List (List Key × V)) (room e : Nat) : Prop := ∃ one, one < W.length ∧ valV kvs (k2 one room) = none ∧ e ∈ dAt W one
theorem zcV {W : List Rm} (h : ze4 W) {i e : Nat} (he : e ∈ dAt W i) : e < W.length := by
 unfold dAt at he
 cases hr : W[i]? with
 | none => rw [hr] at he; simp at he
 | some r => rw [hr] at he; exact h r (List.mem_of_getElem? hr) e he
def zi0 (CT CS T : Addr) (pos : Pos) : Sp := fun vs H Q _ => ∃ (a dx wd b : Addr) (c : Bool) (va : V) (kvs : List (List Key × V)) (W : List Rm) (Ls : List (List Bool)) (m room : Nat), vs = [.ref a, .int room, .bl false] ∧ Ta CT CS T pos W H a dx wd b c va kvs Ls m ∧ room < W.length ∧
 ∀ (l : Addr) (es : List Nat) (H' : Hp), Same H H' → H' l = some (.lst (nts es)) → es.length ≤ 9 → (∀ e, e ∈ es ↔ zl6 W kvs room e) → Q (.ref l) H'
def zoi (W : List Rm) (kvs : List (List Key × V)) (cap : Nat) (y : Sy) : Prop := ∃ one other room, one < W.length ∧ other < W.length ∧ valV kvs (k2 one other) = none ∧ room ∈ dAt W one ∧ tv W y.s room = true ∧ (∀ d ∈ dAt W other, tv W y.s d = false) ∧ y.k + 1 ≤ cap
def Thru (W : List Rm) (kvs : List (List Key × V)) (cap : Nat) (y : Sy) : Prop := ∃ one other, one < W.length ∧ other < W.length ∧ valV kvs (k2 one other) = none ∧ tv W y.s one = true ∧ tv W y.s other = false ∧ y.k ≤ cap
theorem zoi.thru {W : List Rm} {kvs : List (List Key × V)} {cap : Nat} {y : Sy} (h : zoi W kvs cap y) : Thru W kvs cap y.some := by
 obtain ⟨one, other, room, h1, h2, h3, h4, h5, h6, h7⟩ := h
 have e1 : W[one]? = some W[one] := List.getElem?_eq_getElem h1
 have e2 : W[other]? = some W[other] := List.getElem?_eq_getElem h2
 refine ⟨one, other, h1, h2, h3, ?_, ?_, h7⟩
 ·rw [zc9 e1] at h4
  exact (zhs y.s e1).mpr ⟨room, h4, h5⟩
 ·cases z : tv W (y.some).s other with
  | false => rfl
  | true =>
   obtain ⟨d, hd, e⟩ := (zhs y.s e2).mp z
   rw [zc9 e2] at h6
   rw [h6 d hd] at e; cases e
def Ans (W : List Rm) (kvs : List (List Key × V)) (other room : Nat) : Prop := ∃ d ∈ dAt W other, valV kvs (k2 room d) = none
theorem zeo.kp {P : Program} {w : World} {C : Addr} {W : List Rm} {R : Sy → Prop} {tb : Bool} {H H' : Hp} {d : Addr} {xs : BXs} (h : zeo P w C W R H d xs) (e : ∀ o, H d = some o → H' d = some o) (K : Kp tb H H') : zeo P w C W R H' d xs :=
 ⟨h.1.mono e K.tupK, fun x m => let ⟨va, y, e1, e2, e3⟩ := h.2 x m; ⟨va, y, e1, e2.kp K, e3⟩⟩
theorem zeo.nil {P : Program} {w : World} {C : Addr} {W : List Rm} {R : Sy → Prop} {H : Hp} {d : Addr} (h : H d = some (kn d { cls := .type "dict", data := .dict #[] })) (s : (d == sysModules) = false) : zeo P w C W R H d [] :=
 ⟨⟨s, ⟨_, h, ⟨rfl, rfl, rfl⟩, Nat.zero_le _, ⟨_, _, rfl, rfl⟩, List.nodup_nil⟩, fun x m => by simp at m⟩, fun x m => by simp at m⟩
theorem zeo.kn {P : Program} {w : World} {C : Addr} {W : List Rm} {R : Sy → Prop} {H : Hp} {d : Addr} {xs : BXs} (h : zeo P w C W R H d xs) : ∃ o, H d = some (kn d o) := let ⟨o, e, _⟩ := h.1.2.1; ⟨o, e⟩
theorem znQ {tb : Bool} {d : Addr} {o : Obj} : ¬ stb tb (kn d o) := fun z => z
def zmi (CT CS T : Addr) (pos : Pos) : Sp := fun vs H Q _ => ∃ (a dx wd b : Addr) (c : Bool) (va : V) (kvs : List (List Key × V)) (W : List Rm) (Ls : List (List Bool)) (m : Nat), vs = [.ref a, .bl false] ∧ Ta CT CS T pos W H a dx wd b c va kvs Ls m ∧
 ∀ (l : Addr) (xs : List V) (ys : List Sy) (H' : Hp), SamT T H H' → zbP T agQ pos H' → H' l = some (.lst xs) → Paired (SyAt CS W H') xs ys → ys.length ≤ 1000 → (∀ y ∈ ys, Thru W kvs (capS (clsL W.length Ls) m) y) → (ys = [] → ∀ other room, other < W.length → zl6 W kvs other room → Ans W kvs other room) → Q (.ref l) H'
def LsAt (W : List Rm) (Ls : List (List Bool)) (ys : List Sy) (i : Nat) : List (List Bool) := ((ys.take i).map fun y => tru W y.s).reverse ++ Ls
theorem zd7 (W : List Rm) (Ls : List (List Bool)) (ys : List Sy) : LsAt W Ls ys 0 = Ls := by simp [LsAt]
theorem zkM {W : List Rm} {Ls : List (List Bool)} {ys : List Sy} {i : Nat} {y : Sy} (h : ys[i]? = some y) : LsAt W Ls ys (i + 1) = tru W y.s :: LsAt W Ls ys i := by
 unfold LsAt
 rw [List.take_add_one, h, List.map_append, List.reverse_append]; rfl
theorem zf5 (W : List Rm) (Ls : List (List Bool)) (ys : List Sy) (i : Nat) : ∀ t ∈ Ls, t ∈ LsAt W Ls ys i := fun t h => List.mem_append_right _ h
theorem zl7 {W : List Rm} {Ls : List (List Bool)} {ys : List Sy} {y : Sy} (h : y ∈ ys) : tru W y.s ∈ LsAt W Ls ys ys.length := by
 unfold LsAt
 rw [List.take_length]
 exact List.mem_append_left _ (List.mem_reverse.mpr (List.mem_map.mpr ⟨y, h, rfl⟩))
def zl8 (W : List Rm) (Ls : List (List Bool)) : Prop := ∀ one other, one < W.length → other < W.length → zbT Ls one other = true → ∀ room ∈ dAt W one, ∃ d ∈ dAt W other, zbT Ls room d = true
def zdM (W : List Rm) (Ls : List (List Bool)) : Nat := zeb (clsL W.length Ls)
def zex (CT CS T : Addr) (pos : Pos) : Sp := fun vs H Q _ => ∃ (a dx wd b : Addr) (c : Bool) (va : V) (kvs : List (List Key × V)) (W : List Rm) (Ls : List (List Bool)), vs = [.ref a, .bl false] ∧ Ta CT CS T pos W H a dx wd b c va kvs Ls (zdM W Ls) ∧
 ∀ (H' : Hp) (c' : Bool) (kvs' : List (List Key × V)) (Ls' : List (List Bool)), SamB [T, a, b] H H' → Ta CT CS T pos W H' a dx wd b c' va kvs' Ls' (zdM W Ls') → (∀ t ∈ Ls, t ∈ Ls') → (c' = true → clsL W.length Ls < clsL W.length Ls') → (c' = false → zl8 W Ls') → Q (.bl c') H'
theorem Ta.learnt {CT CS T a dx wd b : Addr} {pos : Pos} {W : List Rm} {H H' : Hp} {c c' : Bool} {va : V} {kvs kvs' : List (List Key × V)} {Ls Ls' : List (List Bool)} {m m' : Nat} (t : Ta CT CS T pos W H a dx wd b c va kvs Ls m) (S : SamB [a, b] H H') (l : Tl CT CS W H' a dx wd b c' [("always", va)] kvs' Ls' m') : Ta CT CS T pos W H' a dx wd b c' va kvs' Ls' m' := by
 have K := zev t.tl.obj t.tl.best S
 exact ⟨l, let ⟨y, h, z⟩ := t.alw; ⟨y, h.kp K, z⟩, t.tab.kp K, t.wd.kp K⟩
theorem zga {W : List Rm} {Ls : List (List Bool)} {kvs : List (List Key × V)} {ys : List Sy} {cap : Nat} (hk : ∀ i j, i < W.length → j < W.length → (valV kvs (k2 i j) = none ↔ zbT Ls i j = true)) (h : ∀ y ∈ ys, Thru W kvs cap y) (hne : ys ≠ []) : clsL W.length Ls < clsL W.length (LsAt W Ls ys ys.length) := by
 obtain ⟨y, r, rfl⟩ := List.exists_cons_of_ne_nil hne
 obtain ⟨one, other, h1, h2, h3, h4, h5, _⟩ := h y List.mem_cons_self
 refine zpL (zb3 _) (zb3 _) (fun i j e => zdv (zf5 W Ls _ _) e) h1 h2 ((hk _ _ h1 h2).mp h3) (zcq (zl7 List.mem_cons_self) ?_)
 rw [show (tru W y.s).getD one false = true from h4, show (tru W y.s).getD other false = false from h5]
 exact Bool.noConfusion
theorem ziP (wd b : Addr) (c : Bool) (v : V) : putF "always" v (tlF wd b c []) = tlF wd b c [("always", v)] := by unfold tlF; rfl
theorem zl3 (C : Addr) (W : List Rm) (H : Hp) (m : Nat) : zcB C W H [] [] m := ⟨zdH.nil _, fun i j _ _ => ⟨fun _ => rfl, fun _ => rfl⟩, fun i j v e => by cases e⟩
def zlJ (W : List Rm) (i : Nat) : List Int := (W[i]?.map (·.lit)).getD []
theorem zdt {W : List Rm} {i : Nat} {r : Rm} (h : W[i]? = some r) : zlJ W i = r.lit := by unfold zlJ; rw [h]; rfl
def zdn (W : List Rm) (Ls : List (List Bool)) : Prop := ∀ i j, i < W.length → j < W.length → zbT Ls i j = true → ∀ k, (zlJ W i).contains k = (zlJ W j).contains k
theorem zdn.more {W : List Rm} {Ls Ms : List (List Bool)} (h : zdn W Ls) (s : ∀ t ∈ Ls, t ∈ Ms) : zdn W Ms := fun i j hi hj e => h i j hi hj (zdv s e)
theorem zfg {W : List Rm} {Ls : List (List Bool)} {ks : List Int} (hk : ∀ k, k ∈ ks ↔ ∃ r ∈ W, k ∈ r.lit) (h : ∀ k ∈ ks, tru W (.lamp k) ∈ Ls) : zdn W Ls := fun i j hi hj e k => by
 have ei : W[i]? = some W[i] := List.getElem?_eq_getElem hi
 have ej : W[j]? = some W[j] := List.getElem?_eq_getElem hj
 rw [zdt ei, zdt ej]
 by_cases hm : k ∈ ks
 ·have := zbh.mp e _ (h k hm)
  have t1 := zfw k ei
  have t2 := zfw k ej
  rw [← t1, ← t2]
  exact this
 ·have no : ∀ r ∈ W, r.lit.contains k = false := fun r hr => by
   cases z : r.lit.contains k with
   | false => rfl
   | true => exact absurd ((hk k).mpr ⟨r, hr, List.contains_iff_mem.mp z⟩) hm
  rw [no _ (List.getElem_mem hi), no _ (List.getElem_mem hj)]
theorem zhV {W : List Rm} {ks : List Int} {m : Int} (hk : ∀ k, k ∈ ks ↔ ∃ r ∈ W, k ∈ r.lit) (h : ∀ k ∈ ks, k ≤ m) : ∀ j, j < W.length → tv W (.dark (m + 1)) j = true := fun j hj => by
 have ej : W[j]? = some W[j] := List.getElem?_eq_getElem hj
 rw [zgS (m + 1) ej]
 cases z : W[j].lit.contains (m + 1) with
 | false => rfl
 | true =>
  have := h _ ((hk _).mpr ⟨_, List.getElem_mem hj, List.contains_iff_mem.mp z⟩)
  omega
theorem zgq (W : List Rm) (Ls : List (List Bool)) (hW : 0 < W.length) (h9 : W.length ≤ 9) : 1 ≤ zdM W Ls := zdr (c := 1) (zkv hW) (Nat.le_trans (zgG _ _) h9)
def zi8 (CT CS T : Addr) (pos : Pos) : Sp := fun vs H Q _ => ∃ (x dx wd : Addr) (W : List Rm), vs = [.ref x, .ref wd] ∧ H x = some (.ins CT dx []) ∧ Wd H wd W ∧ zbP T agQ pos H ∧
 ∀ (H' : Hp) (b : Addr) (c : Bool) (va : V) (kvs : List (List Key × V)) (Ls : List (List Bool)), SamB [x] H H' → H b = none → Ta CT CS T pos W H' x dx wd b c va kvs Ls (zdM W Ls) → zdn W Ls → Q .non H'
def PrAt (H : Hp) (v : V) (p : Nat × Nat) : Prop := ∃ t, v = .ref t ∧ H t = some (.tup [.int p.1, .int p.2])
theorem PrAt.mono {H H' : Hp} {v : V} {p : Nat × Nat} (h : PrAt H v p) (T : TupK H H') : PrAt H' v p := let ⟨t, e, z⟩ := h; ⟨t, e, T _ _ z⟩
def rowP (kvs : List (List Key × V)) (n i : Nat) : List (Nat × Nat) := ((List.range n).filter fun j => decide (valV kvs (k2 i j) = none)).map fun j => (i, j)
def prsP (kvs : List (List Key × V)) (n i : Nat) : List (Nat × Nat) := (List.range i).flatMap (rowP kvs n)
theorem zfD (kvs : List (List Key × V)) (n i : Nat) : (rowP kvs n i).length ≤ n := by
 unfold rowP
 rw [List.length_map]
 have := List.length_filter_le (fun j => decide (valV kvs (k2 i j) = none)) (List.range n)
 rwa [List.length_range] at this
theorem zeF (kvs : List (List Key × V)) (n i : Nat) : prsP kvs n (i + 1) = prsP kvs n i ++ rowP kvs n i := by
 unfold prsP
 rw [List.range_succ, List.flatMap_append, List.flatMap_cons, List.flatMap_nil, List.append_nil]
theorem zhy (kvs : List (List Key × V)) (n : Nat) : ∀ i, (prsP kvs n i).length ≤ n * i
 | 0 => by simp [prsP]
 | i + 1 => by
  rw [zeF, List.length_append, Nat.mul_succ]
  have := zhy kvs n i
  have := zfD kvs n i
  omega
theorem zfN {kvs : List (List Key × V)} {n i : Nat} {p : Nat × Nat} : p ∈ rowP kvs n i ↔ p.1 = i ∧ p.2 < n ∧ valV kvs (k2 p.1 p.2) = none := by
 unfold rowP
 rw [List.mem_map]
 constructor
 ·rintro ⟨j, hj, rfl⟩
  rw [List.mem_filter, List.mem_range, decide_eq_true_iff] at hj
  exact ⟨rfl, hj⟩
 ·rintro ⟨rfl, h1, h2⟩
  exact ⟨p.2, by rw [List.mem_filter, List.mem_range, decide_eq_true_iff]; exact ⟨h1, h2⟩, rfl⟩
theorem zfO {kvs : List (List Key × V)} {n i : Nat} {p : Nat × Nat} : p ∈ prsP kvs n i ↔ p.1 < i ∧ p.2 < n ∧ valV kvs (k2 p.1 p.2) = none := by
 unfold prsP
 rw [List.mem_flatMap]
 constructor
 ·rintro ⟨k, hk, hp⟩
  obtain ⟨e, h1, h2⟩ := zfN.mp hp
  exact ⟨e ▸ List.mem_range.mp hk, h1, h2⟩
 ·rintro ⟨h0, h1, h2⟩
  exact ⟨p.1, List.mem_range.mpr h0, zfN.mpr ⟨rfl, h1, h2⟩⟩
theorem zh5 (kvs : List (List Key × V)) (n i : Nat) : (rowP kvs n i).Nodup := by
 unfold rowP List.Nodup
 rw [List.pairwise_map]
 have h : ((List.range n).filter fun j => decide (valV kvs (k2 i j) = none)).Nodup := (List.nodup_range).filter _
 exact List.Pairwise.imp (fun {a b} hab z => hab (congrArg Prod.snd z)) h
theorem zfa (kvs : List (List Key × V)) (n : Nat) : ∀ i, (prsP kvs n i).Nodup
 | 0 => by simp [prsP]
 | i + 1 => by
  rw [zeF]
  refine List.nodup_append.mpr ⟨zfa kvs n i, zh5 kvs n i, fun a ha b hb z => ?_⟩
  subst z
  have h1 := (zfO.mp ha).1
  have h2 := (zfN.mp hb).1
  omega
def zi3 : Sp := fun vs H Q _ => ∃ (wd b : Addr) (W : List Rm) (kvs : List (List Key × V)), vs = [.ref wd, .ref b] ∧ Wd H wd W ∧ H b = some (.dT kvs) ∧
 ∀ (l : Addr) (xs : List V) (H' : Hp), Same H H' → H' l = some (.lst xs) → Paired (PrAt H') xs (prsP kvs W.length W.length) → Q (.ref l) H'
def zhZ (W : List Rm) (one other : Nat) (ps : List (Nat × Nat)) : Prop := ps.Nodup ∧ ∃ Ls, zl8 W Ls ∧ zdn W Ls ∧ (one, other) ∈ ps ∧ ∀ p, p ∈ ps ↔ p.1 < W.length ∧ p.2 < W.length ∧ zbT Ls p.1 p.2 = true
def zmh (T : Addr) (pos : Pos) : Sp := fun vs H Q _ => ∃ (wd : Addr) (one other : Nat) (W : List Rm), vs = [.ref wd, .int one, .int other] ∧ Wd H wd W ∧ zbP T agQ pos H ∧ one < W.length ∧ other < W.length ∧
 (∀ (t : Addr) (x : V) (s : Say) (H' : Hp), SamT T H H' → H' t = some (.tup [.str "apart", x]) → Stm H' x s → Say.good false s → s.sz ≤ 100000 → tv W s one = true → tv W s other = false → Q (.ref t) H') ∧
 ∀ (t l : Addr) (xs : List V) (ps : List (Nat × Nat)) (H' : Hp), SamT T H H' → H' t = some (.tup [.str "alike", .ref l]) → H' l = some (.lst xs) → Paired (PrAt H') xs ps → zhZ W one other ps → Q (.ref t) H'
theorem zec (W : List Rm) (Ls : List (List Bool)) (h9 : W.length ≤ 9) : zdM W Ls ≤ 23779 := zif (Nat.le_trans (zgG _ _) h9)
end L2
set_option Elab.async false
set_option linter.all false
set_option maxRecDepth 100000
set_option maxHeartbeats 4000000
namespace L2
open PySem
def stpM (m i : Nat) : Nat := (i * 5 + 1) % (m + 1)
def itM (m : Nat) : Nat → Nat → Nat
 | 0, i => i
 | n + 1, i => itM m n (stpM m i)
theorem zfT (m : Nat) : ∀ a b i, itM m (a + b) i = itM m b (itM m a i)
 | 0, b, i => by rw [Nat.zero_add]; rfl
 | a + 1, b, i => by
  rw [Nat.add_right_comm]
  exact zfT m a b (stpM m i)
def orbM (m : Nat) : Nat → Nat → List Nat
 | 0, _ => []
 | n + 1, i => i :: orbM m n (stpM m i)
theorem zhE {m j : Nat} : ∀ {n i : Nat}, j ∈ orbM m n i → ∃ q, q < n ∧ itM m q i = j
 | 0, _, h => by cases h
 | n + 1, i, h => by
  rcases List.mem_cons.mp h with rfl | h
  ·exact ⟨0, Nat.succ_pos _, rfl⟩
  ·obtain ⟨q, hq, e⟩ := zhE h
   exact ⟨q + 1, Nat.succ_lt_succ hq, e⟩
def zc0 (m : Nat) : Prop := ((List.range (m + 1)).all fun j => (orbM m (m + 1) 0).contains j) = true ∧ itM m (m + 1) 0 = 0
theorem zp8 : zc0 7 := by unfold zc0; decide +kernel
theorem zpE : zc0 31 := by unfold zc0; decide +kernel
theorem zn6 : zc0 127 := by unfold zc0; decide +kernel
theorem zn5 : zc0 511 := by unfold zc0; decide +kernel
theorem zc0.from0 {m j : Nat} (F : zc0 m) (h : j ≤ m) : ∃ q, q ≤ m ∧ itM m q 0 = j := by
 have := List.all_eq_true.mp F.1 j (List.mem_range.mpr (by omega))
 obtain ⟨q, hq, e⟩ := zhE (List.contains_iff_mem.mp this)
 exact ⟨q, by omega, e⟩
theorem zc0.reach {m i j : Nat} (F : zc0 m) (hi : i ≤ m) (hj : j ≤ m) : ∃ n, n ≤ m ∧ itM m n i = j := by
 obtain ⟨p, hp, rfl⟩ := F.from0 hi
 obtain ⟨q, hq, rfl⟩ := F.from0 hj
 by_cases h : p ≤ q
 ·refine ⟨q - p, by omega, ?_⟩
  rw [← zfT, show p + (q - p) = q by omega]
 ·refine ⟨q + (m + 1) - p, by omega, ?_⟩
  rw [← zfT, show p + (q + (m + 1) - p) = (m + 1) + q by omega, zfT, F.2]
def lpM (m : Nat) : Nat → Nat × Nat → Nat × Nat
 | 0, x => x
 | n + 1, x => lpM m n (SetTable.leap m x.1 x.2)
theorem zj1 (m : Nat) : ∀ a b x, lpM m (a + b) x = lpM m b (lpM m a x)
 | 0, b, x => by rw [Nat.zero_add]; rfl
 | a + 1, b, x => by
  rw [Nat.add_right_comm]
  exact zj1 m a b _
theorem zhH (m : Nat) : ∀ n i, lpM m n (i, 0) = (itM m n i, 0)
 | 0, i => rfl
 | n + 1, i => by
  show lpM m n (SetTable.leap m i 0) = (itM m n (stpM m i), 0)
  rw [show SetTable.leap m i 0 = (stpM m i, 0) from by unfold SetTable.leap stpM; simp]
  exact zhH m n _
theorem zhI (m : Nat) : ∀ t i p, i ≤ m → p < 32 ^ t → (lpM m t (i, p)).2 = 0 ∧ (lpM m t (i, p)).1 ≤ m
 | 0, i, p, hi, h => ⟨by show p = 0; simp at h; exact h, hi⟩
 | t + 1, i, p, hi, h => by
  show (lpM m t (SetTable.leap m i p)).2 = 0 ∧ _
  refine zhI m t _ _ ?_ ?_
  ·exact Nat.le_of_lt_succ (Nat.mod_lt (i * 5 + 1 + p / 32) (Nat.succ_pos m))
  ·show p / 32 < 32 ^ t
   rw [Nat.pow_succ] at h
   omega
theorem zpk {m i p j : Nat} (F : zc0 m) (hi : i ≤ m) (hp : p < 2 ^ 64) (hj : j ≤ m) : ∃ n, n < m + 14 ∧ 13 ≤ n ∧ (lpM m n (i, p)).1 = j := by
 obtain ⟨h2, h1⟩ := zhI m 13 i p hi (Nat.lt_of_lt_of_le hp (by decide))
 obtain ⟨r, hr, e⟩ := F.reach h1 hj
 refine ⟨13 + r, by omega, by omega, ?_⟩
 rw [zj1]
 have : lpM m 13 (i, p) = ((lpM m 13 (i, p)).1, 0) := Prod.ext rfl h2
 rw [this, zhH]
 exact e
theorem zkG (h : Int) : SetTable.bits h < 2 ^ 64 := by
 unfold SetTable.bits
 have h1 := Int.emod_nonneg h (show (2 ^ 64 : Int) ≠ 0 by decide)
 have h2 := Int.emod_lt_of_pos h (show (0 : Int) < 2 ^ 64 by decide)
 have : ((h % (2 ^ 64 : Int)).toNat : Int) < ((2 ^ 64 : Nat) : Int) := by
  rw [Int.toNat_of_nonneg h1]; exact h2
 exact Int.ofNat_lt.mp this
theorem zeB {t : SetTable} {j i : Nat} (h : t.slot j = .live i) : t.place[i]? = some j := by
 unfold SetTable.slot at h
 dsimp only at h
 split at h
 ·rename_i hp
  cases h
  exact eq_of_beq hp
 ·split at h <;> cases h
theorem zdb {t : SetTable} {j : Nat} (hd : t.dummies = #[]) : t.slot j ≠ .dummy := by
 unfold SetTable.slot
 dsimp only
 split
 ·intro z; cases z
 ·rw [if_neg (by rw [hd]; intro z; cases (show false = true from z))]
  intro z; cases z
theorem zje {t : SetTable} {j : Nat} (hd : t.dummies = #[]) (h : j ∉ t.place.toList) : t.slot j = .empty := by
 cases e : t.slot j with
 | empty => rfl
 | dummy => exact absurd e (zdb hd)
 | live i =>
  have := zeB e
  exact absurd (List.mem_of_getElem? (by rw [Array.getElem?_toList]; exact this)) h
theorem zjc {t : SetTable} (h : t.place.size ≤ t.mask) : ∃ j, j ≤ t.mask ∧ j ∉ t.place.toList := by
 by_cases hex : ∃ j, j ≤ t.mask ∧ j ∉ t.place.toList
 ·exact hex
 ·exfalso
  have := zcz (l := List.range (t.mask + 1)) (m := t.place.toList) List.nodup_range fun x hx => by
   have hx := List.mem_range.mp hx
   exact Classical.byContradiction fun z => hex ⟨x, by omega, z⟩
  rw [List.length_range, Array.length_toList] at this
  omega
theorem zdV (m i : Nat) : SetTable.runEnd m i - i ≤ 9 := by
 unfold SetTable.runEnd
 split <;> omega
theorem zlc {t : SetTable} {f : Nat → Int} {h : Int} {js : Nat} (hd : t.dummies = #[]) (hf : ∀ i, i < t.place.size → f i ≠ h) (hjs : t.slot js = .empty) :
  ∀ (n fuel : Nat) (p : SetTable.Probe), p.dummy = none → p.more ≤ 9 → (lpM t.mask (n + 1) (p.i, p.perturb)).1 = js → p.more + 10 * n + 2 ≤ fuel → ∃ j, SetTable.probe.go t f h fuel p = some (.empty j none) := by
 intro n
 induction n with
 | zero =>
  intro fuel
  induction fuel with
  | zero => intro p _ _ _ hz; omega
  | succ fuel ih =>
   intro p h1 h2 h3 h4
   unfold SetTable.probe.go
   cases hs : t.slot p.j with
   | empty => exact ⟨p.j, by rw [h1]⟩
   | dummy => exact absurd hs (zdb hd)
   | live i =>
    have hi : i < t.place.size := (Array.getElem?_eq_some_iff.mp (zeB hs)).1
    dsimp only
    rw [if_neg (by intro z; exact hf i hi (eq_of_beq z))]
    by_cases hm : p.more > 0
    ·refine ih _ ?_ ?_ ?_ ?_
     ·unfold SetTable.advance; rw [if_pos hm]; exact h1
     ·unfold SetTable.advance; rw [if_pos hm]; show p.more - 1 ≤ 9; omega
     ·unfold SetTable.advance; rw [if_pos hm]; exact h3
     ·unfold SetTable.advance; rw [if_pos hm]; show p.more - 1 + 10 * 0 + 2 ≤ fuel; omega
    ·cases fuel with
     | zero => omega
     | succ fuel =>
      unfold SetTable.probe.go
      have e : (t.advance p).j = js := by unfold SetTable.advance; rw [if_neg hm]; exact h3
      have e2 : (t.advance p).dummy = none := by unfold SetTable.advance; rw [if_neg hm]; exact h1
      rw [e, hjs]
      exact ⟨js, by rw [e2]⟩
 | succ n ihn =>
  intro fuel
  induction fuel with
  | zero => intro p _ _ _ hz; omega
  | succ fuel ih =>
   intro p h1 h2 h3 h4
   unfold SetTable.probe.go
   cases hs : t.slot p.j with
   | empty => exact ⟨p.j, by rw [h1]⟩
   | dummy => exact absurd hs (zdb hd)
   | live i =>
    have hi : i < t.place.size := (Array.getElem?_eq_some_iff.mp (zeB hs)).1
    dsimp only
    rw [if_neg (by intro z; exact hf i hi (eq_of_beq z))]
    by_cases hm : p.more > 0
    ·refine ih _ ?_ ?_ ?_ ?_
     ·unfold SetTable.advance; rw [if_pos hm]; exact h1
     ·unfold SetTable.advance; rw [if_pos hm]; show p.more - 1 ≤ 9; omega
     ·unfold SetTable.advance; rw [if_pos hm]; exact h3
     ·unfold SetTable.advance; rw [if_pos hm]; show p.more - 1 + 10 * (n + 1) + 2 ≤ fuel; omega
    ·refine ihn fuel _ ?_ ?_ ?_ ?_
     ·unfold SetTable.advance; rw [if_neg hm]; exact h1
     ·unfold SetTable.advance; rw [if_neg hm]; exact zdV _ _
     ·unfold SetTable.advance; rw [if_neg hm]; exact h3
     ·unfold SetTable.advance; rw [if_neg hm]
      have := zdV t.mask (SetTable.leap t.mask p.i p.perturb).1
      show SetTable.runEnd t.mask (SetTable.leap t.mask p.i p.perturb).1 - (SetTable.leap t.mask p.i p.perturb).1 + 10 * n + 2 ≤ fuel
      omega
theorem zh7 {t : SetTable} {f : Nat → Int} {h : Int} (F : zc0 t.mask) (hd : t.dummies = #[]) (hz : t.place.size ≤ t.mask) (hf : ∀ i, i < t.place.size → f i ≠ h) : ∃ j, t.probe f h (t.probeStart h) = some (.empty j none) := by
 obtain ⟨js, hjs, hn⟩ := zjc hz
 have hi : SetTable.bits h % (t.mask + 1) ≤ t.mask := Nat.le_of_lt_succ (Nat.mod_lt (SetTable.bits h) (Nat.succ_pos t.mask))
 obtain ⟨n, h1, h2, h3⟩ := zpk F hi (zkG h) hjs
 obtain ⟨k, rfl⟩ : ∃ k, n = k + 1 := ⟨n - 1, by omega⟩
 unfold SetTable.probe
 refine zlc hd hf (zje hd hn) k _ _ rfl (zdV _ _) h3 ?_
 have := zdV t.mask (SetTable.bits h % (t.mask + 1))
 show SetTable.runEnd t.mask (SetTable.bits h % (t.mask + 1)) - SetTable.bits h % (t.mask + 1) + 10 * k + 2 ≤ 10 * SetTable.turns t.mask
 unfold SetTable.turns
 omega
abbrev zf2 := Array (Option Nat)
theorem zkp {m : Nat} {o : zf2} {js : Nat} (hj : (o.getD js (some 0)).isNone = true) : ∀ (n fuel i p : Nat), (lpM m n (i, p)).1 = js → n < fuel → (SetTable.layClean.free m o fuel i p).isSome = true
 | n, 0, i, p, _, h => by omega
 | 0, fuel + 1, i, p, h, _ => by
  have h : i = js := h
  subst h
  unfold SetTable.layClean.free
  cases hf : (List.range (SetTable.runEnd m i + 1 - i)).find? fun k => (o.getD (i + k) (some 0)).isNone with
  | some k => rfl
  | none =>
   have := List.find?_eq_none.mp hf 0 (List.mem_range.mpr (by unfold SetTable.runEnd; split <;> omega))
   exact absurd hj this
 | n + 1, fuel + 1, i, p, h, hl => by
  unfold SetTable.layClean.free
  cases hf : (List.range (SetTable.runEnd m i + 1 - i)).find? fun k => (o.getD (i + k) (some 0)).isNone with
  | some k => rfl
  | none => exact zkp hj n fuel _ _ h (by omega)
theorem zgA {m : Nat} {o : zf2} : ∀ (fuel i p j : Nat), SetTable.layClean.free m o fuel i p = some j → (o.getD j (some 0)).isNone = true
 | 0, i, p, j, h => by unfold SetTable.layClean.free at h; cases h
 | fuel + 1, i, p, j, h => by
  unfold SetTable.layClean.free at h
  cases hf : (List.range (SetTable.runEnd m i + 1 - i)).find? fun k => (o.getD (i + k) (some 0)).isNone with
  | some k =>
   rw [hf] at h
   cases h
   have := List.find?_some (p := fun k => (o.getD (i + k) (some 0)).isNone) hf
   exact this
  | none =>
   rw [hf] at h
   exact zgA fuel _ _ j h
theorem zfp {α : Type} [DecidableEq α] {p q : α → Bool} {x : α} (hp : p x = false) (hq : q x = true) (h : ∀ y, y ≠ x → q y = p y) : ∀ {l : List α}, l.Nodup → x ∈ l → l.countP q = l.countP p + 1
 | a :: r, hn, hx => by
  rw [List.nodup_cons] at hn
  rw [List.countP_cons, List.countP_cons]
  by_cases e : a = x
  ·subst e
   have : r.countP q = r.countP p := List.countP_congr fun y hy => by rw [h y (fun z => hn.1 (z ▸ hy))]
   rw [this, hp, hq]; simp
  ·have := zfp hp hq h hn.2 ((List.mem_cons.mp hx).resolve_left (Ne.symm e))
   rw [this, h a e]; omega
structure Laid (m k : Nat) (o : zf2) : Prop where
 size : o.size = m + 1
 cnt : (List.range (m + 1)).countP (fun j => (o.getD j none).isSome) = k
 lt : ∀ j v, o.getD j none = some v → v < k
theorem getD_none {o : zf2} {j : Nat} (h : (o.getD j (some 0)).isNone = true) : j < o.size ∧ o.getD j none = none := by
 by_cases hj : j < o.size
 ·refine ⟨hj, ?_⟩
  rw [Array.getD_eq_getD_getElem?, Array.getElem?_eq_getElem hj] at h ⊢
  simpa using h
 ·rw [Array.getD_eq_getD_getElem?, Array.getElem?_eq_none (by omega)] at h
  simp at h
theorem getD_some {o : zf2} {j : Nat} (hj : j < o.size) (h : o.getD j none = none) : (o.getD j (some 0)).isNone = true := by
 rw [Array.getD_eq_getD_getElem?, Array.getElem?_eq_getElem hj] at h ⊢
 simpa using h
theorem Laid.put {m k j : Nat} {o : zf2} (L : Laid m k o) (h : (o.getD j (some 0)).isNone = true) : Laid m (k + 1) (o.setIfInBounds j (some k)) := by
 obtain ⟨hj, hn⟩ := getD_none h
 have hs : ∀ i, (o.setIfInBounds j (some k)).getD i none = if i = j then some k else o.getD i none := fun i => by
  rw [Array.getD_eq_getD_getElem?, Array.getElem?_setIfInBounds, Array.getD_eq_getD_getElem?]
  by_cases e : j = i
  ·subst e; simp [hj]
  ·rw [if_neg e, if_neg (Ne.symm e)]
 refine ⟨by rw [Array.size_setIfInBounds]; exact L.size, ?_, fun i v e => ?_⟩
 ·refine Eq.trans ?_ (congrArg (· + 1) L.cnt)
  refine zfp (x := j) ?_ ?_ (fun y hy => ?_) List.nodup_range (List.mem_range.mpr (by rw [← L.size]; exact hj))
  ·rw [hn]; rfl
  ·rw [hs, if_pos rfl]; rfl
  ·rw [hs, if_neg hy]
 ·rw [hs] at e
  split at e
  ·cases e; omega
  ·have := L.lt i v e; omega
theorem Laid.free {m k : Nat} {o : zf2} (L : Laid m k o) (F : zc0 m) (hk : k ≤ m) (h : Int) : ∃ j, SetTable.layClean.free m o (SetTable.turns m) (SetTable.bits h % (m + 1)) (SetTable.bits h) = some j ∧ (o.getD j (some 0)).isNone = true := by
 have : ∃ js, js ≤ m ∧ o.getD js none = none := by
  by_cases hex : ∃ js, js ≤ m ∧ o.getD js none = none
  ·exact hex
  ·exfalso
   have : (List.range (m + 1)).countP (fun j => (o.getD j none).isSome) = (List.range (m + 1)).length := List.countP_eq_length.mpr fun j hj => by
    have hj := List.mem_range.mp hj
    cases e : o.getD j none with
    | some v => rfl
    | none => exact absurd ⟨j, by omega, e⟩ hex
   rw [L.cnt, List.length_range] at this
   omega
 obtain ⟨js, h1, h2⟩ := this
 have hj := getD_some (by rw [L.size]; omega) h2
 obtain ⟨n, n1, n2, n3⟩ := zpk F (Nat.le_of_lt_succ (Nat.mod_lt (SetTable.bits h) (Nat.succ_pos m))) (zkG h) h1
 have := zkp (m := m) hj n (SetTable.turns m) _ _ n3 (by unfold SetTable.turns; omega)
 obtain ⟨j, e⟩ := Option.isSome_iff_exists.mp this
 exact ⟨j, e, zgA _ _ _ _ e⟩
theorem zhK {m : Nat} (F : zc0 m) : ∀ (hs : List Int) (k : Nat) (o : zf2), Laid m k o → k + hs.length ≤ m →
  ∃ o', Laid m (k + hs.length) o' ∧ hs.foldl (fun (acc : Option (zf2 × Nat)) h => do
   let (owner, k) ← acc
   let j ← SetTable.layClean.free m owner (SetTable.turns m) (SetTable.bits h % (m + 1)) (SetTable.bits h)
   pure (owner.setIfInBounds j (some k), k + 1)) (some (o, k)) = some (o', k + hs.length)
 | [], k, o, L, _ => ⟨o, L, rfl⟩
 | h :: r, k, o, L, hz => by
  rw [List.length_cons] at hz
  obtain ⟨j, e1, e2⟩ := L.free F (by omega) h
  obtain ⟨o', L', e⟩ := zhK F r (k + 1) _ (L.put e2) (by omega)
  refine ⟨o', by rw [List.length_cons, show k + (r.length + 1) = k + 1 + r.length by omega]; exact L', ?_⟩
  rw [List.foldl_cons, List.length_cons, show k + (r.length + 1) = k + 1 + r.length by omega, ← e]
  congr 1
  show (do
   let j ← SetTable.layClean.free m o (SetTable.turns m) (SetTable.bits h % (m + 1)) (SetTable.bits h)
   pure (o.setIfInBounds j (some k), k + 1)) = _
  rw [e1]; rfl
theorem zij (m : Nat) : Laid m 0 (Array.replicate (m + 1) none) := by
 have h : ∀ j, (Array.replicate (m + 1) (none : Option Nat)).getD j none = none := fun j => by
  rw [Array.getD_eq_getD_getElem?, Array.getElem?_replicate]
  split <;> rfl
 refine ⟨Array.size_replicate, ?_, fun j v e => ?_⟩
 ·rw [List.countP_eq_zero]
  intro j _
  rw [h]; exact Bool.noConfusion
 ·rw [h] at e; cases e
theorem znM {m : Nat} (F : zc0 m) {hs : Array Int} (hz : hs.size ≤ m) : ∃ o, Laid m hs.size o ∧ SetTable.layClean m hs = some o := by
 obtain ⟨o', L, e⟩ := zhK F hs.toList 0 _ (zij m) (by rw [Array.length_toList]; omega)
 rw [Array.length_toList, Nat.zero_add] at L
 refine ⟨o', L, ?_⟩
 unfold SetTable.layClean
 rw [← Array.foldl_toList, e]; rfl
theorem zco {α β : Type} (f : α → Option β) : ∀ l : List α, (l.filterMap f).length = l.countP fun x => (f x).isSome
 | [] => rfl
 | a :: r => by
  rw [List.countP_cons]
  cases h : f a with
  | none => rw [List.filterMap_cons_none h, zco f r]; simp
  | some b => rw [List.filterMap_cons_some h, List.length_cons, zco f r]; simp
theorem zlL {m finger moves : Nat} {led plain : Bool} (F : zc0 m) {hs : Array Int} (hz : hs.size ≤ m) : ∃ t order, SetTable.laid m finger moves led plain hs = some (t, order) ∧ t.mask = m ∧ t.dummies = #[] ∧ t.place.size = hs.size ∧ order.size = hs.size ∧ ∀ k ∈ order.toList, k < hs.size := by
 obtain ⟨o, L, e⟩ := znM F hz
 have hlen : ((List.range (m + 1)).filterMap fun j => (o.getD j none).map (j, ·)).length = hs.size := by
  rw [zco, ← L.cnt]
  exact List.countP_congr fun j _ => by rw [Option.isSome_map]
 unfold SetTable.laid
 rw [e]
 refine ⟨_, _, rfl, rfl, rfl, ?_, ?_, fun k hk => ?_⟩
 ·rw [List.size_toArray, List.length_map, hlen]
 ·rw [List.size_toArray, List.length_map, hlen]
 ·have hk : k ∈ (((List.range (m + 1)).filterMap fun j => (o.getD j none).map (j, ·)).map (·.2)) := by simpa using hk
  obtain ⟨x, hx, rfl⟩ := List.mem_map.mp hk
  obtain ⟨j, _, hj⟩ := List.mem_filterMap.mp hx
  obtain ⟨v, hv, rfl⟩ := Option.map_eq_some_iff.mp hj
  exact L.lt j v hv
end L2
set_option Elab.async false
set_option linter.all false
set_option maxRecDepth 100000
set_option maxHeartbeats 4000000
namespace L2
open PySem PySem.Spec PyProof.Rows
def SzM (m k : Nat) : Prop := (m = 7 ∧ k ≤ 4) ∨ (m = 31 ∧ k ≤ 18) ∨ (m = 127 ∧ k ≤ 76) ∨ (m = 511 ∧ k ≤ 300)
theorem SzM.full {m k : Nat} (h : SzM m k) : zc0 m := by
 rcases h with ⟨rfl, _⟩ | ⟨rfl, _⟩ | ⟨rfl, _⟩ | ⟨rfl, _⟩
 ·exact zp8
 ·exact zpE
 ·exact zn6
 ·exact zn5
theorem SzM.le {m k : Nat} (h : SzM m k) : k + 1 ≤ m := by unfold SzM at h; omega
theorem SzM.odd {m k : Nat} (h : SzM m k) : (m % 2 == 0) = false := by
 rcases h with ⟨rfl, _⟩ | ⟨rfl, _⟩ | ⟨rfl, _⟩ | ⟨rfl, _⟩ <;> rfl
structure PrS (h : Heap) (a : Addr) (hs : List Int) (o : Obj) (es : Array (Int × Value)) (ep : Nat) (t : SetTable) : Prop where
 get : h.get? a = some o
 exact : o.ExactSet
 data : o.data = .set es ep t
 size : es.size = hs.length
 mem : ∀ e ∈ es.toList, e.1 ∈ hs
 place : t.place.size = es.size
 nodum : t.dummies = #[]
 mask : SzM t.mask es.size
theorem PrS.fits {h : Heap} {a : Addr} {hs : List Int} {o : Obj} {es : Array (Int × Value)} {ep : Nat} {t : SetTable} (p : PrS h a hs o es ep t) : t.fits es.size = true := by
 unfold SetTable.fits SetTable.fill
 rw [p.place, p.nodum]
 have := p.mask.le
 simp only [Array.size_empty, Nat.add_zero, Bool.and_eq_true, beq_iff_eq, decide_eq_true_eq, true_and]
 omega
section
variable {prog : Program} {w : World} {A : Around} {E : Value → Shared → Prop} {s : Shared} {K : Type} [DecidableEq K] {knd : KeyKind prog w K}
theorem zh4 {a : Addr} {hs : List Int} {o : Obj} {es : Array (Int × Value)} {ep : Nat} {t : SetTable} {x : Value} {hx : Int} {Q : SetFound → Shared → Prop} (p : PrS s.heap a hs o es ep t) (hn : hx ∉ hs) (q : ∀ j, Q (.free j false) s) :
  wpAny (model prog w) A (setSearch a x hx (adding := true)) Q E s := by
 unfold setSearch
 unfold setSearchFrom
 refine wpAny_bind (wpAny_setState_of p.get p.data p.fits ?_)
 dsimp only
 have hg : t.gaveWay = false := p.mask.odd
 rw [hg]
 simp only [Bool.false_eq_true, ↓reduceIte]
 obtain ⟨j, hj⟩ := zh7 (t := t) (f := fun i => (es[i]?.map (·.1)).getD 0) (h := hx) p.mask.full p.nodum (by have := p.mask.le; rw [p.place]; omega) fun i hi z => by
  rw [p.place] at hi
  rw [Array.getElem?_eq_getElem hi] at z
  exact hn (z ▸ p.mem _ (Array.getElem_mem_toList hi))
 erw [hj]
 exact wpAny_pure (q j)
theorem zgy {a : Addr} {items : Array Value} {n : Nat} {o : Obj} {Q : Bool → Shared → Prop} (ho : s.heap.get? a = some o) (hc : o.cls = .type "tuple") (hd : o.data = .seq items n) (hi : ∀ v ∈ items.toList, ∃ k t, v = .int k t) (q : Q true s) :
  wpAny (model prog w) A (hashByValue 8 (.ref a)) Q E s := by
 have hT : s.TypeIs (.ref a) "tuple" := ⟨o, ho, hc⟩
 unfold hashByValue
 refine wpAny_bind (wpAny_specialOf hT F.slot_tuple_hash.lookup ?_)
 show wpAny _ A (seqItems? (.ref a) >>= _) Q E s
 refine wpAny_bind (wpAny_seqItems ho hd ?_)
 refine wpAny_bind ?_
 show wpAny _ _ (forIn items _ _) _ _ s
 rw [← Array.forIn_toList]
 refine wpAny_forIn_list _ (fun rest r s' => r.1 = none ∧ s' = s ∧ ∀ v ∈ rest, ∃ k t, v = Value.int k t) _ ?_ ?_ _ _ ⟨rfl, rfl, hi⟩
 ·rintro v rest r s' ⟨hr, rfl, hall⟩
  obtain ⟨k, t, rfl⟩ := hall v List.mem_cons_self
  rw [show hashByValue 7 (.int k t) = pure true from rfl]
  refine wpAny_bind (wpAny_pure ?_)
  simp only [Bool.not_true, Bool.false_eq_true, if_false]
  exact wpAny_pure ⟨rfl, rfl, fun u hu' => hall u (List.mem_cons_of_mem _ hu')⟩
 ·rintro ⟨r1, r2⟩ s' ⟨hr, rfl, _⟩
  simp only at hr
  subst hr
  exact wpAny_pure q
theorem zd3 {α : Type} (xs : Array α) (p : Nat) (x : α) : (SetTable.insertAt xs p x).size = xs.size + 1 := by
 have := (SetTable.insertAt_perm xs p x).length_eq
 rwa [Array.length_toList, Array.length_toList, Array.size_push] at this
theorem zjC {h : Heap} {a : Addr} {o : Obj} {es : Array (Int × Value)} {ep : Nat} {t : SetTable} (ho : h.get? a = some o) (hd : o.data = .set es ep t) (es' : Array (Int × Value)) (t' : SetTable) :
  (h.update a (Obj.putSet es' t')).get? a = some { o with data := .set es' (ep + 1) t' } := by
 have := Heap.get?_update_self (Obj.putSet es' t') ho (by rw [putSet_of es' t' hd]; rfl)
 rw [putSet_of es' t' hd] at this; exact this
theorem zn4 {m k : Nat} (h : SzM m k) (hk : k < 81) : (SzM m (k + 1) ∧ ¬ ((k + 1) * 5 ≥ m * 3)) ∨ (((k + 1) * 5 ≥ m * 3) ∧ ∃ m', SetTable.sizeAbove (SetTable.grown (k + 1)) = m' + 1 ∧ SzM m' (k + 1)) := by
 unfold SzM at h
 rcases h with ⟨rfl, h⟩ | ⟨rfl, h⟩ | ⟨rfl, h⟩ | ⟨rfl, h⟩
 ·by_cases e : k = 4
  ·subst e; exact .inr ⟨by decide, 31, by decide +kernel, .inr (.inl ⟨rfl, by decide⟩)⟩
  ·exact .inl ⟨.inl ⟨rfl, by omega⟩, by omega⟩
 ·by_cases e : k = 18
  ·subst e; exact .inr ⟨by decide, 127, by decide +kernel, .inr (.inr (.inl ⟨rfl, by decide⟩))⟩
  ·exact .inl ⟨.inr (.inl ⟨rfl, by omega⟩), by omega⟩
 ·by_cases e : k = 76
  ·subst e; exact .inr ⟨by decide, 511, by decide +kernel, .inr (.inr (.inr ⟨rfl, by decide⟩))⟩
  ·exact .inl ⟨.inr (.inr (.inl ⟨rfl, by omega⟩)), by omega⟩
 ·exact .inl ⟨.inr (.inr (.inr ⟨rfl, by omega⟩)), by omega⟩
theorem zkX {a : Addr} {hs : List Int} {o : Obj} {es : Array (Int × Value)} {ep m' : Nat} {t : SetTable} {wanted : Nat} {Q : Unit → Shared → Prop} (ho : s.heap.get? a = some o) (hex : o.ExactSet) (hd : o.data = .set es ep t) (hf : t.fits es.size = true) (hz : es.size = hs.length) (hm : ∀ e ∈ es.toList, e.1 ∈ hs)
  (hw : SetTable.sizeAbove wanted = m' + 1) (hS : SzM m' es.size) (q : ∀ h', Heap.SameBut a s.heap h' → (∃ o es ep t, PrS h' a hs o es ep t) → Q () { s with heap := h' }) : wpAny (model prog w) A (setRelay a wanted) Q E s := by
 unfold setRelay
 refine wpAny_bind (wpAny_setState_of ho hd hf ?_)
 dsimp only
 have hle := hS.le
 have hm511 : m' ≤ 511 := by unfold SzM at hS; omega
 rw [if_neg (by rw [hw, sizeLine_eq]; omega)]
 obtain ⟨t', order, e1, e2, e3, e4, e5, e6⟩ := zlL (m := m') (finger := t.finger) (moves := t.movedTo m') (led := t.led) (plain := t.plain) hS.full (hs := es.map (·.1)) (by rw [Array.size_map]; omega)
 have er : t.relaid (es.map (·.1)) wanted = some (t', order) := by
  unfold SetTable.relaid
  rw [hw]; exact e1
 rw [er]
 rw [Array.size_map] at e4 e5 e6
 have hfm : (order.filterMap (es[·]?)).size = es.size := by
  rw [← Array.length_toList, Array.toList_filterMap, zco, ← e5, ← Array.length_toList]
  exact List.countP_eq_length.mpr fun k hk => by rw [Array.getElem?_eq_getElem (e6 k hk)]; rfl
 refine wpAny_bind ?_
 show wpAny _ _ (do
  if (order.filterMap (es[·]?)).size != es.size then unsupported "internal:set-table-lost-an-element"
  pure (order.filterMap (es[·]?), t')) _ _ _
 rw [hfm]
 simp only [bne_self_eq_false, Bool.false_eq_true, ↓reduceIte]
 refine wpAny_pure ?_
 refine wpAny_storeSet_of ho hd (q _ (Heap.SameBut.update _ a _) ⟨_, _, _, _, zjC ho hd _ _, hex, rfl, by rw [hfm, hz], fun e he => ?_, by rw [hfm, e4], e3, by rw [e2, hfm]; exact hS⟩) (by rw [hfm, sizeLine_eq]; omega)
 rw [Array.toList_filterMap] at he
 obtain ⟨k, _, hk⟩ := List.mem_filterMap.mp he
 exact hm e (List.mem_of_getElem? (by rw [Array.getElem?_toList]; exact hk))
theorem zl5 {a : Addr} {hs : List Int} {o : Obj} {es : Array (Int × Value)} {ep P : Nat} {t t1 : SetTable} {x : Value} {hx : Int} {Q : Bool → Shared → Prop} (p : PrS s.heap a hs o es ep t) (hk : hs.length < 81) (h1 : t1.mask = t.mask) (h2 : t1.place.size = es.size + 1) (h3 : t1.dummies = #[])
  (q : ∀ h', Heap.SameBut a s.heap h' → (∃ o es ep t, PrS h' a (hx :: hs) o es ep t) → Q true { s with heap := h' }) :
  wpAny (model prog w) A (do
   storeSet a (SetTable.insertAt es P (hx, x)) t1
   if (!false && t1.tooFull) = true then do
    setRelay a (SetTable.grown (es.size + 1))
    pure true
   else pure true) Q E s := by
 have hsz := zd3 es P (hx, x)
 have hle := p.mask.le
 have hes := p.size
 refine wpAny_bind (wpAny_storeSet_of p.get p.data ?_ (by rw [hsz, sizeLine_eq]; omega))
 have hmem : ∀ e ∈ (SetTable.insertAt es P (hx, x)).toList, e.1 ∈ hx :: hs := fun e he => by
  have := (SetTable.insertAt_perm es P (hx, x)).mem_iff.mp he
  rw [Array.toList_push] at this
  rcases List.mem_append.mp this with z | z
  ·exact List.mem_cons_of_mem _ (p.mem e z)
  ·rw [List.mem_singleton.mp z]; exact List.mem_cons_self
 have hg := zjC p.get p.data (SetTable.insertAt es P (hx, x)) t1
 have htf : t1.tooFull = decide ((es.size + 1) * 5 ≥ t.mask * 3) := by
  unfold SetTable.tooFull SetTable.fill
  rw [h1, h2, h3]; rfl
 have hfit : t1.fits (SetTable.insertAt es P (hx, x)).size = true := by
  unfold SetTable.fits SetTable.fill
  rw [h1, h2, h3, hsz]
  simp only [Array.size_empty, Nat.add_zero, Bool.and_eq_true, beq_iff_eq, decide_eq_true_eq, true_and]
  omega
 rcases zn4 p.mask (by omega) with ⟨hS, hno⟩ | ⟨hyes, m', hw, hS⟩
 ·rw [htf, decide_eq_false hno]
  simp only [Bool.not_false, Bool.and_false, Bool.false_eq_true, ↓reduceIte]
  exact wpAny_pure (q _ (Heap.SameBut.update _ a _) ⟨_, _, _, _, hg, p.exact, rfl, by rw [hsz, List.length_cons, hes], hmem, by rw [h2, hsz], h3, by rw [h1, hsz]; exact hS⟩)
 ·rw [htf, decide_eq_true hyes]
  simp only [Bool.not_false, Bool.and_true, ↓reduceIte]
  refine wpAny_bind (zkX (hs := hx :: hs) (m' := m') hg p.exact rfl hfit (by rw [hsz, List.length_cons, hes]) hmem hw (by rw [hsz]; exact hS) fun h' S' P' => ?_)
  exact wpAny_pure (q h' ((Heap.SameBut.update _ a _).trans S') P')
theorem zog {a b : Addr} {hs : List Int} {o ob : Obj} {es : Array (Int × Value)} {ep n : Nat} {t : SetTable} {items : Array Value} {hx : Int} {Q : Bool → Shared → Prop} (p : PrS s.heap a hs o es ep t) (hn : hx ∉ hs) (hk : hs.length < 81)
  (hb : s.heap.get? b = some ob) (hc : ob.cls = .type "tuple") (hd : ob.data = .seq items n) (hi : ∀ v ∈ items.toList, ∃ k t, v = .int k t)
  (q : ∀ h', Heap.SameBut a s.heap h' → (∃ o es ep t, PrS h' a (hx :: hs) o es ep t) → Q true { s with heap := h' }) :
  wpAny (model prog w) A (setAddHashed a (.ref b) hx) Q E s := by
 unfold setAddHashed setAddHashedIn
 refine wpAny_holding (wpAny_bind (wpAny_setState_of p.get p.data p.fits ?_))
 dsimp only
 rw [show byScan (.ref b) es = false from rfl]
 simp only [Bool.false_eq_true, ↓reduceIte]
 refine wpAny_bind (zh4 p hn fun j => ?_)
 dsimp only
 refine wpAny_bind (wpAny_setState_of p.get p.data p.fits ?_)
 dsimp only
 have h2 : (t.put j).1.place.size = es.size + 1 := by
  show (SetTable.insertAt t.place _ j).size = _
  rw [zd3, p.place]
 have h3 : (t.put j).1.dummies = #[] := by
  show (if SetTable.has t.dummies j then _ else t.dummies) = #[]
  rw [p.nodum]; rfl
 have tail := zl5 (prog := prog) (w := w) (A := A) (E := E) (P := (t.put j).2) (x := .ref b) (t1 := (t.put j).1) p hk rfl h2 h3 q
 split
 ·refine wpAny_bind (zgy hb hc hd hi ?_)
  exact tail
 ·refine wpAny_bind (wpAny_pure ?_)
  exact tail
end
end L2
set_option Elab.async false
set_option linter.all false
set_option maxRecDepth 100000
set_option maxHeartbeats 4000000
namespace L2
open PySem PySem.Spec PyProof.Rows
section
variable {prog : Program} {w : World} {A : Around} {E : Value → Shared → Prop} {s : Shared}
def hsAt (hv : Nat → Int) (i : Nat) : List Int := ((List.range i).map hv).reverse
theorem zkl (hv : Nat → Int) (i : Nat) : hsAt hv (i + 1) = hv i :: hsAt hv i := by
 unfold hsAt
 rw [List.range_succ, List.map_append, List.reverse_append]; rfl
theorem zhS (hv : Nat → Int) (i : Nat) : (hsAt hv i).length = i := by
 unfold hsAt
 rw [List.length_reverse, List.length_map, List.length_range]
theorem zlN {hv : Nat → Int} {i : Nat} {x : Int} (h : x ∈ hsAt hv i) : ∃ j, j < i ∧ hv j = x := by
 unfold hsAt at h
 obtain ⟨j, hj, e⟩ := List.mem_map.mp (List.mem_reverse.mp h)
 exact ⟨j, List.mem_range.mp hj, e⟩
abbrev PrE (h : Heap) (a : Addr) (hs : List Int) : Prop := ∃ o es ep t, PrS h a hs o es ep t
theorem PrE.keep {h h' : Heap} {a : Addr} {hs : List Int} (p : PrE h a hs) (k : ∀ o, h.get? a = some o → h'.get? a = some o) : PrE h' a hs :=
 let ⟨o, es, ep, t, p⟩ := p
 ⟨o, es, ep, t, k o p.get, p.exact, p.data, p.size, p.mem, p.place, p.nodum, p.mask⟩
theorem znV {ks : List Int} {vs : List Value} (h : ItemsAre (intKind prog w) ks vs) : ∀ v ∈ vs, ∃ k t, v = .int k t := by
 induction h with
 | nil => intro v hv; cases hv
 | @cons k u ks vs h1 _ ih =>
  intro v hv
  rcases List.mem_cons.mp hv with rfl | hv
  ·obtain ⟨t, e⟩ := Value.isInt_shape h1
   exact ⟨k, t, e⟩
  ·exact ih v hv
theorem zkT {R : Result → Shared → Prop} {I : Addr} {fp wr : List Addr} {G : Array GenState → Array GenState → Prop} {n : Nat} {P : Nat → Value → Prop} {St : Nat → Shared → Prop} (W : WalksS prog w A.in1 I fp wr G n P St) (S : Addr) (hSf : S ∉ fp) (hu : A.in1.units < cLine) (hn : n ≤ 81)
  (hv : Nat → Int) (hinj : ∀ i j, i < n → j < n → hv i = hv j → i = j) (h0 : Heap) (hT : ∀ i v, i < n → P i v → ∃ b ks, v = .ref b ∧ b ≠ S ∧ b ∉ wr ∧ IsTupleKey (intKind prog w) h0 ks b ∧ tupleKeyHash (intKind prog w) ks = hv i) :
  ∀ (k i : Nat) (s : Shared), n - i = k → i ≤ n → St i s → PrE s.heap S (hsAt hv i) → (∀ b o, b ≠ S → b ∉ wr → h0.get? b = some o → s.heap.get? b = some o) →
   (∀ s', Moved (S :: wr) G s s' → PrE s'.heap S (hsAt hv n) → R (.ok (.ret .none)) s') →
   codeAny (model prog w) A (.builtin "set.update.loop" ⟨[.ref S, .ref I], []⟩) R s := by
 have hSw : S ∉ wr := fun h => hSf (W.sub _ h)
 have hsub : ∀ b ∈ wr, b ∈ S :: wr := fun b hb => List.mem_cons_of_mem _ hb
 intro k
 induction k with
 | zero =>
  intro i s hk hi hst hS hB hR
  have hin : i = n := by omega
  subst hin
  refine codeAny_builtin PyProof.Rows.F.entry_set_update_loop ?_
  rw [Around.under_plainId PyProof.Rows.F.plain_set_update_loop _]
  show wpAny _ A.in1 (pyNext (.ref I) >>= _) _ _ s
  refine wpAny_bind (W.done s _ _ hst fun s' hm => ?_)
  show wpAny _ A.in1 (ret Value.none) _ _ s'
  exact wpAny_pure (hR s' (hm.mono hsub) (hS.keep fun o e => hm.heap S _ hSw e))
 | succ k ih =>
  intro i s hk hi hst hS hB hR
  have hlt : i < n := by omega
  refine codeAny_builtin PyProof.Rows.F.entry_set_update_loop ?_
  rw [Around.under_plainId PyProof.Rows.F.plain_set_update_loop _]
  show wpAny _ A.in1 (pyNext (.ref I) >>= _) _ _ s
  refine wpAny_bind (W.item i s _ _ hlt hst fun v s' hP hst' hm => ?_)
  obtain ⟨b, ks, rfl, nb, nw, hkey, hh⟩ := hT i v hlt hP
  have hB' : ∀ b o, b ≠ S → b ∉ wr → h0.get? b = some o → s'.heap.get? b = some o := fun b o n1 n2 e => hm.heap b o n2 (hB b o n1 n2 e)
  obtain ⟨o, es, ep, t, p⟩ := hS.keep (h' := s'.heap) fun o e => hm.heap S _ hSw e
  obtain ⟨ob, items, m, ho, hc, hd, hit⟩ := hkey
  have ho' := hB' b ob nb nw ho
  show wpAny _ A.in1 (holding [Value.ref b] (setAdd S (.ref b)) >>= _) _ _ s'
  refine wpAny_bind (wpAny_holding ?_)
  unfold setAdd
  refine wpAny_holding ?_
  refine wpAny_bind (wpAny_pyHash_tuple (knd := intKind prog w) (ks := ks) hu ⟨ob, items, m, ho', hc, hd, hit⟩ ?_)
  rw [hh]
  refine zog (s := { s' with toks := s'.toks + (ks.length + 1) }) p (fun z => ?_) (by rw [zhS]; omega) ho' hc hd (znV hit) fun h' hsb hS2 => ?_
  ·obtain ⟨j, hj, e⟩ := zlN z
   have := hinj j i (by omega) hlt e
   omega
  rw [← zkl] at hS2
  have hsb2 : ∀ b o, b ≠ S → s'.heap.get? b = some o → h'.get? b = some o := fun b o n1 e => by rw [hsb.2 b n1]; exact e
  refine wpAny_pure ⟨plainId_quiet PyProof.Rows.F.plain_set_update_loop _, ih (i + 1) _ (by omega) hlt (W.frame _ s' _ _ hst' (Nat.le_add_right _ _) fun b hb o e => ?_) hS2 (fun b o n1 n2 e => hsb2 b o n1 (hB' b o n1 n2 e)) fun s'' hm'' hS'' => ?_⟩
  ·exact hsb2 b o (fun h : b = S => hSf (by rw [← h]; exact hb)) e
  ·refine hR s'' (Moved.trans W.gtrans ((hm.mono hsub).then_heap (Nat.le_add_right _ _) fun b o hb e => ?_) hm'') hS''
   exact hsb2 b o (fun h : b = S => hb (by rw [h]; exact List.mem_cons_self)) e
abbrev zcd (led : Bool) : Obj := { cls := .type "set", dict := none, data := .set #[] 0 (.fresh 0 0 led) }
theorem zjD {h : Heap} {a : Addr} {led : Bool} (e : h.get? a = some (zcd led)) : PrE h a [] := ⟨_, _, _, _, e, ⟨rfl, rfl, rfl⟩, rfl, rfl, (fun e he => by cases he), rfl, rfl, .inl ⟨rfl, Nat.zero_le _⟩⟩
theorem zkU {l : Addr} {items : Array Value} {led : Bool} (hh : A.handled = none) (hu : A.units + 20 < cLine) (hl : s.heap.IsList l items) (hn : items.size ≤ 81)
  (hv : Nat → Int) (hinj : ∀ i j, i < items.size → j < items.size → hv i = hv j → i = j) (hT : ∀ i v, items[i]? = some v → ∃ b ks, v = .ref b ∧ IsTupleKey (intKind prog w) s.heap ks b ∧ tupleKeyHash (intKind prog w) ks = hv i) {P : Fin → Shared → Prop}
  (q : ∀ h' tk, PrE h' s.heap.objs.size (hsAt hv items.size) → (∀ b o, s.heap.get? b = some o → h'.get? b = some o) → P (.done (.ret .none)) { s with heap := h', toks := tk }) :
  wpAny (model prog w) A.in1.in1 (Builtin.«set.__init__» ⟨[.ref s.heap.objs.size, .ref l], []⟩) P E { s with heap := s.heap.push (zcd led) } := by
 obtain ⟨ol, hol, hcl, nl, hdl⟩ := id hl
 obtain ⟨ocls, odict, odata, oslots⟩ := ol
 simp only at hcl hdl
 subst hcl; subst hdl
 have hol' : (s.heap.push (zcd led)).get? l = some { cls := .type "list", dict := odict, data := .seq items nl, slots := oslots } := Heap.get?_push_of_some _ hol
 have hsls := PySem.F.sub_list_set
 have hslf := PySem.F.sub_list_frozenset
 have hne : (Value.type "list" == Value.type "dict") = false := by decide
 have hl1 : (s.heap.push (zcd led)).IsList l items := ⟨_, hol', rfl, nl, rfl⟩
 unfold Builtin.«set.__init__» noKeywords Builtin.Frozenset.updateFrom
 generalize hPI : pyIter = PI
 wp_walk
 subst hPI
 refine wpAny_pyIter_list hl1 ?_
 refine wpAny_bind (wpAny_runValue ?_)
 have hlS : l < s.heap.objs.size := Heap.lt_size hol
 have hh3 : A.in1.in1.in1.handled = none := by simp [hh]
 have hsz : (s.heap.push (zcd led)).objs.size = s.heap.objs.size + 1 := Heap.size_push _ _
 have hneI : l ≠ (s.heap.push (zcd led)).objs.size := by rw [hsz]; exact Nat.ne_of_lt (Nat.lt_succ_of_lt hlS)
 have hSf : s.heap.objs.size ∉ [(s.heap.push (zcd led)).objs.size, l] := by
  rw [hsz]
  simp only [List.mem_cons, List.not_mem_nil, or_false, not_or]
  exact ⟨Nat.ne_of_lt (Nat.lt_succ_self _), Nat.ne_of_gt hlS⟩
 refine zkT ((Walks.list hh3 _ l hneI items).toS) s.heap.objs.size hSf (by simp only [Around.in1_units]; omega) hn hv hinj s.heap (fun i v _ hP => ?_) (items.size - 0) 0 _ (by omega) (Nat.zero_le _) ⟨⟨_, Heap.get?_push_size _ rfl, rfl, rfl⟩, (hl1.push _)⟩ ?_ (fun b o n1 _ e => Heap.get?_push_of_some _ (Heap.get?_push_of_some _ e)) ?_
 ·obtain ⟨b, ks, e1, e2, e3⟩ := hT i v hP
  have hbl : b < s.heap.objs.size := by
   obtain ⟨o, _, _, ho, _⟩ := id e2
   exact Heap.lt_size ho
  refine ⟨b, ks, e1, Nat.ne_of_lt hbl, ?_, e2, e3⟩
  rw [hsz]
  simp only [List.mem_cons, List.not_mem_nil, or_false]
  exact Nat.ne_of_lt (Nat.lt_succ_of_lt hbl)
 ·exact zjD (led := led) (Heap.get?_push_of_some _ (Heap.get?_push_size _ rfl))
 ·intro s' hm hS'
  obtain ⟨h', g', d', tk', os'⟩ := s'
  have eg : g' = s.gens := hm.gens
  have ed : d' = s.drawn := hm.drawn
  have eo : os' = s.os := hm.os
  subst eg; subst ed; subst eo
  show wpAny _ _ _ _ _ _
  refine wpAny_pure ?_
  show wpAny _ _ (ret Value.none) _ _ _
  refine wpAny_pure (q h' tk' hS' fun b o e => ?_)
  have hb := Heap.lt_size e
  refine hm.heap b o ?_ (Heap.get?_push_of_some _ (Heap.get?_push_of_some _ e))
  rw [hsz]
  simp only [List.mem_cons, List.not_mem_nil, or_false, not_or]
  exact ⟨Nat.ne_of_lt hb, Nat.ne_of_lt (Nat.lt_succ_of_lt hb)⟩
theorem zeT {l : Addr} {items : Array Value} {Q : Value → Shared → Prop} (hh : A.handled = none) (hu : A.units + 20 < cLine) (hl : s.heap.IsList l items) (hn : items.size ≤ 81)
  (hv : Nat → Int) (hinj : ∀ i j, i < items.size → j < items.size → hv i = hv j → i = j) (hT : ∀ i v, items[i]? = some v → ∃ b ks, v = .ref b ∧ IsTupleKey (intKind prog w) s.heap ks b ∧ tupleKeyHash (intKind prog w) ks = hv i)
  (h : ∀ (h' : Heap) (tk : Nat), PrE h' s.heap.objs.size (hsAt hv items.size) → (∀ b o, s.heap.get? b = some o → h'.get? b = some o) → Q (.ref s.heap.objs.size) { s with heap := h', toks := tk }) :
  wpAny (model prog w) A (call (.type "set") [.ref l]) Q E s := by
 obtain ⟨c, tl, hmro⟩ := PySem.F.called_set.mro
 have hmade := PySem.F.called_set.made
 have hsub := PySem.F.called_set.sub
 refine wpAny_call (codeAny_of_tree ?_)
 show wpAny _ _ (callAny (.type "set") _) _ _ _
 refine wpAny_pure ⟨Code.quiet_builtin _ (by decide +kernel), codeAny_builtin PySem.F.entry_type_call ?_⟩
 rw [Around.under_plain (weight_type_call_type "set" [.ref l] []) rfl]
 have h1 := PySem.F.called_set.notType
 have h2 := PySem.F.called_set.canCreate
 have hct := PySem.F.typeCall_set_1 (.ref l)
 repeat (any_goals (first | assumption | wp_step))
 refine codeAny_mono (code_set_new_1 (.ref l) (E := E) (Q₁ := fun obj s₁ => ∃ led : Bool, obj = .ref s.heap.objs.size ∧ s₁ = { s with heap := s.heap.push { cls := .type "set", dict := none, data := .set #[] 0 (.fresh 0 0 led) } }) fun led => ⟨led, rfl, rfl⟩) fun r s₁ hr => ?_
 cases r with
 | error e => exact hr
 | ok fl =>
  cases fl with
  | next => exact hr.elim
  | brk => exact hr.elim
  | cont => exact hr.elim
  | ret obj =>
   obtain ⟨led, rfl, rfl⟩ := hr
   have hS : (s.heap.push (zcd led)).get? s.heap.objs.size = some (zcd led) := Heap.get?_push_size _ rfl
   have hTy : Shared.TypeIs { s with heap := s.heap.push (zcd led) } (.ref s.heap.objs.size) "set" := ⟨_, hS, rfl⟩
   have hli := PySem.F.called_set.init.lookup
   have hbi := PySem.F.called_set.init.bind (.ref s.heap.objs.size)
   repeat (any_goals (first | assumption | wp_step))
   refine codeAny_mono (codeAny_call_builtin (R := wants (fun r s₂ => r = .none ∧ ∃ h' tk, s₂ = { s with heap := h', toks := tk } ∧ PrE h' s.heap.objs.size (hsAt hv items.size) ∧ ∀ b o, s.heap.get? b = some o → h'.get? b = some o) E)
    PySem.F.called_set.init.plain PySem.F.entry_set_init (check_set_init_1 hTy ?_)) fun r₂ s₂ hr₂ => ?_
   ·exact zkU hh hu hl hn hv hinj hT fun h' tk p k => ⟨rfl, h', tk, rfl, p, k⟩
   ·cases r₂ with
    | error e => exact hr₂
    | ok fl₂ =>
     cases fl₂ with
     | ret r =>
      obtain ⟨rfl, h', tk, rfl, hS', hk'⟩ := hr₂
      repeat (any_goals (first | assumption | wp_step))
      exact h _ _ hS' hk'
     | _ => exact hr₂.elim
end
end L2
set_option Elab.async false
set_option linter.all false
set_option maxRecDepth 100000
set_option maxHeartbeats 4000000
namespace L2
open PySem PySem.Spec PyProof.Rows
def hpr (i j : Nat) : Int := reduceHash (Builtin.Tuple.tupleHashOf [hashInt (i : Int), hashInt (j : Int)])
def hprs : List Int := (List.range 81).map fun k => hpr (k / 9) (k % 9)
theorem zim : hprs.Nodup := by decide +kernel
theorem zn0 {i j k l : Nat} (hi : i < 9) (hj : j < 9) (hk : k < 9) (hl : l < 9) (h : hpr i j = hpr k l) : i = k ∧ j = l := by
 have hn := zim
 unfold hprs List.Nodup at hn
 rw [List.pairwise_map] at hn
 have e1 : hpr ((9 * i + j) / 9) ((9 * i + j) % 9) = hpr i j := by congr 1 <;> omega
 have e2 : hpr ((9 * k + l) / 9) ((9 * k + l) % 9) = hpr k l := by congr 1 <;> omega
 have key : ∀ x y, x < y → y < 81 → hpr (x / 9) (x % 9) ≠ hpr (y / 9) (y % 9) := fun x y hxy hy => by
  have := List.pairwise_iff_getElem.mp hn x y (by simp; omega) (by simp; omega) hxy
  simpa using this
 rcases Nat.lt_trichotomy (9 * i + j) (9 * k + l) with z | z | z
 ·exact absurd (by rw [e1, e2]; exact h) (key _ _ z (by omega))
 ·omega
 ·exact absurd (by rw [e1, e2]; exact h.symm) (key _ _ z (by omega))
def SetN (n : Nat) (o : Obj) : Prop := o.ExactSet ∧ ∃ es ep t, o.data = .set es ep t ∧ t.fits es.size = true ∧ es.size = n
def rSet (K : PySem.W.Frag) : List V → Hp → VK → Prop := fun xs H Q => ∃ (l : Addr) (vs : List V) (ps : List (Nat × Nat)), xs = [.ref l] ∧ SqL K H l vs ∧ Paired (PrAt H) vs ps ∧ ps.Nodup ∧ ps.length ≤ 81 ∧ (∀ p ∈ ps, p.1 < 9 ∧ p.2 < 9) ∧ ∀ (S : Addr) (o : Obj), H S = none → SetN ps.length o → Q (.ref S) (upd H S (kn S o))
def znc : List V → Hp → VK → Prop := fun xs H Q => ∃ (S : Addr) (o : Obj) (n : Nat), xs = [.ref S] ∧ H S = some (kn S o) ∧ SetN n o ∧ n ≤ 1000 ∧ Q (.int n) H
section
variable {X : Cx}
theorem zhg : zci X (.builtin "len") znc := by
 intro pins s σ H xs us Q I r h
 obtain ⟨S, o, n, rfl, hS, ⟨hex, es, ep, t, hd, hf, hz⟩, hn, q⟩ := h
 obtain ⟨u, rfl, ru⟩ := r.one
 cases ru
 refine call_len_set (zfi I.hok hS) hex hd hf (by rw [hz]; omega) ?_
 rw [hz]
 exact ⟨.int n, H, I.kept (t' := s.toks + 1 + 1) (fun b u e => e), ⟨_, rfl⟩, q⟩
theorem zld {P : Program} {w : World} {H : Hp} {h : Heap} {a : Addr} {i j : Int} (ok : HOk P w H h) (e : H a = some (.tup [.int i, .int j])) : IsTupleKey (intKind P w) h [i, j] a := by
 obtain ⟨_, its, r, o, h1, h2, n, h3⟩ := (show zbD P w H h a (.tup [.int i, .int j]) from ok a _ e)
 refine ⟨o, its.toArray, n, h1, h2, h3, ?_⟩
 cases r with
 | cons r1 r =>
  cases r with
  | cons r2 r =>
   cases r
   obtain ⟨t1, rfl⟩ := r1
   obtain ⟨t2, rfl⟩ := r2
   exact .cons (intKind_is _ _ _ _) (.cons (intKind_is _ _ _ _) .nil)
theorem zl2 (hu : X.A.units + 20 < cLine) (hc : X.calm = true := by rfl) : zci X (.type "set") (rSet X.K) := by
 intro pins s σ H xs us Q I r h
 obtain ⟨l, vs, ps, rfl, hS, hp, hnd, hz, hlt, q⟩ := h
 obtain ⟨u, rfl, ru⟩ := r.one
 cases ru
 obtain ⟨its, rv, p', _⟩ := I.list hS
 have l1 := Paired.length hp
 have l2 := rv.length
 have hl : its.toArray.size = ps.length := by rw [List.size_toArray]; omega
 refine zeT (items := its.toArray) (I.ok.hd hc) hu p'.isList (by omega) (fun i => hpr (ps.getD i (0, 0)).1 (ps.getD i (0, 0)).2) (fun i j hi hj e => ?_) (fun i v hv => ?_) fun h' tk pr hk => ?_
 ·rw [hl] at hi hj
  have ei : ps.getD i (0, 0) = ps[i] := by rw [List.getD_eq_getElem?_getD, List.getElem?_eq_getElem hi]; rfl
  have ej : ps.getD j (0, 0) = ps[j] := by rw [List.getD_eq_getElem?_getD, List.getElem?_eq_getElem hj]; rfl
  rw [ei, ej] at e
  have hi' := hlt _ (List.getElem_mem hi)
  have hj' := hlt _ (List.getElem_mem hj)
  obtain ⟨z1, z2⟩ := zn0 hi'.1 hi'.2 hj'.1 hj'.2 e
  have : ps[i] = ps[j] := Prod.ext z1 z2
  exact (List.getElem_inj hnd).mp this
 ·have hv : its[i]? = some v := by simpa using hv
  obtain ⟨x, hx, rx⟩ := Paired.get2 rv hv
  obtain ⟨p, hp1, t, rfl, ht⟩ := Paired.get1 hp hx
  cases rx
  refine ⟨t, [(p.1 : Int), (p.2 : Int)], rfl, zld I.hok ht, ?_⟩
  have : ps.getD i (0, 0) = p := by rw [List.getD_eq_getElem?_getD, hp1]; rfl
  show tupleKeyHash (intKind X.prog X.w) [(p.1 : Int), (p.2 : Int)] = hpr (ps.getD i (0, 0)).1 (ps.getD i (0, 0)).2
  rw [this]; rfl
 ·obtain ⟨o, es, ep, t, pr⟩ := pr
  have hf : H s.heap.objs.size = none := I.hok.fresh (Nat.le_refl _)
  refine ⟨.ref s.heap.objs.size, _, I.laid (t' := tk) (o := kn s.heap.objs.size o) hk (Nat.le_refl _) (znP pr.get), rfl, q _ o hf ⟨pr.exact, es, ep, t, pr.data, pr.fits, ?_⟩⟩
  rw [pr.size, zhS, hl]
theorem zkB (K : PySem.W.Frag) (hu : X.A.units + 20 < cLine) (h : X.K = K := by rfl) (hc : X.calm = true := by rfl) : zci X (.type "set") (rSet K) := h ▸ zl2 hu hc
end
end L2
set_option Elab.async false
set_option linter.all false
set_option maxRecDepth 100000
set_option maxHeartbeats 4000000
namespace L2
open PySem PySem.Spec PyProof.Rows
def prD (p : Nat × Nat) : PyData := .tuple [.int p.1, .int p.2]
theorem PrAt.data {H : Hp} {v : V} {p : Nat × Nat} (h : PrAt H v p) : zbU H v (prD p) := by
 obtain ⟨t, rfl, e⟩ := h
 exact .tup e (.cons (.int _) (.cons (.int _) .nil))
theorem zgi {H : Hp} : ∀ {vs : List V} {ps : List (Nat × Nat)}, Paired (PrAt H) vs ps → zb9 H vs (ps.map prD)
 | _, _, .nil => .nil
 | _, _, .cons h t => .cons h.data (zgi t)
theorem zj5 : ∀ ps : List (Nat × Nat), PyData.canLayAll0 (ps.map prD) = true
 | [] => rfl
 | p :: r => by simp only [List.map_cons, PyData.canLayAll0, prD, PyData.canLay0, zj5 r, Bool.and_self]
theorem zmB (p q : Nat × Nat) : PyData.eqv (prD p) (prD q) = decide (p = q) := by
 simp only [prD, PyData.eqv, PyData.eqvAll, Bool.and_true]
 rw [Bool.eq_iff_iff, Bool.and_eq_true, beq_iff_eq, beq_iff_eq, decide_eq_true_iff, Prod.ext_iff]
 omega
theorem zpN (ps : List (Nat × Nat)) (p : Nat × Nat) : ((ps.map prD).any fun d => PyData.eqv d (prD p)) = decide (p ∈ ps) := by
 rw [List.any_map, Bool.eq_iff_iff, List.any_eq_true, decide_eq_true_iff]
 constructor
 ·rintro ⟨q, hq, e⟩
  have e : PyData.eqv (prD q) (prD p) = true := e
  rw [zmB, decide_eq_true_iff] at e
  exact e ▸ hq
 ·intro h
  exact ⟨p, h, by show PyData.eqv (prD p) (prD p) = true; rw [zmB]; exact decide_eq_true rfl⟩
theorem zgZ {m : Nat} {v : V} {H : Hp} {Q : VK} {a : Addr} {vs : List V} {ps : List (Nat × Nat)} {p : Nat × Nat} (e : H a = some (.lst vs)) (hp : Paired (PrAt H) vs ps) (hv : PrAt H v p) (hm : 3 ≤ m) (q : Q (.bl (decide (p ∈ ps))) H) : rInD m v (.ref a) H Q := by
 refine zoT e (zgi hp) hv.data (zj5 ps) rfl ?_ (by rw [zpN]; exact q)
 have : (prD p).depth ≤ 2 := by simp [prD, PyData.depth, PyData.depthAll]
 omega
def prB (b : Bool) (x y : Nat) : Nat × Nat := if b then (x, y) else (y, x)
def zgc : Sp := fun vs H Q _ => ∃ (wd l : Addr) (i j : Nat) (b : Bool) (W : List Rm) (xs : List V) (ps : List (Nat × Nat)), vs = [.ref wd, .ref l, .int i, .int j, .bl b] ∧ Wd H wd W ∧ H l = some (.lst xs) ∧ Paired (PrAt H) xs ps ∧ i < W.length ∧ j < W.length ∧ (∀ x ∈ dAt W i, ∃ y ∈ dAt W j, prB b x y ∈ ps) ∧ ∀ H' : Hp, Same H H' → Q (.bl true) H'
theorem Wd.mono {H H' : Hp} {a : Addr} {W : List Rm} (h : Wd H a W) (S : Same H H') : Wd H' a W := h.kp (tb := false) S.kp
theorem zkK {W : List Rm} {one other : Nat} {ps : List (Nat × Nat)} (h9 : W.length ≤ 9) (h : zhZ W one other ps) : ps.length ≤ 81 ∧ ∀ p ∈ ps, p.1 < 9 ∧ p.2 < 9 := by
 obtain ⟨hn, Ls, _, _, _, hm⟩ := h
 have hb : ∀ p ∈ ps, p.1 < 9 ∧ p.2 < 9 := fun p hp => by
  have := (hm p).mp hp
  omega
 refine ⟨?_, hb⟩
 have := zcz (m := (List.range 9).flatMap fun i => (List.range 9).map fun j => (i, j)) hn fun p hp => by
  obtain ⟨h1, h2⟩ := hb p hp
  exact List.mem_flatMap.mpr ⟨p.1, List.mem_range.mpr h1, List.mem_map.mpr ⟨p.2, List.mem_range.mpr h2, rfl⟩⟩
 exact this
theorem zgf : ∀ {a b : List Int}, a.Pairwise (· ≤ ·) → b.Pairwise (· ≤ ·) → a.Perm b → a = b
 | [], b, _, _, h => (List.nil_perm.mp h).symm
 | x :: r, [], _, _, h => by have := h.length_eq; simp at this
 | x :: r, y :: s, ha, hb, h => by
  have ha' := List.pairwise_cons.mp ha
  have hb' := List.pairwise_cons.mp hb
  have h1 : y ≤ x := by
   rcases List.mem_cons.mp (h.mem_iff.mp (List.mem_cons_self (a := x) (l := r))) with z | z
   ·omega
   ·exact hb'.1 x z
  have h2 : x ≤ y := by
   rcases List.mem_cons.mp (h.mem_iff.mpr (List.mem_cons_self (a := y) (l := s))) with z | z
   ·omega
   ·exact ha'.1 y z
  have e : x = y := by omega
  subst e
  rw [zgf ha'.2 hb'.2 (List.Perm.cons_inv h)]
theorem zek : ∀ {a b : List Int}, a.Nodup → b.Nodup → (∀ k, k ∈ a ↔ k ∈ b) → a.Perm b
 | [], b, _, _, h => by
  cases b with
  | nil => exact .nil
  | cons y s => exact absurd ((h y).mpr List.mem_cons_self) (by simp)
 | x :: r, b, ha, hb, h => by
  have ha' := List.nodup_cons.mp ha
  have hx : x ∈ b := (h x).mp List.mem_cons_self
  refine (List.Perm.cons x (zek (b := b.erase x) ha'.2 (hb.erase x) fun k => ?_)).trans (List.perm_cons_erase hx).symm
  rw [List.Nodup.mem_erase_iff hb]
  constructor
  ·intro hk
   exact ⟨fun e => ha'.1 (e ▸ hk), (h k).mp (List.mem_cons_of_mem _ hk)⟩
  ·rintro ⟨n, hk⟩
   exact (List.mem_cons.mp ((h k).mpr hk)).resolve_left n
theorem zee (H : Hp) : ∀ ns : List Int, zb9 H (ns.map V.int) (ns.map PyData.int)
 | [] => .nil
 | n :: r => .cons (.int n) (zee H r)
theorem zfo : ∀ ns : List Int, PyData.depthAll (ns.map PyData.int) = 0
 | [] => rfl
 | n :: r => by simp only [List.map_cons, PyData.depthAll, PyData.depth, zfo r]; rfl
def ze7 : Sp := fun vs H Q _ => ∃ (wd l : Addr) (one other : Nat) (W : List Rm) (xs : List V) (ps : List (Nat × Nat)), vs = [.ref wd, .ref l, .int one, .int other] ∧ Wd H wd W ∧ (∀ r ∈ W, r.lit.Nodup) ∧ H l = some (.lst xs) ∧ Paired (PrAt H) xs ps ∧ zhZ W one other ps ∧ ∀ H' : Hp, Same H H' → Q (.bl true) H'
theorem zkg {α : Type} {l : List α} {x : α} (n : Nat) (h : l.Nodup) (hx : x ∉ l) : (l.take n ++ x :: l.drop n).Nodup := by
 have p : (l.take n ++ x :: l.drop n).Perm (x :: l) := by
  have := List.perm_middle (a := x) (l₁ := l.take n) (l₂ := l.drop n)
  rwa [List.take_append_drop] at this
 exact p.nodup_iff.mpr (List.nodup_cons.mpr ⟨hx, h⟩)
def zix (W : List Rm) : Prop := ∀ r ∈ W, r.lit.Nodup ∧ ∀ k ∈ r.lit, 1 ≤ k
def zmg : Sp := fun vs H Q _ => ∃ (n : Nat) (x y : Int), vs = [.int n, .int x, .int y] ∧ n ≤ 1000 ∧ ∀ (a : Addr) (W : List Rm) (H' : Hp), Same H H' → H a = none → za5 H' a W → W.length = n → zf1 n W → zix W → Q (.ref a) H'
theorem zkL {W : List Rm} {one other : Nat} {ps : List (Nat × Nat)} (hv : ze4 W) (h : zhZ W one other ps) : Bis W ps := by
 obtain ⟨_, Ls, hb, hl, _, hm⟩ := h
 intro i j hij
 obtain ⟨h1, h2, h3⟩ := (hm (i, j)).mp hij
 have h1 : i < W.length := h1
 have h2 : j < W.length := h2
 have e1 : W[i]? = some W[i] := List.getElem?_eq_getElem h1
 have e2 : W[j]? = some W[j] := List.getElem?_eq_getElem h2
 refine ⟨W[i], W[j], e1, e2, fun k => ?_, fun d hd => ?_, fun e he => ?_⟩
 ·have := hl i j h1 h2 h3 k
  rwa [zdt e1, zdt e2] at this
 ·rw [← zc9 e1] at hd
  obtain ⟨x, hx, e⟩ := hb i j h1 h2 h3 d hd
  exact ⟨x, by rw [← zc9 e2]; exact hx, (hm (d, x)).mpr ⟨zcV hv hd, zcV hv hx, e⟩⟩
 ·rw [← zc9 e2] at he
  obtain ⟨x, hx, z⟩ := hb j i h2 h1 ((zb3 Ls).symm h3) e he
  exact ⟨x, by rw [← zc9 e1]; exact hx, (hm (x, e)).mpr ⟨zcV hv hx, zcV hv he, (zb3 Ls).symm z⟩⟩
theorem zjj {k : Int} {W : List Rm} (hk : 0 ≤ k) (h : zix W) : zix (shW k W) := fun r hr => by
 unfold shW at hr
 obtain ⟨r0, h0, rfl⟩ := List.mem_map.mp hr
 obtain ⟨h1, h2⟩ := h r0 h0
 refine ⟨?_, fun j hj => ?_⟩
 ·show (r0.lit.map fun x => x + k).Nodup
  unfold List.Nodup
  rw [List.pairwise_map]
  exact List.Pairwise.imp (fun {a b} hab z => hab (by omega)) h1
 ·have hj : j ∈ r0.lit.map fun x => x + k := hj
  obtain ⟨x, hx, rfl⟩ := List.mem_map.mp hj
  have := h2 x hx
  show 1 ≤ x + k
  omega
theorem zok {H : Hp} {a : Addr} {W : List Rm} {c : Nat} (h : za5 H a W) (hs : zf1 c W) (hl : zix W) (hc : W.length = c) (h1 : 1 ≤ c) (h9 : c ≤ 9) : Wd H a W :=
 ⟨h, fun r hr d hd => by have := (hs r hr).1 d hd; omega, by omega, by omega, fun r hr => by have := (hs r hr).2.1; omega, fun r hr => ⟨(hs r hr).2.2, (hl r hr).2⟩⟩
end L2
set_option Elab.async false
set_option linter.all false
set_option maxRecDepth 100000
set_option maxHeartbeats 4000000
namespace My
open PySem L2
seal PE PT PW PA PS PSs PC PG PGs PI PO PPs PTs
local macro_rules | `(tactic| walk_at "ne") => `(tactic| first | assumption | exact Ne.symm (by assumption))
local macro_rules | `(tactic| walk_at "hp") => `(tactic| first | assumption | (with_reducible exact zab) | (with_reducible apply za6; assumption; walk_at "hp") | (with_reducible apply zcC; walk_at "ne"; walk_at "hp"))
local macro_rules | `(tactic| walk_at "sm") => `(tactic| first | assumption | (with_reducible exact Same.refl _) | (with_reducible refine Same.new ?_ (by assumption); walk_at "sm") | (with_reducible refine Same.set ?_ (by assumption); walk_at "sm"))
local macro_rules | `(tactic| walk_at "tk") => `(tactic| first | assumption | (with_reducible exact TupK.refl _) | (with_reducible refine TupK.new ?_ (by assumption); walk_at "tk") | (with_reducible refine TupK.lst ?_ (by walk_at "hp"); walk_at "tk") | (with_reducible refine TupK.dK ?_ (by walk_at "hp"); walk_at "tk") | (with_reducible refine Same.tupK ?_; walk_at "sm"))
local macro_rules | `(tactic| walk_at "sl") => `(tactic| first | assumption | (with_reducible apply SqL.of; walk_at "hp") | (with_reducible apply zdJ; assumption; walk_at "sm"))
local macro_rules | `(tactic| walk_at "st") => `(tactic| first | assumption | (with_reducible apply SqT.of; walk_at "hp"))
local macro_rules | `(tactic| walk_at "cd") => `(tactic| first | (show (0 : Int) < _; first | decide | assumption | omega) | exact ⟨by decide, by decide⟩ | exact ⟨by decide, by decide, by decide⟩ | exact Or.inl ⟨by decide, by decide⟩ | exact Or.inr ⟨by decide, by decide⟩ | exact Or.inl ⟨by omega, by omega⟩ | exact Or.inr ⟨by omega, by omega⟩ | exact ⟨by omega, by omega⟩)
local macro_rules | `(tactic| walk_at "rd1") => `(tactic| with_reducible first
 | (apply zoF; with_unfolding_all rfl) | apply zpU | apply rd_C | apply zoH | apply zoX | apply zmT | apply zm7 | apply zoM | apply zp0 | apply zmO | apply zpZ | apply zpS
 | (apply zdD; (walk_at "st"); (with_unfolding_all rfl)) | apply zkY | apply zjs | apply zmP | apply zoS | apply zp1 | apply zpW | apply zm8 | apply zoI | apply zm3 | apply zoG | apply zoP | apply zpY | apply zoW | (apply zpR; (walk_at "hp"))
 | (apply rd_I; (with_unfolding_all walk_at "cd")) | (apply zpX; (with_unfolding_all rfl)) | (apply zpV; (with_unfolding_all rfl)) | apply zoY | apply zpT | apply zoL | apply znb | apply zoJ | apply zmQ
 | (apply zmX; (walk_at "sl")) | (apply zmW; (walk_at "st")) | apply zm5 | apply zm4 | apply zmS | apply zm0 | apply zla | apply zk7 | apply zk9 | apply zm6 | apply zh6 | (apply zmY; (walk_at "st"); (with_unfolding_all rfl)) | apply zk1 | apply zmZ | apply zm1 | (apply zm2; (walk_at "hp"); (with_unfolding_all rfl)) | (apply zk0; (walk_at "hp"); (with_unfolding_all rfl)) | apply zjw | apply zna | apply zm9 | apply zjv | apply zk6 | apply zk4 | apply zk5 | apply zoR | apply zmR | apply zjt | apply zju | apply zjp | apply zk8 | apply zkZ | apply zmU | apply zmV | apply zlb | apply rd_tryset | apply rd_tryas | apply rd_raise | apply zk2 | apply zk3 | (apply zoQ; (walk_at "sl")) | (apply zoN; (walk_at "sl"); (walk_at "sl")) | (apply zoU; (walk_at "sl"); (walk_at "sl")))
local macro_rules | `(tactic| walk_at "rd") => `(tactic| repeat walk_at "rd1")
local macro_rules | `(tactic| walk_at "rd0") => `(tactic| try dsimp only [cxOf, Cx.nox, Cx.wish])
section
variable {P : Program} {w : World} {K : PySem.W.Frag} {mg : Str → Option Value} {base : Heap} {f : Addr} {fd : FuncData}
def top (i : Nat) : Stmt := PySem.Challenge.pw_roomsay_k11_whole_told_apart.main.body.getD i (.Pass ⟨0, 0, 0, 0⟩)
abbrev zbj : Stmt := top 1
theorem zdx : zav ["world", "leaf"] ["world", "leaf"] (zaf zbj) := ⟨rfl, rfl, rfl, by decide +kernel, rfl, by decide +kernel, by decide +kernel⟩
abbrev zbk : Stmt := top 2
theorem zdy : zav ["kind", "first", "second"] ["kind", "first", "second"] (zaf zbk) := ⟨rfl, rfl, rfl, by decide +kernel, rfl, by decide +kernel, by decide +kernel⟩
abbrev zaW : Stmt := top 3
theorem zc2 : zav ["doors", "inner"] ["doors", "inner"] (zaf zaW) := ⟨rfl, rfl, rfl, by decide +kernel, rfl, by decide +kernel, by decide +kernel⟩
abbrev zbl : Stmt := top 4
theorem zdz : zav ["world", "kind", "inner"] ["world", "kind", "inner"] (zaf zbl) := ⟨rfl, rfl, rfl, by decide +kernel, rfl, by decide +kernel, by decide +kernel⟩
abbrev za8 : Stmt := top 8
theorem zdd : zav ["world", "lamp", "straight"] ["world", "lamp"] (zaf za8) := ⟨rfl, rfl, rfl, by decide +kernel, rfl, by decide +kernel, by decide +kernel⟩
abbrev zbi : Stmt := top 9
theorem zdw : zav ["saying"] ["saying"] (zaf zbi) := ⟨rfl, rfl, rfl, by decide +kernel, rfl, by decide +kernel, by decide +kernel⟩
abbrev zbI : Stmt := top 10
theorem zef : zav ["one", "other"] ["one", "other"] (zaf zbI) := ⟨rfl, rfl, rfl, by decide +kernel, rfl, by decide +kernel, by decide +kernel⟩
abbrev za7 : Stmt := top 11
theorem zdc : zav ["world", "saying"] ["world", "saying"] (zaf za7) := ⟨rfl, rfl, rfl, by decide +kernel, rfl, by decide +kernel, by decide +kernel⟩
abbrev zaX : Stmt := top 12
theorem zc3 : zav ["sayings", "waiting", "joined"] ["sayings"] (zaf zaX) := ⟨rfl, rfl, rfl, by decide +kernel, rfl, by decide +kernel, by decide +kernel⟩
abbrev zbJ : Stmt := top 13
theorem zeg : zav ["world", "lamps", "lit", "doors", "lamp"] ["world"] (zaf zbJ) := ⟨rfl, rfl, rfl, by decide +kernel, rfl, by decide +kernel, by decide +kernel⟩
abbrev za9 : Stmt := top 14
theorem zde : zav ["found", "saying", "key"] ["found", "saying"] (zaf za9) := ⟨rfl, rfl, rfl, by decide +kernel, rfl, by decide +kernel, by decide +kernel⟩
abbrev zbm : Stmt := top 16
theorem zdA : zav ["world", "best", "pairs", "one"] ["world", "best"] (zaf zbm) := ⟨rfl, rfl, rfl, by decide +kernel, rfl, by decide +kernel, by decide +kernel⟩
abbrev zby : Stmt := top 17
theorem zdS : zav ["world", "one", "other", "tellers", "pair", "learning"] ["world", "one", "other"] (zaf zby) := ⟨rfl, rfl, rfl, by decide +kernel, rfl, by decide +kernel, by decide +kernel⟩
abbrev zbL : Stmt := top 19
theorem zei : zav ["_law_number", "_law_prime", "_law_many"] ["_law_number", "_law_prime", "_law_many"] (zaf zbL) := ⟨rfl, rfl, rfl, by decide +kernel, rfl, by decide +kernel, by decide +kernel⟩
abbrev zbz : Stmt := top 20
theorem zdT : zav ["_law_found"] ["_law_found"] (zaf zbz) := ⟨rfl, rfl, rfl, by decide +kernel, rfl, by decide +kernel, by decide +kernel⟩
abbrev zcf : Stmt := top 21
theorem ze9 : zav ["_law_script", "_law_k"] ["_law_script", "_law_k"] (zaf zcf) := ⟨rfl, rfl, rfl, by decide +kernel, rfl, by decide +kernel, by decide +kernel⟩
abbrev zaZ : Stmt := top 22
theorem zc5 : zav ["_law_found", "_law_due", "_law_left", "_law_right", "_law_one", "_law_two"] ["_law_found", "_law_due"] (zaf zaZ) := ⟨rfl, rfl, rfl, by decide +kernel, rfl, by decide +kernel, by decide +kernel⟩
abbrev zbb : Stmt := top 23
theorem zdg : zav ["_law_world"] ["_law_world"] (zaf zbb) := ⟨rfl, rfl, rfl, by decide +kernel, rfl, by decide +kernel, by decide +kernel⟩
abbrev zb1 : Stmt := top 24
theorem zeD : zav ["_law_truth", "_law_doors"] ["_law_truth", "_law_doors"] (zaf zb1) := ⟨rfl, rfl, rfl, by decide +kernel, rfl, by decide +kernel, by decide +kernel⟩
abbrev zaY : Stmt := top 25
theorem zc4 : zav ["_law_sort", "_law_truth", "_law_world"] ["_law_sort", "_law_truth", "_law_world"] (zaf zaY) := ⟨rfl, rfl, rfl, by decide +kernel, rfl, by decide +kernel, by decide +kernel⟩
abbrev zaG : Stmt := top 26
theorem zck : zav ["_law_sort", "_law_first", "_law_second"] ["_law_sort", "_law_first", "_law_second"] (zaf zaG) := ⟨rfl, rfl, rfl, by decide +kernel, rfl, by decide +kernel, by decide +kernel⟩
abbrev zaE : Stmt := top 27
theorem zce : zav ["_law_sort", "_law_lamp", "_law_world"] ["_law_sort", "_law_lamp", "_law_world"] (zaf zaE) := ⟨rfl, rfl, rfl, by decide +kernel, rfl, by decide +kernel, by decide +kernel⟩
abbrev zbK : Stmt := top 28
theorem zeh : zav ["_law_pile", "_law_sort", "_law_two", "_law_one", "_law_truth"] ["_law_pile", "_law_sort"] (zaf zbK) := ⟨rfl, rfl, rfl, by decide +kernel, rfl, by decide +kernel, by decide +kernel⟩
abbrev zbn : Stmt := top 29
theorem zdU : zav ["_law_cells", "_law_world", "_law_kinds", "_law_pile", "_law_cell", "_law_sort", "_law_lamp", "_law_one"] ["_law_cells", "_law_world", "_law_kinds"] (zaf zbn) := ⟨rfl, rfl, rfl, by decide +kernel, rfl, by decide +kernel, by decide +kernel⟩
abbrev zaL : Stmt := top 30
theorem zcs : zav [] [] (zaf zaL) := ⟨rfl, rfl, rfl, by decide +kernel, rfl, by decide +kernel, by decide +kernel⟩
abbrev zaH : Stmt := top 31
theorem zcl : zav ["_law_statement", "_law_found", "_law_todo", "_law_part"] ["_law_statement"] (zaf zaH) := ⟨rfl, rfl, rfl, by decide +kernel, rfl, by decide +kernel, by decide +kernel⟩
abbrev zaS : Stmt := top 32
theorem zcR : zav ["_law_world", "_law_statement", "_law_pile", "_law_part", "_law_two"] ["_law_world", "_law_statement"] (zaf zaS) := ⟨rfl, rfl, rfl, by decide +kernel, rfl, by decide +kernel, by decide +kernel⟩
abbrev za0 : Stmt := top 33
theorem zc6 : zav ["_law_found", "_law_todo", "_law_part"] ["_law_found"] (zaf za0) := ⟨rfl, rfl, rfl, by decide +kernel, rfl, by decide +kernel, by decide +kernel⟩
abbrev zaP : Stmt := top 34
theorem zcF : zav ["_law_count", "_law_first", "_law_second", "_law_world", "_law_room", "_law_kind", "_law_lit", "_law_doors", "_law_lamp", "_law_spot", "_law_door"] ["_law_count", "_law_first", "_law_second"] (zaf zaP) := ⟨rfl, rfl, rfl, by decide +kernel, rfl, by decide +kernel, by decide +kernel⟩
abbrev zba : Stmt := top 35
theorem zdf : zav ["_law_world", "_law_pairs", "_law_here", "_law_there", "_law_ahead", "_law_one", "_law_found", "_law_two", "_law_pair"] ["_law_world", "_law_pairs", "_law_here", "_law_there", "_law_ahead"] (zaf zba) := ⟨rfl, rfl, rfl, by decide +kernel, rfl, by decide +kernel, by decide +kernel⟩
abbrev zaT : Stmt := top 36
theorem zcS : zav ["_law_world", "_law_pairs", "_law_one", "_law_other", "_law_pair", "_law_room", "_law_here", "_law_there"] ["_law_world", "_law_pairs", "_law_one", "_law_other"] (zaf zaT) := ⟨rfl, rfl, rfl, by decide +kernel, rfl, by decide +kernel, by decide +kernel⟩
abbrev zaM : Stmt := top 38
theorem zct : zav ["_law_world", "_law_far"] ["_law_world", "_law_far"] (zaf zaM) := ⟨rfl, rfl, rfl, by decide +kernel, rfl, by decide +kernel, by decide +kernel⟩
abbrev zbo : Stmt := top 39
theorem zdB : zav ["_law_cell"] ["_law_cell"] (zaf zbo) := ⟨rfl, rfl, rfl, by decide +kernel, rfl, by decide +kernel, by decide +kernel⟩
abbrev zeE : Stmt := top 40
theorem zmq : zav ["_law_script", "_law_first", "_law_count", "_law_world", "_law_one", "_law_other", "_law_truth", "_law_handed", "_law_found", "_law_told"] ["_law_script"] (zaf zeE) := ⟨rfl, rfl, rfl, by decide +kernel, rfl, by decide +kernel, by decide +kernel⟩
abbrev zaQ : Stmt := zdl (top 7) 0
theorem zcG : zav ["self", "size", "truths", "straight", "turned"] ["self", "size", "truths", "straight", "turned"] (zaf zaQ) := ⟨rfl, rfl, rfl, by decide +kernel, rfl, by decide +kernel, by decide +kernel⟩
abbrev zaN : Stmt := zdl (top 15) 0
theorem zcu : zav ["self", "world", "lamps", "lamp"] ["self", "world"] (zaf zaN) := ⟨rfl, rfl, rfl, by decide +kernel, rfl, by decide +kernel, by decide +kernel⟩
abbrev za1 : Stmt := zdl (top 15) 1
theorem zc7 : zav ["self", "saying", "turned", "others", "one", "other", "known"] ["self", "saying"] (zaf za1) := ⟨rfl, rfl, rfl, by decide +kernel, rfl, by decide +kernel, by decide +kernel⟩
abbrev zao : Stmt := zdl (top 15) 2
theorem zbR : zav ["self", "room", "others", "chosen", "left", "hardest"] ["self", "room", "others"] (zaf zao) := ⟨rfl, rfl, rfl, by decide +kernel, rfl, by decide +kernel, by decide +kernel⟩
abbrev zas : Stmt := zdl (top 15) 3
theorem zbH : zav ["self", "room", "others", "other"] ["self", "room", "others"] (zaf zas) := ⟨rfl, rfl, rfl, by decide +kernel, rfl, by decide +kernel, by decide +kernel⟩
abbrev zaA : Stmt := zdl (top 15) 4
theorem zb7 : zav ["self", "room", "anew", "found", "one", "door"] ["self", "room", "anew"] (zaf zaA) := ⟨rfl, rfl, rfl, by decide +kernel, rfl, by decide +kernel, by decide +kernel⟩
abbrev zam : Stmt := zdl (top 15) 5
theorem zbs : zav ["self", "anew", "found", "other", "room", "inner"] ["self", "anew"] (zaf zam) := ⟨rfl, rfl, rfl, by decide +kernel, rfl, by decide +kernel, by decide +kernel⟩
abbrev zap : Stmt := zdl (top 15) 6
theorem zbx : zav ["self", "anew", "saying"] ["self", "anew"] (zaf zap) := ⟨rfl, rfl, rfl, by decide +kernel, rfl, by decide +kernel, by decide +kernel⟩
theorem znC (D : zaI K mg "leaf_truths" zbj ["world", "leaf"] f fd) (B : Blt mg) : Has P w K mg base "leaf_truths" 1 ["world", "leaf"] zml := by
 have nd := zdx.nd
 refine D.has (D.fn.ok zdx (fun vs H Q E h => ?_) (fun cdv A outer s H vs Q E hr h => ?_))
 ·obtain ⟨a, v, W, s, rfl, _⟩ := h
  rfl
 ·obtain ⟨a, v, W, s, rfl, ⟨rs, ha, hp⟩, hz, st, hl, q⟩ := h
  have hlen := Paired.length hp
  refine ⟨_, (zad (za4 (zat zdL (zaJ (zaz K) (pv 1) zah (fun _ _ => rfl)) zaB (zaF _)) (zae (zaq (zaV ["lit", "doors", "leaf"] 2 [1] (zaD K (pv 0)) (fun _ _ _ _ _ => (zcx (n := 2) K rfl (zaU (zan (i := 0) (show List.Nodup (["lit", "doors", "leaf"] : List Str) by decide +kernel) rfl (Or.inl rfl)) (zaU (zan (i := 1) (show List.Nodup (["lit", "doors", "leaf"] : List Str) by decide +kernel) rfl (Or.inl rfl)) zcw)))) (fun _ _ _ _ _ => zbq) (fun _ _ _ _ _ => (zb0 (zdF K) (zaJ (zaz K) (pv 2) zah (fun _ _ => rfl)) (pv 0) (by with_unfolding_all rfl)))))) zaC)
   (zae (zaq (zaV ["lit", "doors", "leaf"] 2 [1] (zaD K (pv 0)) (fun _ _ _ _ _ => (zcx (n := 2) K rfl (zaU (zan (i := 0) (show List.Nodup (["lit", "doors", "leaf"] : List Str) by decide +kernel) rfl (Or.inl rfl)) (zaU (zan (i := 1) (show List.Nodup (["lit", "doors", "leaf"] : List Str) by decide +kernel) rfl (Or.inl rfl)) zcw)))) (fun _ _ _ _ _ => zbq) (fun _ _ _ _ _ => (zb0 (zdj K) (zaJ (zaz K) (pv 2) zah (fun _ _ => rfl)) (pv 0) (by with_unfolding_all rfl))))))), ?_⟩
  walk_at "rd0"
  cases st with
  | @lamp b k e =>
   walk_at "rd"
   refine zpA ?_
   walk_at "rd"
   refine zbf (SqL.of ha) (by omega) fun D hD => ⟨fun i y _ => ∃ b, (tru W (.lamp k))[i]? = some b ∧ y = .bl b, fun _ _ _ _ h _ _ => h, fun i x H2 ys C hx S2 hd hC => ?_, fun ys H' S' hD' hl' hR => ?_⟩
   ·obtain ⟨r, hr', ra⟩ := Paired.get1 hp hx
    obtain ⟨c, l, d, rfl, h1, h2, h3⟩ := ra.mono S2
    have e2 := S2 _ _ e
    walk_at "rd"
    refine zdE (.inl (SqL.of h2)) rfl (zeO _) ?_
    refine hC _ H2 (Same.refl _) ⟨r.lit.contains k, ?_, by rw [zfU]⟩
    simp [tru, hr']
   ·exact q D H' S' hD (by rw [hD', zb8 (bs := tru W (.lamp k)) (by rw [hl', zaO]; omega) hR])
  | @dark b k e =>
   walk_at "rd"
   refine zhP (by decide +kernel) ?_
   walk_at "rd"
   refine zbf (SqL.of ha) (by omega) fun D hD => ⟨fun i y _ => ∃ b, (tru W (.dark k))[i]? = some b ∧ y = .bl b, fun _ _ _ _ h _ _ => h, fun i x H2 ys C hx S2 hd hC => ?_, fun ys H' S' hD' hl' hR => ?_⟩
   ·obtain ⟨r, hr', ra⟩ := Paired.get1 hp hx
    obtain ⟨c, l, d, rfl, h1, h2, h3⟩ := ra.mono S2
    have e2 := S2 _ _ e
    walk_at "rd"
    refine zdh (.inl (SqL.of h2)) rfl (zeO _) ?_
    refine hC _ H2 (Same.refl _) ⟨!r.lit.contains k, ?_, by rw [zfU]⟩
    simp [tru, hr']
   ·exact q D H' S' hD (by rw [hD', zb8 (bs := tru W (.dark k)) (by rw [hl', zaO]; omega) hR])
  | neg e h => cases hl
  | conj e h h' => cases hl
  | disj e h h' => cases hl
  | ev e h => cases hl
  | so e h => cases hl
theorem ze0 (D : zaI K mg "join_truths" zbk ["kind", "first", "second"] f fd) (B : Blt mg) : Has P w K mg base "join_truths" 1 ["kind", "first", "second"] ziZ := by
 have nd := zdy.nd
 refine D.has (D.fn.ok zdy (fun vs H Q E h => ?_) (fun cdv A outer s H vs Q E hr h => ?_))
 ·obtain ⟨k, a, b, x, y, rfl, _⟩ := h
  rfl
 ·obtain ⟨k, a, b, x, y, rfl, ha, hb, hl, hz, q⟩ := h
  have hla : (bls x).length = x.length := List.length_map _
  have hlb : (bls y).length = y.length := List.length_map _
  refine ⟨_, (zad (za4 (zat zdL (pv 0) zaB (zaF _)) (zae (zaq (zaV ["one", "other"] 2 [] (zg0 K rfl B.zip (zaa (pv 1) (zaa (pv 2) zac))) (fun _ _ _ _ _ => (zcx (n := 2) K rfl (zaU (zan (i := 0) (show List.Nodup (["one", "other"] : List Str) by decide +kernel) rfl (Or.inl rfl)) (zaU (zan (i := 1) (show List.Nodup (["one", "other"] : List Str) by decide +kernel) rfl (Or.inl rfl)) zcw)))) (fun _ _ _ _ _ => zbq) (fun _ _ _ _ _ => (zgk (pv 0) (zdZ (pv 1))))))) zaC)
   (zae (zaq (zaV ["one", "other"] 2 [] (zg0 K rfl B.zip (zaa (pv 1) (zaa (pv 2) zac))) (fun _ _ _ _ _ => (zcx (n := 2) K rfl (zaU (zan (i := 0) (show List.Nodup (["one", "other"] : List Str) by decide +kernel) rfl (Or.inl rfl)) (zaU (zan (i := 1) (show List.Nodup (["one", "other"] : List Str) by decide +kernel) rfl (Or.inl rfl)) zcw)))) (fun _ _ _ _ _ => zbq) (fun _ _ _ _ _ => (zlg (pv 0) (zdZ (pv 1)))))))), ?_⟩
  walk_at "rd0"
  walk_at "rd"
  refine zbO (fun e => ?_) (fun e => ?_)
  ·have ek : k = "and" := V.str.inj e
   walk_at "rd"
   refine zhX (SqL.of ha) (SqL.of hb) (by omega) (by omega) fun D hD => ⟨fun i z _ => ∃ b, (two k x y)[i]? = some b ∧ z = .bl b, fun _ _ _ _ h _ _ => h, fun i u v p H2 zs C hu hv S2 hd hp hC => ?_, fun ys H' S' hD' hl' hR => ?_⟩
   ·obtain ⟨c, d, rfl, rfl, hcd⟩ := ziA (f := fun a b => a && b) hu hv
    walk_at "rd"
    have fin : ∀ H6, Same H2 H6 → C (.bl (c && d)) H6 := fun H6 S6 => hC _ H6 S6 ⟨c && d, by rw [two, if_pos ek]; exact hcd, rfl⟩
    cases c with
    | true =>
     refine iteT ?_
     walk_at "rd"
     exact fin _ (by walk_at "sm")
    | false =>
     refine iteF ?_
     exact fin _ (by walk_at "sm")
   ·exact q D H' S' hD (by rw [hD', zb8 (bs := two k x y) (by rw [hl', two, if_pos ek, List.length_zipWith]; omega) hR])
  ·have ek : ¬ k = "and" := fun z => e (by rw [z])
   walk_at "rd"
   refine zhX (SqL.of ha) (SqL.of hb) (by omega) (by omega) fun D hD => ⟨fun i z _ => ∃ b, (two k x y)[i]? = some b ∧ z = .bl b, fun _ _ _ _ h _ _ => h, fun i u v p H2 zs C hu hv S2 hd hp hC => ?_, fun ys H' S' hD' hl' hR => ?_⟩
   ·obtain ⟨c, d, rfl, rfl, hcd⟩ := ziA (f := fun a b => a || b) hu hv
    walk_at "rd"
    have fin : ∀ H6, Same H2 H6 → C (.bl (c || d)) H6 := fun H6 S6 => hC _ H6 S6 ⟨c || d, by rw [two, if_neg ek]; exact hcd, rfl⟩
    cases c with
    | true =>
     refine iteT ?_
     exact fin _ (by walk_at "sm")
    | false =>
     refine iteF ?_
     walk_at "rd"
     exact fin _ (by walk_at "sm")
   ·exact q D H' S' hD (by rw [hD', zb8 (bs := two k x y) (by rw [hl', two, if_neg ek, List.length_zipWith]; omega) hR])
theorem zjV (D : zaI K mg "truths_behind" zaW ["doors", "inner"] f fd) (B : Blt mg) : Has P w K mg base "truths_behind" 1 ["doors", "inner"] zox := by
 have nd := zc2.nd
 refine D.has (D.fn.ok zc2 (fun vs H Q E h => ?_) (fun cdv A outer s H vs Q E hr h => ?_))
 ·obtain ⟨a, b, ds, x, rfl, _⟩ := h
  rfl
 ·obtain ⟨a, b, ds, x, rfl, ha, hb, hv, hz, q⟩ := h
  have hla : (nts ds).length = ds.length := List.length_map _
  refine ⟨_, (zae (zaq (zaV ["door", "inner"] 1 [1] (zaD K (pv 0)) (fun _ _ _ _ _ => (zan (i := 0) (show List.Nodup (["door", "inner"] : List Str) by decide +kernel) rfl (Or.inl rfl))) (fun _ _ _ _ _ => zbq) (fun _ _ _ _ _ => (zaJ (zaK K) (pv 1) (pv 0) (fun _ _ => rfl)))))), ?_⟩
  walk_at "rd0"
  walk_at "rd"
  refine zbf (SqL.of ha) (by omega) fun D hD => ⟨fun i y _ => ∃ b, (led x ds)[i]? = some b ∧ y = .bl b, fun _ _ _ _ h _ _ => h, fun i v H2 ys C hx S2 hd hC => ?_, fun ys H' S' hD' hl' hR => ?_⟩
  ·obtain ⟨d, hd', rfl⟩ := zcy hx
   have hb2 := S2 _ _ hb
   walk_at "rd"
   refine zbt (SqL.of hb2) (zdm (hv d (List.mem_of_getElem? hd'))) ?_
   exact hC _ H2 (Same.refl _) ⟨_, by simp [led, hd'], rfl⟩
  ·exact q D H' S' hD (by rw [hD', zb8 (bs := led x ds) (by rw [zj3, hl']; omega) hR])
theorem znG (D : zaI K mg "door_truths" zbl ["world", "kind", "inner"] f fd) (B : Blt mg) (h_truths_behind : Has P w K mg base "truths_behind" 1 ["doors", "inner"] zox) : Has P w K mg base "door_truths" 2 ["world", "kind", "inner"] zmo := by
 have nd := zdz.nd
 refine D.has (D.fn.ok zdz (fun vs H Q E h => ?_) (fun cdv A outer s H vs Q E hr h => ?_))
 ·obtain ⟨a, k, b, W, x, rfl, _⟩ := h
  rfl
 ·obtain ⟨a, k, b, W, x, rfl, ⟨rs, ha, hp⟩, hv, hz, hdz, hb, hx, q⟩ := h
  have hlen := Paired.length hp
  refine ⟨_, (zad (za4 (zat zdL (pv 1) zaB (zaF _)) (zae (zaq (zaV ["lit", "doors", "inner"] 2 [2] (zaD K (pv 0)) (fun _ _ _ _ _ => (zcx (n := 2) K rfl (zaU (zan (i := 0) (show List.Nodup (["lit", "doors", "inner"] : List Str) by decide +kernel) rfl (Or.inl rfl)) (zaU (zan (i := 1) (show List.Nodup (["lit", "doors", "inner"] : List Str) by decide +kernel) rfl (Or.inl rfl)) zcw)))) (fun _ _ _ _ _ => zbq) (fun _ _ _ _ _ => (zb0 (zdj K) zbB (zaj h_truths_behind hr (zaa (pv 1) (zaa (pv 2) zac))) (by with_unfolding_all rfl)))))) zaC)
   (zae (zaq (zaV ["lit", "doors", "inner"] 2 [2] (zaD K (pv 0)) (fun _ _ _ _ _ => (zcx (n := 2) K rfl (zaU (zan (i := 0) (show List.Nodup (["lit", "doors", "inner"] : List Str) by decide +kernel) rfl (Or.inl rfl)) (zaU (zan (i := 1) (show List.Nodup (["lit", "doors", "inner"] : List Str) by decide +kernel) rfl (Or.inl rfl)) zcw)))) (fun _ _ _ _ _ => zbq) (fun _ _ _ _ _ => (zb0 (zdF K) zbB (zaj h_truths_behind hr (zaa (pv 1) (zaa (pv 2) zac))) (by with_unfolding_all rfl))))))), ?_⟩
  walk_at "rd0"
  walk_at "rd"
  refine zbO (fun e => ?_) (fun e => ?_)
  ·have ek : k = "every" := V.str.inj e
   walk_at "rd"
   refine zbf (SqL.of ha) (by omega) fun D hD => ⟨fun i y _ => ∃ b, (zcZ W k x)[i]? = some b ∧ y = .bl b, fun _ _ _ _ h _ _ => h, fun i v H2 ys C hxi S2 hd hC => ?_, fun ys H' S' hD' hl' hR => ?_⟩
   ·obtain ⟨r, hr', ra⟩ := Paired.get1 hp hxi
    obtain ⟨c, l, d, rfl, h1, h2, h3⟩ := ra.mono S2
    have hb2 := S2 _ _ hb
    have hm : r ∈ W := List.mem_of_getElem? hr'
    walk_at "rd"
    refine ⟨d, b, r.doors, x, rfl, h3, hb2, fun z m => by rw [hx]; exact hv r hm z m, hdz r hm, fun t H3 S3 ht0 ht => ?_⟩
    walk_at "rd"
    refine zdh (.inl (SqL.of ht)) rfl (zes _) ?_
    refine hC _ H3 S3 ⟨!(led x r.doors).contains false, ?_, by rw [zfV]⟩
    simp [zcZ, ek, hr']
   ·exact q D H' S' hD (by rw [hD', zb8 (bs := zcZ W k x) (by rw [zeU, hl']; omega) hR])
  ·have ek : ¬ k = "every" := fun z => e (by rw [z])
   walk_at "rd"
   refine zbf (SqL.of ha) (by omega) fun D hD => ⟨fun i y _ => ∃ b, (zcZ W k x)[i]? = some b ∧ y = .bl b, fun _ _ _ _ h _ _ => h, fun i v H2 ys C hxi S2 hd hC => ?_, fun ys H' S' hD' hl' hR => ?_⟩
   ·obtain ⟨r, hr', ra⟩ := Paired.get1 hp hxi
    obtain ⟨c, l, d, rfl, h1, h2, h3⟩ := ra.mono S2
    have hb2 := S2 _ _ hb
    have hm : r ∈ W := List.mem_of_getElem? hr'
    walk_at "rd"
    refine ⟨d, b, r.doors, x, rfl, h3, hb2, fun z m => by rw [hx]; exact hv r hm z m, hdz r hm, fun t H3 S3 ht0 ht => ?_⟩
    walk_at "rd"
    refine zdE (.inl (SqL.of ht)) rfl (zes _) ?_
    refine hC _ H3 S3 ⟨(led x r.doors).contains true, ?_, by rw [zfV]⟩
    simp [zcZ, ek, hr']
   ·exact q D H' S' hD (by rw [hD', zb8 (bs := zcZ W k x) (by rw [zeU, hl']; omega) hR])
end
section
variable {P : Program} {w : World} {K : PySem.W.Frag} {mg : Str → Option Value} {base : Heap} {f : Addr} {fd : FuncData}
theorem zic {C : Addr} (F_Saying : ClsF K C ["size", "truths", "straight", "turned"]) (D : zb4 K C "__init__" "Saying.__init__" zaQ ["self", "size", "truths", "straight", "turned"] f fd) (M : Mk K C f) (hm : mg "Saying" = some (.ref C)) : HasC P w K mg base C "Saying" 1 ["self", "size", "truths", "straight", "turned"] (zey C) := by
 have nd := zcG.nd
 refine D.make M hm (D.fn.ok zcG (fun vs H Q E h => ?_) (fun cdv A outer s H vs Q E hr h => ?_))
 ·obtain ⟨x, dx, a, b, c, d, rfl, _⟩ := h
  rfl
 ·obtain ⟨x, dx, a, b, c, d, rfl, hx, q⟩ := h
  refine ⟨_, (zad (zcO F_Saying (pv 0) (pv 1))
   (zad (zcO F_Saying (pv 0) (pv 2))
   (zad (zcO F_Saying (pv 0) (pv 3))
   (zae (zcO F_Saying (pv 0) (pv 4)))))), ?_⟩
  walk_at "rd0"
  walk_at "rd"
  refine zbY hx (by decide) ?_
  walk_at "rd"
  refine zbY zab (by show 1 < 1000; decide) ?_
  walk_at "rd"
  refine zbY zab (by show 2 < 1000; decide) ?_
  walk_at "rd"
  refine zbY zab (by show 3 < 1000; decide) ?_
  have S : SamB [x] H (upd (upd (upd (upd H x (.ins C dx [("size", a)])) x (.ins C dx [("size", a), ("truths", b)])) x (.ins C dx [("size", a), ("truths", b), ("straight", c)])) x (.ins C dx [("size", a), ("truths", b), ("straight", c), ("turned", d)])) :=
   ((((SamB.refl _ _).put (List.mem_singleton_self x)).put (List.mem_singleton_self x)).put (List.mem_singleton_self x)).put (List.mem_singleton_self x)
  exact q _ S zab
theorem zlA {C : Addr} (D : zaI K mg "said_of_lamp" za8 ["world", "lamp"] f fd) (h_leaf_truths : Has P w K mg base "leaf_truths" 1 ["world", "leaf"] zml) (h_Saying : HasC P w K mg base C "Saying" 1 ["self", "size", "truths", "straight", "turned"] (zey C)) : Has P w K mg base "said_of_lamp" 3 ["world", "lamp"] (zi5 C) := by
 have nd := zdd.nd
 refine D.has (D.fn.ok zdd (fun vs H Q E h => ?_) (fun cdv A outer s H vs Q E hr h => ?_))
 ·obtain ⟨wd, k, W, rfl, _⟩ := h
  rfl
 ·obtain ⟨wd, k, W, rfl, hw, hk, q⟩ := h
  refine ⟨_, (zad (zay (i := 2) nd rfl (Or.inl rfl) (za2 (zaa zaB (zaa (pv 1) zac))))
   (zae (zaq (zd0 h_Saying hr (zaa zah (zaa (zaj h_leaf_truths hr (zaa (pv 0) (zaa (pv 2) zac))) (zaa (pv 2) (zaa (za2 (zaa zaB (zaa (pv 1) zac))) zac)))))))), ?_⟩
  walk_at "rd0"
  walk_at "rd"
  refine ⟨(by show 2 ≤ sizeLine; decide), fun p1 hp1 => ?_⟩
  walk_at "rd"
  have S1 : Same H (upd H p1 (.tup [.str "lamp", .int k])) := by walk_at "sm"
  have h11 : (upd H p1 (.tup [.str "lamp", .int k])) p1 = some (.tup [.str "lamp", .int k]) := zab
  generalize upd H p1 (.tup [.str "lamp", .int k]) = H1 at S1 h11 ⊢
  have hf := hw.few
  refine ⟨wd, .ref p1, W, .lamp k, rfl, hw.at_.mono S1, by omega, .lamp h11, rfl, fun l H2 S2 hl0 hl => ?_⟩
  walk_at "rd"
  refine ⟨(by show 2 ≤ sizeLine; decide), fun p2 hp2 => ?_⟩
  walk_at "rd"
  have S3 : Same H2 (upd H2 p2 (.tup [.str "dark", .int k])) := by walk_at "sm"
  have h32 : (upd H2 p2 (.tup [.str "dark", .int k])) p2 = some (.tup [.str "dark", .int k]) := zab
  generalize upd H2 p2 (.tup [.str "dark", .int k]) = H3 at S3 h32 ⊢
  refine fun x dx hx hdx ne => ⟨x, dx, _, _, _, _, rfl, zab, fun H' S hx' => ⟨rfl, ?_⟩⟩
  have S4 := zlH (fs := []) hx hdx ne S
  exact q _ H' (S1.trans (S2.trans (S3.trans S4))) ⟨x, dx, l, _, _, rfl, hx', S4 _ _ (S3 _ _ hl), .lamp (S4 _ _ (S3 _ _ (S2 _ _ h11))), .dark (S4 _ _ h32), ziW hk⟩
theorem zlr {C : Addr} (D : zaI K mg "said_turned" zbi ["saying"] f fd) (F_Saying : ClsF K C ["size", "truths", "straight", "turned"]) (h_Saying : HasC P w K mg base C "Saying" 1 ["self", "size", "truths", "straight", "turned"] (zey C)) : Has P w K mg base "said_turned" 3 ["saying"] (zgW C) := by
 have nd := zdw.nd
 refine D.has (D.fn.ok zdw (fun vs H Q E h => ?_) (fun cdv A outer s H vs Q E hr h => ?_))
 ·obtain ⟨v, W, y, rfl, _⟩ := h
  rfl
 ·obtain ⟨v, W, y, rfl, ⟨a, dxa, la, xa, ua, rfl, ha, hla, sxa, sua, oka⟩, hf, q⟩ := h
  have hlen := zaO W y.s
  have hbl : (bls (tru W y.s)).length = (tru W y.s).length := List.length_map _
  refine ⟨_, (zae (zaq (zd0 h_Saying hr (zaa (zaw F_Saying (pv 0)) (zaa (zaV ["truth"] 1 [] (zaD K (zaw F_Saying (pv 0))) (fun _ _ _ _ _ => (zan (i := 0) (show List.Nodup (["truth"] : List Str) by decide +kernel) rfl (Or.inl rfl))) (fun _ _ _ _ _ => zbq) (fun _ _ _ _ _ => (zhC (pv 0)))) (zaa (zaw F_Saying (pv 0)) (zaa (zaw F_Saying (pv 0)) zac))))))), ?_⟩
  walk_at "rd0"
  walk_at "rd"
  refine zbf (SqL.of hla) (by omega) fun Dz hDz => ⟨fun i y' H => ∃ b, (tru W y.s)[i]? = some b ∧ y' = .bl (!b), fun i y' H H' z _ _ => z, fun i x H2 ys Cc hx S2 hd hC => ?_, fun ys H2 S2 hD2 hl2 hR => ?_⟩
  ·rw [List.getElem?_map] at hx
   obtain ⟨b, hb, rfl⟩ := Option.map_eq_some_iff.mp hx
   walk_at "rd"
   exact hC _ _ (Same.refl _) ⟨b, hb, rfl⟩
  ·have ez : ys = bls (tru W y.t) := by
    rw [oka.1]
    refine List.ext_getElem? fun i => ?_
    by_cases hi : i < ys.length
    ·obtain ⟨b, e1, e2⟩ := hR i ys[i] (List.getElem?_eq_getElem hi)
     rw [List.getElem?_eq_getElem hi, e2]
     simp [notB, e1]
    ·rw [List.getElem?_eq_none (by omega), List.getElem?_eq_none (by simp [notB]; omega)]
   subst ez
   have ha2 := S2 _ _ ha
   walk_at "rd"
   refine fun x dx hx hdx ne => ⟨x, dx, _, _, _, _, rfl, zab, fun H' S hx' => ⟨rfl, ?_⟩⟩
   have S4 := zlH (fs := []) hx hdx ne S
   have S24 := S2.trans S4
   exact q _ H' S24 ⟨x, dx, Dz, _, _, rfl, hx', S4 _ _ hD2, sua.mono S24.tupK, sxa.mono S24.tupK, oka.turn⟩
theorem zlC {C : Addr} (D : zaI K mg "said_both" zbI ["one", "other"] f fd) (F_Saying : ClsF K C ["size", "truths", "straight", "turned"]) (h_Saying : HasC P w K mg base C "Saying" 1 ["self", "size", "truths", "straight", "turned"] (zey C)) (h_join_truths : Has P w K mg base "join_truths" 1 ["kind", "first", "second"] ziZ) : Has P w K mg base "said_both" 3 ["one", "other"] (zja C) := by
 have nd := zef.nd
 refine D.has (D.fn.ok zef (fun vs H Q E h => ?_) (fun cdv A outer s H vs Q E hr h => ?_))
 ·obtain ⟨v, u, W, x, y, rfl, _⟩ := h
  rfl
 ·obtain ⟨v, u, W, x, y, rfl, ⟨a, dxa, la, xa, ua, rfl, ha, hla, sxa, sua, oka⟩, ⟨b, dxb, lb, xb, ub, rfl, hb, hlb, sxb, sub, okb⟩, hf, q⟩ := h
  have hl1 := zaO W x.s
  have hl2 := zaO W y.s
  refine ⟨_, (zae (zaq (zd0 h_Saying hr (zaa (zbd zcn (zbd zcn (zaw F_Saying (pv 0)) (zaw F_Saying (pv 1))) zah) (zaa (zaj h_join_truths hr (zaa zaB (zaa (zaw F_Saying (pv 0)) (zaa (zaw F_Saying (pv 1)) zac)))) (zaa (za2 (zaa zaB (zaa (zaw F_Saying (pv 0)) (zaa (zaw F_Saying (pv 1)) zac)))) (zaa (za2 (zaa zaB (zaa (zaw F_Saying (pv 0)) (zaa (zaw F_Saying (pv 1)) zac)))) zac))))))), ?_⟩
  walk_at "rd0"
  walk_at "rd"
  refine ⟨"and", la, lb, _, _, rfl, hla, hlb, by omega, by omega, fun l H1 S1 hl0 hl => ?_⟩
  have ha1 := S1 _ _ ha
  have hb1 := S1 _ _ hb
  walk_at "rd"
  refine ⟨(by show 3 ≤ sizeLine; decide), fun p1 hp1 => ?_⟩
  walk_at "rd"
  have S2 : Same H1 (upd H1 p1 (.tup [.str "and", xa, xb])) := by walk_at "sm"
  have h21 : (upd H1 p1 (.tup [.str "and", xa, xb])) p1 = some (.tup [.str "and", xa, xb]) := zab
  generalize upd H1 p1 (.tup [.str "and", xa, xb]) = H2 at S2 h21 ⊢
  have ha2 := S2 _ _ ha1
  have hb2 := S2 _ _ hb1
  walk_at "rd"
  refine ⟨(by show 3 ≤ sizeLine; decide), fun p2 hp2 => ?_⟩
  walk_at "rd"
  have S3 : Same H2 (upd H2 p2 (.tup [.str "or", ua, ub])) := by walk_at "sm"
  have h32 : (upd H2 p2 (.tup [.str "or", ua, ub])) p2 = some (.tup [.str "or", ua, ub]) := zab
  generalize upd H2 p2 (.tup [.str "or", ua, ub]) = H3 at S3 h32 ⊢
  refine fun z dx hx hdx ne => ⟨z, dx, _, _, _, _, rfl, zab, fun H' S hx' => ⟨rfl, ?_⟩⟩
  have S4 := zlH (fs := []) hx hdx ne S
  have S24 := S2.trans (S3.trans S4)
  have T14 := (S1.trans S24).tupK
  refine q _ H' (S1.trans S24) ⟨z, dx, l, _, _, rfl, hx', ?_, .conj (S4 _ _ (S3 _ _ h21)) (sxa.mono T14) (sxb.mono T14), .disj (S4 _ _ h32) (sua.mono T14) (sub.mono T14), oka.both okb⟩
  exact S24 _ _ hl
theorem zlv {C : Addr} (D : zaI K mg "said_of_some" za7 ["world", "saying"] f fd) (F_Saying : ClsF K C ["size", "truths", "straight", "turned"]) (h_Saying : HasC P w K mg base C "Saying" 1 ["self", "size", "truths", "straight", "turned"] (zey C)) (h_door_truths : Has P w K mg base "door_truths" 2 ["world", "kind", "inner"] zmo) : Has P w K mg base "said_of_some" 3 ["world", "saying"] (zi1 C) := by
 have nd := zdc.nd
 refine D.has (D.fn.ok zdc (fun vs H Q E h => ?_) (fun cdv A outer s H vs Q E hr h => ?_))
 ·obtain ⟨wd, v, W, y, rfl, _⟩ := h
  rfl
 ·obtain ⟨wd, v, W, y, rfl, hw, ⟨a, dxa, la, xa, ua, rfl, ha, hla, sxa, sua, oka⟩, q⟩ := h
  have hl1 := zaO W y.s
  have hf := hw.few
  refine ⟨_, (zae (zaq (zd0 h_Saying hr (zaa (zbd zcn (zaw F_Saying (pv 1)) zah) (zaa (zaj h_door_truths hr (zaa (pv 0) (zaa zaB (zaa (zaw F_Saying (pv 1)) zac)))) (zaa (za2 (zaa zaB (zaa (zaw F_Saying (pv 1)) zac))) (zaa (za2 (zaa zaB (zaa (zaw F_Saying (pv 1)) zac))) zac))))))), ?_⟩
  walk_at "rd0"
  walk_at "rd"
  refine ⟨wd, "some", la, W, _, rfl, hw.at_, hw.valid, by omega, hw.doors1000, hla, hl1, fun l H1 S1 hl0 hl => ?_⟩
  have ha1 := S1 _ _ ha
  walk_at "rd"
  refine ⟨(by show 2 ≤ sizeLine; decide), fun p1 hp1 => ?_⟩
  walk_at "rd"
  have S2 : Same H1 (upd H1 p1 (.tup [.str "some", xa])) := by walk_at "sm"
  have h21 : (upd H1 p1 (.tup [.str "some", xa])) p1 = some (.tup [.str "some", xa]) := zab
  generalize upd H1 p1 (.tup [.str "some", xa]) = H2 at S2 h21 ⊢
  have ha2 := S2 _ _ ha1
  walk_at "rd"
  refine ⟨(by show 2 ≤ sizeLine; decide), fun p2 hp2 => ?_⟩
  walk_at "rd"
  have S3 : Same H2 (upd H2 p2 (.tup [.str "every", ua])) := by walk_at "sm"
  have h32 : (upd H2 p2 (.tup [.str "every", ua])) p2 = some (.tup [.str "every", ua]) := zab
  generalize upd H2 p2 (.tup [.str "every", ua]) = H3 at S3 h32 ⊢
  refine fun z dx hx hdx ne => ⟨z, dx, _, _, _, _, rfl, zab, fun H' S hx' => ⟨rfl, ?_⟩⟩
  have S4 := zlH (fs := []) hx hdx ne S
  have S24 := S2.trans (S3.trans S4)
  have T14 := (S1.trans S24).tupK
  refine q _ H' (S1.trans S24) ⟨z, dx, l, _, _, rfl, hx', ?_, .so (S4 _ _ (S3 _ _ h21)) (sxa.mono T14), .ev (S4 _ _ h32) (sua.mono T14), oka.some hw.valid⟩
  exact S24 _ _ hl
end
section
variable {P : Program} {w : World} {K : PySem.W.Frag} {mg : Str → Option Value} {base : Heap} {f : Addr} {fd : FuncData}
theorem zph {C : Addr} (D : zaI K mg "said_together" zaX ["sayings"] f fd) (B : Blt mg) (h_said_both : Has P w K mg base "said_both" 3 ["one", "other"] (zja C)) : Has P w K mg base "said_together" 4 ["sayings"] (ze6 C) := by
 have nd := zc3.nd
 refine D.has (D.fn.ok zc3 (fun vs H Q E h => ?_) (fun cdv A outer s H vs Q E hr h => ?_))
 ·obtain ⟨l, xs, ys, W, rfl, _⟩ := h
  rfl
 ·obtain ⟨l, xs, ys, W, rfl, hl, hp, hne, hz, hW, hf, q⟩ := h
  refine ⟨_, (zad (zay (i := 1) nd rfl (Or.inl rfl) (pv 0))
   (zad (zcK PassesOwn.never (zat zgm (zak (zax K) rfl B.len PySem.boot_len (zaa (pv 1) zac)) zah (zaF _)) (zad (zfJ ["one", "other"] 2 [] (zg0 K rfl B.zip (zaa (zfb K (pv 1) zeG (zcY zah)) (zaa (zfb K (pv 1) (zcY zah) (zcY zah)) zac))) (fun _ _ _ _ _ => (zcx (n := 2) K rfl (zaU (zan (i := 0) (show List.Nodup (["one", "other"] : List Str) by decide +kernel) rfl (Or.inl rfl)) (zaU (zan (i := 1) (show List.Nodup (["one", "other"] : List Str) by decide +kernel) rfl (Or.inl rfl)) zcw)))) (fun _ _ _ _ _ => zbq) (fun _ _ _ _ _ => (zaj h_said_both hr (zaa (pv 0) (zaa (pv 1) zac)))) (zan (i := 2) nd rfl (Or.inl rfl)))
    (zae (zay (i := 1) nd rfl (Or.inl rfl) (zbd zpg (pv 2) (zdY (zfC K) (pv 1) (zcY (zbd zel zah (zak (zax K) rfl B.len PySem.boot_len (zaa (pv 2) zac)))) zeG))))))
   (zae (zaq (zaJ (zaK K) (pv 1) zah (fun _ _ => rfl)))))), ?_⟩
  walk_at "rd0"
  walk_at "rd"
  refine ⟨fun m σ H1 => ∃ (l1 : Addr) (xs1 : List V) (ys1 : List Sy) (o2 : Option V), σ = [some (.ref l), some (.ref l1), o2] ∧ Same H H1 ∧ H1 l1 = some (.lst xs1) ∧ Paired (SyAt C W H1) xs1 ys1 ∧ ys1 ≠ [] ∧ ys1.length ≤ 1000 ∧ (∀ j, j < W.length → allT W j ys1 = allT W j ys) ∧ totS ys1 = totS ys ∧ m = ys1.length,
   ⟨_, l, xs, ys, none, rfl, Same.refl _, hl, hp, hne, hz, fun _ _ => rfl, rfl, rfl⟩, ?_⟩
  rintro m σ H1 ⟨l1, xs1, ys1, o2, rfl, S1, hl1, hp1, hne1, hz1, ha1, ht1, rfl⟩
  have lxy := Paired.length hp1
  walk_at "rd"
  refine zbO (fun hgt => ?_) (fun hgt => ?_)
  ·refine ⟨fun σ' H' => ∃ m', m' < ys1.length ∧ ∃ (l1 : Addr) (xs1 : List V) (ys1 : List Sy) (o2 : Option V), σ' = [some (.ref l), some (.ref l1), o2] ∧ Same H H' ∧ H' l1 = some (.lst xs1) ∧ Paired (SyAt C W H') xs1 ys1 ∧ ys1 ≠ [] ∧ ys1.length ≤ 1000 ∧ (∀ j, j < W.length → allT W j ys1 = allT W j ys) ∧ totS ys1 = totS ys ∧ m' = ys1.length, fun _ _ h => h, ?_⟩
   walk_at "rd"
   refine ⟨l1, xs1, 0, rfl, SqL.of hl1, rfl, .inl ⟨rfl, rfl⟩, fun p1 hp1' => ?_⟩
   walk_at "rd"
   have n1 := zag hl1 hp1'
   refine ⟨l1, xs1, 1, rfl, SqL.of (za6 hp1' hl1), rfl, .inr rfl, fun p2 hp2' => ?_⟩
   walk_at "rd"
   have S3 : Same H1 (upd (upd H1 p1 (.lst (evens (xs1.drop 0)))) p2 (.lst (evens (xs1.drop 1)))) := by walk_at "sm"
   have h31 : (upd (upd H1 p1 (.lst (evens (xs1.drop 0)))) p2 (.lst (evens (xs1.drop 1)))) p1 = some (.lst (evens (xs1.drop 0))) := za6 hp2' zab
   have h32 : (upd (upd H1 p1 (.lst (evens (xs1.drop 0)))) p2 (.lst (evens (xs1.drop 1)))) p2 = some (.lst (evens (xs1.drop 1))) := zab
   generalize upd (upd H1 p1 (.lst (evens (xs1.drop 0)))) p2 (.lst (evens (xs1.drop 1))) = H3 at S3 h31 h32 ⊢
   have hfl := zhT ys1
   have hp3 : Paired (SyAt C W H3) xs1 ys1 := Paired.mapP hp1 fun _ _ z => z.mono S3
   have at1 : ∀ i, (evens (xs1.drop 0))[i]? = xs1[2 * i]? := fun i => by rw [zeP, List.drop_zero]
   have at2 : ∀ i, (evens (xs1.drop 1))[i]? = xs1[2 * i + 1]? := fun i => by rw [zeP, List.getElem?_drop]; congr 1; omega
   refine ⟨p1, p2, _, _, rfl, SqL.of h31, SqL.of h32, zdu (zbp ys1).length fun Dz hDz => ⟨fun i zs H2 => Same H3 H2 ∧ H2 Dz = some (.lst zs) ∧ Paired (SyAt C W H2) zs ((zbp ys1).take i), ⟨by walk_at "sm", zab, by rw [List.take_zero]; exact .nil⟩, fun i zs H2 hi ⟨S4, _, _⟩ => ?_, fun zs H2 ⟨S4, _, _⟩ => ?_, fun i zs H2 v H4 Cy Cn hi ⟨S4, hd, hpz⟩ hy hCy hCn => ?_, fun zs H2 ⟨S4, hd, hpz⟩ => ?_⟩⟩
   ·have i1 : 2 * i < xs1.length := by omega
    have i2 : 2 * i + 1 < xs1.length := by omega
    exact ⟨_, _, xs1[2 * i], xs1[2 * i + 1], SqL.of (S4 _ _ h31), SqL.of (S4 _ _ h32), by rw [at1]; exact List.getElem?_eq_getElem i1, by rw [at2]; exact List.getElem?_eq_getElem i2⟩
   ·refine ⟨_, _, SqL.of (S4 _ _ h31), SqL.of (S4 _ _ h32), .inr ?_⟩
    rw [at2, List.getElem?_eq_none]
    omega
   ·obtain ⟨p, x, y, rfl, hp0, rfl, e1, e2⟩ := hy
    have e1 := e1 _ (SqL.of (S4 _ _ h31))
    have e2 := e2 _ (SqL.of (S4 _ _ h32))
    rw [at1] at e1
    rw [at2] at e2
    obtain ⟨sx, hsx, hx⟩ := Paired.get1 hp3 e1
    obtain ⟨sy, hsy, hy⟩ := Paired.get1 hp3 e2
    have S5 : Same H2 (upd H2 p (.tup [x, y])) := by walk_at "sm"
    have h5p : (upd H2 p (.tup [x, y])) p = some (.tup [x, y]) := zab
    generalize upd H2 p (.tup [x, y]) = H5 at S5 h5p ⊢
    have S35 := S4.trans S5
    walk_at "rd"
    refine zmr ?_
    walk_at "rd"
    refine ⟨x, y, W, sx, sy, rfl, hx.mono S35, hy.mono S35, hf, fun z H6 S6 hz6 => ?_⟩
    have S46 := S5.trans S6
    have hd6 := S46 _ _ hd
    have hpz6 : Paired (SyAt C W H6) zs ((zbp ys1).take i) := Paired.mapP hpz fun _ _ z => z.mono S46
    have hrz := zgY hpz6
    have hzl := Paired.length hpz6
    rw [List.length_take] at hzl
    refine hCy z H6 zs hd6 (by rw [sizeLine_eq]; omega) ⟨(S4.trans S46).set hDz, zab, ?_⟩
    have e3 := zhU ys1 i sx sy hsx hsy
    rw [List.take_add_one, e3]
    exact Paired.snoc (Paired.mapP hpz6 fun _ _ z => zdp z hd6 hrz hW) (zdp hz6 hd6 hrz hW)
   ·rw [List.take_length] at hpz
    have hzl := Paired.length hpz
    have hl3 : H2 l1 = some (.lst xs1) := (S3.trans S4) _ _ hl1
    walk_at "rd"
    refine zjr (SqL.of hl3) fun p hp => ?_
    have ecut : cutV xs1 (some (2 * ((zs.length : Nat) : Int))) none = xs1.drop (2 * zs.length) := by
     have := zlY xs1 (2 * zs.length)
     rw [← this]; rfl
    rw [ecut]
    have hlen2 : (xs1.drop (2 * zs.length)).length = xs1.length - 2 * zs.length := List.length_drop
    refine zoV (za6 hp hd) zab (by rw [sizeLine_eq]; omega) fun r hr => ?_
    walk_at "rd"
    have S6 : Same H2 (upd (upd H2 p (.lst (xs1.drop (2 * zs.length)))) r (.lst (zs ++ xs1.drop (2 * zs.length)))) := by walk_at "sm"
    have hpl := zfd ys1
    have S36 := S4.trans S6
    have hp6 : Paired (SyAt C W (upd (upd H2 p (.lst (xs1.drop (2 * zs.length)))) r (.lst (zs ++ xs1.drop (2 * zs.length))))) (zs ++ xs1.drop (2 * zs.length)) (zcM ys1) := by
     rw [← zgz ys1, ← hzl]
     exact Paired.app (Paired.mapP hpz fun _ _ z => z.mono S6) (Paired.drop _ (Paired.mapP hp3 fun _ _ z => z.mono S36))
    refine ⟨(zcM ys1).length, by omega, r, _, zcM ys1, _, rfl, S1.trans (S3.trans S36), zab, hp6, ?_, by omega, fun j hj => ?_, ?_, rfl⟩
    ·intro z
     rw [z] at hpl
     simp at hpl
     omega
    ·rw [zfe hj, ha1 j hj]
    ·rw [zfc, ht1]
  ·have : ys1.length = 1 := by
    have := List.length_pos_iff.mpr hne1
    omega
   walk_at "rd"
   match ys1, xs1, hp1, this with
   | [y], [v], .cons hv .nil, _ =>
    refine zbt (SqL.of hl1) (zbZ _ _) ?_
    refine q v y H1 S1 hv (fun j hj => ?_) ?_
    ·rw [← ha1 j hj]; simp [allT]
    ·rw [← ht1]; simp [totS]
end
section
variable {P : Program} {w : World} {K : PySem.W.Frag} {mg : Str → Option Value} {base : Heap} {f : Addr} {fd : FuncData}
theorem zlz (D : zaI K mg "lamps_lit" zbJ ["world"] f fd) (B : Blt mg) : Has P w K mg base "lamps_lit" 1 ["world"] zi4 := by
 have nd := zeg.nd
 refine D.has (D.fn.ok zeg (fun vs H Q E h => ?_) (fun cdv A outer s H vs Q E hr h => ?_))
 ·obtain ⟨wd, W, rfl, _⟩ := h
  rfl
 ·obtain ⟨wd, W, rfl, hw, q⟩ := h
  have hu := ze3 hr
  obtain ⟨rs, hrs, hp⟩ := id hw.at_
  have lrs := Paired.length hp
  have hf := hw.few
  refine ⟨_, (zad (zay (i := 1) nd rfl (Or.inl rfl) zhD)
   (zad (zbS PassesOwn.never rfl (zaD K (pv 0)) (zcx (n := 2) K rfl (zaU (zan (i := 2) nd rfl (Or.inl rfl)) (zaU (zan (i := 3) nd rfl (Or.inl rfl)) zcw))) (zae (zbS PassesOwn.never rfl (zaD K (pv 2)) (zan (i := 4) nd rfl (Or.inl rfl)) (zae (zfI hu (pv 1) (pv 4) zbB rfl)))))
   (zae (zaq (zbW (zft) rfl B.list_ PySem.Pv.boot_list (zaa (pv 1) zac)))))), ?_⟩
  walk_at "rd0"
  walk_at "rd"
  refine fun d hd => ?_
  walk_at "rd"
  refine zbA (K := K) (a := wd) (xs := rs) (fun i σ H1 => ∃ (kvs : List (Key × V)) (ks : List Int) (o2 o3 o4 : Option V), σ = [some (.ref wd), some (.ref d), o2, o3, o4] ∧ Same H H1 ∧ H1 d = some (.dK kvs) ∧ ziz kvs ks ∧ ks.length ≤ 3 * i ∧ ∀ k, k ∈ ks ↔ ∃ r ∈ W.take i, k ∈ r.lit)
   ⟨[], [], none, none, none, rfl, by walk_at "sm", zab, rfl, by simp, fun k => by simp⟩ (fun i σ H1 _ ⟨_, _, _, _, _, _, S1, _⟩ => SqL.of (S1 _ _ hrs)) ?_ ?_
  ·rintro i x σ H1 hi ⟨kvs, ks, o2, o3, o4, rfl, S1, hd1, hkv, hkl, hks⟩
   obtain ⟨r, hr', ⟨ax, l, dd, rfl, h1, h2, h3⟩⟩ := Paired.get1 hp hi
   have hil : i < W.length := (List.getElem?_eq_some_iff.mp hr').1
   have hlit := (hw.lits r (List.mem_of_getElem? hr')).1
   have h1' := S1 _ _ h1
   have h2' := S1 _ _ h2
   walk_at "rd"
   have hnl : (r.lit.map V.int).length = r.lit.length := List.length_map _
   refine zbA (K := K) (a := l) (xs := r.lit.map V.int) (fun j σ H2 => ∃ (kvs : List (Key × V)) (ks2 : List Int) (o4 : Option V), σ = [some (.ref wd), some (.ref d), some (.ref l), some (.ref dd), o4] ∧ Same H H2 ∧ H2 l = some (.lst (r.lit.map V.int)) ∧ H2 d = some (.dK kvs) ∧ ziz kvs ks2 ∧ ks2.length ≤ 3 * i + j ∧ ∀ k, k ∈ ks2 ↔ (k ∈ ks ∨ k ∈ r.lit.take j))
    ⟨kvs, ks, o4, rfl, S1, h2', hd1, hkv, by omega, fun k => by simp⟩ (fun j σ H2 _ ⟨_, _, _, _, _, h, _⟩ => SqL.of h) ?_ ?_
   ·rintro j x σ H2 hj ⟨kvs2, ks2, o4, rfl, S2, hl2, hd2, hkv2, hkl2, hks2⟩
    rw [List.getElem?_map] at hj
    obtain ⟨n, hn, rfl⟩ := Option.map_eq_some_iff.mp hj
    have hjl : j < r.lit.length := (List.getElem?_eq_some_iff.mp hn).1
    have hlen : kvs2.length = ks2.length := by
     have := congrArg List.length hkv2
     simpa using this
    walk_at "rd"
    refine ⟨d, _, rfl, DPut.k (k := Sum.inl n) hd2 (by rw [sizeLine_eq]; omega), ?_⟩
    obtain ⟨ks3, e1, e2, e3⟩ := zj9 (k := n) (v := .bl true) hkv2
    refine ⟨_, ks3, _, rfl, fun b o e => ?_, ?_, zab, e1, by omega, fun k => ?_⟩
    ·have hdn : H d = none := hd
     rw [zai (zag e hdn)]; exact S2 b o e
    ·rw [zai (zch hl2 hd2 (by intro z; cases z))]; exact hl2
    ·rw [e3, hks2, List.take_add_one, hn, List.mem_append]
     simp [or_assoc]
   ·rintro σ H2 ⟨kvs2, ks2, o4, rfl, S2, hl2, hd2, hkv2, hkl2, hks2⟩
    rw [hnl] at hkl2 hks2
    rw [List.take_length] at hks2
    refine ⟨kvs2, ks2, _, _, _, rfl, S2, hd2, hkv2, by omega, fun k => ?_⟩
    rw [hks2, hks, List.take_add_one, hr']
    constructor
    ·rintro (⟨r', m, e⟩ | e)
     ·exact ⟨r', List.mem_append_left _ m, e⟩
     ·exact ⟨r, List.mem_append_right _ (by simp), e⟩
    ·rintro ⟨r', m, e⟩
     rcases List.mem_append.mp m with m | m
     ·exact .inl ⟨r', m, e⟩
     ·have : r' = r := by simpa using m
      subst this
      exact .inr e
  ·rintro σ H1 ⟨kvs, ks, o2, o3, o4, rfl, S1, hd1, hkv, hkl, hks⟩
   rw [lrs] at hkl hks
   rw [List.take_length] at hks
   walk_at "rd"
   refine ⟨d, kvs, rfl, hd1, fun p hp' => ?_⟩
   have ek : (kvs.map fun kv => kV kv.1) = ks.map V.int := by
    have : (kvs.map fun kv => kV kv.1) = (kvs.map (·.1)).map kV := by rw [List.map_map]; rfl
    rw [this, hkv, List.map_map]; rfl
   rw [ek]
   exact q p ks _ (S1.trans (Same.new (Same.refl _) hp')) (S1.free hp') zab (by omega) hks
end
section
variable {P : Program} {w : World} {K : PySem.W.Frag} {mg : Str → Option Value} {base : Heap} {f : Addr} {fd : FuncData}
theorem znD {C : Addr} (D : zaI K mg "keep_smaller" za9 ["found", "saying"] f fd) (B : Blt mg) (F_Saying : ClsF K C ["size", "truths", "straight", "turned"]) : Has P w K mg base "keep_smaller" 1 ["found", "saying"] (zmm P w C) := by
 have nd := zde.nd
 refine D.has (D.fn.ok zde (fun vs H Q E h => ?_) (fun cdv A outer s H vs Q E hr h => ?_))
 ·obtain ⟨d, v, W, R, xs, y, rfl, _⟩ := h
  rfl
 ·obtain ⟨d, v, W, R, xs, y, rfl, ⟨bd, hxs⟩, ⟨a, dxa, la, xa, ua, rfl, ha, hla, sxa, sua, oka⟩, hR, hxl, hW, hf, q⟩ := h
  have hu := ze3 hr
  refine ⟨_, (zad (zay (i := 2) nd rfl (Or.inl rfl) (zbW (zky K) rfl B.tuple_ PySem.Pv.boot_tuple (zaa (zaw F_Saying (pv 1)) zac)))
   (zae (za4 (PW.pt (zda (zej (zjQ hu (pv 2) (pv 0))) (zcJ (zat zib (zaw F_Saying (pv 1)) (zaw F_Saying (znt hu (pv 0) (pv 2) (fun _ _ => rfl))) (zaF _))))) (zae (zng hu (pv 0) (pv 2) (pv 1) rfl)) zaC))), ?_⟩
  walk_at "rd0"
  walk_at "rd"
  refine ⟨la, _, rfl, .inl ⟨SqL.of hla, fun kt hkt => ?_⟩⟩
  walk_at "rd"
  have S1 : Same H (upd H kt (.tup (bls (tru W y.s)))) := by walk_at "sm"
  have h1k : (upd H kt (.tup (bls (tru W y.s)))) kt = some (.tup (bls (tru W y.s))) := zab
  generalize upd H kt (.tup (bls (tru W y.s))) = H1 at S1 h1k ⊢
  have bd1 : BD P w H1 d xs := bd.mono (fun o e => S1 _ _ e) S1.tupK
  have ha1 := S1 _ _ ha
  have sy1 : SyAt C W H1 (.ref a) y := ⟨a, dxa, la, xa, ua, rfl, ha1, S1 _ _ hla, sxa.mono S1.tupK, sua.mono S1.tupK, oka⟩
  have hxs1 : ∀ x ∈ xs, ∃ va y, x.2.2 = Value.ref va ∧ SyAt C W H1 (.ref va) y ∧ x.1 = tru W y.s ∧ R y := fun x m => by
   obtain ⟨va, y', e1, e2, e3⟩ := hxs x m
   exact ⟨va, y', e1, e2.mono S1, e3⟩
  -- it is stored
  have store : ∀ o, BObj P w o (storedH xs (tru W y.s) kt (.ref a)) → Q .non (upd H1 d (kn d o)) := fun o hO => by
   obtain ⟨_, ⟨o0, e0, _⟩, hk0⟩ := id bd1
   have Kd : Kp true H1 (upd H1 d (kn d o)) := (Kp.refl _ _).chg e0 (fun z => z)
   refine q _ _ (S1.samB.put (List.mem_singleton_self d)) ⟨⟨bd.sys, ⟨o, zab, hO⟩, fun x m => ?_⟩, fun x m => ?_⟩ ze5 (fun n hn => zgb n hn)
   ·refine Kd _ _ True.intro ?_
    rcases zew m with m | ⟨e1, _, e3⟩
    ·exact hk0 x m
    ·rw [e1]
     rcases e3 with e3 | ⟨z, hz, e4, e5⟩
     ·rw [e3]; exact h1k
     ·rw [← e4, ← e5]; exact hk0 z hz
   ·rcases zew m with m | ⟨e1, e2, _⟩
    ·obtain ⟨va, y', z1, z2, z3⟩ := hxs1 x m
     exact ⟨va, y', z1, z2.kp Kd, z3⟩
    ·exact ⟨a, y, e2, sy1.kp Kd, e1, hR⟩
  have keep : (atKey xs (tru W y.s)).isSome = true → Q .non H1 := fun hs => by
   refine q H1 xs S1.samB ⟨bd1, hxs1⟩ (by omega) fun k hk => ?_
   rcases hk with hk | rfl
   ·exact hk
   ·obtain ⟨p, hp⟩ := Option.isSome_iff_exists.mp hs
    exact List.mem_map.mpr ⟨_, zgO hp, rfl⟩
  refine ⟨d, xs, kt, tru W y.s, rfl, bd1, rfl, h1k, ?_⟩
  cases hat : atKey xs (tru W y.s) with
  | none =>
   refine ⟨true, rfl, iteT (iteT ?_)⟩
   walk_at "rd"
   exact ⟨d, xs, kt, tru W y.s, a, rfl, rfl, bd1, rfl, h1k, by omega, store⟩
  | some p =>
   obtain ⟨ka, va⟩ := p
   obtain ⟨vb, y', z1, ⟨vc, dxb, lb, xb, ub, z2, hvb, _⟩, _⟩ := hxs1 _ (zgO hat)
   cases z2
   have z1 : va = Value.ref vb := z1
   subst z1
   refine ⟨false, rfl, iteF ?_⟩
   walk_at "rd"
   refine ⟨d, xs, kt, tru W y.s, ka, vb, rfl, bd1, rfl, h1k, hat, ?_⟩
   walk_at "rd"
   refine zbO (fun _ => ?_) (fun _ => ?_)
   ·walk_at "rd"
    exact ⟨d, xs, kt, tru W y.s, a, rfl, rfl, bd1, rfl, h1k, by omega, store⟩
   ·walk_at "rd"
    exact keep (by rw [hat]; rfl)
end
section
variable {P : Program} {w : World} {K : PySem.W.Frag} {mg : Str → Option Value} {base : Heap} {f : Addr} {fd : FuncData}
theorem zlx {CT CS : Addr} (D : zb4 K CT "learn" "Tellers.learn" za1 ["self", "saying"] f fd) (B : Blt mg) (m_enumerate : mg "enumerate" = none) (F_Saying : ClsF K CS ["size", "truths", "straight", "turned"]) (F_Tellers : ClsF K CT ["world", "best", "changed", "always"])
  (h_said_turned : Has P w K mg base "said_turned" 3 ["saying"] (zgW CS)) : HasM P w K mg base CT "learn" 4 ["self", "saying"] (zgX CT CS) := by
 have nd := zc7.nd
 refine D.has F_Tellers.cl (D.fn.ok zc7 (fun vs H Q E h => ?_) (fun cdv A outer s H vs Q E hr h => ?_))
 ·obtain ⟨a, dx, wd, b, v, c, al, kvs, W, Ls, m, y, rfl, _⟩ := h
  rfl
 ·obtain ⟨a, dx, wd, b, v, c0, al, k0, W, Ls, m, y, rfl, tl, hv, hk, hW, hf, q⟩ := h
  have hu := ze3 hr
  have hlen := zaO W y.s
  have hbl : (bls (tru W y.s)).length = (tru W y.s).length := List.length_map _
  refine ⟨_, (zad (zay (i := 2) nd rfl (Or.inl rfl) (zaj h_said_turned hr (zaa (pv 1) zac)))
   (zad (zfJ ["room", "truth"] 2 [] (zhB K rfl m_enumerate (zaa (zaw F_Saying (pv 1)) zac)) (fun _ _ _ _ _ => (zcx (n := 2) K rfl (zaU (zan (i := 0) (show List.Nodup (["room", "truth"] : List Str) by decide +kernel) rfl (Or.inl rfl)) (zaU (zan (i := 1) (show List.Nodup (["room", "truth"] : List Str) by decide +kernel) rfl (Or.inl rfl)) zcw)))) (fun _ _ _ _ _ => (zfH (zca (zbv (pv 1))))) (fun _ _ _ _ _ => (pv 0)) (zan (i := 3) nd rfl (Or.inl rfl)))
   (zae (zbS PassesOwn.never rfl (zaD K (zaV ["room", "truth"] 2 [] (zhB K rfl m_enumerate (zaa (zaw F_Saying (pv 1)) zac)) (fun _ _ _ _ _ => (zcx (n := 2) K rfl (zaU (zan (i := 0) (show List.Nodup (["room", "truth"] : List Str) by decide +kernel) rfl (Or.inl rfl)) (zaU (zan (i := 1) (show List.Nodup (["room", "truth"] : List Str) by decide +kernel) rfl (Or.inl rfl)) zcw)))) (fun _ _ _ _ _ => (zfH (zbv (pv 1)))) (fun _ _ _ _ _ => (pv 0)))) (zan (i := 4) nd rfl (Or.inl rfl)) (zae (zbS PassesOwn.never rfl (zaD K (pv 3)) (zan (i := 5) nd rfl (Or.inl rfl)) (zad (zay (i := 6) nd rfl (Or.inl rfl) (zlj hu (zaw F_Tellers (pv 0)) (za2 (zaa (pv 4) (zaa (pv 5) zac))) ⟨rfl, rfl, rfl, rfl⟩))
     (zae (za4 (PW.pt (zda (zej (zpa (pv 6))) (zcJ (zat zib (zaw F_Saying (pv 1)) (zaw F_Saying (pv 6)) (zaF _))))) (zad (zfI hu (zaw F_Tellers (pv 0)) (za2 (zaa (pv 4) (zaa (pv 5) zac))) (pv 1) rfl)
      (zad (zfI hu (zaw F_Tellers (pv 0)) (za2 (zaa (pv 5) (zaa (pv 4) zac))) (pv 2) rfl)
      (zae (zcO F_Tellers (pv 0) zbB)))) zaC))))))))), ?_⟩
  walk_at "rd0"
  walk_at "rd"
  refine ⟨v, W, y, rfl, hv, hf, fun u H1 S1 hu1 => ?_⟩
  have hv1 := hv.mono S1
  obtain ⟨av, dxv, lv, xv, uv, rfl, hav, hlv, _⟩ := id hv1
  walk_at "rd"
  refine ⟨lv, _, rfl, SqL.of hlv, zdu W.length fun D1 hD1 => ⟨fun i zs H2 => Same H1 H2 ∧ H2 D1 = some (.lst zs) ∧ zs = nts (idxs false (tru W y.s) i), ⟨by walk_at "sm", zab, rfl⟩, fun i zs H2 hi ⟨S2, _, _⟩ => ⟨_, _, SqL.of (S2 _ _ hlv), List.getElem?_eq_getElem (by omega)⟩, fun zs H2 ⟨S2, _, _⟩ => ⟨_, SqL.of (S2 _ _ hlv), List.getElem?_eq_none (by omega)⟩, fun i zs H2 x H3 Cy Cn hi ⟨S2, hd, hz⟩ hy hCy hCn => ?_, fun zs H2 ⟨S2, hd2, hz2⟩ => ?_⟩⟩
  ·obtain ⟨p, x', rfl, hp0, rfl, e1⟩ := hy
   have e1 := e1 _ (SqL.of (S2 _ _ hlv))
   have hbi : (tru W y.s)[i]? = some ((tru W y.s).getD i false) := by rw [List.getD_eq_getElem?_getD, List.getElem?_eq_getElem (by omega)]; rfl
   rw [List.getElem?_map, hbi] at e1
   cases e1
   have S3 : Same H2 (upd H2 p (.tup [.int i, .bl ((tru W y.s).getD i false)])) := by walk_at "sm"
   have h3p : (upd H2 p (.tup [.int i, .bl ((tru W y.s).getD i false)])) p = some (.tup [.int i, .bl ((tru W y.s).getD i false)]) := zab
   generalize upd H2 p (.tup [.int i, .bl ((tru W y.s).getD i false)]) = H3 at S3 h3p ⊢
   have hsz : (nts (idxs false (tru W y.s) i)).length < sizeLine := by
    rw [List.length_map, sizeLine_eq]
    have := zhQ false (tru W y.s) i
    omega
   walk_at "rd"
   cases hb : (tru W y.s).getD i false with
   | true =>
    refine iteF (hCn _ ⟨S2.trans S3, S3 _ _ hd, ?_⟩)
    rw [zd4, if_neg (by rw [hb]; exact Bool.noConfusion)]; exact hz
   | false =>
    refine iteT ?_
    walk_at "rd"
    refine hCy _ _ zs (S3 _ _ hd) (by rw [hz]; exact hsz) ⟨(S2.trans S3).set hD1, zab, ?_⟩
    rw [zd4, if_pos hb, zg5, hz]
  ·subst hz2
   have hav2 := S2 _ _ hav
   have hlv2 := S2 _ _ hlv
   walk_at "rd"
   refine ⟨lv, _, rfl, SqL.of hlv2, zdu W.length fun D2 hD2 => ⟨fun i zs H3 => Same H2 H3 ∧ H3 D2 = some (.lst zs) ∧ zs = nts (idxs true (tru W y.s) i), ⟨by walk_at "sm", zab, rfl⟩, fun i zs H3 hi ⟨S3, _, _⟩ => ⟨_, _, SqL.of (S3 _ _ hlv2), List.getElem?_eq_getElem (by omega)⟩, fun zs H3 ⟨S3, _, _⟩ => ⟨_, SqL.of (S3 _ _ hlv2), List.getElem?_eq_none (by omega)⟩, fun i zs H3 x H4 Cy Cn hi ⟨S3, hd, hz⟩ hy hCy hCn => ?_, fun zs H3 ⟨S3, hd3, hz3⟩ => ?_⟩⟩
   ·obtain ⟨p, x', rfl, hp0, rfl, e1⟩ := hy
    have e1 := e1 _ (SqL.of (S3 _ _ hlv2))
    have hbi : (tru W y.s)[i]? = some ((tru W y.s).getD i false) := by rw [List.getD_eq_getElem?_getD, List.getElem?_eq_getElem (by omega)]; rfl
    rw [List.getElem?_map, hbi] at e1
    cases e1
    have S4 : Same H3 (upd H3 p (.tup [.int i, .bl ((tru W y.s).getD i false)])) := by walk_at "sm"
    have h4p : (upd H3 p (.tup [.int i, .bl ((tru W y.s).getD i false)])) p = some (.tup [.int i, .bl ((tru W y.s).getD i false)]) := zab
    generalize upd H3 p (.tup [.int i, .bl ((tru W y.s).getD i false)]) = H4 at S4 h4p ⊢
    have hsz : (nts (idxs true (tru W y.s) i)).length < sizeLine := by
     rw [List.length_map, sizeLine_eq]
     have := zhQ true (tru W y.s) i
     omega
    walk_at "rd"
    cases hb : (tru W y.s).getD i false with
    | false =>
     refine iteF (hCn _ ⟨S3.trans S4, S4 _ _ hd, ?_⟩)
     rw [zd4, if_neg (by rw [hb]; exact Bool.noConfusion)]; exact hz
    | true =>
     refine iteT ?_
     walk_at "rd"
     refine hCy _ _ zs (S4 _ _ hd) (by rw [hz]; exact hsz) ⟨(S3.trans S4).set hD2, zab, ?_⟩
     rw [zd4, if_pos hb, zg5, hz]
   ·subst hz3
    have S03 : Same H H3 := S1.trans (S2.trans S3)
    have hv3 := hv1.mono (S2.trans S3)
    have hu3 := hu1.mono (S2.trans S3)
    have hav3 := S3 _ _ hav2
    have hD13 := S3 _ _ hd2
    have ok3 : zcB CS W H3 k0 Ls m := tl.ok.kp (tb := false) S03.kp
    have ho3 := S03 _ _ tl.obj
    have hb3 := S03 _ _ tl.best
    have nab : a ≠ b := zch ho3 hb3 (by intro z; cases z)
    have keepS : ∀ {Hx : Hp}, SamB [a, b] H3 Hx → Kp true H3 Hx := fun S => S.kp fun z hz o e s => by
     simp only [List.mem_cons, List.not_mem_nil, or_false] at hz
     rcases hz with rfl | rfl
     ·rw [ho3] at e; cases e; exact ziO s
     ·rw [hb3] at e; cases e; exact s
    have hn1 : (nts (idxs true (tru W y.s) W.length)).length = (idxs true (tru W y.s) W.length).length := List.length_map _
    have hn2 : (nts (idxs false (tru W y.s) W.length)).length = (idxs false (tru W y.s) W.length).length := List.length_map _
    walk_at "rd"
    refine zbA (K := K) (a := D2) (xs := nts (idxs true (tru W y.s) W.length)) (fun i σ H4 => ∃ (kvs : List (List Key × V)) (c : Bool) (o4 o5 o6 : Option V), σ = [some (.ref a), some (.ref av), some u, some (.ref D1), o4, o5, o6] ∧ SamB [a, b] H3 H4 ∧ H4 a = some (.ins CT dx (tlF wd b c al)) ∧ H4 b = some (.dT kvs) ∧
      zbX CS W H4 Ls (tru W y.s) m k0 c0 (fun p r => p ∈ (idxs true (tru W y.s) W.length).take i ∧ r ∈ idxs false (tru W y.s) W.length) kvs c)
     ⟨k0, c0, none, none, none, rfl, SamB.refl _ _, ho3, hb3, (zbX.start ok3).imp fun p r z => by simp at z⟩ (fun i σ H4 _ ⟨_, _, _, _, _, _, S4, _⟩ => SqL.of ((keepS S4).lst hd3)) ?_ ?_
    ·rintro i x σ H4 hi ⟨kvs, c, o4, o5, o6, rfl, S4, ho4, hb4, hL⟩
     obtain ⟨one, hone, rfl⟩ := zcy hi
     have hon := zer.mp (List.mem_of_getElem? hone)
     have hD14 := (keepS S4).lst hD13
     walk_at "rd"
     refine zbA (K := K) (a := D1) (xs := nts (idxs false (tru W y.s) W.length)) (fun j σ H5 => ∃ (kvs : List (List Key × V)) (c : Bool) (o5 o6 : Option V), σ = [some (.ref a), some (.ref av), some u, some (.ref D1), some (.int one), o5, o6] ∧ SamB [a, b] H3 H5 ∧ H5 a = some (.ins CT dx (tlF wd b c al)) ∧ H5 b = some (.dT kvs) ∧
       zbX CS W H5 Ls (tru W y.s) m k0 c0 (fun p r => (p ∈ (idxs true (tru W y.s) W.length).take i ∧ r ∈ idxs false (tru W y.s) W.length) ∨ (p = one ∧ r ∈ (idxs false (tru W y.s) W.length).take j)) kvs c)
      ⟨kvs, c, o5, o6, rfl, S4, ho4, hb4, hL.imp fun p r z => z.resolve_right (by simp)⟩ (fun j σ H5 _ ⟨_, _, _, _, _, S5, _⟩ => SqL.of ((keepS S5).lst hD13)) ?_ ?_
     ·rintro j x σ H5 hj ⟨kvs, c, o5, o6, rfl, S5, ho5, hb5, hL⟩
      obtain ⟨oth, hoth, rfl⟩ := zcy hj
      have hot := zer.mp (List.mem_of_getElem? hoth)
      have hgl := hL.grid.few
      have hg81 : W.length * W.length ≤ 9 * 9 := Nat.mul_le_mul hf hf
      have nextP : ∀ {kvs' : List (List Key × V)} {c' : Bool} {Hx : Hp}, zbX CS W Hx Ls (tru W y.s) m k0 c0 (fun p r => ((p ∈ (idxs true (tru W y.s) W.length).take i ∧ r ∈ idxs false (tru W y.s) W.length) ∨ (p = one ∧ r ∈ (idxs false (tru W y.s) W.length).take j)) ∨ (p = one ∧ r = oth)) kvs' c' →
        zbX CS W Hx Ls (tru W y.s) m k0 c0 (fun p r => (p ∈ (idxs true (tru W y.s) W.length).take i ∧ r ∈ idxs false (tru W y.s) W.length) ∨ (p = one ∧ r ∈ (idxs false (tru W y.s) W.length).take (j + 1))) kvs' c' := fun h => h.imp fun p r z => by
       rcases z with z | ⟨rfl, z⟩
       ·exact .inl (.inl z)
       ·rw [List.take_add_one, hoth] at z
        rcases List.mem_append.mp z with z | z
        ·exact .inl (.inr ⟨rfl, z⟩)
        ·exact .inr ⟨rfl, by simpa using z⟩
      walk_at "rd"
      refine ⟨b, rfl, .inr ⟨kvs, .inl hb5⟩, ?_⟩
      walk_at "rd"
      refine ⟨(by show 2 ≤ sizeLine; decide), fun p hp => ?_⟩
      have S6 : Same H5 (upd H5 p (.tup [.int one, .int oth])) := by walk_at "sm"
      have h6p : (upd H5 p (.tup [.int one, .int oth])) p = some (.tup ((k2 one oth).map kV)) := zab
      generalize upd H5 p (.tup [.int one, .int oth]) = H6 at S6 h6p ⊢
      have hb6 := S6 _ _ hb5
      have ho6 := S6 _ _ ho5
      have S36 : SamB [a, b] H3 H6 := S5.trans S6.samB
      have L6 := hL.kp (tb := false) S6.kp
      refine ⟨_, DGet.t hb6 h6p, ?_⟩
      walk_at "rd"
      have hav6 : H6 av = some (.ins CS dxv (syF (↑y.k) lv xv uv)) := keepS S36 _ _ rfl hav3
      have hvT : zdO CS W H6 (tru W y.s :: Ls) m (.ref av) one oth := ⟨y, (hv3.kp (keepS S36)), hon.2, hot.2, hk, .inl List.mem_cons_self⟩
      have huT : zdO CS W H6 (tru W y.s :: Ls) m u oth one := ⟨y.turn, (hu3.kp (keepS S36)), by
       show (tru W y.t).getD oth false = true
       rw [hv.ok.1, zcN (by omega), hot.2]; rfl, by
       show (tru W y.t).getD one false = false
       rw [hv.ok.1, zcN (by omega), hon.2]; rfl, hk, .inr List.mem_cons_self⟩
      by_cases hval : valV kvs (k2 one oth) = none
      ·rw [hval]
       refine iteT (iteT ?_)
       walk_at "rd"
       refine ⟨(by show 2 ≤ sizeLine; decide), fun p1 hp1 => ?_⟩
       have S7 : Same H6 (upd H6 p1 (.tup [.int one, .int oth])) := by walk_at "sm"
       have h7p : (upd H6 p1 (.tup [.int one, .int oth])) p1 = some (.tup ((k2 one oth).map kV)) := zab
       generalize upd H6 p1 (.tup [.int one, .int oth]) = H7 at S7 h7p ⊢
       have ho7 := S7 _ _ ho6
       refine ⟨b, _, rfl, DPut.t (S7 _ _ hb6) h7p (by rw [sizeLine_eq]; omega), ?_⟩
       have S8 : SamB [a, b] H6 (upd H7 b (.dT (putK kvs (k2 one oth) (.ref av)))) := S7.samB.put (by simp)
       have hb8 : (upd H7 b (.dT (putK kvs (k2 one oth) (.ref av)))) b = some (.dT (putK kvs (k2 one oth) (.ref av))) := zab
       have ho8 : (upd H7 b (.dT (putK kvs (k2 one oth) (.ref av)))) a = _ := (zai nab).trans ho7
       generalize upd H7 b (.dT (putK kvs (k2 one oth) (.ref av))) = H8 at S8 hb8 ho8 ⊢
       have hg8 := (hL.grid.put (v := .ref av) hon.1 hot.1).few
       walk_at "rd"
       refine ⟨(by show 2 ≤ sizeLine; decide), fun p2 hp2 => ?_⟩
       have S9 : Same H8 (upd H8 p2 (.tup [.int oth, .int one])) := by walk_at "sm"
       have h9p : (upd H8 p2 (.tup [.int oth, .int one])) p2 = some (.tup ((k2 oth one).map kV)) := zab
       generalize upd H8 p2 (.tup [.int oth, .int one]) = H9 at S9 h9p ⊢
       refine ⟨b, _, rfl, DPut.t (S9 _ _ hb8) h9p (by rw [sizeLine_eq]; omega), ?_⟩
       have S10 : SamB [a, b] H6 (upd H9 b (.dT (putK (putK kvs (k2 one oth) (.ref av)) (k2 oth one) u))) := (S8.trans S9.samB).put (by simp)
       have hb10 : (upd H9 b (.dT (putK (putK kvs (k2 one oth) (.ref av)) (k2 oth one) u))) b = some (.dT (putK (putK kvs (k2 one oth) (.ref av)) (k2 oth one) u)) := zab
       have ho10 : (upd H9 b (.dT (putK (putK kvs (k2 one oth) (.ref av)) (k2 oth one) u))) a = _ := (zai nab).trans (S9 _ _ ho8)
       generalize upd H9 b (.dT (putK (putK kvs (k2 one oth) (.ref av)) (k2 oth one) u)) = H10 at S10 hb10 ho10 ⊢
       walk_at "rd"
       refine zbY ho10 (by rw [zgV]; have := tl.few; omega) ?_
       rw [zgU]
       have S11 := S10.put (o := HO.ins CT dx (tlF wd b true al)) (b := a) (by simp)
       refine ⟨_, true, _, _, rfl, S36.trans S11, zab, (zai (Ne.symm nab)).trans hb10, nextP ?_⟩
       exact (L6.put hon.1 hot.1 hvT huT).kp (zev ho6 hb6 S11)
      ·obtain ⟨kn, hkn⟩ := Option.ne_none_iff_exists'.mp hval
       obtain ⟨y', hy', _⟩ := L6.val _ _ _ hkn
       obtain ⟨akn, dxk, lk, xk, uk, rfl, hak, _⟩ := id hy'
       rw [hkn]
       refine iteF ?_
       rw [Option.getD_some]
       walk_at "rd"
       refine zbO (fun _ => ?_) (fun _ => ?_)
       ·walk_at "rd"
        refine ⟨(by show 2 ≤ sizeLine; decide), fun p1 hp1 => ?_⟩
        have S7 : Same H6 (upd H6 p1 (.tup [.int one, .int oth])) := by walk_at "sm"
        have h7p : (upd H6 p1 (.tup [.int one, .int oth])) p1 = some (.tup ((k2 one oth).map kV)) := zab
        generalize upd H6 p1 (.tup [.int one, .int oth]) = H7 at S7 h7p ⊢
        have ho7 := S7 _ _ ho6
        refine ⟨b, _, rfl, DPut.t (S7 _ _ hb6) h7p (by rw [sizeLine_eq]; omega), ?_⟩
        have S8 : SamB [a, b] H6 (upd H7 b (.dT (putK kvs (k2 one oth) (.ref av)))) := S7.samB.put (by simp)
        have hb8 : (upd H7 b (.dT (putK kvs (k2 one oth) (.ref av)))) b = some (.dT (putK kvs (k2 one oth) (.ref av))) := zab
        have ho8 : (upd H7 b (.dT (putK kvs (k2 one oth) (.ref av)))) a = _ := (zai nab).trans ho7
        generalize upd H7 b (.dT (putK kvs (k2 one oth) (.ref av))) = H8 at S8 hb8 ho8 ⊢
        have hg8 := (hL.grid.put (v := .ref av) hon.1 hot.1).few
        walk_at "rd"
        refine ⟨(by show 2 ≤ sizeLine; decide), fun p2 hp2 => ?_⟩
        have S9 : Same H8 (upd H8 p2 (.tup [.int oth, .int one])) := by walk_at "sm"
        have h9p : (upd H8 p2 (.tup [.int oth, .int one])) p2 = some (.tup ((k2 oth one).map kV)) := zab
        generalize upd H8 p2 (.tup [.int oth, .int one]) = H9 at S9 h9p ⊢
        refine ⟨b, _, rfl, DPut.t (S9 _ _ hb8) h9p (by rw [sizeLine_eq]; omega), ?_⟩
        have S10 : SamB [a, b] H6 (upd H9 b (.dT (putK (putK kvs (k2 one oth) (.ref av)) (k2 oth one) u))) := (S8.trans S9.samB).put (by simp)
        have hb10 : (upd H9 b (.dT (putK (putK kvs (k2 one oth) (.ref av)) (k2 oth one) u))) b = some (.dT (putK (putK kvs (k2 one oth) (.ref av)) (k2 oth one) u)) := zab
        have ho10 : (upd H9 b (.dT (putK (putK kvs (k2 one oth) (.ref av)) (k2 oth one) u))) a = _ := (zai nab).trans (S9 _ _ ho8)
        generalize upd H9 b (.dT (putK (putK kvs (k2 one oth) (.ref av)) (k2 oth one) u)) = H10 at S10 hb10 ho10 ⊢
        walk_at "rd"
        refine zbY ho10 (by rw [zgV]; have := tl.few; omega) ?_
        rw [zgU]
        have S11 := S10.put (o := HO.ins CT dx (tlF wd b true al)) (b := a) (by simp)
        refine ⟨_, true, _, _, rfl, S36.trans S11, zab, (zai (Ne.symm nab)).trans hb10, nextP ?_⟩
        exact (L6.put hon.1 hot.1 hvT huT).kp (zev ho6 hb6 S11)
       ·walk_at "rd"
        exact ⟨kvs, c, _, _, rfl, S36, ho6, hb6, nextP (L6.known hval (L6.symm _ _ hon.1 hot.1 hval))⟩
     ·rintro σ H5 ⟨kvs, c, o5, o6, rfl, S5, ho5, hb5, hL⟩
      walk_at "rd"
      refine ⟨kvs, c, _, _, _, rfl, S5, ho5, hb5, hL.imp fun p r z => ?_⟩
      rw [List.take_add_one, hone] at z
      rcases List.mem_append.mp z.1 with z1 | z1
      ·exact .inl ⟨z1, z.2⟩
      ·refine .inr ⟨by simpa using z1, ?_⟩
       rw [hn2, List.take_length]; exact z.2
    ·rintro σ H4 ⟨kvs, c, o4, o5, o6, rfl, S4, ho4, hb4, hL⟩
     walk_at "rd"
     have hok := hL.end (ok3.kp (keepS S4)) fun i j hi hj h1 h2 => by
      rw [hn1, List.take_length]
      exact ⟨zer.mpr ⟨hi, h1⟩, zer.mpr ⟨hj, h2⟩⟩
     exact q _ c kvs (S03.samB.trans S4) ⟨ho4, hb4, hok, tl.few⟩ hL.chg fun hc i j hi hj e => (hok.2.1 i j hi hj).mp (hL.same hc i j ((tl.ok.2.1 i j hi hj).mpr e))
end
section
variable {P : Program} {w : World} {K : PySem.W.Frag} {mg : Str → Option Value} {base : Heap} {f : Addr} {fd : FuncData}
def znO : List Stmt → Option (Arguments × Expr × Scope × Pos)
 | _ :: _ :: .While _ (.Assign _ (.Call _ _ (⟨_, .Lambda p b s q, _⟩ :: _) _) _ :: _) _ _ :: _ => some (p, b, s, q)
 | _ => none
def lamG : Arguments × Expr × Scope × Pos := (znO (zar zao)).getD (zp6 zao)
theorem zgs : zgQ ["saying"] lamG.2.2.1 := ⟨rfl, rfl, rfl, by decide +kernel, by decide +kernel, by decide +kernel, by decide +kernel⟩
abbrev zb2 : Pos := lamG.2.2.2
theorem zie {CT CS cc T : Addr} (D : zb4 K CT "sayings_against" "Tellers.sayings_against" zao ["self", "room", "others"] f fd) (hcd : fd.code = .ref cc) (hCT : PySem.W.CodeHd base cc T) (BM : zgR mg base) (B : Blt mg) (F_Saying : ClsF K CS ["size", "truths", "straight", "turned"]) (F_Tellers : ClsF K CT ["world", "best", "changed", "always"]) :
  HasM P w K mg base CT "sayings_against" 3 ["self", "room", "others"] (zge CT CS T zb2) := by
 have nd := zbR.nd
 refine D.has F_Tellers.cl (D.fn.okC zbR hcd (fun vs H Q E h => ?_) (fun A outer s H vs Q E hr h => ?_))
 ·obtain ⟨a, dx, wd, b, c, al, kvs, W, Ls, m, room, l, ds, rfl, _⟩ := h
  rfl
 ·obtain ⟨a, dx, wd, b, c, al, kvs, W, Ls, m, room, l, ds, rfl, tl, hl, hroom, hds, hne, hd1000, hf, tab, q⟩ := h
  have hu := ze3 hr
  let LQ := agQ
  have hgl := tl.ok.1.few
  refine ⟨_, (zad (zay (i := 3) nd rfl (Or.inl rfl) (zbe zac))
   (zad (zay (i := 4) nd rfl (Or.inl rfl) (pv 2))
   (zad (zcK PassesOwn.never (zat zgm (zak (zax K) rfl B.len PySem.boot_len (zaa (pv 4) zac)) zah (zaF _)) (zad (zay (i := 5) nd rfl (by first | exact Or.inl rfl | exact Or.inr (Or.inl rfl) | exact Or.inr rfl) (zjN hr B.max (zaa (zaV ["other", "self", "room"] 1 [0, 1] (zaD K (pv 4)) (fun _ _ _ _ _ => (zan (i := 0) (show List.Nodup (["other", "self", "room"] : List Str) by decide +kernel) rfl (Or.inl rfl))) (fun _ _ _ _ _ => zbq) (fun _ _ _ _ _ => (zg1 hu (zaw F_Tellers (pv 1)) (za2 (zaa (pv 2) (zaa (pv 0) zac))) (fun _ _ => rfl)))) zac) (zo8 (qual := LQ) (cl := []) rfl rfl rfl rfl hCT BM)))
    (zad (zbc (zcb K PySem.F.plainAttrs_list PySem.F.slot_list_append PySem.F.type_list_append zbC (pv 3) (zaa (pv 5) zac)))
    (zae (zfJ ["other", "hardest"] 1 [5] (zaD K (pv 4)) (fun _ _ _ _ _ => (zan (i := 0) (show List.Nodup (["other", "hardest"] : List Str) by decide +kernel) rfl (Or.inl rfl))) (fun _ _ _ _ _ => (zfH (zbv (zaJ (zaK K) (zaw F_Saying (pv 1)) (pv 0) (fun _ _ => rfl))))) (fun _ _ _ _ _ => (pv 0)) (zan (i := 4) nd rfl (Or.inl rfl)))))))
   (zae (zaq (pv 3)))))), ?_⟩
  walk_at "rd0"
  walk_at "rd"
  refine ⟨Nat.zero_le _, fun lc hlc => ?_⟩
  walk_at "rd"
  obtain ⟨pt, hT⟩ := tab.tbl
  have tab0 := tab.mono (Same.new (Same.refl H) hlc (o := .lst []))
  refine ⟨fun n σ H1 => ∃ (l1 : Addr) (left ws : List Nat) (xs : List V) (ys : List Sy) (o5 : Option V), σ = [some (.ref a), some (.int room), some (.ref l), some (.ref lc), some (.ref l1), o5] ∧ SamT T H H1 ∧ zbP T agQ zb2 H1 ∧ H1 lc = some (.lst xs) ∧ l1 ≠ lc ∧ H1 l1 = some (.lst (nts left)) ∧ Paired (SyAt CS W H1) xs ys ∧ zcQ W Ls m room ds ys left ws ∧ left.length + ys.length ≤ 1000 ∧ n = left.length,
   ⟨_, l, ds, [], [], [], none, rfl, (Same.new (Same.refl H) hlc).samT, tab0, zab, zag hl hlc, za6 hlc hl, .nil, zcQ.start _ _ _ _ _, by simpa using hd1000, rfl⟩, ?_⟩
  rintro n σ H1 ⟨l1, left, ws, xs, ys, o5, rfl, S1, tab1, hlc1, nl1, hl1, hp1, ag, hz, rfl⟩
  have hnl : (nts left).length = left.length := List.length_map _
  have lxy := Paired.length hp1
  have hal : ys.length ≤ 1000 := by omega
  have tl1 := S1.tl hT tl
  have hda : ∀ d ∈ ds, d < W.length := fun d z => (hds d z).1
  walk_at "rd"
  refine zbO (fun hgt => ?_) (fun hgt => ?_)
  ·refine ⟨fun σ' H' => ∃ n', n' < left.length ∧ ∃ (l1 : Addr) (left ws : List Nat) (xs : List V) (ys : List Sy) (o5 : Option V), σ' = [some (.ref a), some (.int room), some (.ref l), some (.ref lc), some (.ref l1), o5] ∧ SamT T H H' ∧ zbP T agQ zb2 H' ∧ H' lc = some (.lst xs) ∧ l1 ≠ lc ∧ H' l1 = some (.lst (nts left)) ∧ Paired (SyAt CS W H') xs ys ∧ zcQ W Ls m room ds ys left ws ∧ left.length + ys.length ≤ 1000 ∧ n' = left.length, fun _ _ h => h, ?_⟩
   walk_at "rd"
   have hW : 0 < W.length := by omega
   refine zbf (SqL.of hl1) (by omega) fun D hD => ⟨fun i y _ => ∃ d, left[i]? = some d ∧ valV kvs (k2 room d) = some y, fun _ _ _ _ h _ _ => h, fun i v H2 ys C hx S2 hd hC => ?_, fun zs H2 S2 hD2 hlz hR => ?_⟩
   ·obtain ⟨d, hd', rfl⟩ := zcy hx
    obtain ⟨x, hxv⟩ := Option.ne_none_iff_exists'.mp (hds d (ag.sub d (List.mem_of_getElem? hd'))).2
    have ho2 := S2 _ _ tl1.obj
    walk_at "rd"
    refine ⟨(by show 2 ≤ sizeLine; decide), fun p hp => ?_⟩
    refine ⟨b, x, rfl, hxv ▸ DGet.t (k := k2 room d) (za6 hp (S2 _ _ tl1.best)) zab, ?_⟩
    exact hC x _ (Same.new (Same.refl _) hp) ⟨d, hd', hxv⟩
   ·have hzl : zs.length = left.length := by omega
    have tl2 := S2.tl tl1
    walk_at "rd"
    refine ⟨tab1.mono S2, fun lf fdl H3 S3 tab3 hlf hclo => ?_⟩
    obtain ⟨pm, ctv, c1, oc, efd, h1, h2, hco⟩ := hclo
    subst efd
    obtain ⟨pt2, hT2⟩ := (tab1.mono S2).tbl
    have tl3 := S3.tl hT2 tl2
    have K3 := S3.kp hT2
    have told : ∀ i x, zs[i]? = some x → ∃ d, left[i]? = some d ∧ zdO CS W H3 Ls m x room d := fun i x hx => by
     obtain ⟨d, e1, e2⟩ := hR i x hx
     exact ⟨d, e1, tl3.ok.2.2 _ _ _ e2⟩
    refine ⟨D, zs, lf, _, ["saying"], _, 1, fun i => zjh H3 zs[i]?, rfl, rfl, SqL.of (K3.lst hD2), fun z => ?_, Nat.le_refl _, zob (k := 0) zgs hco, zdo.all fun us hl => match us, hl with | [_], _ => rfl, fun i x hx => ⟨rfl, h1, h2, fun A outer s hr => ⟨_, zaw F_Saying (pv 0), ?_⟩⟩, fun i x hx hmx => ?_⟩
    ·rw [z] at hzl; simp at hzl; omega
    ·obtain ⟨d, _, y, hy, _⟩ := told i x hx
     obtain ⟨ay, dxy, ly, xy, uy, rfl, hay, _⟩ := hy
     walk_at "rd"
     refine ⟨?_, rfl⟩
     show _ = V.int (zjh H3 zs[i]?)
     rw [hx, zjg hay]
    ·obtain ⟨d, hd, y, hy, t1, t2, t3, t4⟩ := told i x hx
     have K13 : Kp false H1 H3 := (Same.kp S2).trans K3
     have hlc3 := K13.lst hlc1
     have hl13 := K13.lst hl1
     have hp3 : Paired (SyAt CS W H3) xs ys := Paired.mapP hp1 fun _ _ z => z.kp K13
     have hrx := zgY hp3
     walk_at "rd"
     refine zbN hlc3 (by rw [sizeLine_eq]; omega) ?_
     have hy4 := zdp (o := .lst (xs ++ [x])) hy hlc3 hrx hW
     have hp4 : Paired (SyAt CS W (upd H3 lc (.lst (xs ++ [x])))) (xs ++ [x]) (ys ++ [y]) := Paired.snoc (Paired.mapP hp3 fun _ _ z => zdp z hlc3 hrx hW) hy4
     have hl14 : (upd H3 lc (.lst (xs ++ [x]))) l1 = some (.lst (nts left)) := (zai nl1).trans hl13
     have hlc4 : (upd H3 lc (.lst (xs ++ [x]))) lc = some (.lst (xs ++ [x])) := zab
     have S4 : SamT T H (upd H3 lc (.lst (xs ++ [x]))) := fun b o n e => by
      rw [zai (zag e hlc)]
      exact S3 _ _ n (S2 _ _ (S1 _ _ n e))
     have tab4 : zbP T agQ zb2 (upd H3 lc (.lst (xs ++ [x]))) := by
      obtain ⟨ps, e, z⟩ := tab3
      refine ⟨ps, (zai (zch e hlc3 (by intro z; cases z))).trans e, ?_⟩
      rcases z with z | ⟨c, oc, z, h1, h2⟩
      ·exact .inl z
      ·exact .inr ⟨c, oc, z, (zai (zch h1 hlc3 (by intro z; cases z))).trans h1, h2⟩
     generalize upd H3 lc (.lst (xs ++ [x])) = H4 at hy4 hp4 hl14 hlc4 S4 tab4 ⊢
     obtain ⟨ay, dxy, ly, xy, uy, rfl, hay, hly, _⟩ := id hy4
     walk_at "rd"
     refine zdu left.length fun D2 hD2 => ⟨fun i zs H5 => Same H4 H5 ∧ H5 D2 = some (.lst zs) ∧ zs = nts ((left.take i).filter fun d => tv W y.s d), ⟨by walk_at "sm", zab, rfl⟩, fun i zs H5 hi ⟨S5, _, _⟩ => ⟨_, _, SqL.of (S5 _ _ hl14), List.getElem?_eq_getElem (by omega)⟩, fun zs H5 ⟨S5, _, _⟩ => ⟨_, SqL.of (S5 _ _ hl14), by omega⟩, fun i zs H5 v H6 Cy Cn hi ⟨S5, hd5, hz5⟩ hyl hCy hCn => ?_, fun zs H5 ⟨S5, hd5, hz5⟩ => ?_⟩
     ·obtain ⟨rfl, e1⟩ := hyl
      have e1 := e1 _ (SqL.of (S5 _ _ hl14))
      obtain ⟨o, ho, rfl⟩ := zcy e1
      have hol : o < W.length := hda o (ag.sub o (List.mem_of_getElem? ho))
      have hay5 := S5 _ _ hay
      have hly5 := S5 _ _ hly
      walk_at "rd"
      refine zbt (SqL.of hly5) (zdm (by rw [zaO]; exact hol)) ?_
      have hfl := List.length_filter_le (fun d => tv W y.s d) (left.take i)
      rw [List.length_take] at hfl
      cases hb : (tru W y.s).getD o false with
      | false =>
       refine ⟨false, rfl, iteF (hCn _ ⟨S5, hd5, ?_⟩)⟩
       rw [zc1 _ ho, if_neg (by rw [show tv W y.s o = false from hb]; exact Bool.noConfusion)]; exact hz5
      | true =>
       refine ⟨true, rfl, iteT ?_⟩
       walk_at "rd"
       refine hCy _ _ zs hd5 (by rw [hz5, List.length_map, sizeLine_eq]; omega) ⟨S5.set hD2, zab, ?_⟩
       rw [zc1 _ ho, if_pos (show tv W y.s o = true from hb), zg5, hz5]
     ·subst hz5
      rw [List.take_length] at hd5
      walk_at "rd"
      have hlt : (left.filter fun d => tv W y.s d).length < left.length := List.length_filter_lt_length_iff_exists.mpr ⟨d, List.mem_of_getElem? hd, by rw [t2]; exact Bool.noConfusion⟩
      exact ⟨_, hlt, D2, _, ws ++ [d], _, ys ++ [y], _, rfl, S4.trans S5.samT, tab4.mono S5, S5 _ _ hlc4, Ne.symm (zag hlc4 hD2), hd5, Paired.mapP hp4 fun _ _ z => z.mono S5, ag.step hroom hda (List.mem_of_getElem? hd) hy4.ok.1 t1 t2 t3 t4, by simp; omega, rfl⟩
  ·walk_at "rd"
   have h0 : left = [] := List.length_eq_zero_iff.mp (by omega)
   subst h0
   obtain ⟨e1, e2, e3, e4⟩ := ag.end hroom hne
   exact q lc xs ys H1 S1 tab1 hlc1 hp1 e1 e2 e3 e4
end
section
variable {P : Program} {w : World} {K : PySem.W.Frag} {mg : Str → Option Value} {base : Heap} {f : Addr} {fd : FuncData}
theorem zlD {CT CS T : Addr} (D : zb4 K CT "said_against_all" "Tellers.said_against_all" zas ["self", "room", "others"] f fd) (B : Blt mg) (F_Tellers : ClsF K CT ["world", "best", "changed", "always"])
  (h_said_together : Has P w K mg base "said_together" 4 ["sayings"] (ze6 CS)) (h_Tellers_sayings_against : HasM P w K mg base CT "sayings_against" 3 ["self", "room", "others"] (zge CT CS T zb2)) : HasM P w K mg base CT "said_against_all" 5 ["self", "room", "others"] (zjb CT CS T zb2) := by
 have nd := zbH.nd
 refine D.has F_Tellers.cl (D.fn.ok zbH (fun vs H Q E h => ?_) (fun cdv A outer s H vs Q E hr h => ?_))
 ·obtain ⟨a, dx, wd, b, c, va, kvs, W, Ls, m, room, l, ds, rfl, _⟩ := h
  rfl
 ·obtain ⟨a, dx, wd, b, c, va, kvs, W, Ls, m, room, l, ds, rfl, ta, hl, hroom, hds, hd9, qn, q⟩ := h
  have hu := ze3 hr
  have ho := ta.tl.obj
  have hnl : (nts ds).length = ds.length := List.length_map _
  refine ⟨_, (zad (za4 (zat zdL (zak (zax K) rfl B.len PySem.boot_len (zaa (pv 2) zac)) zah (zaF _)) (zae (zaq (zaw F_Tellers (pv 0)))) zaC)
   (zad (zbS PassesOwn.never rfl (zaD K (pv 2)) (zan (i := 3) nd rfl (Or.inl rfl)) (zae (za4 (zej (zdi hu (za2 (zaa (pv 1) (zaa (pv 3) zac))) (zaw F_Tellers (pv 0)))) (zae (zaq zo7)) zaC)))
   (zae (zaq (zaj h_said_together hr (zaa (zcL h_Tellers_sayings_against hr (pv 0) (zaa (pv 1) (zaa (pv 2) zac))) zac)))))), ?_⟩
  walk_at "rd0"
  walk_at "rd"
  refine zbO (fun hz => ?_) (fun hz => ?_)
  ·have hz : ((nts ds).length : Int) = 0 := V.int.inj hz
   have h0 : ds = [] := List.length_eq_zero_iff.mp (by omega)
   subst h0
   walk_at "rd"
   obtain ⟨y, hy, hk, ht⟩ := ta.alw
   exact q va y H (SamT.refl _ _) ta.tab (fun d z => by simp at z) ⟨hy, ht _ hroom, fun d z => by simp at z, by rw [hk]; exact Nat.le_max_left _ _⟩
  ·have hne : ds ≠ [] := fun z => hz (by rw [z]; rfl)
   walk_at "rd"
   refine zbA (K := K) (a := l) (xs := nts ds) (fun i σ H1 => ∃ o3 : Option V, σ = [some (.ref a), some (.int room), some (.ref l), o3] ∧ Same H H1 ∧ ∀ d ∈ ds.take i, valV kvs (k2 room d) ≠ none)
    ⟨none, rfl, Same.refl _, fun d z => by simp at z⟩ (fun i σ H1 _ ⟨_, _, S1, _⟩ => SqL.of (S1 _ _ hl)) ?_ ?_
   ·rintro i x σ H1 hi ⟨o3, rfl, S1, hk⟩
    obtain ⟨d, hd, rfl⟩ := zcy hi
    have ho1 := S1 _ _ ho
    walk_at "rd"
    refine ⟨(by show 2 ≤ sizeLine; decide), fun p hp => ?_⟩
    have S2 : Same H (upd H1 p (.tup [.int room, .int d])) := S1.trans (Same.new (Same.refl _) hp)
    have h2p : (upd H1 p (.tup [.int room, .int d])) p = some (.tup ((k2 room d).map kV)) := zab
    generalize upd H1 p (.tup [.int room, .int d]) = H2 at S2 h2p ⊢
    have ho2 := S2 _ _ ho
    walk_at "rd"
    refine ⟨b, _, rfl, DGet.t (k := k2 room d) (S2 _ _ ta.tl.best) h2p, ?_⟩
    cases hv : valV kvs (k2 room d) with
    | none =>
     refine ⟨true, rfl, iteT ?_⟩
     walk_at "rd"
     exact qn _ S2.samT (ta.tab.mono S2) ⟨d, List.mem_of_getElem? hd, hv⟩
    | some v =>
     refine ⟨false, rfl, iteF ?_⟩
     walk_at "rd"
     refine ⟨_, rfl, S2, fun e z => ?_⟩
     rw [List.take_add_one, hd] at z
     rcases List.mem_append.mp z with z | z
     ·exact hk e z
     ·have : e = d := by simpa using z
      rw [this, hv]; exact Option.some_ne_none _
   ·rintro σ H1 ⟨o3, rfl, S1, hk⟩
    rw [hnl, List.take_length] at hk
    have ho1 := S1 _ _ ho
    walk_at "rd"
    refine ⟨a, dx, wd, b, c, _, kvs, W, Ls, m, room, l, ds, rfl, S1.tl ta.tl, S1 _ _ hl, hroom, fun d z => ⟨hds d z, hk d z⟩, hne, by omega, ta.wd.few, ta.tab.mono S1, fun l' xs ys H2 S2 tab2 hl' hp e1 e2 e3 e4 => ?_⟩
    walk_at "rd"
    have hcl : clsL W.length Ls ≤ W.length := zgG W.length (zbT Ls)
    have hw9 := ta.wd.few
    refine ⟨l', xs, ys, W, rfl, hl', hp, e1, by omega, ta.wd.pos, ta.wd.few, fun v y H3 S3 hy ht hk3 => ?_⟩
    refine q v y H3 (S1.samT.trans (S2.trans S3.samT)) (tab2.mono S3) hk ⟨hy, ?_, fun d z => ?_, ?_⟩
    ·rw [ht _ hroom]
     exact List.all_eq_true.mpr fun z hz => (e3 z hz).1
    ·rw [ht _ (hds d z)]
     obtain ⟨y', m1, m2⟩ := e4 d z
     exact List.all_eq_false.mpr ⟨y', m1, by rw [m2]; exact Bool.noConfusion⟩
    ·rw [hk3]
     have h1 := ziN (m := m) fun z hz => (e3 z hz).2
     have h2 : ys.length * (m + 1) ≤ (clsL W.length Ls - 1) * (m + 1) := Nat.mul_le_mul_right _ (by omega)
     exact Nat.le_trans h1 (Nat.le_trans h2 (Nat.le_max_right _ _))
end
section
variable {P : Program} {w : World} {K : PySem.W.Frag} {mg : Str → Option Value} {base : Heap} {f : Addr} {fd : FuncData}
theorem zls {CT CS T : Addr} {pos : Pos} (D : zb4 K CT "rooms_to_try" "Tellers.rooms_to_try" zaA ["self", "room", "anew"] f fd) (B : Blt mg) (F_Tellers : ClsF K CT ["world", "best", "changed", "always"]) : HasM P w K mg base CT "rooms_to_try" 1 ["self", "room", "anew"] (zi0 CT CS T pos) := by
 have nd := zb7.nd
 refine D.has F_Tellers.cl (D.fn.ok zb7 (fun vs H Q E h => ?_) (fun cdv A outer s H vs Q E hr h => ?_))
 ·obtain ⟨a, dx, wd, b, c, va, kvs, W, Ls, m, room, rfl, _⟩ := h
  rfl
 ·obtain ⟨a, dx, wd, b, c, va, kvs, W, Ls, m, room, rfl, ta, hroom, q⟩ := h
  have hu := ze3 hr
  have ho := ta.tl.obj
  obtain ⟨rs, hrs, hp⟩ := id ta.wd.at_
  have lrs := Paired.length hp
  have hf := ta.wd.few
  refine ⟨_, (zad (zay (i := 3) nd rfl (Or.inl rfl) zhD)
   (zad (zbS PassesOwn.never rfl (zcg rfl B.range (zaa (zak (zax K) rfl B.len PySem.boot_len (zaa (zaw F_Tellers (pv 0)) zac)) zac)) (zan (i := 4) nd rfl (Or.inl rfl)) (zae (za4 (PW.pt (zda (zbv (pv 2)) (zcJ (zej (zdi hu (za2 (zaa (pv 4) (zaa (pv 1) zac))) (zaw F_Tellers (pv 0))))))) (zae (zbS PassesOwn.never rfl (zaD K (zaJ (zaz K) (zaJ (zaK K) (zaw F_Tellers (pv 0)) (pv 4) (fun _ _ => rfl)) zah (fun _ _ => rfl))) (zan (i := 5) nd rfl (Or.inl rfl)) (zae (zfI hu (pv 3) (pv 5) zbB rfl)))) zaC)))
   (zae (zaq (zbW (zft) rfl B.list_ PySem.Pv.boot_list (zaa (pv 3) zac)))))), ?_⟩
  walk_at "rd0"
  walk_at "rd"
  refine fun d hd => ?_
  have S0 : Same H (upd H d (.dK [])) := by walk_at "sm"
  have hd0 : (upd H d (.dK [])) d = some (.dK []) := zab
  generalize upd H d (.dK []) = H0 at S0 hd0 ⊢
  have ho0 := S0 _ _ ho
  have hrs0 := S0 _ _ hrs
  walk_at "rd"
  rw [lrs]
  refine zd5 (by omega) (fun i σ H1 => ∃ (kv : List (Key × V)) (es : List Nat) (o4 o5 : Option V), σ = [some (.ref a), some (.int room), some (.bl false), some (.ref d), o4, o5] ∧ Same H H1 ∧ H1 d = some (.dK kv) ∧ ziy kv es ∧ es.Nodup ∧ (∀ e, e ∈ es ↔ ∃ one, one < i ∧ valV kvs (k2 one room) = none ∧ e ∈ dAt W one))
   ⟨[], [], none, none, rfl, S0, hd0, rfl, List.nodup_nil, fun e => by simp⟩ ?_ ?_
  ·rintro i σ H1 hi ⟨kv, es, o4, o5, rfl, S1, hd1, hkn, hnd, hes⟩
   obtain ⟨r, hr'⟩ : ∃ r, W[i]? = some r := ⟨_, List.getElem?_eq_getElem hi⟩
   obtain ⟨x, hx, ⟨ax, l, dd, rfl, h1, h2, h3⟩⟩ := Paired.get2 hp hr'
   have ho1 := S1 _ _ ho
   walk_at "rd"
   refine iteF ?_
   walk_at "rd"
   refine ⟨(by show 2 ≤ sizeLine; decide), fun p hp' => ?_⟩
   have S2 : Same H1 (upd H1 p (.tup [.int i, .int room])) := Same.new (Same.refl _) hp'
   have h2p : (upd H1 p (.tup [.int i, .int room])) p = some (.tup ((k2 i room).map kV)) := zab
   generalize upd H1 p (.tup [.int i, .int room]) = H2 at S2 h2p ⊢
   have ho2 := S2 _ _ ho1
   have S02 := S1.trans S2
   have hd2 := S2 _ _ hd1
   walk_at "rd"
   refine ⟨b, _, rfl, DGet.t (k := k2 i room) (S02 _ _ ta.tl.best) h2p, ?_⟩
   cases hv : valV kvs (k2 i room) with
   | none =>
    refine ⟨true, rfl, iteT ?_⟩
    have hrs2 := S02 _ _ hrs
    have h12 := S02 _ _ h1
    have h32 := S02 _ _ h3
    walk_at "rd"
    refine zbt (SqL.of hrs2) (zcj hx) ?_
    walk_at "rd"
    have hdr : r.doors.length ≤ 9 := ta.wd.doors r (List.mem_of_getElem? hr')
    have hnl : (nts r.doors).length = r.doors.length := List.length_map _
    refine zbA (K := K) (a := dd) (xs := nts r.doors) (fun j σ H3 => ∃ (kv : List (Key × V)) (es2 : List Nat) (o5 : Option V), σ = [some (.ref a), some (.int room), some (.bl false), some (.ref d), some (.int i), o5] ∧ Same H H3 ∧ H3 d = some (.dK kv) ∧ ziy kv es2 ∧ es2.Nodup ∧ ∀ e, e ∈ es2 ↔ (e ∈ es ∨ e ∈ r.doors.take j))
     ⟨kv, es, o5, rfl, S02, hd2, hkn, hnd, fun e => by simp⟩ (fun j σ H3 _ ⟨_, _, _, _, S3, _⟩ => SqL.of (S3 _ _ h3)) ?_ ?_
    ·rintro j x σ H3 hj ⟨kv3, es3, o5, rfl, S3, hd3, hkn3, hnd3, hes3⟩
     obtain ⟨e0, he0, rfl⟩ := zcy hj
     have hlen : kv3.length = es3.length := by
      have := congrArg List.length hkn3
      simpa using this
     have hesl : es3.length ≤ W.length := by
      have := zcz (m := List.range W.length) hnd3 fun e he => List.mem_range.mpr ?_
      ·rwa [List.length_range] at this
      ·rcases (hes3 e).mp he with he | he
       ·obtain ⟨one, _, _, z⟩ := (hes e).mp he
        exact zcV ta.wd.valid z
       ·exact ta.wd.valid r (List.mem_of_getElem? hr') e (List.mem_of_mem_take he)
     walk_at "rd"
     refine ⟨d, _, rfl, DPut.k (k := Sum.inl (e0 : Int)) hd3 (by rw [sizeLine_eq]; omega), ?_⟩
     obtain ⟨es4, e1, e2, e3⟩ := zj8 (e := e0) (v := .bl true) hkn3 hnd3
     refine ⟨_, es4, _, rfl, fun b o e => ?_, zab, e1, e2, fun k => ?_⟩
     ·rw [zai (zag e hd)]; exact S3 b o e
     ·rw [e3, hes3, List.take_add_one, he0, List.mem_append]
      simp [or_assoc]
    ·rintro σ H3 ⟨kv3, es3, o5, rfl, S3, hd3, hkn3, hnd3, hes3⟩
     rw [hnl, List.take_length] at hes3
     refine ⟨kv3, es3, _, _, rfl, S3, hd3, hkn3, hnd3, fun e => ?_⟩
     rw [hes3, hes]
     constructor
     ·rintro (⟨one, z1, z2⟩ | z)
      ·exact ⟨one, by omega, z2⟩
      ·exact ⟨i, by omega, hv, by rw [zc9 hr']; exact z⟩
     ·rintro ⟨one, z1, z2, z3⟩
      by_cases hoi : one = i
      ·subst hoi
       rw [zc9 hr'] at z3
       exact .inr z3
      ·exact .inl ⟨one, by omega, z2, z3⟩
   | some v =>
    refine ⟨false, rfl, iteF ?_⟩
    walk_at "rd"
    refine ⟨kv, es, _, _, rfl, S02, hd2, hkn, hnd, fun e => ?_⟩
    rw [hes]
    constructor
    ·rintro ⟨one, z1, z2⟩
     exact ⟨one, by omega, z2⟩
    ·rintro ⟨one, z1, z2, z3⟩
     by_cases hoi : one = i
     ·subst hoi
      rw [hv] at z2; cases z2
     ·exact ⟨one, by omega, z2, z3⟩
  ·rintro σ H1 ⟨kv, es, o4, o5, rfl, S1, hd1, hkn, hnd, hes⟩
   walk_at "rd"
   refine ⟨d, kv, rfl, hd1, fun p hp' => ?_⟩
   have ek : (kv.map fun kv => kV kv.1) = nts es := by
    have : (kv.map fun kv => kV kv.1) = (kv.map (·.1)).map kV := by rw [List.map_map]; rfl
    rw [this, hkn, List.map_map]; rfl
   rw [ek]
   have hesl : es.length ≤ W.length := by
    have := zcz (m := List.range W.length) hnd fun e he => List.mem_range.mpr ?_
    ·rwa [List.length_range] at this
    ·obtain ⟨one, _, _, z⟩ := (hes e).mp he
     exact zcV ta.wd.valid z
   exact q p es _ (S1.trans (Same.new (Same.refl _) hp')) zab (by omega) hes
end
section
variable {P : Program} {w : World} {K : PySem.W.Frag} {mg : Str → Option Value} {base : Heap} {f : Addr} {fd : FuncData}
theorem znA {CT CS T : Addr} {pos : Pos} (D : zb4 K CT "sayings_through_doors" "Tellers.sayings_through_doors" zam ["self", "anew"] f fd) (B : Blt mg) (F_Tellers : ClsF K CT ["world", "best", "changed", "always"])
  (h_Tellers_rooms_to_try : HasM P w K mg base CT "rooms_to_try" 1 ["self", "room", "anew"] (zi0 CT CS T pos)) (h_Tellers_said_against_all : HasM P w K mg base CT "said_against_all" 5 ["self", "room", "others"] (zjb CT CS T pos)) (h_keep_smaller : Has P w K mg base "keep_smaller" 1 ["found", "saying"] (zmm P w CS))
  (h_said_of_some : Has P w K mg base "said_of_some" 3 ["world", "saying"] (zi1 CS)) : HasM P w K mg base CT "sayings_through_doors" 6 ["self", "anew"] (zmi CT CS T pos) := by
 have nd := zbs.nd
 refine D.has F_Tellers.cl (D.fn.ok zbs (fun vs H Q E h => ?_) (fun cdv A outer s H vs Q E hr h => ?_))
 ·obtain ⟨a, dx, wd, b, c, va, kvs, W, Ls, m, rfl, _⟩ := h
  rfl
 ·obtain ⟨a, dx, wd, b, c, va, kvs, W, Ls, m, rfl, ta, q⟩ := h
  have hu := ze3 hr
  have ho := ta.tl.obj
  obtain ⟨rs, hrs, hp⟩ := id ta.wd.at_
  have lrs := Paired.length hp
  have hf := ta.wd.few
  refine ⟨_, (zad (zay (i := 2) nd rfl (Or.inl rfl) zli)
   (zad (zbS PassesOwn.never rfl (zcg rfl B.range (zaa (zak (zax K) rfl B.len PySem.boot_len (zaa (zaw F_Tellers (pv 0)) zac)) zac)) (zan (i := 3) nd rfl (Or.inl rfl)) (zae (zbS PassesOwn.never rfl (zaD K (zcL h_Tellers_rooms_to_try hr (pv 0) (zaa (pv 3) (zaa (pv 1) zac)))) (zan (i := 4) nd rfl (Or.inl rfl)) (zad (zay (i := 5) nd rfl (Or.inl rfl) (zcL h_Tellers_said_against_all hr (pv 0) (zaa (pv 4) (zaa (zaJ (zaz K) (zaJ (zaK K) (zaw F_Tellers (pv 0)) (pv 3) (fun _ _ => rfl)) zah (fun _ _ => rfl)) zac))))
     (zae (za4 (zej (znu (pv 5))) (zae (zbc (zaj h_keep_smaller hr (zaa (pv 2) (zaa (pv 5) zac))))) zaC))))))
   (zae (zaq (zaV ["inner", "self"] 1 [0] (znk (pv 2)) (fun _ _ _ _ _ => (zan (i := 0) (show List.Nodup (["inner", "self"] : List Str) by decide +kernel) rfl (Or.inl rfl))) (fun _ _ _ _ _ => zbq) (fun _ _ _ _ _ => (zaj h_said_of_some hr (zaa (zaw F_Tellers (pv 1)) (zaa (pv 0) zac))))))))), ?_⟩
  walk_at "rd0"
  walk_at "rd"
  refine fun d hd hds => ?_
  have S0 : Same H (upd H d (kn d { cls := .type "dict", data := .dict #[] })) := by walk_at "sm"
  have hd0 : (upd H d (kn d { cls := .type "dict", data := .dict #[] })) d = some (kn d { cls := .type "dict", data := .dict #[] }) := zab
  generalize upd H d (kn d { cls := .type "dict", data := .dict #[] }) = H0 at S0 hd0 ⊢
  have ho0 := S0 _ _ ho
  have hrs0 := S0 _ _ hrs
  walk_at "rd"
  rw [lrs]
  let RI := zoi W kvs (capS (clsL W.length Ls) m)
  refine zd5 (by omega) (fun i σ H1 => ∃ (xs : BXs) (o3 o4 o5 : Option V), σ = [some (.ref a), some (.bl false), some (.ref d), o3, o4, o5] ∧ SamT T H H1 ∧ Ta CT CS T pos W H1 a dx wd b c va kvs Ls m ∧ zeo P w CS W RI H1 d xs ∧ xs.length ≤ 9 * i ∧ (xs = [] → ∀ other room, other < i → zl6 W kvs other room → Ans W kvs other room))
   ⟨[], none, none, none, rfl, S0.samT, ta.same S0, zeo.nil hd0 hds, Nat.zero_le _, fun _ other room z => by omega⟩ ?_ ?_
  ·rintro i σ H1 hi ⟨xs, o3, o4, o5, rfl, S1, ta1, fo1, hxl, hdone⟩
   obtain ⟨r, hr'⟩ : ∃ r, W[i]? = some r := ⟨_, List.getElem?_eq_getElem hi⟩
   have ho1 := ta1.tl.obj
   walk_at "rd"
   refine ⟨a, dx, wd, b, c, va, kvs, W, Ls, m, i, rfl, ta1, hi, fun l es H2 S2 hl hel hes => ?_⟩
   obtain ⟨pt1, hT1⟩ := ta1.tab.tbl
   obtain ⟨od1, hod1⟩ := fo1.kn
   have hnl : (nts es).length = es.length := List.length_map _
   walk_at "rd"
   refine zbA (K := K) (a := l) (xs := nts es) (fun j σ H3 => ∃ (xs : BXs) (o4 o5 : Option V), σ = [some (.ref a), some (.bl false), some (.ref d), some (.int i), o4, o5] ∧ SamT T H H3 ∧ H3 l = some (.lst (nts es)) ∧ Ta CT CS T pos W H3 a dx wd b c va kvs Ls m ∧ zeo P w CS W RI H3 d xs ∧ xs.length ≤ 9 * i + j ∧ (xs = [] → (∀ other room, other < i → zl6 W kvs other room → Ans W kvs other room) ∧ ∀ room ∈ es.take j, Ans W kvs i room))
    ⟨xs, o4, o5, rfl, S1.trans S2.samT, hl, ta1.same S2, fo1.kp (tb := false) (fun o e => S2 _ _ e) S2.kp, by omega, fun e => ⟨hdone e, fun room z => by simp at z⟩⟩ (fun j σ H3 _ ⟨_, _, _, _, _, h, _⟩ => SqL.of h) ?_ ?_
   ·rintro j x σ H3 hj ⟨xs3, o4, o5, rfl, S3, hl3, ta3, fo3, hxl3, hdone3⟩
    obtain ⟨room, hroom, rfl⟩ := zcy hj
    have hjl : j < es.length := (List.getElem?_eq_some_iff.mp hroom).1
    have htry := (hes room).mp (List.mem_of_getElem? hroom)
    have hrl : room < W.length := by
     obtain ⟨_, _, _, z⟩ := htry
     exact zcV ta.wd.valid z
    obtain ⟨rs3, hrs3, hp3⟩ := id ta3.wd.at_
    obtain ⟨xr, hxr, ⟨ax, lr, dd, rfl, h1, h2, h3⟩⟩ := Paired.get2 hp3 hr'
    have ho3 := ta3.tl.obj
    walk_at "rd"
    refine zbt (SqL.of hrs3) (zcj hxr) ?_
    walk_at "rd"
    have hmem : r ∈ W := List.mem_of_getElem? hr'
    obtain ⟨pt3, hT3⟩ := ta3.tab.tbl
    obtain ⟨od3, hod3⟩ := fo3.kn
    have ndT : d ≠ T := zch hod3 hT3 (by intro z; cases z)
    have nlT : l ≠ T := zch hl3 hT3 (by intro z; cases z)
    refine ⟨a, dx, wd, b, c, va, kvs, W, Ls, m, room, dd, r.doors, rfl, ta3, h3, hrl, ta.wd.valid r hmem, ta.wd.doors r hmem, fun H4 S4 tab4 hno => ?_, fun v y H4 S4 tab4 hall hag => ?_⟩
    ·walk_at "rd"
     refine iteF ?_
     walk_at "rd"
     refine ⟨xs3, _, _, rfl, S3.trans S4, S4 _ _ nlT hl3, ta3.samT S4 tab4, fo3.kp (fun o e => S4 _ _ ndT e) (S4.kp hT3), by omega, fun e => ⟨(hdone3 e).1, fun e' z => ?_⟩⟩
     rw [List.take_add_one, hroom] at z
     rcases List.mem_append.mp z with z | z
     ·exact (hdone3 e).2 e' z
     ·have : e' = room := by simpa using z
      subst this
      unfold Ans
      rw [zc9 hr']; exact hno
    ·obtain ⟨hy, t1, t2, t3⟩ := hag
     obtain ⟨av, rfl⟩ := hy.isRef
     walk_at "rd"
     refine iteT ?_
     walk_at "rd"
     have fo4 := fo3.kp (fun o e => S4 _ _ ndT e) (S4.kp hT3)
     have ta4 := ta3.samT S4 tab4
     have hl4 := S4 _ _ nlT hl3
     obtain ⟨od4, hod4⟩ := fo4.kn
     obtain ⟨one, o1, o2, o3⟩ := htry
     refine ⟨d, _, W, RI, xs3, y, rfl, fo4, hy, ⟨one, i, room, o1, hi, o2, o3, t1, by rw [zc9 hr']; exact t2, t3⟩, by omega, ta.wd.pos, ta.wd.few, fun H5 xs5 S5 fo5 hx5 hk5 => ?_⟩
     have nda : d ≠ a := zch hod4 ta4.tl.obj (by intro z; cases z)
     have ndb : d ≠ b := zch hod4 ta4.tl.best (by intro z; cases z)
     have nld : l ≠ d := zch hl4 hod4 (by intro z; cases z)
     refine ⟨xs5, _, _, rfl, fun b o n e => ?_, S5 _ _ (by simpa using nld) hl4, ta4.out S5 (fun o e => by rw [hod4] at e; cases e; exact znQ) nda ndb, fo5, by omega, fun e => ?_⟩
     ·exact S5 _ _ (by simpa using zag e hd) (S4 _ _ n (S3 _ _ n e))
     ·have := hk5 (tru W y.s) (.inr rfl)
      rw [e] at this; simp at this
   ·rintro σ H3 ⟨xs3, o4, o5, rfl, S3, hl3, ta3, fo3, hxl3, hdone3⟩
    rw [hnl, List.take_length] at hdone3
    rw [hnl] at hxl3
    refine ⟨xs3, _, _, _, rfl, S3, ta3, fo3, by omega, fun e other room z ht => ?_⟩
    by_cases hoi : other = i
    ·subst hoi
     exact (hdone3 e).2 room ((hes room).mpr ht)
    ·exact (hdone3 e).1 other room (by omega) ht
  ·rintro σ H1 ⟨xs, o3, o4, o5, rfl, S1, ta1, fo1, hxl, hdone⟩
   walk_at "rd"
   refine ⟨d, xs, rfl, fo1.1, fun x m => let ⟨va, y, e, _⟩ := fo1.2 x m; ⟨va, e⟩, fun od hod => ?_⟩
   refine zdu xs.length fun D hD => ⟨fun i zs H2 => Same H1 H2 ∧ H2 D = some (.lst zs) ∧ ∃ ys : List Sy, Paired (SyAt CS W H2) zs ys ∧ ys.length = i ∧ ∀ y ∈ ys, Thru W kvs (capS (clsL W.length Ls) m) y, ⟨by walk_at "sm", zab, [], .nil, rfl, fun y z => by simp at z⟩, fun i zs H2 hi ⟨S2, _⟩ => ⟨hi, S2 _ _ hod⟩, fun zs H2 ⟨S2, _⟩ => ⟨rfl, S2 _ _ hod⟩, fun i zs H2 v H3 Cy Cn hi ⟨S2, hd2, ys, hpz, hyl, hth⟩ hyd hCy hCn => ?_, fun zs H2 ⟨S2, hd2, ys, hpz, hyl, hth⟩ => ?_⟩
   ·obtain ⟨rfl, kk, ka, vv, hxi, rfl⟩ := hyd
    obtain ⟨va', y, e1, e2, e3, e4⟩ := fo1.2 _ (List.mem_of_getElem? hxi)
    cases e1
    have ho2 := S2 _ _ ta1.tl.obj
    walk_at "rd"
    refine zmr ?_
    walk_at "rd"
    refine ⟨wd, _, W, y, rfl, (ta1.same S2).wd, e2.mono S2, fun z H4 S4 hz => ?_⟩
    have hd4 := S4 _ _ hd2
    have hpz4 : Paired (SyAt CS W H4) zs ys := Paired.mapP hpz fun _ _ z => z.mono S4
    have hrz := zgY hpz4
    have hzl := Paired.length hpz4
    refine hCy z H4 zs hd4 (by rw [sizeLine_eq]; omega) ⟨(S2.trans S4).set hD, zab, ys ++ [y.some], Paired.snoc (Paired.mapP hpz4 fun _ _ z => zdp z hd4 hrz ta.wd.pos) (zdp hz hd4 hrz ta.wd.pos), by simp [hyl], fun u hu => ?_⟩
    rcases List.mem_append.mp hu with hu | hu
    ·exact hth u hu
    ·rw [List.mem_singleton.mp hu]
     exact e4.thru
   ·refine q D zs ys H2 (S1.trans S2.samT) (ta1.tab.mono S2) hd2 hpz (by omega) hth fun e => ?_
    refine fun other room ho ht => hdone (List.length_eq_zero_iff.mp (by rw [← hyl, e]; rfl)) other room ho ht
end
section
variable {P : Program} {w : World} {K : PySem.W.Frag} {mg : Str → Option Value} {base : Heap} {f : Addr} {fd : FuncData}
theorem zlw {CT CS T : Addr} {pos : Pos} (D : zb4 K CT "learn_through_doors" "Tellers.learn_through_doors" zap ["self", "anew"] f fd) (B : Blt mg) (F_Tellers : ClsF K CT ["world", "best", "changed", "always"])
  (h_Tellers_sayings_through_doors : HasM P w K mg base CT "sayings_through_doors" 6 ["self", "anew"] (zmi CT CS T pos)) (h_Tellers_learn : HasM P w K mg base CT "learn" 4 ["self", "saying"] (zgX CT CS)) : HasM P w K mg base CT "learn_through_doors" 7 ["self", "anew"] (zex CT CS T pos) := by
 have nd := zbx.nd
 refine D.has F_Tellers.cl (D.fn.ok zbx (fun vs H Q E h => ?_) (fun cdv A outer s H vs Q E hr h => ?_))
 ·obtain ⟨a, dx, wd, b, c, va, kvs, W, Ls, rfl, _⟩ := h
  rfl
 ·obtain ⟨a, dx, wd, b, c, va, kvs, W, Ls, rfl, ta, q⟩ := h
  have ho := ta.tl.obj
  have hb := ta.tl.best
  have nab : a ≠ b := zch ho hb (by intro z; cases z)
  have hf := ta.wd.few
  have hW := ta.wd.pos
  refine ⟨_, (zad (zcO F_Tellers (pv 0) zbB)
   (zad (zbS PassesOwn.never rfl (zaD K (zcL h_Tellers_sayings_through_doors hr (pv 0) (zaa (pv 1) zac))) (zan (i := 2) nd rfl (Or.inl rfl)) (zae (zbc (zcL h_Tellers_learn hr (pv 0) (zaa (pv 2) zac)))))
   (zae (zaq (zaw F_Tellers (pv 0)))))), ?_⟩
  walk_at "rd0"
  walk_at "rd"
  refine zbY ho (by rw [zgV]; exact (by decide : 1 + 3 < 1000)) ?_
  rw [zgU]
  have S1 : SamB [a, b] H (upd H a (.ins CT dx (tlF wd b false [("always", va)]))) := (SamB.refl _ _).put (by simp)
  have ho1 : (upd H a (.ins CT dx (tlF wd b false [("always", va)]))) a = some (.ins CT dx (tlF wd b false [("always", va)])) := zab
  have hb1 : (upd H a (.ins CT dx (tlF wd b false [("always", va)]))) b = some (.dT kvs) := (zai (Ne.symm nab)).trans hb
  generalize upd H a (.ins CT dx (tlF wd b false [("always", va)])) = H1 at S1 ho1 hb1 ⊢
  have ta1 : Ta CT CS T pos W H1 a dx wd b false va kvs Ls (zdM W Ls) := ta.learnt S1 ⟨ho1, hb1, ta.tl.ok.kp (zev ho hb S1), ta.tl.few⟩
  walk_at "rd"
  refine ⟨a, dx, wd, b, false, va, kvs, W, Ls, _, rfl, ta1, fun l xs ys H2 S2 tab2 hl hp hyl hth hno => ?_⟩
  have ta2 := ta1.samT S2 tab2
  have lxy := Paired.length hp
  have hc1 : 1 ≤ clsL W.length Ls := zkv hW
  let M := max (zdM W Ls) (capS (clsL W.length Ls) (zdM W Ls))
  have tl2 : Tl CT CS W H2 a dx wd b false [("always", va)] kvs Ls M := ⟨ta2.tl.obj, ta2.tl.best, ta2.tl.ok.up (Nat.le_max_left _ _), ta2.tl.few⟩
  walk_at "rd"
  refine zbA (K := K) (a := l) (xs := xs) (fun i σ H3 => ∃ (c3 : Bool) (k3 : List (List Key × V)) (o2 : Option V), σ = [some (.ref a), some (.bl false), o2] ∧ SamB [a, b] H2 H3 ∧ Tl CT CS W H3 a dx wd b c3 [("always", va)] k3 (LsAt W Ls ys i) M ∧ (i = 0 → c3 = false ∧ zcB CS W H3 k3 Ls (zdM W Ls)) ∧ (0 < i → c3 = true))
   ⟨false, kvs, none, rfl, SamB.refl _ _, by rw [zd7]; exact tl2, fun _ => ⟨rfl, ta2.tl.ok⟩, fun z => by omega⟩ (fun i σ H3 _ ⟨_, _, _, _, S3, _⟩ => SqL.of ((zev ta2.tl.obj ta2.tl.best S3).lst hl)) ?_ ?_
  ·rintro i x σ H3 hi ⟨c3, k3, o2, rfl, S3, tl3, hc0, hcp⟩
   obtain ⟨y, hy, hxy⟩ := Paired.get1 hp hi
   have K3 := zev ta2.tl.obj ta2.tl.best S3
   have ho3 := tl3.obj
   walk_at "rd"
   obtain ⟨one, other, h1, h2, h3, h4, h5, h6⟩ := hth y (List.mem_of_getElem? hy)
   refine ⟨a, dx, wd, b, x, c3, _, k3, W, _, M, y, rfl, tl3, hxy.kp K3, Nat.le_trans h6 (Nat.le_max_right _ _), hW, hf, fun H4 c4 k4 S4 tl4 hcc hc4 => ?_⟩
   refine ⟨c4, k4, _, rfl, S3.trans S4, by rw [zkM hy]; exact tl4, fun z => by omega, fun _ => ?_⟩
   cases hc : c4 with
   | true => rfl
   | false =>
    by_cases hi0 : i = 0
    ·subst hi0
     have := hc4 hc one other h1 h2 (by rw [zd7]; exact (ta.tl.ok.2.1 _ _ h1 h2).mp h3)
     rw [zcq (t := tru W y.s) List.mem_cons_self (by
      rw [show (tru W y.s).getD one false = true from h4, show (tru W y.s).getD other false = false from h5]
      exact Bool.noConfusion)] at this
     cases this
    ·have := hcc (hcp (by omega))
     rw [hc] at this; cases this
  ·rintro σ H3 ⟨c3, k3, o2, rfl, S3, tl3, hc0, hcp⟩
   have ho3 := tl3.obj
   rw [lxy] at tl3 hc0 hcp
   walk_at "rd"
   have hle : clsL W.length (LsAt W Ls ys ys.length) ≤ 9 := Nat.le_trans (zgG _ _) hf
   refine q H3 c3 k3 (LsAt W Ls ys ys.length) ?_ (ta2.learnt S3 ⟨tl3.obj, tl3.best, ?_, tl3.few⟩) (zf5 _ _ _ _) (fun hc => ?_) (fun hc => ?_)
   ·refine (S1.more (by simp)).trans (SamB.trans (fun b o n e => S2 _ _ (fun z => n (by simp [z])) e) (S3.more (by simp)))
   ·by_cases hys : ys = []
    ·subst hys
     rw [show ([] : List Sy).length = 0 from rfl, zd7]
     exact (hc0 rfl).2
    ·have hlt := zga ta.tl.ok.2.1 hth hys
     refine tl3.ok.up ?_
     have h1 : capS (clsL W.length Ls) (zdM W Ls) ≤ zeb (clsL W.length Ls + 1) := zoc hc1 (by omega)
     have h2 : zeb (clsL W.length Ls + 1) ≤ zdM W (LsAt W Ls ys ys.length) := zdr (by omega) hle
     have h3 : zdM W Ls ≤ zdM W (LsAt W Ls ys ys.length) := zdr (by omega) hle
     exact Nat.max_le.mpr ⟨h3, Nat.le_trans h1 h2⟩
   ·refine zga ta.tl.ok.2.1 hth fun e => ?_
    rw [(hc0 (by rw [e]; rfl)).1] at hc; cases hc
   ·have hys : ys = [] := by
     cases hy : ys with
     | nil => rfl
     | cons y r =>
      rw [hcp (by rw [hy]; exact Nat.succ_pos _)] at hc; cases hc
    intro one other h1 h2 he room hr
    have hno := hno hys other room h2 ⟨one, h1, (ta.tl.ok.2.1 _ _ h1 h2).mpr (zdv (zf5 _ _ _ _) he), hr⟩
    obtain ⟨d, hd, hn⟩ := hno
    refine ⟨d, hd, ?_⟩
    rw [hys, show ([] : List Sy).length = 0 from rfl, zd7]
    exact (ta.tl.ok.2.1 _ _ (zcV ta.wd.valid hr) (zcV ta.wd.valid hd)).mp hn
end
section
variable {P : Program} {w : World} {K : PySem.W.Frag} {mg : Str → Option Value} {base : Heap} {f : Addr} {fd : FuncData}
theorem zlu {CT CS T : Addr} {pos : Pos} (F_Tellers : ClsF K CT ["world", "best", "changed", "always"]) (D : zb4 K CT "__init__" "Tellers.__init__" zaN ["self", "world"] f fd) (M : Mk K CT f) (hm : mg "Tellers" = some (.ref CT)) (B : Blt mg)
  (h_lamps_lit : Has P w K mg base "lamps_lit" 1 ["world"] zi4) (h_said_of_lamp : Has P w K mg base "said_of_lamp" 3 ["world", "lamp"] (zi5 CS)) (h_said_turned : Has P w K mg base "said_turned" 3 ["saying"] (zgW CS)) (h_Tellers_learn : HasM P w K mg base CT "learn" 4 ["self", "saying"] (zgX CT CS)) :
  HasC P w K mg base CT "Tellers" 5 ["self", "world"] (zi8 CT CS T pos) := by
 have nd := zcu.nd
 refine D.make M hm (D.fn.ok zcu (fun vs H Q E h => ?_) (fun cdv A outer s H vs Q E hr h => ?_))
 ·obtain ⟨x, dx, wd, W, rfl, _⟩ := h
  rfl
 ·obtain ⟨x, dx, wd, W, rfl, hx, hw, tab, q⟩ := h
  refine ⟨_, (zad (zcO F_Tellers (pv 0) (pv 1))
   (zad (zcO F_Tellers (pv 0) zlh)
   (zad (zcO F_Tellers (pv 0) zbB)
   (zad (zay (i := 2) nd rfl (Or.inl rfl) (zaj h_lamps_lit hr (zaa (pv 1) zac)))
   (zad (zbS PassesOwn.never rfl (zaD K (pv 2)) (zan (i := 3) nd rfl (Or.inl rfl)) (zae (zbc (zcL h_Tellers_learn hr (pv 0) (zaa (zaj h_said_of_lamp hr (zaa (pv 1) (zaa (pv 3) zac))) zac)))))
   (zae (zcO F_Tellers (pv 0) (zaj h_said_turned hr (zaa (zaj h_said_of_lamp hr (zaa (pv 1) (zaa (zbd zcn (zjO B.max (zaa (pv 2) zac) zah) zah) zac))) zac))))))))), ?_⟩
  walk_at "rd0"
  walk_at "rd"
  refine zbY hx (by decide) ?_
  walk_at "rd"
  refine fun b hb => ?_
  have hbH : H b = none := by
   by_cases hbx : b = x
   ·subst hbx; rw [zab] at hb; cases hb
   ·rwa [zai hbx] at hb
  have nxb : x ≠ b := zag hx hbH
  have hx1 : (upd (upd H x (.ins CT dx (putF "world" (.ref wd) []))) b (.dT [])) x = some (.ins CT dx [("world", .ref wd)]) := (zai nxb).trans zab
  walk_at "rd"
  refine zbY hx1 (by show 1 < 1000; decide) ?_
  walk_at "rd"
  refine zbY zab (by show 2 < 1000; decide) ?_
  have S1 : SamB [x] H (upd (upd (upd (upd H x (.ins CT dx (putF "world" (.ref wd) []))) b (.dT [])) x (.ins CT dx (putF "best" (.ref b) [("world", .ref wd)]))) x (.ins CT dx (putF "changed" (.bl false) (putF "best" (.ref b) [("world", .ref wd)])))) :=
   ((((SamB.refl _ _).put (List.mem_singleton_self x)).new hb).put (List.mem_singleton_self x)).put (List.mem_singleton_self x)
  have hb1 : (upd (upd (upd (upd H x (.ins CT dx (putF "world" (.ref wd) []))) b (.dT [])) x (.ins CT dx (putF "best" (.ref b) [("world", .ref wd)]))) x (.ins CT dx (putF "changed" (.bl false) (putF "best" (.ref b) [("world", .ref wd)])))) b = some (.dT []) :=
   (zai (Ne.symm nxb)).trans ((zai (Ne.symm nxb)).trans zab)
  have ho1 : (upd (upd (upd (upd H x (.ins CT dx (putF "world" (.ref wd) []))) b (.dT [])) x (.ins CT dx (putF "best" (.ref b) [("world", .ref wd)]))) x (.ins CT dx (putF "changed" (.bl false) (putF "best" (.ref b) [("world", .ref wd)])))) x = some (.ins CT dx (tlF wd b false [])) := zab
  generalize upd (upd (upd (upd H x (.ins CT dx (putF "world" (.ref wd) []))) b (.dT [])) x (.ins CT dx (putF "best" (.ref b) [("world", .ref wd)]))) x (.ins CT dx (putF "changed" (.bl false) (putF "best" (.ref b) [("world", .ref wd)]))) = H1 at S1 hb1 ho1 ⊢
  have K1 : Kp true H H1 := S1.kp fun z hz o e s => by
   rw [List.mem_singleton.mp hz, hx] at e
   cases e; exact s
  have hw1 := hw.kp K1
  have tl1 : Tl CT CS W H1 x dx wd b false [] [] [] 1 := ⟨ho1, hb1, zl3 _ _ _ _, by decide⟩
  walk_at "rd"
  refine ⟨wd, W, rfl, hw1, fun l ks H2 S2 hl0 hl hkl hks => ?_⟩
  have tl2 := S2.tl tl1
  have hw2 := hw1.kp (tb := false) S2.kp
  have hkn : (ks.map V.int).length = ks.length := List.length_map _
  have hk1 : ∀ k ∈ ks, 1 ≤ k := fun k hk => by
   obtain ⟨r, hr', hk'⟩ := (hks k).mp hk
   exact (hw.lits r hr').2 k hk'
  have tab2 := (tab.kp K1).mono S2
  walk_at "rd"
  refine zbA (K := K) (a := l) (xs := ks.map V.int) (fun i σ H3 => ∃ (c : Bool) (kvs : List (List Key × V)) (Ls : List (List Bool)) (o3 : Option V), σ = [some (.ref x), some (.ref wd), some (.ref l), o3] ∧ SamB [x, b] H2 H3 ∧ Tl CT CS W H3 x dx wd b c [] kvs Ls 1 ∧ ∀ k ∈ ks.take i, tru W (.lamp k) ∈ Ls)
   ⟨false, [], [], none, rfl, SamB.refl _ _, tl2, fun k z => by simp at z⟩ (fun i σ H3 _ ⟨_, _, _, _, _, S3, _⟩ => SqL.of ((zev tl2.obj tl2.best S3).lst hl)) ?_ ?_
  ·rintro i v σ H3 hi ⟨c, kvs, Ls, o3, rfl, S3, tl3, hLs⟩
   rw [List.getElem?_map] at hi
   obtain ⟨k, hk, rfl⟩ := Option.map_eq_some_iff.mp hi
   have K3 := zev tl2.obj tl2.best S3
   have ho3 := tl3.obj
   walk_at "rd"
   refine ⟨wd, k, W, rfl, hw2.kp K3, hk1 k (List.mem_of_getElem? hk), fun v H4 S4 hv => ?_⟩
   have tl4 := S4.tl tl3
   have ho4 := tl4.obj
   walk_at "rd"
   refine ⟨x, dx, wd, b, v, c, [], kvs, W, Ls, 1, _, rfl, tl4, hv, Nat.le_refl _, hw.pos, hw.few, fun H5 c5 k5 S5 tl5 _ _ => ?_⟩
   refine ⟨c5, k5, _, _, rfl, S3.trans (S4.samB.trans S5), tl5, fun k' hk' => ?_⟩
   rw [List.take_add_one, hk] at hk'
   rcases List.mem_append.mp hk' with z | z
   ·exact List.mem_cons_of_mem _ (hLs k' z)
   ·have : k' = k := by simpa using z
    rw [this]; exact List.mem_cons_self
  ·rintro σ H3 ⟨c, kvs, Ls, o3, rfl, S3, tl3, hLs⟩
   rw [hkn, List.take_length] at hLs
   have K3 := zev tl2.obj tl2.best S3
   have hl3 := K3.lst hl
   walk_at "rd"
   refine ⟨l, ks, rfl, SqL.of hl3, fun e0 => ?_, fun m0 hm0 hmk => ?_⟩
   ·have hk0 : ∀ k ∈ ks, k ≤ 0 := fun k hk => by rw [e0] at hk; simp at hk
    have h00 : (0 : Int) ≤ 0 := by decide
    walk_at "rd"
    refine ⟨wd, 0 + 1, W, rfl, hw2.kp K3, by have := h00; omega, fun v H4 S4 hv => ?_⟩
    walk_at "rd"
    refine ⟨v, W, _, rfl, hv, hw.few, fun u H5 S5 hu5 => ?_⟩
    have tl5 := S5.tl (S4.tl tl3)
    walk_at "rd"
    refine zbY tl5.obj (by show 3 < 1000; decide) ?_
    rw [ziP]
    have S6 : SamB [x, b] H5 (upd H5 x (.ins CT dx (tlF wd b c [("always", u)]))) := (SamB.refl _ _).put (by simp)
    have ho6 : (upd H5 x (.ins CT dx (tlF wd b c [("always", u)]))) x = some (.ins CT dx (tlF wd b c [("always", u)])) := zab
    have hb6 : (upd H5 x (.ins CT dx (tlF wd b c [("always", u)]))) b = some (.dT kvs) := (zai (Ne.symm nxb)).trans tl5.best
    generalize upd H5 x (.ins CT dx (tlF wd b c [("always", u)])) = H6 at S6 ho6 hb6 ⊢
    have K6 := zev tl5.obj tl5.best S6
    have K36 : Kp true H3 H6 := (Same.kp (S4.trans S5)).trans K6
    refine q H6 b c u kvs Ls (fun z o n e => ?_) hbH ⟨⟨ho6, hb6, (tl5.ok.kp K6).up (zgq W Ls hw.pos hw.few), (by decide : 1 ≤ 10)⟩, ⟨_, hu5.kp K6, rfl, zhV hks (m := 0) hk0⟩, (tab2.kp K3).kp K36, (hw2.kp K3).kp K36⟩ (zfg hks hLs)
    have nz : z ≠ b := zag e hbH
    have nx : z ≠ x := by simpa using n
    have m : z ∉ [x, b] := by simp [nz, nx]
    exact S6 _ _ m (S5 _ _ (S4 _ _ (S3 _ _ m (S2 _ _ (S1 _ _ n e)))))
   ·have h00 : (1 : Int) ≤ m0 := hk1 m0 hm0
    walk_at "rd"
    refine ⟨wd, m0 + 1, W, rfl, hw2.kp K3, by have := h00; omega, fun v H4 S4 hv => ?_⟩
    walk_at "rd"
    refine ⟨v, W, _, rfl, hv, hw.few, fun u H5 S5 hu5 => ?_⟩
    have tl5 := S5.tl (S4.tl tl3)
    walk_at "rd"
    refine zbY tl5.obj (by show 3 < 1000; decide) ?_
    rw [ziP]
    have S6 : SamB [x, b] H5 (upd H5 x (.ins CT dx (tlF wd b c [("always", u)]))) := (SamB.refl _ _).put (by simp)
    have ho6 : (upd H5 x (.ins CT dx (tlF wd b c [("always", u)]))) x = some (.ins CT dx (tlF wd b c [("always", u)])) := zab
    have hb6 : (upd H5 x (.ins CT dx (tlF wd b c [("always", u)]))) b = some (.dT kvs) := (zai (Ne.symm nxb)).trans tl5.best
    generalize upd H5 x (.ins CT dx (tlF wd b c [("always", u)])) = H6 at S6 ho6 hb6 ⊢
    have K6 := zev tl5.obj tl5.best S6
    have K36 : Kp true H3 H6 := (Same.kp (S4.trans S5)).trans K6
    refine q H6 b c u kvs Ls (fun z o n e => ?_) hbH ⟨⟨ho6, hb6, (tl5.ok.kp K6).up (zgq W Ls hw.pos hw.few), (by decide : 1 ≤ 10)⟩, ⟨_, hu5.kp K6, rfl, zhV hks (m := m0) hmk⟩, (tab2.kp K3).kp K36, (hw2.kp K3).kp K36⟩ (zfg hks hLs)
    have nz : z ≠ b := zag e hbH
    have nx : z ≠ x := by simpa using n
    have m : z ∉ [x, b] := by simp [nz, nx]
    exact S6 _ _ m (S5 _ _ (S4 _ _ (S3 _ _ m (S2 _ _ (S1 _ _ n e)))))
end
section
variable {P : Program} {w : World} {K : PySem.W.Frag} {mg : Str → Option Value} {base : Heap} {f : Addr} {fd : FuncData}
theorem zjT (D : zaI K mg "alike_pairs" zbm ["world", "best"] f fd) (B : Blt mg) : Has P w K mg base "alike_pairs" 1 ["world", "best"] zi3 := by
 have nd := zdA.nd
 refine D.has (D.fn.ok zdA (fun vs H Q E h => ?_) (fun cdv A outer s H vs Q E hr h => ?_))
 ·obtain ⟨wd, b, W, kvs, rfl, _⟩ := h
  rfl
 ·obtain ⟨wd, b, W, kvs, rfl, hw, hb, q⟩ := h
  have hu := ze3 hr
  obtain ⟨rs, hrs, hp⟩ := id hw.at_
  have lrs := Paired.length hp
  have hf := hw.few
  refine ⟨_, (zad (zay (i := 2) nd rfl (Or.inl rfl) (zbe zac))
   (zad (zbS PassesOwn.never rfl (zcg rfl B.range (zaa (zak (zax K) rfl B.len PySem.boot_len (zaa (pv 0) zac)) zac)) (zan (i := 3) nd rfl (by first | exact Or.inl rfl | exact Or.inr (Or.inl rfl) | exact Or.inr rfl)) (zae (zbc (zcb K PySem.F.plainAttrs_list PySem.F.slot_list_extend PySem.F.type_list_extend zcT (pv 2) (zaa (zaV ["other", "best", "one"] 1 [1, 3] (zcg rfl B.range (zaa (zak (zax K) rfl B.len PySem.boot_len (zaa (pv 0) zac)) zac)) (fun _ _ _ _ _ => (zan (i := 0) (show List.Nodup (["other", "best", "one"] : List Str) by decide +kernel) rfl (Or.inl rfl))) (fun _ _ _ _ _ => (zfH (zej (zdi hu (za2 (zaa (pv 2) (zaa (pv 0) zac))) (pv 1))))) (fun _ _ _ _ _ => (za2 (zaa (pv 2) (zaa (pv 0) zac))))) zac)))))
   (zae (zaq (pv 2))))), ?_⟩
  walk_at "rd0"
  walk_at "rd"
  refine ⟨Nat.zero_le _, fun lp hlp => ?_⟩
  have S0 : Same H (upd H lp (.lst [])) := by walk_at "sm"
  have hl0 : (upd H lp (.lst [])) lp = some (.lst []) := zab
  generalize upd H lp (.lst []) = H0 at S0 hl0 ⊢
  have hrs0 := S0 _ _ hrs
  walk_at "rd"
  rw [lrs]
  refine zd5 (by omega) (fun i σ H1 => ∃ (xs : List V) (o3 : Option V), σ = [some (.ref wd), some (.ref b), some (.ref lp), o3] ∧ Same H H1 ∧ H1 lp = some (.lst xs) ∧ Paired (PrAt H1) xs (prsP kvs W.length i))
   ⟨[], none, rfl, S0, hl0, .nil⟩ ?_ ?_
  ·rintro i σ H1 hi ⟨xs, o3, rfl, S1, hl1, hp1⟩
   have hrs1 := S1 _ _ hrs
   have hb1 := S1 _ _ hb
   walk_at "rd"
   rw [lrs]
   refine ⟨(W.length : Int), rfl, by omega, by omega, ?_⟩
   rw [Int.toNat_natCast]
   have hpl := zhy kvs W.length i
   have hxl := Paired.length hp1
   have h81 : W.length * i ≤ 9 * 9 := Nat.mul_le_mul hf (by omega)
   refine zdu W.length fun D hD => ⟨fun j zs H2 => Same H1 H2 ∧ H2 D = some (.lst zs) ∧ Paired (PrAt H2) zs (rowP kvs j i), ⟨by walk_at "sm", zab, .nil⟩, fun j zs H2 hj _ => hj, fun zs H2 _ => Nat.le_refl _, fun j zs H2 v H3 Cy Cn hj ⟨S2, hd2, hpz⟩ hyd hCy hCn => ?_, fun zs H2 ⟨S2, hd2, hpz⟩ => ?_⟩
   ·obtain ⟨e, rfl⟩ := hyd
    have e := e.symm
    subst e
    rw [Int.zero_add]
    have hb2 := S2 _ _ hb1
    have hzl := Paired.length hpz
    have hrl := zfD kvs j i
    walk_at "rd"
    refine ⟨(by show 2 ≤ sizeLine; decide), fun p hp' => ?_⟩
    have S3 : Same H2 (upd H2 p (.tup [.int i, .int j])) := Same.new (Same.refl _) hp'
    have h3p : (upd H2 p (.tup [.int i, .int j])) p = some (.tup ((k2 i j).map kV)) := zab
    generalize upd H2 p (.tup [.int i, .int j]) = H3 at S3 h3p ⊢
    walk_at "rd"
    refine ⟨b, _, rfl, DGet.t (k := k2 i j) (S3 _ _ hb2) h3p, ?_⟩
    have erow : rowP kvs (j + 1) i = if valV kvs (k2 i j) = none then rowP kvs j i ++ [(i, j)] else rowP kvs j i := by
     unfold rowP
     rw [List.range_succ, List.filter_append, List.map_append]
     by_cases hv : valV kvs (k2 i j) = none
     ·rw [if_pos hv, List.filter_cons, if_pos (decide_eq_true hv)]; rfl
     ·rw [if_neg hv, List.filter_cons, if_neg (by rw [decide_eq_true_iff]; exact hv)]; simp
    cases hv : valV kvs (k2 i j) with
    | none =>
     refine ⟨true, rfl, iteT ?_⟩
     walk_at "rd"
     refine ⟨(by show 2 ≤ sizeLine; decide), fun p2 hp2 => ?_⟩
     have S4 : Same H3 (upd H3 p2 (.tup [.int i, .int j])) := Same.new (Same.refl _) hp2
     have h4p : (upd H3 p2 (.tup [.int i, .int j])) p2 = some (.tup [.int i, .int j]) := zab
     generalize upd H3 p2 (.tup [.int i, .int j]) = H4 at S4 h4p ⊢
     have hd4 := S4 _ _ (S3 _ _ hd2)
     have T5 : TupK H4 (upd H4 D (.lst (zs ++ [.ref p2]))) := TupK.lst (TupK.refl _) hd4
     refine hCy _ _ zs hd4 (by rw [sizeLine_eq]; omega) ⟨(S2.trans (S3.trans S4)).set hD, zab, ?_⟩
     rw [erow, if_pos hv]
     exact Paired.snoc (Paired.mapP hpz fun _ _ z => (z.mono (S3.trans S4).tupK).mono T5) ⟨p2, rfl, T5 _ _ h4p⟩
    | some v =>
     refine ⟨false, rfl, iteF (hCn _ ⟨S2.trans S3, S3 _ _ hd2, ?_⟩)⟩
     rw [erow, if_neg (by rw [hv]; exact Option.some_ne_none _)]
     exact Paired.mapP hpz fun _ _ z => z.mono S3.tupK
   ·have hl2 := S2 _ _ hl1
    have hzl := Paired.length hpz
    have hrl := zfD kvs W.length i
    walk_at "rd"
    refine zdK hl2 (.inl hd2) (by rw [sizeLine_eq]; omega) ?_
    have T3 : TupK H2 (upd H2 lp (.lst (xs ++ zs))) := TupK.lst (TupK.refl _) hl2
    refine ⟨xs ++ zs, _, rfl, fun b o e => ?_, zab, ?_⟩
    ·rw [zai (zag e hlp)]
     exact S2 _ _ (S1 _ _ e)
    ·rw [zeF]
     exact Paired.app (Paired.mapP hp1 fun _ _ z => (z.mono S2.tupK).mono T3) (Paired.mapP hpz fun _ _ z => z.mono T3)
  ·rintro σ H1 ⟨xs, o3, rfl, S1, hl1, hp1⟩
   walk_at "rd"
   exact q lp xs H1 S1 hl1 hp1
end
section
variable {P : Program} {w : World} {K : PySem.W.Frag} {mg : Str → Option Value} {base : Heap} {f : Addr} {fd : FuncData}
theorem znz {CT CS T : Addr} {pos : Pos} {tm : Tok} (D : zaI K mg "told_apart" zby ["world", "one", "other"] f fd) (B : Blt mg) (c_MOST_STATEMENTS : mg "MOST_STATEMENTS" = some (.int 100000 tm)) (F_Saying : ClsF K CS ["size", "truths", "straight", "turned"]) (F_Tellers : ClsF K CT ["world", "best", "changed", "always"])
  (h_Tellers : HasC P w K mg base CT "Tellers" 5 ["self", "world"] (zi8 CT CS T pos)) (h_Tellers_learn_through_doors : HasM P w K mg base CT "learn_through_doors" 7 ["self", "anew"] (zex CT CS T pos)) (h_alike_pairs : Has P w K mg base "alike_pairs" 1 ["world", "best"] zi3) : Has P w K mg base "told_apart" 8 ["world", "one", "other"] (zmh T pos) := by
 have nd := zdS.nd
 refine D.has (D.fn.ok zdS (fun vs H Q E h => ?_) (fun cdv A outer s H vs Q E hr h => ?_))
 ·obtain ⟨wd, one, other, W, rfl, _⟩ := h
  rfl
 ·obtain ⟨wd, one, other, W, rfl, hw, tab, h1, h2, qa, qb⟩ := h
  have hu := ze3 hr
  refine ⟨_, (zad (zay (i := 3) nd rfl (Or.inl rfl) (zd0 h_Tellers hr (zaa (pv 0) zac)))
   (zad (zay (i := 4) nd rfl (Or.inl rfl) (za2 (zaa (pv 1) (zaa (pv 2) zac))))
   (zad (zay (i := 5) nd rfl (Or.inl rfl) zbB)
   (zad (zcK PassesOwn.never (PW.pt (zhx (zbv (pv 5)) (zfG (zej (zdi hu (pv 4) (zaw F_Tellers (pv 3))))))) (zae (zay (i := 5) nd rfl (Or.inl rfl) (zcL h_Tellers_learn_through_doors hr (pv 3) (zaa zbB zac)))))
   (zad (za4 (zej (zdi hu (pv 4) (zaw F_Tellers (pv 3)))) (zae (zaq (za2 (zaa zaB (zaa (zaj h_alike_pairs hr (zaa (pv 0) (zaa (zaw F_Tellers (pv 3)) zac))) zac))))) zaC)
   (zad (zcK PassesOwn.never (PW.pt (zhx (zbv (pv 5)) (zfG (zat zgm (zaw F_Saying (zg1 hu (zaw F_Tellers (pv 3)) (pv 4) (fun _ _ => rfl))) (znq (v := .int 100000) rfl c_MOST_STATEMENTS ⟨_, rfl⟩) (zaF _))))) (zae (zay (i := 5) nd rfl (Or.inl rfl) (zcL h_Tellers_learn_through_doors hr (pv 3) (zaa zbB zac)))))
   (zae (zaq (za2 (zaa zaB (zaa (zaw F_Saying (zg1 hu (zaw F_Tellers (pv 3)) (pv 4) (fun _ _ => rfl))) zac))))))))))), ?_⟩
  walk_at "rd0"
  walk_at "rd"
  refine fun x dx hx hdx ne => ⟨x, dx, wd, W, rfl, zab, ?_, ?_, fun H1 b c va kvs Ls S1 hb0 ta1 lit1 => ⟨rfl, ?_⟩⟩
  ·have S : Same H (upd (upd H dx (.own x)) x (.ins CT dx [])) := Same.new (Same.new (Same.refl _) hdx) (by rw [zai (Ne.symm ne)]; exact hx)
   exact hw.kp (tb := false) S.kp
  ·have S : Same H (upd (upd H dx (.own x)) x (.ins CT dx [])) := Same.new (Same.new (Same.refl _) hdx) (by rw [zai (Ne.symm ne)]; exact hx)
   exact tab.mono S
  have S01 : Same H H1 := fun z o e => S1 _ _ (by simpa using zag e hx) (by rw [zai (zag e hx), zai (zag e hdx)]; exact e)
  walk_at "rd"
  refine ⟨(by show 2 ≤ sizeLine; decide), fun pr hpr => ?_⟩
  walk_at "rd"
  have S2 : Same H1 (upd H1 pr (.tup [.int one, .int other])) := Same.new (Same.refl _) hpr
  have hpr2 : (upd H1 pr (.tup [.int one, .int other])) pr = some (.tup ((k2 one other).map kV)) := zab
  generalize upd H1 pr (.tup [.int one, .int other]) = H2 at S2 hpr2 ⊢
  have ta2 := ta1.same S2
  have hbH : H b = none := by
   by_cases e1 : b = x
   ·subst e1; rw [zab] at hb0; cases hb0
   ·by_cases e2 : b = dx
    ·subst e2; exact hdx
    ·rwa [zai e1, zai e2] at hb0
  refine ⟨fun m σ H3 => ∃ (lr c3 : Bool) (k3 : List (List Key × V)) (Ls3 : List (List Bool)), σ = [some (.ref wd), some (.int one), some (.int other), some (.ref x), some (.ref pr), some (.bl lr)] ∧ SamT T H H3 ∧ Ta CT CS T pos W H3 x dx wd b c3 va k3 Ls3 (zdM W Ls3) ∧ zdn W Ls3 ∧ H3 pr = some (.tup ((k2 one other).map kV)) ∧ (lr = false → zl8 W Ls3) ∧ m = 2 * (9 - clsL W.length Ls3) + lr.toNat,
   ⟨_, true, c, kvs, Ls, rfl, (S01.trans S2).samT, ta2, lit1, hpr2, (fun z => by cases z), rfl⟩, ?_⟩
  rintro m σ H3 ⟨lr, c3, k3, Ls3, rfl, S3, ta3, lit3, hpr3, hbis, rfl⟩
  have ho3 := ta3.tl.obj
  cases lr with
  | false =>
   walk_at "rd"
   refine iteF (iteF ?_)
   walk_at "rd"
   refine ⟨b, _, rfl, DGet.t (k := k2 one other) ta3.tl.best hpr3, ?_⟩
   cases hv : valV k3 (k2 one other) with
   | none =>
    refine ⟨true, rfl, iteT ?_⟩
    walk_at "rd"
    refine ⟨wd, b, W, k3, rfl, ta3.wd, ta3.tl.best, fun l xs H4 S4 hl hp => ?_⟩
    walk_at "rd"
    refine ⟨(by show 2 ≤ sizeLine; decide), fun t ht => ?_⟩
    have S5 : Same H4 (upd H4 t (.tup [.str "alike", .ref l])) := Same.new (Same.refl _) ht
    refine qb t l xs (prsP k3 W.length W.length) _ (S3.trans (S4.trans S5).samT) zab (S5 _ _ hl) (Paired.mapP hp fun _ _ z => z.mono S5.tupK) ⟨zfa _ _ _, Ls3, hbis rfl, lit3, zfO.mpr ⟨h1, h2, hv⟩, fun p => ?_⟩
    rw [zfO]
    constructor
    ·rintro ⟨z1, z2, z3⟩
     exact ⟨z1, z2, (ta3.tl.ok.2.1 _ _ z1 z2).mp z3⟩
    ·rintro ⟨z1, z2, z3⟩
     exact ⟨z1, z2, (ta3.tl.ok.2.1 _ _ z1 z2).mpr z3⟩
   | some v =>
    refine ⟨false, rfl, iteF ?_⟩
    walk_at "rd"
    -- they are told apart
    obtain ⟨y, hy, t1, t2, t3, _⟩ := ta3.tl.ok.2.2 _ _ _ hv
    obtain ⟨ay, dxy, ly, xy, uy, rfl, hay, hly, hsx, _, hoky⟩ := id hy
    refine ⟨fun m σ H' => σ = [some (.ref wd), some (.int one), some (.int other), some (.ref x), some (.ref pr), some (.bl false)] ∧ H' = H3, ⟨0, rfl, rfl⟩, ?_⟩
    rintro m _ H9 ⟨rfl, e9⟩
    have e9 := e9.symm
    subst e9
    walk_at "rd"
    refine iteF (iteF ?_)
    walk_at "rd"
    refine ⟨b, _, rfl, hv ▸ DGet.t (k := k2 one other) ta3.tl.best hpr3, ?_⟩
    walk_at "rd"
    refine ⟨(by show 2 ≤ sizeLine; decide), fun t ht => ?_⟩
    have S4 : Same H3 (upd H3 t (.tup [.str "apart", xy])) := Same.new (Same.refl _) ht
    have hm := zec W Ls3 hw.few
    exact qa t xy y.s _ (S3.trans S4.samT) zab (hsx.mono S4.tupK) hoky.2.1 (by have := hoky.2.2.2.1; omega) t1 t2
  | true =>
   walk_at "rd"
   refine iteT ?_
   walk_at "rd"
   refine ⟨b, _, rfl, DGet.t (k := k2 one other) ta3.tl.best hpr3, ?_⟩
   cases hv : valV k3 (k2 one other) with
   | none =>
    refine ⟨true, rfl, iteT ?_⟩
    refine ⟨fun σ' H' => ∃ m', m' < 2 * (9 - clsL W.length Ls3) + true.toNat ∧ ∃ (lr c3 : Bool) (k3 : List (List Key × V)) (Ls3 : List (List Bool)), σ' = [some (.ref wd), some (.int one), some (.int other), some (.ref x), some (.ref pr), some (.bl lr)] ∧ SamT T H H' ∧ Ta CT CS T pos W H' x dx wd b c3 va k3 Ls3 (zdM W Ls3) ∧ zdn W Ls3 ∧ H' pr = some (.tup ((k2 one other).map kV)) ∧ (lr = false → zl8 W Ls3) ∧ m' = 2 * (9 - clsL W.length Ls3) + lr.toNat, fun _ _ h => h, ?_⟩
    walk_at "rd"
    refine ⟨x, dx, wd, b, c3, va, k3, W, Ls3, rfl, ta3, fun H4 c4 k4 Ls4 S4 ta4 hsub hgt hbi => ?_⟩
    have hle : clsL W.length Ls4 ≤ 9 := Nat.le_trans (zgG _ _) hw.few
    have hmo : clsL W.length Ls3 ≤ clsL W.length Ls4 := zlZ fun i j e => zdv hsub e
    obtain ⟨pt3, hT3⟩ := ta3.tab.tbl
    refine ⟨_, ?_, c4, c4, k4, Ls4, rfl, fun z o n e => ?_, ta4, lit3.more hsub, S4 _ _ ?_ hpr3, hbi, rfl⟩
    ·cases c4 with
     | true =>
      have := hgt rfl
      show 2 * (9 - clsL W.length Ls4) + 1 < 2 * (9 - clsL W.length Ls3) + 1
      omega
     | false =>
      show 2 * (9 - clsL W.length Ls4) + 0 < 2 * (9 - clsL W.length Ls3) + 1
      omega
    ·refine S4 _ _ ?_ (S3 _ _ n e)
     simp [n, zag e hx, zag e hbH]
    ·have n1 := zch hpr3 hT3 (by intro z; cases z)
     have n2 := zch hpr3 ta3.tl.obj (by intro z; cases z)
     have n3 := zch hpr3 ta3.tl.best (by intro z; cases z)
     simp [n1, n2, n3]
   | some v =>
    refine ⟨false, rfl, iteF ?_⟩
    walk_at "rd"
    refine ⟨b, _, rfl, DGet.t (k := k2 one other) ta3.tl.best hpr3, ?_⟩
    rw [hv]
    refine ⟨false, rfl, iteF ?_⟩
    walk_at "rd"
    -- they are told apart
    obtain ⟨y, hy, t1, t2, t3, _⟩ := ta3.tl.ok.2.2 _ _ _ hv
    obtain ⟨ay, dxy, ly, xy, uy, rfl, hay, hly, hsx, _, hoky⟩ := id hy
    refine ⟨fun m σ H' => σ = [some (.ref wd), some (.int one), some (.int other), some (.ref x), some (.ref pr), some (.bl true)] ∧ H' = H3, ⟨0, rfl, rfl⟩, ?_⟩
    rintro m _ H9 ⟨rfl, e9⟩
    have e9 := e9.symm
    subst e9
    walk_at "rd"
    refine iteT ?_
    walk_at "rd"
    refine ⟨b, _, rfl, hv ▸ DGet.t (k := k2 one other) ta3.tl.best hpr3, ?_⟩
    walk_at "rd"
    refine zbO (fun hgt => absurd hgt ?_) (fun _ => ?_)
    ·have := zec W Ls3 hw.few
     omega
    walk_at "rd"
    refine ⟨b, _, rfl, hv ▸ DGet.t (k := k2 one other) ta3.tl.best hpr3, ?_⟩
    walk_at "rd"
    refine ⟨(by show 2 ≤ sizeLine; decide), fun t ht => ?_⟩
    have S4 : Same H3 (upd H3 t (.tup [.str "apart", xy])) := Same.new (Same.refl _) ht
    have hm := zec W Ls3 hw.few
    exact qa t xy y.s _ (S3.trans S4.samT) zab (hsx.mono S4.tupK) hoky.2.1 (by have := hoky.2.2.2.1; omega) t1 t2
end
section
variable {P : Program} {w : World} {K : PySem.W.Frag} {mg : Str → Option Value} {base : Heap} {f : Addr} {fd : FuncData}
theorem zid (D : zaI K mg "_law_matched" zba ["_law_world", "_law_pairs", "_law_here", "_law_there", "_law_ahead"] f fd) (B : Blt mg) : Has P w K mg base "_law_matched" 1 ["_law_world", "_law_pairs", "_law_here", "_law_there", "_law_ahead"] zgc := by
 have nd := zdf.nd
 refine D.has (D.fn.ok zdf (fun vs H Q E h => ?_) (fun cdv A outer s H vs Q E hr h => ?_))
 ·obtain ⟨wd, l, i, j, b, W, xs, ps, rfl, _⟩ := h
  rfl
 ·obtain ⟨wd, l, i, j, b, W, xs, ps, rfl, hw, hl, hp, hi, hj, hm, q⟩ := h
  have huD := zkk (m := 100) hr (by decide)
  obtain ⟨rs, hrs, hpr⟩ := id hw.at_
  obtain ⟨xi, hxi, ⟨ai, li, di, rfl, hi1, hi2, hi3⟩⟩ := Paired.get2 hpr (List.getElem?_eq_getElem hi)
  obtain ⟨xj, hxj, ⟨aj, lj, dj, rfl, hj1, hj2, hj3⟩⟩ := Paired.get2 hpr (List.getElem?_eq_getElem hj)
  have edi : dAt W i = W[i].doors := zc9 (List.getElem?_eq_getElem hi)
  have edj : dAt W j = W[j].doors := zc9 (List.getElem?_eq_getElem hj)
  have hnj : (nts W[j].doors).length = W[j].doors.length := List.length_map _
  refine ⟨_, (zad (zbS PassesOwn.never rfl (zaD K (zaJ (zaz K) (zaJ (zaK K) (pv 0) (pv 2) (fun _ _ => rfl)) zah (fun _ _ => rfl))) (zan (i := 5) nd rfl (Or.inl rfl)) (zad (zay (i := 6) nd rfl (Or.inl rfl) zbB)
    (zad (zbS PassesOwn.never rfl (zaD K (zaJ (zaz K) (zaJ (zaK K) (pv 0) (pv 3) (fun _ _ => rfl)) zah (fun _ _ => rfl))) (zan (i := 7) nd rfl (Or.inl rfl)) (zad (zay (i := 8) nd rfl (Or.inl rfl) (za2 (zaa (pv 7) (zaa (pv 5) zac))))
     (zad (za4 (zbv (pv 4)) (zae (zay (i := 8) nd rfl (Or.inl rfl) (za2 (zaa (pv 5) (zaa (pv 7) zac))))) zaC)
     (zae (zay (i := 6) nd rfl (Or.inl rfl) (zlg (pv 6) (zdZ (zb0 (zmu huD) (pv 8) (pv 1) (by with_unfolding_all rfl)))))))))
    (zae (za4 (zca (zbv (pv 6))) (zae (zaq zbB)) zaC)))))
   (zae (zaq zbB))), ?_⟩
  walk_at "rd0"
  walk_at "rd"
  refine zbt (SqL.of hrs) (zcj hxi) ?_
  walk_at "rd"
  refine zbA (K := K) (a := di) (xs := nts W[i].doors) (fun k σ H1 => ∃ o5 o6 o7 o8 : Option V, σ = [some (.ref wd), some (.ref l), some (.int i), some (.int j), some (.bl b), o5, o6, o7, o8] ∧ Same H H1)
   ⟨none, none, none, none, rfl, Same.refl _⟩ (fun k σ H1 _ ⟨_, _, _, _, _, S1⟩ => SqL.of (S1 _ _ hi3)) ?_ ?_
  ·rintro k x σ H1 hk ⟨o5, o6, o7, o8, rfl, S1⟩
   obtain ⟨x1, hx1, rfl⟩ := zcy hk
   have hrs1 := S1 _ _ hrs
   have hj11 := S1 _ _ hj1
   have hj31 := S1 _ _ hj3
   walk_at "rd"
   refine zbt (SqL.of hrs1) (zcj hxj) ?_
   walk_at "rd"
   refine zbA (K := K) (a := dj) (xs := nts W[j].doors) (fun n σ H2 => ∃ o7 o8 : Option V, σ = [some (.ref wd), some (.ref l), some (.int i), some (.int j), some (.bl b), some (.int x1), some (.bl ((W[j].doors.take n).any fun y => decide (prB b x1 y ∈ ps))), o7, o8] ∧ Same H H2)
    ⟨o7, o8, rfl, S1⟩ (fun n σ H2 _ ⟨_, _, _, S2⟩ => SqL.of (S2 _ _ hj3)) ?_ ?_
   ·rintro n y σ H2 hn ⟨o7, o8, rfl, S2⟩
    obtain ⟨y1, hy1, rfl⟩ := zcy hn
    walk_at "rd"
    refine ⟨(by show 2 ≤ sizeLine; decide), fun p1 hp1 => ?_⟩
    have S3 : Same H2 (upd H2 p1 (.tup [.int y1, .int x1])) := Same.new (Same.refl _) hp1
    have h31 : (upd H2 p1 (.tup [.int y1, .int x1])) p1 = some (.tup [.int y1, .int x1]) := zab
    generalize upd H2 p1 (.tup [.int y1, .int x1]) = H3 at S3 h31 ⊢
    walk_at "rd"
    have ex : ((W[j].doors.take (n + 1)).any fun y => decide (prB b x1 y ∈ ps)) = (((W[j].doors.take n).any fun y => decide (prB b x1 y ∈ ps)) || decide (prB b x1 y1 ∈ ps)) := by
     rw [List.take_add_one, hy1, List.any_append]; simp
    cases b with
    | false =>
     refine iteF ?_
     walk_at "rd"
     rw [ex]
     cases hb : (W[j].doors.take n).any fun y => decide (prB false x1 y ∈ ps) with
     | true =>
      refine iteT ?_
      walk_at "rd"
      exact ⟨_, _, rfl, S2.trans S3⟩
     | false =>
      refine iteF ?_
      walk_at "rd"
      refine zgZ (p := prB false x1 y1) ((S2.trans S3) _ _ hl) (Paired.mapP hp fun _ _ z => z.mono (S2.trans S3).tupK) ⟨p1, rfl, h31⟩ (by decide) ?_
      walk_at "rd"
      exact ⟨_, _, rfl, S2.trans S3⟩
    | true =>
     refine iteT ?_
     walk_at "rd"
     refine ⟨(by show 2 ≤ sizeLine; decide), fun p2 hp2 => ?_⟩
     have S4 : Same H3 (upd H3 p2 (.tup [.int x1, .int y1])) := Same.new (Same.refl _) hp2
     have h42 : (upd H3 p2 (.tup [.int x1, .int y1])) p2 = some (.tup [.int x1, .int y1]) := zab
     generalize upd H3 p2 (.tup [.int x1, .int y1]) = H4 at S4 h42 ⊢
     have S24 := S2.trans (S3.trans S4)
     walk_at "rd"
     rw [ex]
     cases hb : (W[j].doors.take n).any fun y => decide (prB true x1 y ∈ ps) with
     | true =>
      refine iteT ?_
      walk_at "rd"
      exact ⟨_, _, rfl, S24⟩
     | false =>
      refine iteF ?_
      walk_at "rd"
      refine zgZ (p := prB true x1 y1) (S24 _ _ hl) (Paired.mapP hp fun _ _ z => z.mono S24.tupK) ⟨p2, rfl, h42⟩ (by decide) ?_
      walk_at "rd"
      exact ⟨_, _, rfl, S24⟩
   ·rintro σ H2 ⟨o7, o8, rfl, S2⟩
    rw [hnj, List.take_length]
    have ht : (W[j].doors.any fun y => decide (prB b x1 y ∈ ps)) = true := by
     obtain ⟨y, hy, e⟩ := hm x1 (by rw [edi]; exact List.mem_of_getElem? hx1)
     rw [edj] at hy
     exact List.any_eq_true.mpr ⟨y, hy, decide_eq_true e⟩
    rw [ht]
    walk_at "rd"
    refine iteF ?_
    walk_at "rd"
    exact ⟨_, _, _, _, rfl, S2⟩
  ·rintro σ H1 ⟨o5, o6, o7, o8, rfl, S1⟩
   walk_at "rd"
   exact q H1 S1
end
section
variable {P : Program} {w : World} {K : PySem.W.Frag} {mg : Str → Option Value} {base : Heap} {f : Addr} {fd : FuncData}
theorem zg4 (D : zaI K mg "_law_are_alike" zaT ["_law_world", "_law_pairs", "_law_one", "_law_other"] f fd) (B : Blt mg) (m_sorted : mg "sorted" = none) (m_set : mg "set" = none)
  (h__law_whole : Has P w K mg base "_law_whole" 1 ["_law_found"] zfz) (h__law_matched : Has P w K mg base "_law_matched" 1 ["_law_world", "_law_pairs", "_law_here", "_law_there", "_law_ahead"] zgc) : Has P w K mg base "_law_are_alike" 2 ["_law_world", "_law_pairs", "_law_one", "_law_other"] ze7 := by
 have nd := zcS.nd
 refine D.has (D.fn.ok zcS (fun vs H Q E h => ?_) (fun cdv A outer s H vs Q E hr h => ?_))
 ·obtain ⟨wd, l, one, other, W, xs, ps, rfl, _⟩ := h
  rfl
 ·obtain ⟨wd, l, one, other, W, xs, ps, rfl, hw, hln, hl, hp, hA, q⟩ := h
  have huD := zkk (m := 100) hr (by decide)
  have hu20 := zkk (m := 20) hr (by decide)
  have hf := hw.few
  obtain ⟨hpl, hp9⟩ := zkK hf hA
  obtain ⟨hnd, Ls, hbis, hlit, hin, hmem⟩ := id hA
  have lxp := Paired.length hp
  refine ⟨_, (zad (za4 (zca (zbv (zak (zaR K) rfl B.isinstance PyProof.Rows.boot_isinstance (zaa (pv 1) (zaa (zbG (v := .ty "list") rfl B.list_ PySem.Pv.boot_list rfl) zac))))) (zae (zaq zbB)) zaC)
   (zad (zbS PassesOwn.never rfl (zaD K (pv 1)) (zan (i := 4) nd rfl (Or.inl rfl)) (zad (za4 (PW.pt (zda (zca (zbv (zak (zaR K) rfl B.isinstance PyProof.Rows.boot_isinstance (zaa (pv 4) (zaa (zbG (v := .ty "tuple") rfl B.tuple_ PySem.Pv.boot_tuple rfl) zac))))) (zcJ (zat zen (zak (zax K) rfl B.len PySem.boot_len (zaa (pv 4) zac)) zah (zaF _))))) (zae (zaq zbB)) zaC)
    (zae (zbS PassesOwn.never rfl (znl K (pv 4)) (zan (i := 5) nd rfl (Or.inl rfl)) (zae (za4 (PW.pt (zda (zca (zbv (zaj h__law_whole hr (zaa (pv 5) zac)))) (zda (zat zib (pv 5) zah (zaF _)) (zcJ (zat zp3 (pv 5) (zak (zax K) rfl B.len PySem.boot_len (zaa (pv 0) zac)) (zaF _)))))) (zae (zaq zbB)) zaC))))))
   (zad (zbS PassesOwn.never rfl (zaD K (pv 1)) (zcx (n := 2) K rfl (zaU (zan (i := 6) nd rfl (Or.inl rfl)) (zaU (zan (i := 7) nd rfl (Or.inl rfl)) zcw))) (zad (za4 (zat (zpe huD) (zak (zfs K) rfl m_sorted PyProof.Rows.boot_sorted (zaa (zaJ (zaz K) (zaJ (zaK K) (pv 0) (pv 6) (fun _ _ => rfl)) zah (fun _ _ => rfl)) zac)) (zak (zfs K) rfl m_sorted PyProof.Rows.boot_sorted (zaa (zaJ (zaz K) (zaJ (zaK K) (pv 0) (pv 7) (fun _ _ => rfl)) zah (fun _ _ => rfl)) zac)) (zaF _)) (zae (zaq zbB)) zaC)
    (zad (za4 (zca (zbv (zaj h__law_matched hr (zaa (pv 0) (zaa (pv 1) (zaa (pv 6) (zaa (pv 7) (zaa zbB zac)))))))) (zae (zaq zbB)) zaC)
    (zae (za4 (zca (zbv (zaj h__law_matched hr (zaa (pv 0) (zaa (pv 1) (zaa (pv 7) (zaa (pv 6) (zaa zbB zac)))))))) (zae (zaq zbB)) zaC)))))
   (zae (zaq (zgk (zb0 (zmu huD) (za2 (zaa (pv 2) (zaa (pv 3) zac))) (pv 1) (by with_unfolding_all rfl)) (zdZ (zb0 zdL (zak zhg rfl B.len PySem.boot_len (zaa (zbW (zkB K hu20) rfl m_set PySem.Pv.boot_set (zaa (pv 1) zac)) zac)) (zak (zax K) rfl B.len PySem.boot_len (zaa (pv 1) zac)) (zaF _))))))))), ?_⟩
  walk_at "rd0"
  walk_at "rd"
  refine za3 (.lst hl) zj7 ?_
  first | refine ⟨true, rfl, iteF ?_⟩ | refine iteF ?_
  walk_at "rd"
  refine zbA (K := K) (a := l) (xs := xs) (fun k σ H1 => ∃ o4 o5 : Option V, σ = [some (.ref wd), some (.ref l), some (.int one), some (.int other), o4, o5, none, none] ∧ Same H H1)
   ⟨none, none, rfl, Same.refl _⟩ (fun k σ H1 _ ⟨_, _, _, S1⟩ => SqL.of (S1 _ _ hl)) ?_ ?_
  ·rintro k x σ H1 hk ⟨o4, o5, rfl, S1⟩
   obtain ⟨p, hpk, t, rfl, ht⟩ := Paired.get1 hp hk
   have ht1 := S1 _ _ ht
   have hpm := (hmem p).mp (List.mem_of_getElem? hpk)
   obtain ⟨rs1, hrs1, hpr1⟩ := id (hw.mono S1).at_
   have lrs1 := Paired.length hpr1
   walk_at "rd"
   refine za3 (.tup ht1) zfj ?_
   first | refine ⟨true, rfl, iteF ?_⟩ | refine iteF ?_
   walk_at "rd"
   refine iteF ?_
   refine ⟨.ref t, rfl, t, rfl, ⟨_, SqT.of ht1⟩, ?_⟩
   refine zn7 (K := K) (a := t) (xs := [.int p.1, .int p.2]) (fun k σ H2 => ∃ o5 : Option V, σ = [some (.ref wd), some (.ref l), some (.int one), some (.int other), some (.ref t), o5, none, none] ∧ Same H H2)
    ⟨o5, rfl, S1⟩ (fun k σ H2 _ ⟨_, _, S2⟩ => SqT.of (S2 _ _ ht)) ?_ ?_
   ·rintro k x σ H2 hk ⟨o5, rfl, S2⟩
    have hx : ∃ n : Nat, x = .int n ∧ n < W.length := by
     match k, hk with
     | 0, hk => exact ⟨p.1, (Option.some.inj hk).symm, hpm.1⟩
     | 1, hk => exact ⟨p.2, (Option.some.inj hk).symm, hpm.2.1⟩
    obtain ⟨n, rfl, hn⟩ := hx
    obtain ⟨rs2, hrs2, hpr2⟩ := id (hw.mono S2).at_
    have lrs2 := Paired.length hpr2
    walk_at "rd"
    refine ⟨n, rfl, ?_⟩
    walk_at "rd"
    first | refine ⟨true, rfl, iteF ?_⟩ | refine iteF ?_
    walk_at "rd"
    refine zbO (fun z => absurd z (by omega)) (fun _ => ?_)
    walk_at "rd"
    refine zbO (fun z => absurd z (by omega)) (fun _ => ?_)
    walk_at "rd"
    exact ⟨_, rfl, S2⟩
   ·rintro σ H2 ⟨o5, rfl, S2⟩
    exact ⟨_, _, rfl, S2⟩
  ·rintro σ H1 ⟨o4, o5, rfl, S1⟩
   have hl1 := S1 _ _ hl
   walk_at "rd"
   refine zbA (K := K) (a := l) (xs := xs) (fun k σ H2 => ∃ o6 o7 : Option V, σ = [some (.ref wd), some (.ref l), some (.int one), some (.int other), o4, o5, o6, o7] ∧ Same H H2)
    ⟨none, none, rfl, S1⟩ (fun k σ H2 _ ⟨_, _, _, S2⟩ => SqL.of (S2 _ _ hl)) ?_ ?_
   ·rintro k x σ H2 hk ⟨o6, o7, rfl, S2⟩
    obtain ⟨p, hpk, t, rfl, ht⟩ := Paired.get1 hp hk
    have ht2 := S2 _ _ ht
    have hpm := (hmem p).mp (List.mem_of_getElem? hpk)
    walk_at "rd"
    obtain ⟨rs2, hrs2, hpr2⟩ := id (hw.mono S2).at_
    obtain ⟨x1, hx1, ⟨a1, l1, d1, rfl, e11, e12, e13⟩⟩ := Paired.get2 hpr2 (List.getElem?_eq_getElem hpm.1)
    obtain ⟨x2, hx2, ⟨a2, l2, d2, rfl, e21, e22, e23⟩⟩ := Paired.get2 hpr2 (List.getElem?_eq_getElem hpm.2.1)
    have m1 : W[p.1] ∈ W := List.getElem_mem hpm.1
    have m2 : W[p.2] ∈ W := List.getElem_mem hpm.2.1
    have hl1 := (hw.lits _ m1).1
    have hl2 := (hw.lits _ m2).1
    have hpe : W[p.1].lit.Perm W[p.2].lit := zek (hln _ m1) (hln _ m2) fun k => by
     have := hlit _ _ hpm.1 hpm.2.1 hpm.2.2 k
     rw [zdt (List.getElem?_eq_getElem hpm.1), zdt (List.getElem?_eq_getElem hpm.2.1)] at this
     rw [← List.contains_iff_mem, ← List.contains_iff_mem, this]
    refine zbt (SqL.of hrs2) (zcj hx1) ?_
    walk_at "rd"
    refine ⟨l1, W[p.1].lit, rfl, SqL.of e12, by omega, fun s1 ms1 hs1 pe1 so1 => ?_⟩
    have S3 : Same H2 (upd H2 s1 (.lst (ms1.map V.int))) := Same.new (Same.refl _) hs1
    have h3s : (upd H2 s1 (.lst (ms1.map V.int))) s1 = some (.lst (ms1.map V.int)) := zab
    generalize upd H2 s1 (.lst (ms1.map V.int)) = H3 at S3 h3s ⊢
    have hrs3 := S3 _ _ hrs2
    have e213 := S3 _ _ e21
    have e223 := S3 _ _ e22
    walk_at "rd"
    refine zbt (SqL.of hrs3) (zcj hx2) ?_
    walk_at "rd"
    refine ⟨l2, W[p.2].lit, rfl, SqL.of e223, by omega, fun s2 ms2 hs2 pe2 so2 => ?_⟩
    have S4 : Same H3 (upd H3 s2 (.lst (ms2.map V.int))) := Same.new (Same.refl _) hs2
    have h4s : (upd H3 s2 (.lst (ms2.map V.int))) s2 = some (.lst (ms2.map V.int)) := zab
    generalize upd H3 s2 (.lst (ms2.map V.int)) = H4 at S4 h4s ⊢
    have ems : ms1 = ms2 := zgf so1 so2 (pe1.trans (hpe.trans pe2.symm))
    subst ems
    have lms : ms1.length ≤ 3 := by rw [pe1.length_eq]; exact hl1
    walk_at "rd"
    have hdep : (PyData.list (ms1.map PyData.int)).depth ≤ 2 := by
     simp only [PyData.depth, zfo]; omega
    refine zoO (zbU.lst (S4 _ _ h3s) (zee _ _)) (zbU.lst h4s (zee _ _)) (zeq _) (zeq _) (by omega) ?_
    rw [show PyData.eqv (.list (ms1.map PyData.int)) (.list (ms1.map PyData.int)) = true from SeqAt.eqv_refl _ (zeq _)]
    refine ⟨false, rfl, iteF ?_⟩
    have S24 := S2.trans (S3.trans S4)
    have hp4 : Paired (PrAt H4) xs ps := Paired.mapP hp fun _ _ z => z.mono S24.tupK
    walk_at "rd"
    refine ⟨wd, l, p.1, p.2, true, W, xs, ps, rfl, hw.mono S24, S24 _ _ hl, hp4, hpm.1, hpm.2.1, fun x hx => ?_, fun H5 S5 => ?_⟩
    ·obtain ⟨d, hd, e⟩ := hbis _ _ hpm.1 hpm.2.1 hpm.2.2 x hx
     exact ⟨d, hd, (hmem _).mpr ⟨zcV hw.valid hx, zcV hw.valid hd, e⟩⟩
    walk_at "rd"
    first | refine ⟨true, rfl, iteF ?_⟩ | refine iteF ?_
    have S25 := S24.trans S5
    have hp5 : Paired (PrAt H5) xs ps := Paired.mapP hp fun _ _ z => z.mono S25.tupK
    walk_at "rd"
    refine ⟨wd, l, p.2, p.1, false, W, xs, ps, rfl, hw.mono S25, S25 _ _ hl, hp5, hpm.2.1, hpm.1, fun x hx => ?_, fun H6 S6 => ?_⟩
    ·obtain ⟨d, hd, e⟩ := hbis _ _ hpm.2.1 hpm.1 ((zb3 Ls).symm hpm.2.2) x hx
     exact ⟨d, hd, (hmem _).mpr ⟨zcV hw.valid hd, zcV hw.valid hx, (zb3 Ls).symm e⟩⟩
    walk_at "rd"
    first | refine ⟨true, rfl, iteF ?_⟩ | refine iteF ?_
    walk_at "rd"
    exact ⟨_, _, rfl, S25.trans S6⟩
   ·rintro σ H2 ⟨o6, o7, rfl, S2⟩
    have hl2 := S2 _ _ hl
    have hp2 : Paired (PrAt H2) xs ps := Paired.mapP hp fun _ _ z => z.mono S2.tupK
    walk_at "rd"
    refine ⟨(by show 2 ≤ sizeLine; decide), fun pr hpr => ?_⟩
    have S3 : Same H2 (upd H2 pr (.tup [.int one, .int other])) := Same.new (Same.refl _) hpr
    have h3p : (upd H2 pr (.tup [.int one, .int other])) pr = some (.tup [.int one, .int other]) := zab
    generalize upd H2 pr (.tup [.int one, .int other]) = H3 at S3 h3p ⊢
    have hl3 := S3 _ _ hl2
    have hp3 : Paired (PrAt H3) xs ps := Paired.mapP hp2 fun _ _ z => z.mono S3.tupK
    walk_at "rd"
    refine zgZ (p := (one, other)) hl3 hp3 ⟨pr, rfl, h3p⟩ (by decide) ?_
    rw [decide_eq_true hin]
    refine ⟨true, rfl, iteT ?_⟩
    walk_at "rd"
    refine ⟨l, xs, ps, rfl, SqL.of hl3, hp3, hnd, hpl, hp9, fun S o hS hN => ?_⟩
    have S4 : Same H3 (upd H3 S (kn S o)) := Same.new (Same.refl _) hS
    have h4S : (upd H3 S (kn S o)) S = some (kn S o) := zab
    generalize upd H3 S (kn S o) = H4 at S4 h4S ⊢
    have hl4 := S4 _ _ hl3
    walk_at "rd"
    refine ⟨S, o, ps.length, rfl, h4S, hN, by omega, ?_⟩
    walk_at "rd"
    rw [lxp, decide_eq_true rfl]
    exact q H4 (S2.trans (S3.trans S4))
end
section
variable {P : Program} {w : World} {K : PySem.W.Frag} {mg : Str → Option Value} {base : Heap} {f : Addr} {fd : FuncData}
theorem znF (D : zaI K mg "_law_draw" zbL ["_law_number", "_law_prime", "_law_many"] f fd) : Has P w K mg base "_law_draw" 1 ["_law_number", "_law_prime", "_law_many"] zmn := by
 have nd := zei.nd
 refine D.has (D.fn.ok zei (fun vs H Q E h => ?_) (fun cdv A outer s H vs Q E hr h => ?_))
 ·obtain ⟨n, p, m, rfl, _⟩ := h
  rfl
 ·obtain ⟨n, p, m, rfl, hp, hm, q⟩ := h
  refine ⟨_, (zae (zaq (zbd zcm (zbd zcm (zbd zel (pv 0) zah) (pv 1)) (pv 2)))), ?_⟩
  walk_at "rd0"
  walk_at "rd"
  exact q
theorem zny (D : zaI K mg "_law_twin_world" zaP ["_law_count", "_law_first", "_law_second"] f fd) (B : Blt mg) (h__law_draw : Has P w K mg base "_law_draw" 1 ["_law_number", "_law_prime", "_law_many"] zmn) :
  Has P w K mg base "_law_twin_world" 2 ["_law_count", "_law_first", "_law_second"] zmg := by
 have nd := zcF.nd
 refine D.has (D.fn.ok zcF (fun vs H Q E h => ?_) (fun cdv A outer s H vs Q E hr h => ?_))
 ·obtain ⟨n, x, y, rfl, _⟩ := h
  rfl
 ·obtain ⟨n, x, y, rfl, hn, q⟩ := h
  refine ⟨_, (zad (zay (i := 3) nd rfl (Or.inl rfl) (zbe zac))
   (zad (zbS PassesOwn.never rfl (zcg rfl B.range (zaa (pv 0) zac)) (zan (i := 4) nd rfl (Or.inl rfl)) (zad (zay (i := 5) nd rfl (Or.inl rfl) (pv 4))
    (zad (za4 (zat zgm (zbd zcm (pv 1) zah) zah (zaF _)) (zae (zay (i := 5) nd rfl (Or.inl rfl) (zbd zcm (pv 4) zah))) zaC)
    (zad (zay (i := 6) nd rfl (Or.inl rfl) (zbe zac))
    (zad (zay (i := 7) nd rfl (Or.inl rfl) (zbe zac))
    (zad (zbS PassesOwn.never rfl (zjL rfl B.range (zaa zah (zaa zah zac))) (zan (i := 8) nd rfl (Or.inl rfl)) (zae (za4 (zat zdL (zaj h__law_draw hr (zaa (zbd zcn (zbd zcn (pv 1) (zbd zel zah (pv 5))) (zbd zel zah (pv 8))) (zaa zah (zaa zah zac)))) zah (zaF _)) (zad (zay (i := 9) nd rfl (Or.inl rfl) (zbd zcm (zbd zcn (pv 1) (pv 4)) (zbd zcn (zak (zax K) rfl B.len PySem.boot_len (zaa (pv 6) zac)) zah)))
      (zae (zbc (zcb K PySem.F.plainAttrs_list PySem.F.slot_list_insert PySem.F.type_list_insert zgp (pv 6) (zaa (pv 9) (zaa (zaJ (zaK K) (zbe (zaa zah (zaa zah zac))) (zbd zpb (pv 8) zah) (fun _ _ => rfl)) zac)))))) zaC)))
    (zad (zbS PassesOwn.never rfl (zcg rfl B.range (zaa (pv 0) zac)) (zan (i := 10) nd rfl (Or.inl rfl)) (zae (za4 (zat zgm (zaj h__law_draw hr (zaa (zbd zcn (zbd zcn (pv 2) (zbd zel zah (pv 5))) (zbd zel zah (zbd zcm (pv 10) zah))) (zaa zah (zaa zah zac)))) zah (zaF _)) (zae (zbc (zcb K PySem.F.plainAttrs_list PySem.F.slot_list_insert PySem.F.type_list_insert zgp (pv 7) (zaa (zbd zcm (zbd zcn (zbd zcn (pv 2) (zbd zel zah (pv 4))) (zbd zel zah (pv 10))) (zbd zcn (zak (zax K) rfl B.len PySem.boot_len (zaa (pv 7) zac)) zah)) (zaa (pv 10) zac))))) zaC)))
    (zae (zbc (zcb K PySem.F.plainAttrs_list PySem.F.slot_list_append PySem.F.type_list_append zbC (pv 3) (zaa (za2 (zaa (pv 6) (zaa (pv 7) zac))) zac)))))))))))
   (zae (zaq (pv 3))))), ?_⟩
  walk_at "rd0"
  walk_at "rd"
  refine ⟨(by show 0 ≤ sizeLine; decide), fun wd hwd => ?_⟩
  walk_at "rd"
  refine zd5 (by omega) (fun i σ H1 => ∃ (rs : List V) (W : List Rm) (o4 o5 o6 o7 o8 o9 o10 : Option V), σ = [some (.int n), some (.int x), some (.int y), some (.ref wd), o4, o5, o6, o7, o8, o9, o10] ∧ Same H H1 ∧ H1 wd = some (.lst rs) ∧ Paired (RmD wd H1) rs W ∧ W.length = i ∧ zf1 n W ∧ zix W)
   ⟨[], [], none, none, none, none, none, none, none, rfl, by walk_at "sm", zab, .nil, rfl, (fun r h => by cases h), fun r h => by cases h⟩ ?_ ?_
  ·rintro i σ H1 hi ⟨rs, W, o4, o5, o6, o7, o8, o9, o10, rfl, S1, hw1, hpr, hwl, hsm, hlo⟩
   have hrl := Paired.length hpr
   walk_at "rd"
   refine zbO (fun _ => ?_) (fun _ => ?_)
   all_goals (
   walk_at "rd"
   refine ⟨(by show 0 ≤ sizeLine; decide), fun l hl => ?_⟩
   walk_at "rd"
   refine ⟨(by show 0 ≤ sizeLine; decide), fun d hd => ?_⟩
   have hd1 : H1 d = none := (zdq hd).1
   have ndl : d ≠ l := (zdq hd).2
   have nlw : wd ≠ l := zag hw1 hl
   have ndw : wd ≠ d := zag hw1 hd1
   walk_at "rd"
   refine zlS (lo := 1) (hi := 3) (n := 2) (by omega) (by omega) rfl (fun j σ H2 => ∃ (kd : Int) (lit : List Int) (o8 o9 : Option V), σ = [some (.int n), some (.int x), some (.int y), some (.ref wd), some (.int i), some (.int kd), some (.ref l), some (.ref d), o8, o9, o10] ∧ Same H1 H2 ∧ H2 l = some (.lst (lit.map V.int)) ∧ H2 d = some (.lst []) ∧ lit.length ≤ j ∧ lit.Nodup ∧ ∀ k ∈ lit, (k = 1 ∧ 0 < j) ∨ (k = 1000000007 ∧ 1 < j))
    ⟨_, [], _, _, rfl, by walk_at "sm", za6 hd zab, zab, Nat.le_refl _, List.nodup_nil, fun k h => by cases h⟩ ?_ ?_
   ·rintro j σ H2 hj ⟨kd, lit, o8, o9, rfl, S2, hl2, hd2, hll, hnd, hlk⟩
    have hlm : (lit.map V.int).length = lit.length := List.length_map _
    walk_at "rd"
    refine ⟨_, _, _, rfl, by decide, by decide, ?_⟩
    walk_at "rd"
    refine zbO (fun _ => ?_) (fun _ => ?_)
    ·walk_at "rd"
     refine ⟨(by show 2 ≤ sizeLine; decide), fun p hp => ?_⟩
     walk_at "rd"
     have hlm' : ∃ v : Int, atI [V.int 1, V.int 1000000007] (1 + (j : Int) - 1) = some (.int v) ∧ ((j = 0 ∧ v = 1) ∨ (j = 1 ∧ v = 1000000007)) := by
      rcases (show j = 0 ∨ j = 1 by omega) with rfl | rfl
      ·exact ⟨1, zcj (j := 0) rfl, .inl ⟨rfl, rfl⟩⟩
      ·exact ⟨1000000007, zcj (j := 1) rfl, .inr ⟨rfl, rfl⟩⟩
     obtain ⟨v, hv, hvj⟩ := hlm'
     refine zbt (SqL.of zab) hv ?_
     walk_at "rd"
     have hlp : (upd H2 p (.lst [.int 1, .int 1000000007])) l = some (.lst (lit.map V.int)) := za6 hp hl2
     have hm := zmv (x + (i : Int)) (lit.map V.int).length
     refine zgh hlp hm.1 hm.2 (zcc (by omega)) ?_
     rw [zki]
     have hvn : v ∉ lit := fun z => by
      rcases hlk v z with ⟨e1, e2⟩ | ⟨e1, e2⟩ <;> omega
     refine ⟨_, _, _, _, rfl, (S2.new hp).set hl, zab, zcC ndl (za6 hp hd2), ?_, zkg _ hnd hvn, fun k m => ?_⟩
     ·rw [zkj]
      omega
     ·rcases zkh m with e | m
      ·omega
      ·rcases hlk k m with e | e <;> omega
    ·walk_at "rd"
     exact ⟨kd, lit, _, _, rfl, S2, hl2, hd2, by omega, hnd, fun k m => by rcases hlk k m with e | e <;> omega⟩
   ·rintro σ H2 ⟨kd, lit, o8, o9, rfl, S2, hl2, hd2, hll, hnd, hlk⟩
    walk_at "rd"
    refine zd5 (by omega) (fun j σ H3 => ∃ (ds : List Nat) (o10 : Option V), σ = [some (.int n), some (.int x), some (.int y), some (.ref wd), some (.int i), some (.int kd), some (.ref l), some (.ref d), o8, o9, o10] ∧ Same H1 H3 ∧ H3 l = some (.lst (lit.map V.int)) ∧ H3 d = some (.lst (nts ds)) ∧ ds.length ≤ j ∧ ∀ z ∈ ds, z < n)
     ⟨[], _, rfl, S2, hl2, hd2, Nat.le_refl _, fun z h => by cases h⟩ ?_ ?_
    ·rintro j σ H3 hj ⟨ds, o10, rfl, S3, hl3, hd3, hdl, hdn⟩
     have hlm : (nts ds).length = ds.length := List.length_map _
     walk_at "rd"
     refine ⟨_, _, _, rfl, by decide, by decide, ?_⟩
     walk_at "rd"
     refine zbO (fun _ => ?_) (fun _ => ?_)
     ·walk_at "rd"
      have hm := zmv (y + 3 * (i : Int) + 5 * (j : Int)) (nts ds).length
      refine zgh hd3 hm.1 hm.2 (zcc (by omega)) ?_
      rw [zki (fun (d : Nat) => V.int (d : Int))]
      refine ⟨_, _, rfl, S3.set hd1, zcC ndl.symm hl3, zab, ?_, fun z m => ?_⟩
      ·rw [zkj]
       omega
      ·rcases zkh m with e | m
       ·omega
       ·exact hdn z m
     ·walk_at "rd"
      exact ⟨ds, _, rfl, S3, hl3, hd3, by omega, hdn⟩
    ·rintro σ H3 ⟨ds, o10, rfl, S3, hl3, hd3, hdl, hdn⟩
     have hw3' := S3 _ _ hw1
     walk_at "rd"
     refine ⟨(by show 2 ≤ sizeLine; decide), fun t ht => ?_⟩
     walk_at "rd"
     have hw3 : (upd H3 t (.tup [.ref l, .ref d])) wd = some (.lst rs) := za6 ht (S3 _ _ hw1)
     refine zbN hw3 (zcc (by omega)) ?_
     have S4 : Same H1 (upd H3 t (.tup [.ref l, .ref d])) := S3.new ht
     have T5 : TupK (upd H3 t (.tup [.ref l, .ref d])) (upd (upd H3 t (.tup [.ref l, .ref d])) wd (.lst (rs ++ [.ref t]))) := TupK.lst (TupK.refl _) hw3
     refine ⟨_, W ++ [⟨lit, ds⟩], _, _, _, _, _, _, _, rfl, (S1.trans S4).set hwd, zab, Paired.snoc (zht (zht hpr S4.sameD S4.tupK) zcv T5) ⟨t, l, d, rfl, nlw.symm, ndw.symm, T5 _ _ zab, zcC nlw.symm (za6 ht hl3), zcC ndw.symm (za6 ht hd3)⟩, by simp [hwl], fun r m => ?_, fun r m => ?_⟩
     ·rcases List.mem_append.mp m with m | m
      ·exact hsm r m
      ·rw [List.mem_singleton.mp m]
       exact ⟨hdn, hdl, (by show lit.length ≤ 3; omega)⟩
     ·rcases List.mem_append.mp m with m | m
      ·exact hlo r m
      ·rw [List.mem_singleton.mp m]
       exact ⟨hnd, fun k hk => by rcases hlk k hk with e | e <;> omega⟩)
  ·rintro σ H1 ⟨rs, W, o4, o5, o6, o7, o8, o9, o10, rfl, S1, hw1, hpr, hwl, hsm, hlo⟩
   walk_at "rd"
   exact q wd W H1 S1 hwd ⟨rs, hw1, Paired.mapP hpr fun _ _ z => z.rm⟩ hwl hsm hlo
end
section
variable {P : Program} {w : World} {K : PySem.W.Frag} {mg : Str → Option Value} {base : Heap} {f : Addr} {fd : FuncData}
theorem zly {T : Addr} {pos : Pos} (D : zaI K mg "law" zeE ["_law_script"] f fd) (B : Blt mg) (m_sum : mg "sum" = none) (h__law_at : Has P w K mg base "_law_at" 1 ["_law_script", "_law_k"] (spAt K)) (h__law_twin_world : Has P w K mg base "_law_twin_world" 2 ["_law_count", "_law_first", "_law_second"] zmg)
  (h__law_plain_kinds : Has P w K mg base "_law_plain_kinds" 1 [] (zi6 zea)) (h__law_grown : Has P w K mg base "_law_grown" 3 ["_law_cells", "_law_world", "_law_kinds"] (zi9 false)) (h__law_far_by : Has P w K mg base "_law_far_by" 1 ["_law_cell"] zoz)
  (h__law_moved_world : Has P w K mg base "_law_moved_world" 1 ["_law_world", "_law_far"] zhq) (h__law_copy_of : Has P w K mg base "_law_copy_of" 1 ["_law_world"] zmp) (h_told_apart : Has P w K mg base "told_apart" 8 ["world", "one", "other"] (zmh T pos)) (h__law_the_same : Has P w K mg base "_law_the_same" 2 ["_law_found", "_law_due"] zmj)
  (h__law_is_plain : Has P w K mg base "_law_is_plain" 2 ["_law_found"] zgd) (h__law_truths_of : Has P w K mg base "_law_truths_of" 3 ["_law_world", "_law_statement"] zhp) (h__law_are_alike : Has P w K mg base "_law_are_alike" 2 ["_law_world", "_law_pairs", "_law_one", "_law_other"] ze7) : FnOk P w K mg base CX0 9 f fd ["_law_script"] (zhr K T) := by
 have nd := zmq.nd
 refine D.fn.ok zmq (fun vs H Q E h => ?_) (fun cdv A outer s H vs Q E hr h => ?_)
 ·obtain ⟨a, ns, rfl, _⟩ := h
  rfl
 ·obtain ⟨a, ns, rfl, hS, hl, hT, q⟩ := h
  refine ⟨_, (zad (zay (i := 1) nd rfl (Or.inl rfl) (zaj h__law_at hr (zaa (pv 0) (zaa zah zac))))
   (zad (zay (i := 2) nd rfl (Or.inl rfl) (zaJ (zaK K) (zbe (zaa (zbd zcn zah (zbd zcm (zbd zfL (pv 1) zah) zah)) (zaa zah zac))) (zbW zkD rfl B.int_ PySem.Pv.boot_int (zaa (zlg (zb0 zgm (zak (zax K) rfl B.len PySem.boot_len (zaa (pv 0) zac)) zah (zaF _)) (zdZ (zb0 zdL (zbd zcm (zak (zkz K) rfl m_sum PyProof.Rows.boot_sum (zaa (zdY (zfC K) (pv 0) zeG (zcY zah)) zac)) zah) zah (zaF _)))) zac)) (fun _ _ => rfl)))
   (zad (zay (i := 3) nd rfl (Or.inl rfl) (zaj h__law_twin_world hr (zaa (pv 2) (zaa (zbd zfL (pv 1) zah) (zaa (zaj h__law_at hr (zaa (pv 0) (zaa zah zac))) zac)))))
   (zad (zay (i := 4) nd rfl (Or.inl rfl) (zbd zcm (zaj h__law_at hr (zaa (pv 0) (zaa zah zac))) (pv 2)))
   (zad (zay (i := 5) nd rfl (Or.inl rfl) (zbd zcm (zbd zcn (pv 4) (zbd zfL (zaj h__law_at hr (zaa (pv 0) (zaa zah zac))) zah)) (pv 2)))
   (zad (zay (i := 6) nd rfl (Or.inl rfl) (zaJ (zaz K) (zaj h__law_grown hr (zaa (zdY (zfC K) (pv 0) (zcY zah) (zcY zah)) (zaa (pv 3) (zaa (zjP h__law_plain_kinds hr) zac)))) zah (fun _ _ => rfl)))
   (zad (zay (i := 3) nd rfl (Or.inl rfl) (zaj h__law_moved_world hr (zaa (pv 3) (zaa (zaj h__law_far_by hr (zaa (zaj h__law_at hr (zaa (pv 0) (zaa zah zac))) zac)) zac))))
   (zad (zay (i := 7) nd rfl (Or.inl rfl) (zaj h__law_copy_of hr (zaa (pv 3) zac)))
   (zad (zay (i := 8) nd rfl (Or.inl rfl) (zaj h_told_apart hr (zaa (pv 7) (zaa (pv 4) (zaa (pv 5) zac)))))
   (zad (za4 (PW.pt (zda (zca (zbv (zaj h__law_the_same hr (zaa (pv 7) (zaa (pv 3) zac))))) (zda (zca (zbv (zak (zaR K) rfl B.isinstance PyProof.Rows.boot_isinstance (zaa (pv 8) (zaa (zbG (v := .ty "tuple") rfl B.tuple_ PySem.Pv.boot_tuple rfl) zac))))) (zcJ (zat zen (zak (zax K) rfl B.len PySem.boot_len (zaa (pv 8) zac)) zah (zaF _)))))) (zae (zaq zbB)) zaC)
   (zad (za4 (zca (zbv (zak (zaR K) rfl B.isinstance PyProof.Rows.boot_isinstance (zaa (zaJ (zaz K) (pv 8) zah (fun _ _ => rfl)) (zaa (zbG (v := .ty "str") rfl B.str_ PySem.Pv.boot_str rfl) zac))))) (zae (zaq zbB)) zaC)
   (zad (za4 (zat zdL (zaJ (zaz K) (pv 8) zah (fun _ _ => rfl)) zaB (zaF _)) (zad (za4 (zca (zbv (zaj h__law_is_plain hr (zaa (zaJ (zaz K) (pv 8) zah (fun _ _ => rfl)) zac)))) (zae (zaq zbB)) zaC)
    (zad (zay (i := 9) nd rfl (Or.inl rfl) (zaj h__law_truths_of hr (zaa (pv 3) (zaa (zaJ (zaz K) (pv 8) zah (fun _ _ => rfl)) zac))))
    (zae (zaq (zgk (zaJ (zaK K) (pv 9) (pv 4) (fun _ _ => rfl)) (zdZ (zhC (zaJ (zaK K) (pv 9) (pv 5) (fun _ _ => rfl))))))))) zaC)
   (zad (za4 (PW.pt (zda (zat zen (zaJ (zaz K) (pv 8) zah (fun _ _ => rfl)) zaB (zaF _)) (zcJ (zca (zbv (zaj h__law_are_alike hr (zaa (pv 3) (zaa (zaJ (zaz K) (pv 8) zah (fun _ _ => rfl)) (zaa (pv 4) (zaa (pv 5) zac)))))))))) (zae (zaq zbB)) zaC)
   (zae (zaq (zb0 zdL (zaJ (zaK K) (pv 6) (pv 4) (fun _ _ => rfl)) (zaJ (zaK K) (pv 6) (pv 5) (fun _ _ => rfl)) (zaF _))))))))))))))))), ?_⟩
  walk_at "rd0"
  walk_at "rd"
  refine ⟨a, ns, 0, rfl, hS, ?_⟩
  walk_at "rd"
  refine ⟨(by show 2 ≤ sizeLine; decide), fun p0 hp0 => ?_⟩
  have S0 : Same H (upd H p0 (.lst [.int (1 + cell ns 0 / 3 % 4), .int 9])) := Same.new (Same.refl _) hp0
  have h0p : (upd H p0 (.lst [.int (1 + cell ns 0 / 3 % 4), .int 9])) p0 = some (.lst [.int (1 + cell ns 0 / 3 % 4), .int 9]) := zab
  generalize upd H p0 (.lst [.int (1 + cell ns 0 / 3 % 4), .int 9]) = H0 at S0 h0p ⊢
  have hS0 := zdJ hS S0
  walk_at "rd"
  refine zbO (fun z => absurd z (by rw [List.length_map]; omega)) (fun _ => ?_)
  walk_at "rd"
  refine zjr hS0 fun p1 hp1 => ?_
  obtain ⟨m1, hm1, _⟩ := zhW ns none (some 1)
  rw [hm1]
  have S1 : Same H0 (upd H0 p1 (.lst (m1.map V.int))) := Same.new (Same.refl _) hp1
  have h1p : (upd H0 p1 (.lst (m1.map V.int))) p1 = some (.lst (m1.map V.int)) := zab
  generalize upd H0 p1 (.lst (m1.map V.int)) = H1 at S1 h1p ⊢
  have h0p1 := S1 _ _ h0p
  have S01 := S0.trans S1
  walk_at "rd"
  refine ⟨p1, m1, rfl, SqL.of h1p, ?_⟩
  walk_at "rd"
  refine .inr ⟨_, rfl, ?_⟩
  obtain ⟨c, hc, hc1, hc9⟩ : ∃ c : Nat, atI [V.int (1 + cell ns 0 / 3 % 4), V.int 9] (if (decide (V.int (m1.sum % 32) = V.int 9)) = true then 1 else 0) = some (.int (c : Int)) ∧ 1 ≤ c ∧ c ≤ 9 := by
   cases decide (V.int (m1.sum % 32) = V.int 9) with
   | true => exact ⟨9, rfl, by decide, by decide⟩
   | false =>
    obtain ⟨k, hk⟩ : ∃ k : Nat, 1 + cell ns 0 / 3 % 4 = (k : Int) := ⟨(1 + cell ns 0 / 3 % 4).toNat, by omega⟩
    refine ⟨k, ?_, by omega, by omega⟩
    rw [hk]; rfl
  refine zbt (SqL.of h0p1) hc ?_
  walk_at "rd"
  refine ⟨a, ns, 1, rfl, zdJ hS S01, ?_⟩
  walk_at "rd"
  refine ⟨c, _, _, rfl, by omega, fun wa W H2 S2' hwa hw hwl hsm hlo => ?_⟩
  have S2 : Same H H2 := S01.trans S2'
  have hvW := zeA hsm hwl
  walk_at "rd"
  refine ⟨a, ns, 2, rfl, zdJ hS S2, ?_⟩
  walk_at "rd"
  obtain ⟨j0, hj0, hj0l⟩ : ∃ j0 : Nat, cell ns 2 % (c : Int) = (j0 : Int) ∧ j0 < c := by
   have h0 := Int.emod_nonneg (cell ns 2) (show (c : Int) ≠ 0 by omega)
   have h1 := Int.emod_lt_of_pos (cell ns 2) (show (0 : Int) < c by omega)
   exact ⟨(cell ns 2 % (c : Int)).toNat, by omega, by omega⟩
  rw [hj0]
  walk_at "rd"
  refine ⟨a, ns, 2, rfl, zdJ hS S2, ?_⟩
  walk_at "rd"
  obtain ⟨j1, hj1, hj1l⟩ : ∃ j1 : Nat, ((j0 : Int) + cell ns 2 / 4) % (c : Int) = (j1 : Int) ∧ j1 < c := by
   have h0 := Int.emod_nonneg ((j0 : Int) + cell ns 2 / 4) (show (c : Int) ≠ 0 by omega)
   have h1 := Int.emod_lt_of_pos ((j0 : Int) + cell ns 2 / 4) (show (0 : Int) < c by omega)
   exact ⟨(((j0 : Int) + cell ns 2 / 4) % (c : Int)).toNat, by omega, by omega⟩
  rw [hj1]
  refine zjr (zdJ hS S2) fun p hp => ?_
  obtain ⟨ms, hms, hml⟩ := zlX ns 3 90
  have hms : cutV (ns.map V.int) (some 3) (some 93) = ms.map V.int := hms
  rw [hms]
  walk_at "rd"
  refine ⟨rfl, fun kd H3 S3' hkd => ?_⟩
  have S23 : Same H2 H3 := Same.trans (by walk_at "sm") S3'
  have hp3 : H3 p = some (.lst (ms.map V.int)) := S3' _ _ zab
  have hw3 := hw.mono S23
  walk_at "rd"
  refine ⟨p, wa, kd, ms, W, zea, rfl, hp3, by omega, hw3, hvW, by omega, fun r m => by have := (hsm r m).2.1; omega, hkd, by decide, by decide, fun _ => by decide +kernel, fun t c' u s H4 S4 ht hst hc' hsz hgd => ?_⟩
  have S04 : Same H H4 := S2.trans (S23.trans S4)
  walk_at "rd"
  refine ⟨a, ns, 1, rfl, zdJ hS S04, ?_⟩
  walk_at "rd"
  refine ⟨_, rfl, fun far H5 hfar S5 => ?_⟩
  walk_at "rd"
  have hw5 := (hw3.mono S4).mono S5
  refine ⟨wa, far, W, rfl, hw5, by omega, fun r m => by have := (hsm r m).2.2; omega, fun wb H6 S6 hwb hW6 => ?_⟩
  have hln : (shW far W).length = c := by rw [zjk]; exact hwl
  have hsm' : zf1 c (shW far W) := zji hsm
  have hlo' : zix (shW far W) := zjj hfar hlo
  have hvW' := zeA hsm' hln
  walk_at "rd"
  refine ⟨wb, shW far W, rfl, hW6, by omega, fun wc H7 S7 hwc hW7 => ?_⟩
  walk_at "rd"
  have S07 : Same H H7 := S04.trans (S5.trans (S6.trans S7))
  have hT7 : H7 T = some (.tbl #[]) := S07 _ _ hT
  have hc7 : H7 c' = some (.lst (bls (tru W s))) := (S5.trans (S6.trans S7)) _ _ hc'
  have hWb7 : za5 H7 wb (shW far W) := hW6.mono S7
  refine ⟨wc, j0, j1, shW far W, rfl, zok hW7 hsm' hlo' hln hc1 hc9, ⟨_, hT7, .inl rfl⟩, by omega, by omega, fun tt x sx H8 S8 htt hsx hgx hzx ht1 ht2 => ?_, fun tt lp xs ps H8 S8 htt hlp hps hA => ?_⟩
  ·have L8 : LT H7 H8 := S8.lt hT7
   have hWc8 := hW7.lt L8
   have hWb8 := hWb7.lt L8
   walk_at "rd"
   obtain ⟨m, hm, hal⟩ := zf6 hWc8 hWb8 hsm'
   have hm2 : m ≤ 9 * 15 + 1 := by
    rw [hln] at hm
    have : c * (c + 6) ≤ 9 * 15 := Nat.mul_le_mul hc9 (by omega)
    omega
   refine ⟨_, _, m, rfl, hal, by omega, fun H9 S9 => ?_⟩
   have htt9 := S9 _ _ htt
   walk_at "rd"
   refine iteF ?_
   walk_at "rd"
   refine za3 (.tup htt9) zfj ?_
   first | refine ⟨true, rfl, iteF ?_⟩ | refine iteF ?_
   walk_at "rd"
   refine iteF ?_
   walk_at "rd"
   refine za3 (.str _) zgt ?_
   first | refine ⟨true, rfl, iteF ?_⟩ | refine iteF ?_
   walk_at "rd"
   refine zpA ?_
   have S79 : SamT T H7 H9 := S8.trans S9.samT
   have L79 : LT H7 H9 := S79.lt hT7
   walk_at "rd"
   refine ⟨x, sx, rfl, hsx.mono S9.tupK, hzx, hgx, fun H10 S10 => ?_⟩
   walk_at "rd"
   first | refine ⟨true, rfl, iteF ?_⟩ | refine iteF ?_
   have htt10 := S10 _ _ htt9
   walk_at "rd"
   refine ⟨wb, x, shW far W, sx, rfl, (hWb7.lt L79).mono S10, hvW', by omega, fun r m => by have := (hsm' r m).2.1; omega, (hsx.mono S9.tupK).mono S10.tupK, hzx, fun l11 H11 S11 h11 => ?_⟩
   walk_at "rd"
   refine zbt (SqL.of h11) (zdm (by rw [zaO]; omega)) ?_
   rw [show (tru (shW far W) sx).getD j0 false = true from ht1]
   walk_at "rd"
   refine iteT ?_
   walk_at "rd"
   refine zbt (SqL.of h11) (zdm (by rw [zaO]; omega)) ?_
   rw [show (tru (shW far W) sx).getD j1 false = false from ht2]
   walk_at "rd"
   exact q _
  ·have L8 : LT H7 H8 := S8.lt hT7
   have hWc8 := hW7.lt L8
   have hWb8 := hWb7.lt L8
   walk_at "rd"
   obtain ⟨m, hm, hal⟩ := zf6 hWc8 hWb8 hsm'
   have hm2 : m ≤ 9 * 15 + 1 := by
    rw [hln] at hm
    have : c * (c + 6) ≤ 9 * 15 := Nat.mul_le_mul hc9 (by omega)
    omega
   refine ⟨_, _, m, rfl, hal, by omega, fun H9 S9 => ?_⟩
   have htt9 := S9 _ _ htt
   walk_at "rd"
   refine iteF ?_
   walk_at "rd"
   refine za3 (.tup htt9) zfj ?_
   first | refine ⟨true, rfl, iteF ?_⟩ | refine iteF ?_
   walk_at "rd"
   refine iteF ?_
   walk_at "rd"
   refine za3 (.str _) zgt ?_
   first | refine ⟨true, rfl, iteF ?_⟩ | refine iteF ?_
   walk_at "rd"
   refine zhP (by decide +kernel) ?_
   walk_at "rd"
   rw [decide_eq_true rfl]
   refine iteF ?_
   have S79 : SamT T H7 H9 := S8.trans S9.samT
   have L79 : LT H7 H9 := S79.lt hT7
   have hps9 : Paired (PrAt H9) xs ps := Paired.mapP hps fun _ _ z => z.mono S9.tupK
   walk_at "rd"
   refine ⟨wb, lp, j0, j1, shW far W, xs, ps, rfl, zok (hWb7.lt L79) hsm' hlo' hln hc1 hc9, fun r hr => (hlo' r hr).1, S9 _ _ hlp, hps9, hA, fun H10 S10 => ?_⟩
   walk_at "rd"
   first | refine ⟨true, rfl, iteF ?_⟩ | refine iteF ?_
   have hc10 : H10 c' = some (.lst (bls (tru W s))) := S10 _ _ (L79.1 _ _ hc7)
   walk_at "rd"
   refine zbt (SqL.of hc10) (zdm (by rw [zaO]; omega)) ?_
   walk_at "rd"
   refine zbt (SqL.of hc10) (zdm (by rw [zaO]; omega)) ?_
   walk_at "rd"
   have hb := zpM (zkL hvW' hA) (s.sh far) (let ⟨_, _, _, _, hin, _⟩ := hA; hin)
   have e0 : tv (shW far W) (s.sh far) j0 = (tru W s).getD j0 false := by unfold tv; rw [zdR]
   have e1 : tv (shW far W) (s.sh far) j1 = (tru W s).getD j1 false := by unfold tv; rw [zdR]
   rw [e0, e1] at hb
   rw [hb, decide_eq_true rfl]
   exact q _
end
section
variable {P : Program} {w : World} {K : PySem.W.Frag} {mg : Str → Option Value} {base : Heap} {f : Addr} {fd : FuncData}
theorem zlq (D : zaI K mg "_law_whole" zbz ["_law_found"] f fd) (B : Blt mg) : Has P w K mg base "_law_whole" 1 ["_law_found"] zfz := by
 have nd := zdT.nd
 refine D.has (D.fn.ok zdT (fun vs H Q E h => ?_) (fun cdv A outer s H vs Q E hr h => ?_))
 ·obtain ⟨i, rfl, _⟩ := h
  rfl
 ·obtain ⟨i, rfl, q⟩ := h
  refine ⟨_, (zae (zaq (zgk (zak (zaR K) rfl B.isinstance PyProof.Rows.boot_isinstance (zaa (pv 0) (zaa (zbG (v := .ty "int") rfl B.int_ PySem.Pv.boot_int rfl) zac))) (zdZ (zhC (zak (zaR K) rfl B.isinstance PyProof.Rows.boot_isinstance (zaa (pv 0) (zaa (zbG (v := .ty "bool") rfl B.bool_ PySem.Pv.boot_bool rfl) zac)))))))), ?_⟩
  walk_at "rd0"
  walk_at "rd"
  refine za3 (.int i) zpn ?_
  walk_at "rd"
  refine iteT ?_
  walk_at "rd"
  refine za3 (.int i) zmy ?_
  walk_at "rd"
  exact q
theorem zp4 (D : zaI K mg "_law_at" zcf ["_law_script", "_law_k"] f fd) (B : Blt mg) : Has P w K mg base "_law_at" 1 ["_law_script", "_law_k"] (spAt K) := by
 have nd := ze9.nd
 refine D.has (D.fn.ok ze9 (fun vs H Q E h => ?_) (fun cdv A outer s H vs Q E hr h => ?_))
 ·obtain ⟨a, ns, k, rfl, _⟩ := h
  rfl
 ·obtain ⟨a, ns, k, rfl, hS, q⟩ := h
  refine ⟨_, (zad (za4 (zat zib (pv 1) (zak (zax K) rfl B.len PySem.boot_len (zaa (pv 0) zac)) (zaF _)) (zae (zaq (zaJ (zaK K) (pv 0) (pv 1) (fun _ _ => rfl)))) zaC)
   (zae (zaq zah))), ?_⟩
  walk_at "rd0"
  walk_at "rd"
  refine zbO (fun c => ?_) (fun c => ?_)
  ·rw [List.length_map] at c
   walk_at "rd"
   exact zbt hS (zl4 (by omega)) q
  ·rw [List.length_map] at c
   walk_at "rd"
   have e : cell ns k = 0 := by
    unfold cell
    rw [List.getD_eq_getElem?_getD, List.getElem?_eq_none (by omega)]
    rfl
   rw [e] at q
   exact q
theorem zpj (D : zaI K mg "_law_far_by" zbo ["_law_cell"] f fd) : Has P w K mg base "_law_far_by" 1 ["_law_cell"] zoz := by
 have nd := zdB.nd
 refine D.has (D.fn.ok zdB (fun vs H Q E h => ?_) (fun cdv A outer s H vs Q E hr h => ?_))
 ·obtain ⟨n, rfl, _⟩ := h
  rfl
 ·obtain ⟨n, rfl, q⟩ := h
  refine ⟨_, (zae (zaq (zaJ (zaK K) (zbe (zaa zah (zaa (zbd zcm (pv 0) (zbd zpc zah zah)) zac))) (zbd zcm (pv 0) zah) (fun _ _ => rfl)))), ?_⟩
  walk_at "rd0"
  walk_at "rd"
  refine ⟨(by show 2 ≤ sizeLine; decide), fun p hp => ?_⟩
  walk_at "rd"
  have h0 : 0 ≤ n % 2 := Int.emod_nonneg _ (by decide)
  have h1 : n % 2 < 2 := Int.emod_lt_of_pos _ (by decide)
  have h : n % 2 = 0 ∨ n % 2 = 1 := by omega
  have hn : 0 ≤ n % 10 ^ (60 : Int).toNat := Int.emod_nonneg _ (by decide)
  rcases h with e | e <;> rw [e]
  ·exact zbt (v := .int 0) (SqL.of zab) rfl (q 0 _ (by decide) (by walk_at "sm"))
  ·exact zbt (SqL.of zab) rfl (q _ _ hn (by walk_at "sm"))
theorem zpi (D : zaI K mg "_law_led" zb1 ["_law_truth", "_law_doors"] f fd) (B : Blt mg) : Has P w K mg base "_law_led" 1 ["_law_truth", "_law_doors"] zmk := by
 have nd := zeD.nd
 refine D.has (D.fn.ok zeD (fun vs H Q E h => ?_) (fun cdv A outer s H vs Q E hr h => ?_))
 ·obtain ⟨a, b, ds, x, rfl, _⟩ := h
  rfl
 ·obtain ⟨a, b, ds, x, rfl, ha, hb, hv, hz, q⟩ := h
  have hla : (nts ds).length = ds.length := List.length_map _
  refine ⟨_, (zae (zaq (zaV ["_law_door", "_law_truth"] 1 [0] (zaD K (pv 1)) (fun _ _ _ _ _ => (zan (i := 0) (show List.Nodup (["_law_door", "_law_truth"] : List Str) by decide +kernel) rfl (Or.inl rfl))) (fun _ _ _ _ _ => zbq) (fun _ _ _ _ _ => (zaJ (zaK K) (pv 1) (pv 0) (fun _ _ => rfl)))))), ?_⟩
  walk_at "rd0"
  walk_at "rd"
  refine zbf (SqL.of ha) (by omega) fun D hD => ⟨fun i y _ => ∃ b, (led x ds)[i]? = some b ∧ y = .bl b, fun _ _ _ _ h _ _ => h, fun i v H2 ys C hx S2 hd hC => ?_, fun ys H' S' hD' hl' hR => ?_⟩
  ·obtain ⟨d, hd', rfl⟩ := zcy hx
   have hb2 := S2 _ _ hb
   walk_at "rd"
   refine zbt (SqL.of hb2) (zdm (hv d (List.mem_of_getElem? hd'))) ?_
   exact hC _ H2 (Same.refl _) ⟨_, by simp [led, hd'], rfl⟩
  ·exact q D H' S' hD (by rw [hD', zb8 (bs := led x ds) (by rw [zj3, hl']; omega) hR])
theorem zg2 (D : zaI K mg "_law_truth_by" zaY ["_law_sort", "_law_truth", "_law_world"] f fd) (B : Blt mg) (h__law_led : Has P w K mg base "_law_led" 1 ["_law_truth", "_law_doors"] zmk) :
  Has P w K mg base "_law_truth_by" 2 ["_law_sort", "_law_truth", "_law_world"] zdQ := by
 have nd := zc4.nd
 refine D.has (D.fn.ok zc4 (fun vs H Q E h => ?_) (fun cdv A outer s H vs Q E hr h => ?_))
 ·obtain ⟨k, b, a, W, x, rfl, _⟩ := h
  rfl
 ·obtain ⟨k, b, a, W, x, rfl, ⟨rs, ha, hp⟩, hv, hz, hdz, hb, hx, q⟩ := h
  have hlen := Paired.length hp
  have hbl : (bls x).length = x.length := List.length_map _
  refine ⟨_, (zad (za4 (zat zdL (pv 0) zaB (zaF _)) (zae (zaq (zaV ["_law_room", "_law_truth"] 1 [1] (zaD K (pv 2)) (fun _ _ _ _ _ => (zan (i := 0) (show List.Nodup (["_law_room", "_law_truth"] : List Str) by decide +kernel) rfl (Or.inl rfl))) (fun _ _ _ _ _ => zbq) (fun _ _ _ _ _ => (zb0 (zdj K) zbB (zaj h__law_led hr (zaa (pv 1) (zaa (zaJ (zaz K) (pv 0) zah (fun _ _ => rfl)) zac))) (by with_unfolding_all rfl)))))) zaC)
   (zad (za4 (zat zdL (pv 0) zaB (zaF _)) (zae (zaq (zaV ["_law_room", "_law_truth"] 1 [1] (zaD K (pv 2)) (fun _ _ _ _ _ => (zan (i := 0) (show List.Nodup (["_law_room", "_law_truth"] : List Str) by decide +kernel) rfl (Or.inl rfl))) (fun _ _ _ _ _ => zbq) (fun _ _ _ _ _ => (zb0 (zdF K) zbB (zaj h__law_led hr (zaa (pv 1) (zaa (zaJ (zaz K) (pv 0) zah (fun _ _ => rfl)) zac))) (by with_unfolding_all rfl)))))) zaC)
   (zae (zaq (zaV ["_law_one"] 1 [] (zaD K (pv 1)) (fun _ _ _ _ _ => (zan (i := 0) (show List.Nodup (["_law_one"] : List Str) by decide +kernel) rfl (Or.inl rfl))) (fun _ _ _ _ _ => zbq) (fun _ _ _ _ _ => (zhC (pv 0)))))))), ?_⟩
  walk_at "rd0"
  walk_at "rd"
  refine zbO (fun e => ?_) (fun e => ?_)
  ·have ek : k = "every" := V.str.inj e
   walk_at "rd"
   refine zbf (SqL.of ha) (by omega) fun D hD => ⟨fun i y _ => ∃ b, (zbF W k x)[i]? = some b ∧ y = .bl b, fun _ _ _ _ h _ _ => h, fun i v H2 ys C hxi S2 hd hC => ?_, fun ys H' S' hD' hl' hR => ?_⟩
   ·obtain ⟨r, hr', ra⟩ := Paired.get1 hp hxi
    obtain ⟨c, l, d, rfl, h1, h2, h3⟩ := ra.mono S2
    have hb2 := S2 _ _ hb
    have hm : r ∈ W := List.mem_of_getElem? hr'
    walk_at "rd"
    refine ⟨d, b, r.doors, x, rfl, h3, hb2, fun z m => by rw [hx]; exact hv r hm z m, hdz r hm, fun t H3 S3 ht0 ht => ?_⟩
    walk_at "rd"
    refine zdh (.inl (SqL.of ht)) rfl (zes _) ?_
    refine hC _ H3 S3 ⟨!(led x r.doors).contains false, ?_, by rw [zfV]⟩
    simp [zbF, ek, hr']
   ·exact q D H' S' hD (by rw [hD', zb8 (bs := zbF W k x) (by rw [zdI hx, hl']; omega) hR])
  ·have ek : ¬ k = "every" := fun z => e (by rw [z])
   walk_at "rd"
   refine zbO (fun e2 => ?_) (fun e2 => ?_)
   ·have ek2 : k = "some" := V.str.inj e2
    have nes : ¬ ("some" : Str) = "every" := by decide +kernel
    walk_at "rd"
    refine zbf (SqL.of ha) (by omega) fun D hD => ⟨fun i y _ => ∃ b, (zbF W k x)[i]? = some b ∧ y = .bl b, fun _ _ _ _ h _ _ => h, fun i v H2 ys C hxi S2 hd hC => ?_, fun ys H' S' hD' hl' hR => ?_⟩
    ·obtain ⟨r, hr', ra⟩ := Paired.get1 hp hxi
     obtain ⟨c, l, d, rfl, h1, h2, h3⟩ := ra.mono S2
     have hb2 := S2 _ _ hb
     have hm : r ∈ W := List.mem_of_getElem? hr'
     walk_at "rd"
     refine ⟨d, b, r.doors, x, rfl, h3, hb2, fun z m => by rw [hx]; exact hv r hm z m, hdz r hm, fun t H3 S3 ht0 ht => ?_⟩
     walk_at "rd"
     refine zdE (.inl (SqL.of ht)) rfl (zes _) ?_
     refine hC _ H3 S3 ⟨(led x r.doors).contains true, ?_, by rw [zfV]⟩
     simp [zbF, ek2, hr', nes]
    ·exact q D H' S' hD (by rw [hD', zb8 (bs := zbF W k x) (by rw [zdI hx, hl']; omega) hR])
   ·have ek2 : ¬ k = "some" := fun z => e2 (by rw [z])
    walk_at "rd"
    refine zbf (SqL.of hb) (by omega) fun D hD => ⟨fun i y _ => ∃ b, (zbF W k x)[i]? = some b ∧ y = .bl b, fun _ _ _ _ h _ _ => h, fun j u H4 ys C hu S4 hd hC => ?_, fun ys H' S' hD' hl' hR => ?_⟩
    ·rw [List.getElem?_map] at hu
     obtain ⟨b, hb, rfl⟩ := Option.map_eq_some_iff.mp hu
     walk_at "rd"
     exact hC _ H4 (Same.refl _) ⟨!b, by simp [zbF, ek, ek2, hb], rfl⟩
    ·exact q D H' S' hD (by rw [hD', zb8 (bs := zbF W k x) (by rw [zdI hx, hl']; omega) hR])
theorem zgo (D : zaI K mg "_law_truth_of_two" zaG ["_law_sort", "_law_first", "_law_second"] f fd) (B : Blt mg) : Has P w K mg base "_law_truth_of_two" 1 ["_law_sort", "_law_first", "_law_second"] ziZ := by
 have nd := zck.nd
 refine D.has (D.fn.ok zck (fun vs H Q E h => ?_) (fun cdv A outer s H vs Q E hr h => ?_))
 ·obtain ⟨k, a, b, x, y, rfl, _⟩ := h
  rfl
 ·obtain ⟨k, a, b, x, y, rfl, ha, hb, hl, hz, q⟩ := h
  have hla : (bls x).length = x.length := List.length_map _
  have hlb : (bls y).length = y.length := List.length_map _
  have get : ∀ (g : Bool → Bool → Bool) (i : Nat), i < x.length → (List.zipWith g x y)[i]? = some (g (x.getD i false) (y.getD i false)) := fun g i hi => by
   have h1 : x[i]? = some x[i] := List.getElem?_eq_getElem hi
   have h2 : y[i]? = some (y[i]'(by omega)) := List.getElem?_eq_getElem (by omega)
   simp [List.getElem?_zipWith, List.getD, h1, h2]
  refine ⟨_, (zad (za4 (zat zdL (pv 0) zaB (zaF _)) (zae (zaq (zaV ["_law_k", "_law_first", "_law_second"] 1 [1, 2] (zcg rfl B.range (zaa (zak (zax K) rfl B.len PySem.boot_len (zaa (pv 1) zac)) zac)) (fun _ _ _ _ _ => (zan (i := 0) (show List.Nodup (["_law_k", "_law_first", "_law_second"] : List Str) by decide +kernel) rfl (Or.inl rfl))) (fun _ _ _ _ _ => zbq) (fun _ _ _ _ _ => (zgk (zaJ (zaK K) (pv 1) (pv 0) (fun _ _ => rfl)) (zdZ (zaJ (zaK K) (pv 2) (pv 0) (fun _ _ => rfl)))))))) zaC)
   (zae (zaq (zaV ["_law_k", "_law_first", "_law_second"] 1 [1, 2] (zcg rfl B.range (zaa (zak (zax K) rfl B.len PySem.boot_len (zaa (pv 1) zac)) zac)) (fun _ _ _ _ _ => (zan (i := 0) (show List.Nodup (["_law_k", "_law_first", "_law_second"] : List Str) by decide +kernel) rfl (Or.inl rfl))) (fun _ _ _ _ _ => zbq) (fun _ _ _ _ _ => (zlg (zaJ (zaK K) (pv 1) (pv 0) (fun _ _ => rfl)) (zdZ (zaJ (zaK K) (pv 2) (pv 0) (fun _ _ => rfl))))))))), ?_⟩
  walk_at "rd0"
  walk_at "rd"
  refine zbO (fun e => ?_) (fun e => ?_)
  ·have ek : k = "and" := V.str.inj e
   walk_at "rd"
   refine zfq (by omega) fun D hD => ⟨fun i z _ => ∃ b, (two k x y)[i]? = some b ∧ z = .bl b, fun _ _ _ _ h _ _ => h, fun i H2 zs C hi S2 hd hC => ?_, fun ys H' S' hD' hl' hR => ?_⟩
   ·have hi' : i < x.length := by omega
    have ha2 := S2 _ _ ha
    have hb2 := S2 _ _ hb
    have fin : C (.bl (x.getD i false && y.getD i false)) H2 := hC _ H2 (Same.refl _) ⟨_, by rw [two, if_pos ek]; exact get _ i hi', rfl⟩
    walk_at "rd"
    refine zbt (SqL.of ha2) (zdm hi') ?_
    walk_at "rd"
    cases hc : x.getD i false with
    | true =>
     refine iteT ?_
     walk_at "rd"
     refine zbt (SqL.of hb2) (zdm (by omega)) ?_
     rw [hc] at fin
     exact fin
    | false =>
     refine iteF ?_
     rw [hc] at fin
     exact fin
   ·exact q D H' S' hD (by rw [hD', zb8 (bs := two k x y) (by rw [hl', ziI hl]; omega) hR])
  ·have ek : ¬ k = "and" := fun z => e (by rw [z])
   walk_at "rd"
   refine zfq (by omega) fun D hD => ⟨fun i z _ => ∃ b, (two k x y)[i]? = some b ∧ z = .bl b, fun _ _ _ _ h _ _ => h, fun i H2 zs C hi S2 hd hC => ?_, fun ys H' S' hD' hl' hR => ?_⟩
   ·have hi' : i < x.length := by omega
    have ha2 := S2 _ _ ha
    have hb2 := S2 _ _ hb
    have fin : C (.bl (x.getD i false || y.getD i false)) H2 := hC _ H2 (Same.refl _) ⟨_, by rw [two, if_neg ek]; exact get _ i hi', rfl⟩
    walk_at "rd"
    refine zbt (SqL.of ha2) (zdm hi') ?_
    walk_at "rd"
    cases hc : x.getD i false with
    | true =>
     refine iteT ?_
     rw [hc] at fin
     exact fin
    | false =>
     refine iteF ?_
     walk_at "rd"
     refine zbt (SqL.of hb2) (zdm (by omega)) ?_
     rw [hc] at fin
     exact fin
   ·exact q D H' S' hD (by rw [hD', zb8 (bs := two k x y) (by rw [hl', ziI hl]; omega) hR])
theorem zfM (D : zaI K mg "_law_truth_of_lamp" zaE ["_law_sort", "_law_lamp", "_law_world"] f fd) (B : Blt mg) : Has P w K mg base "_law_truth_of_lamp" 1 ["_law_sort", "_law_lamp", "_law_world"] zfA := by
 have nd := zce.nd
 refine D.has (D.fn.ok zce (fun vs H Q E h => ?_) (fun cdv A outer s H vs Q E hr h => ?_))
 ·obtain ⟨k, n, a, W, rfl, _⟩ := h
  rfl
 ·obtain ⟨k, n, a, W, rfl, ⟨rs, ha, hp⟩, hz, q⟩ := h
  have hlen := Paired.length hp
  refine ⟨_, (zae (zaq (zaV ["_law_room", "_law_sort", "_law_lamp"] 1 [0, 1] (zaD K (pv 2)) (fun _ _ _ _ _ => (zan (i := 0) (show List.Nodup (["_law_room", "_law_sort", "_law_lamp"] : List Str) by decide +kernel) rfl (Or.inl rfl))) (fun _ _ _ _ _ => zbq) (fun _ _ _ _ _ => (zb0 zdL (zb0 (zdF K) (pv 2) (zaJ (zaz K) (pv 0) zah (fun _ _ => rfl)) (by with_unfolding_all rfl)) (zb0 zdL (pv 1) zaB (zaF _)) (zaF _)))))), ?_⟩
  walk_at "rd0"
  walk_at "rd"
  refine zbf (SqL.of ha) (by omega) fun D hD => ⟨fun i y _ => ∃ b, (ze2 W k n)[i]? = some b ∧ y = .bl b, fun _ _ _ _ h _ _ => h, fun i x H2 ys C hx S2 hd hC => ?_, fun ys H' S' hD' hl' hR => ?_⟩
  ·obtain ⟨r, hr', ra⟩ := Paired.get1 hp hx
   obtain ⟨c, l, d, rfl, h1, h2, h3⟩ := ra.mono S2
   walk_at "rd"
   refine zdE (.inl (SqL.of h2)) rfl (zeO _) ?_
   walk_at "rd"
   refine hC _ H2 (Same.refl _) ⟨decide (r.lit.contains n = decide (k = "lamp")), ?_, ?_⟩
   ·simp [ze2, hr']
   ·rw [zfU]
    congr 1
    rw [Bool.eq_iff_iff]
    simp
  ·exact q D H' S' hD (by rw [hD', zb8 (bs := ze2 W k n) (by rw [hl']; simp [ze2]; omega) hR])
theorem zeZ (D : zaI K mg "_law_plain_kinds" zaL [] f fd) : Has P w K mg base "_law_plain_kinds" 1 [] (zi6 zea) := by
 have nd := zcs.nd
 refine D.has (D.fn.ok zcs (fun vs H Q E h => ?_) (fun cdv A outer s H vs Q E hr h => ?_))
 ·obtain ⟨rfl, _⟩ := h
  rfl
 ·obtain ⟨rfl, q⟩ := h
  refine ⟨_, (zae (zaq (zbe (zaa zaB (zaa zaB (zaa zaB (zaa zaB (zaa zaB (zaa zaB (zaa zaB (zaa zaB (zaa zaB (zaa zaB zac))))))))))))), ?_⟩
  walk_at "rd0"
  walk_at "rd"
  refine ⟨(by show 10 ≤ sizeLine; decide), fun p hp => ?_⟩
  exact q p _ (by walk_at "sm") zab
end
section
variable {P : Program} {w : World} {K : PySem.W.Frag} {mg : Str → Option Value} {base : Heap} {f : Addr} {fd : FuncData}
theorem znE (D : zaI K mg "_law_join" zbK ["_law_pile", "_law_sort"] f fd) (h__law_truth_of_two : Has P w K mg base "_law_truth_of_two" 1 ["_law_sort", "_law_first", "_law_second"] ziZ) : Has P w K mg base "_law_join" 2 ["_law_pile", "_law_sort"] zi7 := by
 have nd := zeh.nd
 refine D.has (D.fn.ok zeh (fun vs H Q E h => ?_) (fun cdv A outer s H vs Q E hr h => ?_))
 ·obtain ⟨p, k, W, xs, v1, v2, s1, s2, rfl, _⟩ := h
  rfl
 ·obtain ⟨p, k, W, xs, v1, v2, s1, s2, rfl, hk, hz, hp, ⟨t1, u1, c1, rfl, n1, e1, st1, m1, g1⟩, ⟨t2, u2, c2, rfl, n2, e2, st2, m2, g2⟩, hxz, q⟩ := h
  refine ⟨_, (zad (zay (i := 2) nd rfl (Or.inl rfl) (zcP K PySem.F.plainAttrs_list PySem.F.slot_list_pop PySem.F.type_list_pop zdG (pv 0)))
   (zad (zay (i := 3) nd rfl (Or.inl rfl) (zcP K PySem.F.plainAttrs_list PySem.F.slot_list_pop PySem.F.type_list_pop zdG (pv 0)))
   (zad (zay (i := 4) nd rfl (Or.inl rfl) (zaj h__law_truth_of_two hr (zaa (pv 1) (zaa (zaJ (zaz K) (pv 3) zah (fun _ _ => rfl)) (zaa (zaJ (zaz K) (pv 2) zah (fun _ _ => rfl)) zac)))))
   (zae (zbc (zcb K PySem.F.plainAttrs_list PySem.F.slot_list_append PySem.F.type_list_append zbC (pv 0) (zaa (za2 (zaa (za2 (zaa (pv 1) (zaa (zaJ (zaz K) (pv 3) zah (fun _ _ => rfl)) (zaa (zaJ (zaz K) (pv 2) zah (fun _ _ => rfl)) zac)))) (zaa (pv 4) zac))) zac))))))), ?_⟩
  walk_at "rd0"
  walk_at "rd"
  refine zdC hp ?_
  walk_at "rd"
  refine zdC zab ?_
  rw [ziH]
  walk_at "rd"
  have l1 := zaO W s1
  have l2 := zaO W s2
  refine ⟨k, c1, c2, _, _, rfl, zcC m1 g1, zcC m2 g2, by omega, by omega, fun c H3 S3 hc0 hc => ?_⟩
  have T3 : TupK H H3 := TupK.trans (TupK.lst (TupK.refl _) hp) S3.tupK
  have nc : c ≠ p := fun e => by rw [e, zab] at hc0; cases hc0
  have hp3 : H3 p = some (.lst xs) := S3 _ _ zab
  have e13 := T3 _ _ e1
  have e23 := T3 _ _ e2
  have D3 : zcD p H H3 := zcD.trans zcv S3.sameD
  walk_at "rd"
  refine ⟨(by show 3 ≤ sizeLine; decide), fun a1 ha1 => ?_⟩
  walk_at "rd"
  refine ⟨(by show 2 ≤ sizeLine; decide), fun a2 ha2 => ?_⟩
  walk_at "rd"
  have na1 : a1 ≠ p := fun e => by rw [e, hp3] at ha1; cases ha1
  have na2 : a2 ≠ p := fun e => by rw [e, zai na1.symm, hp3] at ha2; cases ha2
  refine zbN (by walk_at "hp") (zcc (by omega)) ?_
  refine q (.ref a2) _ ?_ ?_ zab ⟨a2, .ref a1, c, rfl, na2, by walk_at "hp", ?_, nc, ?_⟩
  ·intro b o nb e
   rw [zai nb]
   exact za6 ha2 (za6 ha1 (D3 b o nb e))
  ·exact T3.trans (by walk_at "tk")
  ·refine zkd hk (by walk_at "hp") ((st1.mono T3).mono (by walk_at "tk")) ((st2.mono T3).mono (by walk_at "tk"))
  ·rw [← zmF]
   walk_at "hp"
theorem zjU {nt : Bool} (D : zaI K mg "_law_grown" zbn ["_law_cells", "_law_world", "_law_kinds"] f fd) (B : Blt mg) (h__law_join : Has P w K mg base "_law_join" 2 ["_law_pile", "_law_sort"] zi7)
  (h__law_truth_by : Has P w K mg base "_law_truth_by" 2 ["_law_sort", "_law_truth", "_law_world"] zdQ) (h__law_truth_of_lamp : Has P w K mg base "_law_truth_of_lamp" 1 ["_law_sort", "_law_lamp", "_law_world"] zfA) :
  Has P w K mg base "_law_grown" 3 ["_law_cells", "_law_world", "_law_kinds"] (zkS nt) := by
 have nd := zdU.nd
 refine D.has (D.fn.ok zdU (fun vs H Q E h => ?_) (fun cdv A outer s H vs Q E hr h => ?_))
 ·obtain ⟨c, a, kd, ns, W, ks, rfl, _⟩ := h
  rfl
 ·obtain ⟨c, a, kd, ns, W, ks, rfl, hc, hnz, hw, hv, hz, hdz, hkd, hk0, hk1, hnt, q⟩ := h
  have hu0 := zhR hr
  have hkl : (ks.map V.str).length = ks.length := List.length_map _
  have hnl : (ns.map V.int).length = ns.length := List.length_map _
  refine ⟨_, (zad (zay (i := 3) nd rfl (Or.inl rfl) (zbe zac))
   (zad (zbS PassesOwn.never rfl (zaD K (pv 0)) (zan (i := 4) nd rfl (Or.inl rfl)) (zad (zay (i := 5) nd rfl (Or.inl rfl) (zaJ (zaK K) (pv 2) (zbd zcm (pv 4) (zak (zax K) rfl B.len PySem.boot_len (zaa (pv 2) zac))) (fun _ _ => rfl)))
    (zad (zay (i := 6) nd rfl (Or.inl rfl) (zaJ (zaK K) (zbe (zaa zah (zaa zah (zaa zah zac)))) (zbd zcm (zbd zfL (pv 4) (zak (zax K) rfl B.len PySem.boot_len (zaa (pv 2) zac))) zah) (fun _ _ => rfl)))
    (zae (za4 (PW.pt (zhx (zat (zdF K) (pv 5) (zbe (zaa zaB (zaa zaB zac))) (by with_unfolding_all rfl)) (zfG (zat zgm (zak (zax K) rfl B.len PySem.boot_len (zaa (pv 3) zac)) zah (zaF _))))) (zae (zbc (zaj h__law_join hr (zaa (pv 3) (zaa (pv 5) zac))))) (zae (za4 (PW.pt (zhx (zat (zdF K) (pv 5) (zbe (zaa zaB (zaa zaB (zaa zaB zac)))) (by with_unfolding_all rfl)) (zfG (zat (zfK K hu0) (pv 3) (zbe zac) (zaF _))))) (zad (zay (i := 7) nd rfl (Or.inl rfl) (zcP K PySem.F.plainAttrs_list PySem.F.slot_list_pop PySem.F.type_list_pop zdG (pv 3)))
      (zae (zbc (zcb K PySem.F.plainAttrs_list PySem.F.slot_list_append PySem.F.type_list_append zbC (pv 3) (zaa (za2 (zaa (za2 (zaa (pv 5) (zaa (zaJ (zaz K) (pv 7) zah (fun _ _ => rfl)) zac))) (zaa (zaj h__law_truth_by hr (zaa (pv 5) (zaa (zaJ (zaz K) (pv 7) zah (fun _ _ => rfl)) (zaa (pv 1) zac)))) zac))) zac))))) (zae (za4 (zat zdL (pv 5) zaB (zaF _)) (zae (zbc (zcb K PySem.F.plainAttrs_list PySem.F.slot_list_append PySem.F.type_list_append zbC (pv 3) (zaa (za2 (zaa (za2 (zaa zaB (zaa (pv 6) zac))) (zaa (zaj h__law_truth_of_lamp hr (zaa zaB (zaa (pv 6) (zaa (pv 1) zac)))) zac))) zac)))) (zae (zbc (zcb K PySem.F.plainAttrs_list PySem.F.slot_list_append PySem.F.type_list_append zbC (pv 3) (zaa (za2 (zaa (za2 (zaa zaB (zaa (pv 6) zac))) (zaa (zaj h__law_truth_of_lamp hr (zaa zaB (zaa (pv 6) (zaa (pv 1) zac)))) zac))) zac)))))))))))))
   (zad (za4 (zat (znv K hu0) (pv 3) (zbe zac) (zaF _)) (zae (zaq (za2 (zaa (za2 (zaa zaB (zaa zah zac))) (zaa (zaj h__law_truth_of_lamp hr (zaa zaB (zaa zah (zaa (pv 1) zac)))) zac))))) zaC)
   (zad (zcK PassesOwn.never (zat zgm (zak (zax K) rfl B.len PySem.boot_len (zaa (pv 3) zac)) zah (zaF _)) (zae (zbc (zaj h__law_join hr (zaa (pv 3) (zaa (zaJ (zaK K) (zbe (zaa zaB (zaa zaB zac))) (zbd zcm (zak (zax K) rfl B.len PySem.boot_len (zaa (pv 3) zac)) zah) (fun _ _ => rfl)) zac))))))
   (zae (zaq (zaJ (zaK K) (pv 3) zah (fun _ _ => rfl)))))))), ?_⟩
  walk_at "rd0"
  walk_at "rd"
  refine ⟨(by show 0 ≤ sizeLine; decide), fun p hp => ?_⟩
  walk_at "rd"
  refine zbA (K := K) (a := c) (xs := ns.map V.int) (fun i σ H1 => ∃ (ps : List V) (ss : List Say) (o4 o5 o6 o7 : Option V), σ = [some (.ref c), some (.ref a), some (.ref kd), some (.ref p), o4, o5, o6, o7] ∧ Same H H1 ∧ H1 p = some (.lst ps) ∧ Paired (Pr W p H1) ps ss ∧ ss.length ≤ i ∧ szs ss ≤ 5 * i ∧ dps ss ≤ i ∧ ∀ s ∈ ss, Say.good nt s)
   ⟨[], [], none, none, none, none, rfl, by walk_at "sm", zab, .nil, Nat.le_refl _, Nat.le_refl _, Nat.le_refl _, fun s h => by cases h⟩ (fun i σ H1 _ ⟨_, _, _, _, _, _, _, S1, _⟩ => SqL.of (S1 _ _ hc)) ?_ ?_
  ·rintro i y σ H1 hi ⟨ps, ss, o4, o5, o6, o7, rfl, S1, hp1, hpr, hsl, hssz, hdps, hgood⟩
   have hil : i < ns.length := by rw [← hnl]; exact (List.getElem?_eq_some_iff.mp hi).1
   rw [List.getElem?_map] at hi
   obtain ⟨n, hn, rfl⟩ := Option.map_eq_some_iff.mp hi
   have hkd1 := S1 _ _ hkd
   have hw1 := hw.mono S1
   have hpl := Paired.length hpr
   walk_at "rd"
   obtain ⟨k, hk, hkm⟩ := znR ks n hk0
   have hk' : atI (ks.map V.str) (n % (((ks.map V.str).length : Nat) : Int)) = some (.str k) := by rw [hkl]; exact hk
   refine zbt (SqL.of hkd1) hk' ?_
   walk_at "rd"
   refine ⟨(by show 3 ≤ sizeLine; decide), fun p1 hp1' => ?_⟩
   walk_at "rd"
   obtain ⟨lm, hlm, hlm1⟩ := zp5 (n / (((ks.map V.str).length : Nat) : Int))
   refine zbt (SqL.of zab) hlm ?_
   walk_at "rd"
   refine ⟨(by show 2 ≤ sizeLine; decide), fun p2 hp2' => ?_⟩
   walk_at "rd"
   refine zdE (.inl (SqL.of zab)) rfl rfl ?_
   walk_at "rd"
   have SN : Same H1 (upd (upd H1 p1 (.lst [.int 1, .int 2, .int 1000000007])) p2 (.lst [.str "and", .str "or"])) := by walk_at "sm"
   generalize upd (upd H1 p1 (.lst [.int 1, .int 2, .int 1000000007])) p2 (.lst [.str "and", .str "or"]) = H2 at SN ⊢
   have S2 : Same H H2 := S1.trans SN
   have hp2 := SN _ _ hp1
   have hpr2 := zbQ hpr SN.sameD SN.tupK
   refine znX ?goB (fun hB hc => ?goP)
   case goP =>
    walk_at "rd"
    refine zbO (fun hgt => ?_) (fun _ => hB)
    walk_at "rd"
    rcases zbE ps with rfl | ⟨ps0, v2, rfl⟩
    ·simp at hgt
    rcases zbE ps0 with rfl | ⟨ps1, v1, rfl⟩
    ·simp at hgt
    obtain ⟨ss0, s2, rfl, hp0, q2⟩ := zcX hpr2
    obtain ⟨ss1, s1, rfl, hp1'', q1⟩ := zcX hp0
    have hl9 := hpl
    simp only [List.length_append, List.length_cons, List.length_nil] at hl9 hsl
    refine ⟨p, k, W, ps1, v1, v2, s1, s2, rfl, (in2 _ _ _).mp hc, hz, hp2, q1, q2, by omega, fun v H3 D3 T3 hp3 pr3 => ?_⟩
    refine ⟨ps1 ++ [v], ss1 ++ [zd2 k s1 s2], _, _, _, _, rfl, fun b o e => D3 b o (zag e hp) (S2 b o e), hp3, Paired.snoc (zbQ hp1'' D3 T3) pr3, by simp; omega, ?_, ?_, fun z m => ?_⟩
    ·rw [zd9] at hssz ⊢
     rw [zd9] at hssz
     have := zhN k s1 s2
     simp only [szs, List.map_cons, List.map_nil, List.sum_cons, List.sum_nil] at hssz ⊢
     omega
    ·have := zgv k s1 s2
     simp only [zfW, zeQ] at hdps ⊢
     omega
    ·rcases List.mem_append.mp m with m | m
     ·exact hgood z (by simp [m])
     ·rw [List.mem_singleton.mp m]; exact zfk (hgood s1 (by simp)) (hgood s2 (by simp))
   case goB =>
    walk_at "rd"
    refine ⟨(by show 3 ≤ sizeLine; decide), fun p3 hp3' => ?_⟩
    walk_at "rd"
    refine zdE (.inl (SqL.of zab)) rfl rfl ?_
    walk_at "rd"
    have SN3 : Same H1 (upd H2 p3 (.lst [.str "every", .str "some", .str "not"])) := by walk_at "sm"
    generalize upd H2 p3 (.lst [.str "every", .str "some", .str "not"]) = H3 at SN3 ⊢
    have S3 : Same H H3 := S1.trans SN3
    have hp3 := SN3 _ _ hp1
    have hpr3 := zbQ hpr SN3.sameD SN3.tupK
    have hw3 := hw.mono S3
    -- a new pair upon the pile
    have fin : ∀ {f0 : List V} {t0 : List Say} {s : Say} {t u : Addr} {cc : Addr} {H4 : Hp} {r4 r5 r6 r7 : Option V}, Same H H4 → H4 p = some (.lst f0) → Paired (Pr W p H4) f0 t0 → t0.length ≤ i → szs t0 + s.sz ≤ 5 * (i + 1) → dps t0 + (s.dep + 1) ≤ i + 1 → (∀ z ∈ t0, Say.good nt z) → Say.good nt s → t ≠ p → H4 t = some (.tup [.ref u, .ref cc]) → Stm H4 (.ref u) s → cc ≠ p → H4 cc = some (.lst (bls (tru W s))) →
      ∃ (ps : List V) (ss : List Say) (o4 o5 o6 o7 : Option V), [some (.ref c), some (.ref a), some (.ref kd), some (.ref p), r4, r5, r6, r7] = [some (.ref c), some (.ref a), some (.ref kd), some (.ref p), o4, o5, o6, o7] ∧ Same H (upd H4 p (.lst (f0 ++ [.ref t]))) ∧ (upd H4 p (.lst (f0 ++ [.ref t]))) p = some (.lst ps) ∧
       Paired (Pr W p (upd H4 p (.lst (f0 ++ [.ref t])))) ps ss ∧ ss.length ≤ i + 1 ∧ szs ss ≤ 5 * (i + 1) ∧ dps ss ≤ i + 1 ∧ ∀ s ∈ ss, Say.good nt s := by
     intro f0 t0 s t u cc H4 r4 r5 r6 r7 S4 hp4 hpr4 hl4 hsz4 hdp4 hg4 hg nt' ht hst nc hcc
     have T4 : TupK H4 (upd H4 p (.lst (f0 ++ [.ref t]))) := TupK.lst (TupK.refl _) hp4
     refine ⟨f0 ++ [.ref t], t0 ++ [s], _, _, _, _, rfl, S4.set hp, zab, Paired.snoc (zbQ hpr4 zcv T4) ⟨t, .ref u, cc, rfl, nt', T4 _ _ ht, hst.mono T4, nc, zcC nc hcc⟩, by simp; omega, ?_, by rw [zfW, zeQ]; exact hdp4, fun z m => ?_⟩
     ·rw [zd9]; simp only [szs, List.map_cons, List.map_nil, List.sum_cons, List.sum_nil] at hsz4 ⊢; omega
     ·rcases List.mem_append.mp m with m | m
      ·exact hg4 z m
      ·rw [List.mem_singleton.mp m]; exact hg
    refine znW (H := H3) (fun H4 S34 => ?goB2) (fun hB hc => ?goP2)
    case goP2 =>
     walk_at "rd"
     refine ⟨(by show 0 ≤ sizeLine; decide), fun p4 hp4' => ?_⟩
     walk_at "rd"
     have S34 : Same H3 (upd H3 p4 (.lst [])) := by walk_at "sm"
     generalize upd H3 p4 (.lst []) = H4 at S34 ⊢
     have S4 : Same H H4 := S3.trans S34
     have hp4 := S34 _ _ hp3
     have hpr4 := zbQ hpr3 S34.sameD S34.tupK
     rcases zbE ps with rfl | ⟨ps0, v1, rfl⟩
     ·exact iteF (hB _ S34)
     obtain ⟨ss0, s1, rfl, hp0, t1, u1, c1, rfl, n1, e1, st1, m1, g1⟩ := zcX hpr4
     have en : (!(ps0 ++ [V.ref t1]).isEmpty) = true := by cases ps0 <;> rfl
     rw [en]
     refine iteT ?_
     walk_at "rd"
     refine zdC hp4 ?_
     have S5 : Same H (upd H4 p (.lst ps0)) := S4.set hp
     have hp5 : (upd H4 p (.lst ps0)) p = some (.lst ps0) := zab
     have T45 : TupK H4 (upd H4 p (.lst ps0)) := TupK.lst (TupK.refl _) hp4
     have hpr5 := zbQ hp0 (zcv (D := p) (o := .lst ps0)) T45
     have e15 := T45 _ _ e1
     have st15 := st1.mono T45
     have g15 : (upd H4 p (.lst ps0)) c1 = some (.lst (bls (tru W s1))) := zcC m1 g1
     generalize upd H4 p (.lst ps0) = H5 at S5 hp5 hpr5 e15 st15 g15 ⊢
     walk_at "rd"
     refine ⟨(by show 2 ≤ sizeLine; decide), fun t ht => ?_⟩
     walk_at "rd"
     refine ⟨k, c1, a, W, _, rfl, hw.mono (S5.new ht), hv, hz, hdz, za6 ht g15, zaO W s1, fun cc H6 S6 hcc0 hcc => ?_⟩
     walk_at "rd"
     refine ⟨(by show 2 ≤ sizeLine; decide), fun t2 ht2 => ?_⟩
     walk_at "rd"
     have npt : p ≠ t := zag hp5 ht
     have hp6 : H6 p = some (.lst ps0) := S6 _ _ (by walk_at "hp")
     have npt2 : p ≠ t2 := zag hp6 ht2
     have ncc : cc ≠ p := fun e => by rw [e, zai npt, hp5] at hcc0; cases hcc0
     have hl9 := hpl
     simp only [List.length_append, List.length_cons, List.length_nil] at hl9 hsl
     have hk3 := (in3 _ _ _ _).mp hc
     refine zbN (by walk_at "hp") (zcc (by omega)) ?_
     have S56 : Same H5 (upd H6 t2 (.tup [.ref t, .ref cc])) := fun b o e => za6 ht2 (S6 _ _ (za6 ht e))
     refine fin (s := oneS k s1) (u := t) (cc := cc) (S5.trans S56) (by walk_at "hp") (zbQ hpr5 S56.sameD S56.tupK) (by omega) ?_ (by rw [zlp]; simp only [zfW, zeQ] at hdps; omega) (fun z m => hgood z (by simp [m])) (zjS (hk3.imp_right fun z => z.imp_right fun e => ⟨e, ?_⟩) (hgood s1 (by simp))) npt2.symm zab
      (zlo hk3 (za6 ht2 (S6 _ _ zab)) (st15.mono S56.tupK)) ncc (za6 ht2 (by rw [← znw]; exact hcc))
     ·have := znx k s1
      rw [zd9] at hssz
      simp only [szs, List.map_cons, List.map_nil, List.sum_cons, List.sum_nil] at hssz ⊢
      omega
     ·cases hq : nt with
      | true => rfl
      | false => exact absurd (e ▸ hkm) (hnt hq)
    case goB2 =>
     have S4 : Same H H4 := S3.trans S34
     have hp3 := S34 _ _ hp3
     have hpr3 := zbQ hpr3 S34.sameD S34.tupK
     have hw3 := hw.mono S4
     clear S3
     walk_at "rd"
     refine zbO (fun hd => ?_) (fun hd => ?_)
     ·walk_at "rd"
      refine ⟨(by show 2 ≤ sizeLine; decide), fun t ht => ?_⟩
      walk_at "rd"
      refine ⟨"dark", lm, a, W, rfl, hw3.mono (by walk_at "sm"), hz, fun cc H5 S5 hcc0 hcc => ?_⟩
      walk_at "rd"
      refine ⟨(by show 2 ≤ sizeLine; decide), fun t2 ht2 => ?_⟩
      walk_at "rd"
      have npt : p ≠ t := zag hp3 ht
      have hp4 : H5 p = some (.lst ps) := S5 _ _ (by walk_at "hp")
      have npt2 : p ≠ t2 := zag hp4 ht2
      have ncc : cc ≠ p := fun e => by rw [e, zai npt, hp3] at hcc0; cases hcc0
      refine zbN (by walk_at "hp") (zcc (by omega)) ?_
      refine fin (s := .dark lm) (u := t) (cc := cc) (Same.new (Same.trans (by walk_at "sm") S5) ht2) (by walk_at "hp") (zbQ hpr3 (fun b o _ e => za6 ht2 (S5 _ _ (za6 ht e))) (fun b o e => za6 ht2 (S5 _ _ (za6 ht e)))) hsl (by simp only [Say.sz]; omega) (by simp only [Say.dep]; omega) hgood hlm1 npt2.symm zab (.dark (za6 ht2 (S5 _ _ zab))) ncc (za6 ht2 (by rw [← zfh]; exact hcc))
     ·walk_at "rd"
      refine ⟨(by show 2 ≤ sizeLine; decide), fun t ht => ?_⟩
      walk_at "rd"
      refine ⟨"lamp", lm, a, W, rfl, hw3.mono (by walk_at "sm"), hz, fun cc H5 S5 hcc0 hcc => ?_⟩
      walk_at "rd"
      refine ⟨(by show 2 ≤ sizeLine; decide), fun t2 ht2 => ?_⟩
      walk_at "rd"
      have npt : p ≠ t := zag hp3 ht
      have hp4 : H5 p = some (.lst ps) := S5 _ _ (by walk_at "hp")
      have npt2 : p ≠ t2 := zag hp4 ht2
      have ncc : cc ≠ p := fun e => by rw [e, zai npt, hp3] at hcc0; cases hcc0
      refine zbN (by walk_at "hp") (zcc (by omega)) ?_
      refine fin (s := .lamp lm) (u := t) (cc := cc) (Same.new (Same.trans (by walk_at "sm") S5) ht2) (by walk_at "hp") (zbQ hpr3 (fun b o _ e => za6 ht2 (S5 _ _ (za6 ht e))) (fun b o e => za6 ht2 (S5 _ _ (za6 ht e)))) hsl (by simp only [Say.sz]; omega) (by simp only [Say.dep]; omega) hgood hlm1 npt2.symm zab (.lamp (za6 ht2 (S5 _ _ zab))) ncc (za6 ht2 (by rw [← zed]; exact hcc))
  ·rintro σ H1 ⟨ps, ss, o4, o5, o6, o7, rfl, S1, hp1, hpr, hsl, hssz, hdps, hgood⟩
   have hpl := Paired.length hpr
   rw [hnl] at hsl hssz hdps
   walk_at "rd"
   refine ⟨(by show 0 ≤ sizeLine; decide), fun e he => ?_⟩
   walk_at "rd"
   have S12 : Same H1 (upd H1 e (.lst [])) := by walk_at "sm"
   generalize upd H1 e (.lst []) = H2 at S12 ⊢
   have S2 : Same H H2 := S1.trans S12
   have hp2 := S12 _ _ hp1
   have hpr2 := zbQ hpr S12.sameD S12.tupK
   cases hem : ps.isEmpty with
   | true =>
    refine iteT ?_
    walk_at "rd"
    refine ⟨(by show 2 ≤ sizeLine; decide), fun t ht => ?_⟩
    walk_at "rd"
    refine ⟨"lamp", 1, a, W, rfl, hw.mono (S2.new ht), hz, fun cc H5 S5 hcc0 hcc => ?_⟩
    walk_at "rd"
    refine ⟨(by show 2 ≤ sizeLine; decide), fun t2 ht2 => ?_⟩
    walk_at "rd"
    refine q t2 cc (.ref t) (.lamp 1) _ (Same.new (Same.trans (by walk_at "sm") S5) ht2) zab (.lamp (za6 ht2 (S5 _ _ zab))) (za6 ht2 (by rw [← zed]; exact hcc)) (by simp only [Say.sz]; omega) (by simp only [Say.dep]; omega) (by simp only [Say.good]; decide)
   | false =>
    refine iteF ?_
    have hne : ps.length ≠ 0 := fun z => by rw [List.length_eq_zero_iff.mp z] at hem; cases hem
    walk_at "rd"
    refine ⟨fun m σ H1 => ∃ (ps : List V) (ss : List Say) (o4 o5 o6 o7 : Option V), σ = [some (.ref c), some (.ref a), some (.ref kd), some (.ref p), o4, o5, o6, o7] ∧ Same H H1 ∧ H1 p = some (.lst ps) ∧ Paired (Pr W p H1) ps ss ∧ m = ps.length ∧ ps.length ≠ 0 ∧ ps.length ≤ 90 ∧ szs ss + 2 * ss.length ≤ 7 * ns.length ∧ dps ss ≤ ns.length ∧ ∀ s ∈ ss, Say.good nt s,
     ⟨_, ps, ss, _, _, _, _, rfl, S2, hp2, hpr2, rfl, hne, by omega, by omega, hdps, hgood⟩, ?_⟩
    clear hgood hdps hssz hsl hpr2 hp2 hpr hp1 hem hne hpl S12 S2 S1
    rintro m σ H1 ⟨ps, ss, o4, o5, o6, o7, rfl, S1, hp1, hpr, rfl, hne, hpz, hssz, hdps, hgood⟩
    have hpl := Paired.length hpr
    walk_at "rd"
    refine zbO (fun hgt => ?_) (fun hle => ?_)
    ·refine ⟨fun σ' H' => ∃ m', m' < ps.length ∧ ∃ (ps : List V) (ss : List Say) (o4 o5 o6 o7 : Option V), σ' = [some (.ref c), some (.ref a), some (.ref kd), some (.ref p), o4, o5, o6, o7] ∧ Same H H' ∧ H' p = some (.lst ps) ∧ Paired (Pr W p H') ps ss ∧ m' = ps.length ∧ ps.length ≠ 0 ∧ ps.length ≤ 90 ∧ szs ss + 2 * ss.length ≤ 7 * ns.length ∧ dps ss ≤ ns.length ∧ ∀ s ∈ ss, Say.good nt s, fun _ _ h => h, ?_⟩
     walk_at "rd"
     refine ⟨(by show 2 ≤ sizeLine; decide), fun p2 hp2' => ?_⟩
     walk_at "rd"
     have SN : Same H1 (upd H1 p2 (.lst [.str "and", .str "or"])) := by walk_at "sm"
     have hq2 : (upd H1 p2 (.lst [.str "and", .str "or"])) p2 = some (.lst [.str "and", .str "or"]) := zab
     generalize upd H1 p2 (.lst [.str "and", .str "or"]) = H2 at SN hq2 ⊢
     have S2 : Same H H2 := S1.trans SN
     have hp2 := SN _ _ hp1
     have hpr2 := zbQ hpr SN.sameD SN.tupK
     walk_at "rd"
     obtain ⟨k, hk, hkk⟩ : ∃ k : Str, atI [V.str "and", .str "or"] (((ps.length : Nat) : Int) % 2) = some (.str k) ∧ (k = "and" ∨ k = "or") := by
      have h : ((ps.length : Nat) : Int) % 2 = 0 ∨ ((ps.length : Nat) : Int) % 2 = 1 := by omega
      rcases h with e | e <;> rw [e]
      ·exact ⟨"and", rfl, .inl rfl⟩
      ·exact ⟨"or", rfl, .inr rfl⟩
     refine zbt (SqL.of hq2) hk ?_
     walk_at "rd"
     rcases zbE ps with rfl | ⟨ps0, v2, rfl⟩
     ·simp at hgt
     rcases zbE ps0 with rfl | ⟨ps1, v1, rfl⟩
     ·simp at hgt
     obtain ⟨ss0, s2, rfl, hp0, q2⟩ := zcX hpr2
     obtain ⟨ss1, s1, rfl, hp1'', q1⟩ := zcX hp0
     have hl9 := hpl
     simp only [List.length_append, List.length_cons, List.length_nil] at hl9 hpz hssz
     refine ⟨p, k, W, ps1, v1, v2, s1, s2, rfl, hkk, hz, hp2, q1, q2, by omega, fun v H3 D3 T3 hp3 pr3 => ?_⟩
     refine ⟨(ps1 ++ [v]).length, by simp, ps1 ++ [v], ss1 ++ [zd2 k s1 s2], _, _, _, _, rfl, fun b o e => D3 b o (zag e hp) (S2 b o e), hp3, Paired.snoc (zbQ hp1'' D3 T3) pr3, rfl, by simp, by simp; omega, ?_, ?_, fun z m => ?_⟩
     ·rw [zd9] at hssz ⊢
      rw [zd9] at hssz
      have := zhN k s1 s2
      simp only [szs, List.map_cons, List.map_nil, List.sum_cons, List.sum_nil, List.length_append, List.length_cons, List.length_nil] at hssz ⊢
      omega
     ·have := zgv k s1 s2
      simp only [zfW, zeQ] at hdps ⊢
      omega
     ·rcases List.mem_append.mp m with m | m
      ·exact hgood z (by simp [m])
      ·rw [List.mem_singleton.mp m]; exact zfk (hgood s1 (by simp)) (hgood s2 (by simp))
    ·walk_at "rd"
     obtain ⟨v, rfl⟩ : ∃ v, ps = [v] := by
      match ps, hne, hle with
      | [v], _, _ => exact ⟨v, rfl⟩
      | [], h, _ => exact absurd rfl h
      | _ :: _ :: _, _, h => exact absurd (by simp only [List.length_cons]; omega) h
     cases hpr with
     | @cons _ s _ _ ha ht =>
      cases ht
      obtain ⟨t, u, cc, rfl, n1, e1, st1, m1, g1⟩ := ha
      refine zbt (SqL.of hp1) (zbZ _ _) ?_
      refine q t cc u s H1 S1 e1 st1 g1 ?_ (by rw [zeQ] at hdps; omega) (hgood s (by simp))
      simp only [szs, List.map_cons, List.map_nil, List.sum_cons, List.sum_nil, List.length_cons, List.length_nil] at hssz
      omega
theorem zlB {nt : Bool} (D : zaI K mg "_law_grown" zbn ["_law_cells", "_law_world", "_law_kinds"] f fd) (B : Blt mg) (h__law_join : Has P w K mg base "_law_join" 2 ["_law_pile", "_law_sort"] zi7)
  (h__law_truth_by : Has P w K mg base "_law_truth_by" 2 ["_law_sort", "_law_truth", "_law_world"] zdQ) (h__law_truth_of_lamp : Has P w K mg base "_law_truth_of_lamp" 1 ["_law_sort", "_law_lamp", "_law_world"] zfA) :
  Has P w K mg base "_law_grown" 3 ["_law_cells", "_law_world", "_law_kinds"] (zi9 nt) := (zjU (nt := nt) D B h__law_join h__law_truth_by h__law_truth_of_lamp).imp fun vs H Q E ⟨c, a, kd, ns, W, ks, e, h1, h2, h3, h4, h5, h6, h7, h8, h9, h10, q⟩ =>
 ⟨c, a, kd, ns, W, ks, e, h1, h2, h3, h4, h5, h6, h7, h8, h9, h10, fun t c' u s H' z1 z2 z3 z4 z5 _ z6 => q t c' u s H' z1 z2 z3 z4 z5 z6⟩
end
section
variable {P : Program} {w : World} {K : PySem.W.Frag} {mg : Str → Option Value} {base : Heap} {f : Addr} {fd : FuncData}
theorem znH (D : zaI K mg "_law_copy_of" zbb ["_law_world"] f fd) (B : Blt mg) : Has P w K mg base "_law_copy_of" 1 ["_law_world"] zmp := by
 have nd := zdg.nd
 refine D.has (D.fn.ok zdg (fun vs H Q E h => ?_) (fun cdv A outer s H vs Q E hr h => ?_))
 ·obtain ⟨a, W, rfl, _⟩ := h
  rfl
 ·obtain ⟨a, W, rfl, ⟨rs, ha, hp⟩, hz, q⟩ := h
  have hlen := Paired.length hp
  refine ⟨_, (zae (zaq (zaV ["_law_room"] 1 [] (zaD K (pv 0)) (fun _ _ _ _ _ => (zan (i := 0) (show List.Nodup (["_law_room"] : List Str) by decide +kernel) rfl (Or.inl rfl))) (fun _ _ _ _ _ => zbq) (fun _ _ _ _ _ => (za2 (zaa (zbW (zcW K) rfl B.list_ PySem.Pv.boot_list (zaa (zaJ (zaz K) (pv 0) zah (fun _ _ => rfl)) zac)) (zaa (zbW (zcW K) rfl B.list_ PySem.Pv.boot_list (zaa (zaJ (zaz K) (pv 0) zah (fun _ _ => rfl)) zac)) zac))))))), ?_⟩
  walk_at "rd0"
  walk_at "rd"
  refine zbf (SqL.of ha) (by omega) fun D hD => ⟨fun i y H => ∃ r, W[i]? = some r ∧ RmD D H y r, fun i y H H' ⟨r, e, z⟩ S T => ⟨r, e, z.mono S T⟩, fun i x H2 ys C hx S2 hd hC => ?_, fun ys H' S' hD' hl' hR => ?_⟩
  ·obtain ⟨r, hr', ra⟩ := Paired.get1 hp hx
   obtain ⟨c, l, d, rfl, h1, h2, h3⟩ := ra.mono S2
   walk_at "rd"
   refine zfE (SqL.of h2) fun l' hl' => ?_
   walk_at "rd"
   refine zfE (SqL.of (za6 hl' h3)) fun d' hd' => ?_
   walk_at "rd"
   refine ⟨(by show 2 ≤ sizeLine; decide), fun t ht => ?_⟩
   have nl : l' ≠ D := (zag hd hl').symm
   have ndd : d' ≠ D := (zag hd (zdq hd').1).symm
   exact hC _ _ (by walk_at "sm") ⟨r, hr', t, l', d', rfl, nl, ndd, zab, by walk_at "hp", by walk_at "hp"⟩
  ·exact q D H' S' hD (zhj hD' (by omega) hR)
theorem zeY (D : zaI K mg "_law_moved_world" zaM ["_law_world", "_law_far"] f fd) (B : Blt mg) : Has P w K mg base "_law_moved_world" 1 ["_law_world", "_law_far"] zhq := by
 have nd := zct.nd
 refine D.has (D.fn.ok zct (fun vs H Q E h => ?_) (fun cdv A outer s H vs Q E hr h => ?_))
 ·obtain ⟨a, k, W, rfl, _⟩ := h
  rfl
 ·obtain ⟨a, k, W, rfl, ⟨rs, ha, hp⟩, hz, hlz, q⟩ := h
  have hlen := Paired.length hp
  refine ⟨_, (zae (zaq (zaV ["_law_room", "_law_far"] 1 [1] (zaD K (pv 0)) (fun _ _ _ _ _ => (zan (i := 0) (show List.Nodup (["_law_room", "_law_far"] : List Str) by decide +kernel) rfl (Or.inl rfl))) (fun _ _ _ _ _ => zbq) (fun _ _ _ _ _ => (za2 (zaa (zaV ["_law_lamp", "_law_far"] 1 [1] (zaD K (zaJ (zaz K) (pv 0) zah (fun _ _ => rfl))) (fun _ _ _ _ _ => (zan (i := 0) (show List.Nodup (["_law_lamp", "_law_far"] : List Str) by decide +kernel) rfl (Or.inl rfl))) (fun _ _ _ _ _ => zbq) (fun _ _ _ _ _ => (zbd zcn (pv 0) (pv 1)))) (zaa (zbW (zcW K) rfl B.list_ PySem.Pv.boot_list (zaa (zaJ (zaz K) (pv 0) zah (fun _ _ => rfl)) zac)) zac))))))), ?_⟩
  walk_at "rd0"
  walk_at "rd"
  refine zbf (SqL.of ha) (by omega) fun D hD => ⟨fun i y H => ∃ r, (shW k W)[i]? = some r ∧ RmD D H y r, fun i y H H' ⟨r, e, z⟩ S T => ⟨r, e, z.mono S T⟩, fun i x H2 ys C hx S2 hd hC => ?_, fun ys H' S' hD' hl' hR => ?_⟩
  ·obtain ⟨r, hr', ra⟩ := Paired.get1 hp hx
   obtain ⟨c, l, d, rfl, h1, h2, h3⟩ := ra.mono S2
   have hm : r ∈ W := List.mem_of_getElem? hr'
   have hll := hlz r hm
   have hlm : (r.lit.map V.int).length = r.lit.length := List.length_map _
   walk_at "rd"
   refine zbf (SqL.of h2) (by omega) fun D2 hD2 => ⟨fun i y _ => ∃ n, r.lit[i]? = some n ∧ y = .int (n + k), fun i y H H' h _ _ => h, fun i x H3 ys C hx S3 hd3 hC => ?_, fun zs H3 S3 hD3 hl3 hR3 => ?_⟩
   ·rw [List.getElem?_map] at hx
    obtain ⟨n, hn, rfl⟩ := Option.map_eq_some_iff.mp hx
    walk_at "rd"
    exact hC _ _ (Same.refl _) ⟨n, hn, rfl⟩
   ·have ez : zs = (shR k r).lit.map V.int := by
     apply List.ext_getElem?
     intro j
     show zs[j]? = ((r.lit.map (· + k)).map V.int)[j]?
     rw [List.getElem?_map, List.getElem?_map]
     cases e : zs[j]? with
     | none =>
      have : r.lit[j]? = none := List.getElem?_eq_none_iff.mpr (by have := List.getElem?_eq_none_iff.mp e; omega)
      rw [this]
      rfl
     | some y =>
      obtain ⟨n, hn, rfl⟩ := hR3 j y e
      rw [hn]
      rfl
    have h13 := S3 _ _ h1
    walk_at "rd"
    refine zfE (SqL.of (S3 _ _ h3)) fun d' hd' => ?_
    walk_at "rd"
    refine ⟨(by show 2 ≤ sizeLine; decide), fun t ht => ?_⟩
    have nl : D2 ≠ D := (zag hd hD2).symm
    have ndd : d' ≠ D := (zag (S3 _ _ hd) hd').symm
    exact hC _ _ (Same.trans S3 (by walk_at "sm")) ⟨shR k r, by simp [shW, hr'], t, D2, d', rfl, nl, ndd, zab, za6 ht (za6 hd' (by rw [hD3, ez])), za6 ht zab⟩
  ·exact q D H' S' hD (zhj hD' (by rw [zjk]; omega) hR)
theorem znB (D : zaI K mg "_law_the_same" zaZ ["_law_found", "_law_due"] f fd) (B : Blt mg) (h__law_whole : Has P w K mg base "_law_whole" 1 ["_law_found"] zfz) : Has P w K mg base "_law_the_same" 2 ["_law_found", "_law_due"] zmj := by
 have nd := zc5.nd
 refine D.has (D.fn.ok zc5 (fun vs H Q E h => ?_) (fun cdv A outer s H vs Q E hr h => ?_))
 ·obtain ⟨x, y, n, rfl, _⟩ := h
  rfl
 ·obtain ⟨x, y, n, rfl, al, hn, q⟩ := h
  have hu0 := zhR hr
  refine ⟨_, (zad (zay (i := 2) nd rfl (Or.inl rfl) (zbe (zaa (pv 0) zac)))
   (zad (zay (i := 3) nd rfl (Or.inl rfl) (zbe (zaa (pv 1) zac)))
   (zad (zcK PassesOwn.never (zat (zfK K hu0) (pv 3) (zbe zac) (zaF _)) (zad (zay (i := 4) nd rfl (Or.inl rfl) (zcP K PySem.F.plainAttrs_list PySem.F.slot_list_pop PySem.F.type_list_pop zdG (pv 2)))
    (zad (zay (i := 5) nd rfl (Or.inl rfl) (zcP K PySem.F.plainAttrs_list PySem.F.slot_list_pop PySem.F.type_list_pop zdG (pv 3)))
    (zae (za4 (zbv (zak (zhi K) rfl B.isinstance PyProof.Rows.boot_isinstance (zaa (pv 5) (zaa (za2 (zaa (zbG (v := .ty "list") rfl B.list_ PySem.Pv.boot_list rfl) (zaa (zbG (v := .ty "tuple") rfl B.tuple_ PySem.Pv.boot_tuple rfl) zac))) zac)))) (zad (za4 (zat zen (zak (zaR K) rfl B.isinstance PyProof.Rows.boot_isinstance (zaa (pv 4) (zaa (zbG (v := .ty "list") rfl B.list_ PySem.Pv.boot_list rfl) zac))) (zak (zaR K) rfl B.isinstance PyProof.Rows.boot_isinstance (zaa (pv 5) (zaa (zbG (v := .ty "list") rfl B.list_ PySem.Pv.boot_list rfl) zac))) (zaF _)) (zae (zaq zbB)) zaC)
     (zad (za4 (PW.pt (zda (zat zen (zak (zaR K) rfl B.isinstance PyProof.Rows.boot_isinstance (zaa (pv 4) (zaa (zbG (v := .ty "tuple") rfl B.tuple_ PySem.Pv.boot_tuple rfl) zac))) (zak (zaR K) rfl B.isinstance PyProof.Rows.boot_isinstance (zaa (pv 5) (zaa (zbG (v := .ty "tuple") rfl B.tuple_ PySem.Pv.boot_tuple rfl) zac))) (zaF _)) (zcJ (zat zen (zak (zax K) rfl B.len PySem.boot_len (zaa (pv 4) zac)) (zak (zax K) rfl B.len PySem.boot_len (zaa (pv 5) zac)) (zaF _))))) (zae (zaq zbB)) zaC)
     (zad (zbc (zcb K PySem.F.plainAttrs_list PySem.F.slot_list_extend PySem.F.type_list_extend zcT (pv 2) (zaa (pv 4) zac)))
     (zae (zbc (zcb K PySem.F.plainAttrs_list PySem.F.slot_list_extend PySem.F.type_list_extend zcT (pv 3) (zaa (pv 5) zac))))))) (zae (za4 (zbv (zak (zaR K) rfl B.isinstance PyProof.Rows.boot_isinstance (zaa (pv 5) (zaa (zbG (v := .ty "bool") rfl B.bool_ PySem.Pv.boot_bool rfl) zac)))) (zae (za4 (PW.pt (zda (zca (zbv (zak (zaR K) rfl B.isinstance PyProof.Rows.boot_isinstance (zaa (pv 4) (zaa (zbG (v := .ty "bool") rfl B.bool_ PySem.Pv.boot_bool rfl) zac))))) (zcJ (zat zen (pv 4) (pv 5) (zaF _))))) (zae (zaq zbB)) zaC)) (zae (za4 (zbv (zak (zaR K) rfl B.isinstance PyProof.Rows.boot_isinstance (zaa (pv 5) (zaa (zbG (v := .ty "str") rfl B.str_ PySem.Pv.boot_str rfl) zac)))) (zae (za4 (PW.pt (zda (zca (zbv (zak (zaR K) rfl B.isinstance PyProof.Rows.boot_isinstance (zaa (pv 4) (zaa (zbG (v := .ty "str") rfl B.str_ PySem.Pv.boot_str rfl) zac))))) (zcJ (zat zen (pv 4) (pv 5) (zaF _))))) (zae (zaq zbB)) zaC)) (zae (za4 (PW.pt (zda (zca (zbv (zaj h__law_whole hr (zaa (pv 4) zac)))) (zcJ (zat zen (pv 4) (pv 5) (zaF _))))) (zae (zaq zbB)) zaC)))))))))))
   (zae (zaq zbB))))), ?_⟩
  walk_at "rd0"
  walk_at "rd"
  refine ⟨(by show 1 ≤ sizeLine; decide), fun l hl => ?_⟩
  walk_at "rd"
  refine ⟨(by show 1 ≤ sizeLine; decide), fun r hr' => ?_⟩
  have nlr : l ≠ r := zag zab hr'
  have hl0 : H l = none := hl
  have hr0 : H r = none := by rw [zai nlr.symm] at hr'; exact hr'
  walk_at "rd"
  refine ⟨fun m σ H1 => ∃ (L R : List V) (o4 o5 : Option V), σ = [some x, some y, some (.ref l), some (.ref r), o4, o5] ∧ Same H H1 ∧ H1 l = some (.lst L) ∧ H1 r = some (.lst R) ∧ Als H m L R ∧ m ≤ 400000,
   ⟨n, [x], [y], none, none, rfl, by walk_at "sm", by walk_at "hp", zab, al, hn⟩, ?_⟩
  rintro m σ H1 ⟨L, R, o4, o5, rfl, S1, hL, hR, al1, hm⟩
  walk_at "rd"
  refine ⟨(by show 0 ≤ sizeLine; decide), fun e he => ?_⟩
  walk_at "rd"
  have S2 : Same H (upd H1 e (.lst [])) := by walk_at "sm"
  have hL2 : (upd H1 e (.lst [])) l = some (.lst L) := by walk_at "hp"
  have hR2 : (upd H1 e (.lst [])) r = some (.lst R) := by walk_at "hp"
  generalize upd H1 e (.lst []) = H2 at S2 hL2 hR2 ⊢
  rcases al1.snoc with ⟨rfl, rfl, rfl⟩ | ⟨L0, R0, x1, y1, n0, k, rfl, rfl, al0, alx, rfl⟩
  ·refine iteF ?_
   walk_at "rd"
   exact q _ S2
  have e1 : (!(R0 ++ [y1]).isEmpty) = true := by cases R0 <;> rfl
  rw [e1]
  refine iteT ⟨fun σ' H' => ∃ m', m' < n0 + k ∧ ∃ (L R : List V) (o4 o5 : Option V), σ' = [some x, some y, some (.ref l), some (.ref r), o4, o5] ∧ Same H H' ∧ H' l = some (.lst L) ∧ H' r = some (.lst R) ∧ Als H m' L R ∧ m' ≤ 400000, fun _ _ h => h, ?_⟩
  walk_at "rd"
  refine zdC hL2 ?_
  walk_at "rd"
  refine zdC (by walk_at "hp") ?_
  have S3 : Same H (upd (upd H2 l (.lst L0)) r (.lst R0)) := by walk_at "sm"
  have hL3 : (upd (upd H2 l (.lst L0)) r (.lst R0)) l = some (.lst L0) := by walk_at "hp"
  have hR3 : (upd (upd H2 l (.lst L0)) r (.lst R0)) r = some (.lst R0) := by walk_at "hp"
  generalize upd (upd H2 l (.lst L0)) r (.lst R0) = H3 at S3 hL3 hR3 ⊢
  walk_at "rd"
  refine ⟨(by show 2 ≤ sizeLine; decide), fun t ht => ?_⟩
  walk_at "rd"
  have S4 : Same H (upd H3 t (.tup [.ty "list", .ty "tuple"])) := by walk_at "sm"
  have hL4 : (upd H3 t (.tup [.ty "list", .ty "tuple"])) l = some (.lst L0) := by walk_at "hp"
  have hR4 : (upd H3 t (.tup [.ty "list", .ty "tuple"])) r = some (.lst R0) := by walk_at "hp"
  have hT4 : (upd H3 t (.tup [.ty "list", .ty "tuple"])) t = some (.tup [.ty "list", .ty "tuple"]) := zab
  generalize upd H3 t (.tup [.ty "list", .ty "tuple"]) = H4 at S4 hL4 hR4 hT4 ⊢
  have hz := al0.len
  cases alx with
  | bl b t =>
   cases t
   refine zdW hT4 (.bl b) zps ?_
   walk_at "rd"
   refine iteF ?_
   walk_at "rd"
   refine za3 (.bl b) zmz ?_
   walk_at "rd"
   refine iteT ?_
   walk_at "rd"
   refine za3 (.bl b) zmz ?_
   walk_at "rd"
   refine iteF ?_
   walk_at "rd"
   refine zc8 ?_
   walk_at "rd"
   exact ⟨n0, by omega, L0, R0, _, _, rfl, S4, hL4, hR4, al0, by omega⟩
  | int b t =>
   cases t
   refine zdW hT4 (.int b) zpr ?_
   walk_at "rd"
   refine iteF ?_
   walk_at "rd"
   refine za3 (.int b) zmy ?_
   walk_at "rd"
   refine iteF ?_
   walk_at "rd"
   refine za3 (.int b) zpm ?_
   walk_at "rd"
   refine iteF ?_
   walk_at "rd"
   refine ⟨b, rfl, ?_⟩
   walk_at "rd"
   refine iteF ?_
   walk_at "rd"
   refine zc8 ?_
   walk_at "rd"
   exact ⟨n0, by omega, L0, R0, _, _, rfl, S4, hL4, hR4, al0, by omega⟩
  | str b t =>
   cases t
   refine zdW hT4 (.str b) zpp ?_
   walk_at "rd"
   refine iteF ?_
   walk_at "rd"
   refine za3 (.str b) zpl ?_
   walk_at "rd"
   refine iteF ?_
   walk_at "rd"
   refine za3 (.str b) zgt ?_
   walk_at "rd"
   refine iteT ?_
   walk_at "rd"
   refine za3 (.str b) zgt ?_
   walk_at "rd"
   refine iteF ?_
   walk_at "rd"
   refine zc8 ?_
   walk_at "rd"
   exact ⟨n0, by omega, L0, R0, _, _, rfl, S4, hL4, hR4, al0, by omega⟩
  | @lst _ mm _ _ as bs a b ea eb ab t =>
   cases t
   have ea4 := S4 _ _ ea
   have eb4 := S4 _ _ eb
   have hla := ab.len
   have nal : a ≠ l := zag ea hl0
   have nar : a ≠ r := zag ea hr0
   have nbl : b ≠ l := zag eb hl0
   have nbr : b ≠ r := zag eb hr0
   refine zdW hT4 (.lst eb4) zpq ?_
   walk_at "rd"
   refine iteT ?_
   walk_at "rd"
   refine za3 (.lst ea4) zj7 ?_
   walk_at "rd"
   refine za3 (.lst eb4) zj7 ?_
   walk_at "rd"
   refine zc8 ?_
   walk_at "rd"
   refine za3 (.lst ea4) zmx ?_
   walk_at "rd"
   refine za3 (.lst eb4) zmx ?_
   walk_at "rd"
   refine zc8 ?_
   walk_at "rd"
   rw [hla.2]
   refine zc8 ?_
   walk_at "rd"
   refine zdK hL4 (.inl ea4) (zh2 (by omega)) ?_
   walk_at "rd"
   refine zdK (by walk_at "hp") (.inl (by walk_at "hp")) (zh2 (by omega)) ?_
   exact ⟨n0 + mm, by omega, L0 ++ as, R0 ++ bs, _, _, rfl, by walk_at "sm", by walk_at "hp", by walk_at "hp", al0.app ab, by omega⟩
  | @tup _ mm _ _ as bs a b ea eb ab t =>
   cases t
   have ea4 := S4 _ _ ea
   have eb4 := S4 _ _ eb
   have hla := ab.len
   have nal : a ≠ l := zag ea hl0
   have nar : a ≠ r := zag ea hr0
   have nbl : b ≠ l := zag eb hl0
   have nbr : b ≠ r := zag eb hr0
   refine zdW hT4 (.tup eb4) zpo ?_
   walk_at "rd"
   refine iteT ?_
   walk_at "rd"
   refine za3 (.tup ea4) zmw ?_
   walk_at "rd"
   refine za3 (.tup eb4) zmw ?_
   walk_at "rd"
   refine zc8 ?_
   walk_at "rd"
   refine za3 (.tup ea4) zfj ?_
   walk_at "rd"
   refine za3 (.tup eb4) zfj ?_
   walk_at "rd"
   refine zc8 ?_
   walk_at "rd"
   rw [hla.2]
   refine zc8 ?_
   walk_at "rd"
   refine zdK hL4 (.inr ea4) (zh2 (by omega)) ?_
   walk_at "rd"
   refine zdK (by walk_at "hp") (.inr (by walk_at "hp")) (zh2 (by omega)) ?_
   exact ⟨n0 + mm, by omega, L0 ++ as, R0 ++ bs, _, _, rfl, by walk_at "sm", by walk_at "hp", by walk_at "hp", al0.app ab, by omega⟩
end
section
variable {P : Program} {w : World} {K : PySem.W.Frag} {mg : Str → Option Value} {base : Heap} {f : Addr} {fd : FuncData}
theorem zeH (D : zaI K mg "_law_behind_parts" zaH ["_law_statement"] f fd) (B : Blt mg) : Has P w K mg base "_law_behind_parts" 1 ["_law_statement"] zi2 := by
 have nd := zcl.nd
 refine D.has (D.fn.ok zcl (fun vs H Q E h => ?_) (fun cdv A outer s H vs Q E hr h => ?_))
 ·obtain ⟨v, s, rfl, _⟩ := h
  rfl
 ·obtain ⟨v, s, rfl, st, hz, q⟩ := h
  have hu0 := zhR hr
  have hpz := (Say.po_len s).1
  refine ⟨_, (zad (zay (i := 1) nd rfl (Or.inl rfl) (zbe zac))
   (zad (zay (i := 2) nd rfl (Or.inl rfl) (zbe (zaa (pv 0) zac)))
   (zad (zcK PassesOwn.never (zat (zfK K hu0) (pv 2) (zbe zac) (zaF _)) (zad (zay (i := 3) nd rfl (Or.inl rfl) (zcP K PySem.F.plainAttrs_list PySem.F.slot_list_pop PySem.F.type_list_pop zdG (pv 2)))
    (zad (zbc (zcb K PySem.F.plainAttrs_list PySem.F.slot_list_append PySem.F.type_list_append zbC (pv 1) (zaa (pv 3) zac)))
    (zae (za4 (zat (zdj K) (zaJ (zaz K) (pv 3) zah (fun _ _ => rfl)) (zbe (zaa zaB (zaa zaB zac))) (by with_unfolding_all rfl)) (zae (zbc (zcb K PySem.F.plainAttrs_list PySem.F.slot_list_extend PySem.F.type_list_extend zcT (pv 2) (zaa (zbW (zcW K) rfl B.list_ PySem.Pv.boot_list (zaa (zdY (zjf K) (pv 3) (zcY zah) zeG) zac)) zac)))) zaC)))))
   (zae (zaq (zia K rfl B.list_ rfl B.reversed (zaa (pv 1) zac))))))), ?_⟩
  walk_at "rd0"
  walk_at "rd"
  refine ⟨(by show 0 ≤ sizeLine; decide), fun p hp => ?_⟩
  walk_at "rd"
  refine ⟨(by show 1 ≤ sizeLine; decide), fun wt hwt => ?_⟩
  have nwp : wt ≠ p := (zdq hwt).2
  have wt0 : H wt = none := (zdq hwt).1
  walk_at "rd"
  refine ⟨fun m σ H1 => ∃ (Pv Wv : List V) (Ps Ws : List Say) (o3 : Option V), σ = [some v, some (.ref p), some (.ref wt), o3] ∧ Same H H1 ∧ H1 p = some (.lst Pv) ∧ H1 wt = some (.lst Wv) ∧ Stms H1 Pv Ps ∧ Stms H1 Wv Ws ∧ Ps ++ Ws.reverse.flatMap Say.po = s.po ∧ m = pl Ws,
   ⟨_, [], [v], [], [s], none, rfl, by walk_at "sm", by walk_at "hp", zab, .nil, .cons (st.mono (by walk_at "tk")) .nil, by simp, rfl⟩, ?_⟩
  rintro m σ H1 ⟨Pv, Wv, Ps, Ws, o3, rfl, S1, hP, hW, sP, sW, he, rfl⟩
  have hlen : Ps.length + pl Ws = s.po.length := by rw [← he, List.length_append, znj]
  walk_at "rd"
  refine ⟨(by show 0 ≤ sizeLine; decide), fun e1 he1 => ?_⟩
  walk_at "rd"
  have SN : Same H1 (upd H1 e1 (.lst [])) := by walk_at "sm"
  generalize upd H1 e1 (.lst []) = H2 at SN ⊢
  have S2 := S1.trans SN
  have hP2 := SN _ _ hP
  have hW2 := SN _ _ hW
  have sP2 := sP.mono SN.tupK
  have sW2 := sW.mono SN.tupK
  have lP := Paired.length sP2
  have lW := Paired.length sW2
  have hwl := zhz Ws
  rcases zbE Wv with rfl | ⟨W0, x, rfl⟩
  ·cases sW
   refine iteF ?_
   walk_at "rd"
   have he' : Ps = s.po := by simpa using he
   refine ⟨p, Pv, rfl, SqL.of hP2, fun r hr' => ?_⟩
   refine q r Pv.reverse _ (S2.new hr') ?_ zab ?_
   ·cases hh : H r with
    | none => rfl
    | some o => rw [S2 _ _ hh] at hr'; cases hr'
   ·exact Paired.rev (he' ▸ sP2.mono (by walk_at "tk"))
  ·have en : (!(W0 ++ [x]).isEmpty) = true := by cases W0 <;> rfl
   rw [en]
   refine iteT ?_
   refine ⟨fun σ' H' => ∃ m', m' < pl Ws ∧ ∃ (Pv Wv : List V) (Ps Ws : List Say) (o3 : Option V), σ' = [some v, some (.ref p), some (.ref wt), o3] ∧ Same H H' ∧ H' p = some (.lst Pv) ∧ H' wt = some (.lst Wv) ∧ Stms H' Pv Ps ∧ Stms H' Wv Ws ∧ Ps ++ Ws.reverse.flatMap Say.po = s.po ∧ m' = pl Ws, fun _ _ h => h, ?_⟩
   obtain ⟨Ws0, t, rfl, sW0, sx⟩ := zcX sW2
   have e5 := zhA Ws0 [t]
   have e6 : pl [t] = t.po.length := by simp [pl]
   have e4 := zjJ t
   have lW0 := Paired.length sW0
   have hW0l := zhz Ws0
   walk_at "rd"
   refine zdC hW2 ?_
   walk_at "rd"
   refine zbN (zcC nwp.symm hP2) (zcc (by omega)) ?_
   have T3 : TupK H2 (upd (upd H2 wt (.lst W0)) p (.lst (Pv ++ [x]))) := TupK.lst (TupK.lst (TupK.refl _) hW2) (zcC nwp.symm hP2)
   have S3 : Same H (upd (upd H2 wt (.lst W0)) p (.lst (Pv ++ [x]))) := (S2.set wt0).set hp
   have hW3 : (upd (upd H2 wt (.lst W0)) p (.lst (Pv ++ [x]))) wt = some (.lst W0) := zcC nwp zab
   have hP3 : (upd (upd H2 wt (.lst W0)) p (.lst (Pv ++ [x]))) p = some (.lst (Pv ++ [x])) := zab
   have sP3 : Stms (upd (upd H2 wt (.lst W0)) p (.lst (Pv ++ [x]))) (Pv ++ [x]) (Ps ++ [t]) := Paired.snoc (sP2.mono T3) (sx.mono T3)
   have sW3 := Stms.mono sW0 T3
   have sx3 := sx.mono T3
   generalize upd (upd H2 wt (.lst W0)) p (.lst (Pv ++ [x])) = H3 at S3 hW3 hP3 sP3 sW3 sx3 ⊢
   obtain ⟨ax, xs, rfl, ex, hkd⟩ := Stm.parts sx3
   walk_at "rd"
   refine zdD (SqT.of ex) (zbZ _ _) ?_
   walk_at "rd"
   refine ⟨(by show 2 ≤ sizeLine; decide), fun p4 hp4 => ?_⟩
   walk_at "rd"
   refine zdh (.inl (SqL.of zab)) rfl rfl ?_
   walk_at "rd"
   rw [znL]
   have S34 : Same H3 (upd H3 p4 (.lst [.str "lamp", .str "dark"])) := by walk_at "sm"
   generalize upd H3 p4 (.lst [.str "lamp", .str "dark"]) = H4 at S34 ⊢
   have hW4 := S34 _ _ hW3
   have hP4 := S34 _ _ hP3
   cases hl : Say.leaf t with
   | true =>
    refine iteF ?_
    walk_at "rd"
    refine ⟨pl Ws0, by omega, Pv ++ [.ref ax], W0, Ps ++ [t], Ws0, _, rfl, S3.trans S34, hP4, hW4, sP3.mono S34.tupK, sW3.mono S34.tupK, ?_, rfl⟩
    rw [← he]
    have hk0 := zj4 hl
    simp only [List.reverse_append, List.reverse_singleton, List.flatMap_append, List.flatMap_singleton, List.append_assoc]
    rw [Say.po_eq t, hk0]
    rfl
   | false =>
    refine iteT ?_
    have ex4 := S34 _ _ ex
    have sks := (hkd hl).mono S34.tupK
    have lks := Paired.length sks
    have hkl := zhz t.kids
    walk_at "rd"
    refine zjq (SqT.of ex4) fun p5 hp5 => ?_
    walk_at "rd"
    refine zhu (SqT.of zab) fun p6 hp6 => ?_
    walk_at "rd"
    refine zdK (za6 hp6 (za6 hp5 hW4)) (.inl zab) (zh2 (by omega)) ?_
    have T7 : TupK H4 (upd (upd (upd H4 p5 (.tup xs)) p6 (.lst xs)) wt (.lst (W0 ++ xs))) := TupK.lst (by walk_at "tk") (za6 hp6 (za6 hp5 hW4))
    refine ⟨pl (Ws0 ++ t.kids), ?_, Pv ++ [.ref ax], W0 ++ xs, Ps ++ [t], Ws0 ++ t.kids, _, rfl, (((S3.trans S34).new hp5).new hp6).set wt0, zcC nwp.symm (za6 hp6 (za6 hp5 hP4)), zab, (sP3.mono S34.tupK).mono T7, Paired.app ((sW3.mono S34.tupK).mono T7) (sks.mono T7), ?_, rfl⟩
    ·rw [zhA]; omega
    ·rw [← he]
     simp only [List.reverse_append, List.reverse_singleton, List.flatMap_append, List.flatMap_singleton, List.append_assoc]
     rw [Say.po_eq t]
     rfl
theorem zgn (D : zaI K mg "_law_truths_of" zaS ["_law_world", "_law_statement"] f fd) (B : Blt mg) (h__law_behind_parts : Has P w K mg base "_law_behind_parts" 1 ["_law_statement"] zi2) (h__law_truth_of_lamp : Has P w K mg base "_law_truth_of_lamp" 1 ["_law_sort", "_law_lamp", "_law_world"] zfA)
  (h__law_truth_of_two : Has P w K mg base "_law_truth_of_two" 1 ["_law_sort", "_law_first", "_law_second"] ziZ) (h__law_truth_by : Has P w K mg base "_law_truth_by" 2 ["_law_sort", "_law_truth", "_law_world"] zdQ) : Has P w K mg base "_law_truths_of" 3 ["_law_world", "_law_statement"] zhp := by
 have nd := zcR.nd
 refine D.has (D.fn.ok zcR (fun vs H Q E h => ?_) (fun cdv A outer s H vs Q E hr h => ?_))
 ·obtain ⟨a, v, W, s, rfl, _⟩ := h
  rfl
 ·obtain ⟨a, v, W, s, rfl, hw, hv, hz, hdz, st, hsz, q⟩ := h
  have hpz := (Say.po_len s).1
  have hpo : s.post.length = s.po.length := List.length_reverse
  refine ⟨_, (zad (zay (i := 2) nd rfl (Or.inl rfl) (zbe zac))
   (zad (zbS PassesOwn.never rfl (zaD K (zaj h__law_behind_parts hr (zaa (pv 1) zac))) (zan (i := 3) nd rfl (Or.inl rfl)) (zae (za4 (zat (zdF K) (zaJ (zaz K) (pv 3) zah (fun _ _ => rfl)) (zbe (zaa zaB (zaa zaB zac))) (by with_unfolding_all rfl)) (zae (zbc (zcb K PySem.F.plainAttrs_list PySem.F.slot_list_append PySem.F.type_list_append zbC (pv 2) (zaa (zaj h__law_truth_of_lamp hr (zaa (zaJ (zaz K) (pv 3) zah (fun _ _ => rfl)) (zaa (zaJ (zaz K) (pv 3) zah (fun _ _ => rfl)) (zaa (pv 0) zac)))) zac)))) (zae (za4 (zat (zdF K) (zaJ (zaz K) (pv 3) zah (fun _ _ => rfl)) (zbe (zaa zaB (zaa zaB zac))) (by with_unfolding_all rfl)) (zad (zay (i := 4) nd rfl (Or.inl rfl) (zcP K PySem.F.plainAttrs_list PySem.F.slot_list_pop PySem.F.type_list_pop zdG (pv 2)))
      (zae (zbc (zcb K PySem.F.plainAttrs_list PySem.F.slot_list_append PySem.F.type_list_append zbC (pv 2) (zaa (zaj h__law_truth_of_two hr (zaa (zaJ (zaz K) (pv 3) zah (fun _ _ => rfl)) (zaa (zcP K PySem.F.plainAttrs_list PySem.F.slot_list_pop PySem.F.type_list_pop zdG (pv 2)) (zaa (pv 4) zac)))) zac))))) (zae (zbc (zcb K PySem.F.plainAttrs_list PySem.F.slot_list_append PySem.F.type_list_append zbC (pv 2) (zaa (zaj h__law_truth_by hr (zaa (zaJ (zaz K) (pv 3) zah (fun _ _ => rfl)) (zaa (zcP K PySem.F.plainAttrs_list PySem.F.slot_list_pop PySem.F.type_list_pop zdG (pv 2)) (zaa (pv 0) zac)))) zac)))))))))
   (zae (zaq (zaJ (zaK K) (pv 2) zah (fun _ _ => rfl)))))), ?_⟩
  walk_at "rd0"
  walk_at "rd"
  refine ⟨(by show 0 ≤ sizeLine; decide), fun fo hfo => ?_⟩
  walk_at "rd"
  refine ⟨v, s, rfl, st.mono (by walk_at "tk"), hsz, fun l ps H2 S2 hl0 hl hps => ?_⟩
  have SH : Same H H2 := Same.trans (by walk_at "sm") S2
  have hf2 : H2 fo = some (.lst []) := S2 _ _ zab
  have nlf : l ≠ fo := (zdq hl0).2
  have lps := Paired.length hps
  walk_at "rd"
  refine zbA (K := K) (a := l) (xs := ps) (fun i σ H1 => ∃ (fs : List V) (tt : List (List Bool)) (o3 o4 : Option V), σ = [some (.ref a), some v, some (.ref fo), o3, o4] ∧ Same H H1 ∧ H1 l = some (.lst ps) ∧ Stms H1 ps s.post ∧ H1 fo = some (.lst fs) ∧ Paired (TrAt fo H1) fs tt ∧ Fit W tt ∧
    tt.length ≤ i ∧ runG Say.arity (truF W) (s.post.drop i) tt = some [tru W s])
   ⟨[], [], none, none, rfl, SH, hl, hps, hf2, .nil, (fun _ h => by cases h), Nat.le_refl _, by rw [List.drop_zero, zcH]; rfl⟩
   (fun i σ H1 _ ⟨_, _, _, _, _, _, h, _⟩ => SqL.of h) ?_ ?_
  ·rintro i x σ H1 hi ⟨fs, tt, o3, o4, rfl, S1, hl1, hps1, hf1, htr, hfit, htl, hrun⟩
   obtain ⟨t, ht, sx⟩ := Paired.get1 hps1 hi
   have hip : i < s.post.length := (List.getElem?_eq_some_iff.mp ht).1
   rw [zlV ht] at hrun
   have hk := zjn hrun
   have hlf := Paired.length htr
   have hw1 : za5 H1 a W := hw.mono S1
   have fin : ∀ {f0 : List V} {t0 : List (List Bool)} {b : List Bool} {c : Addr} {H3 : Hp} {o4 : Option V}, Same H H3 → H3 l = some (.lst ps) → TupK H1 H3 → H3 fo = some (.lst f0) → Paired (TrAt fo H3) f0 t0 → Fit W t0 → t0.length ≤ i → c ≠ fo → H3 c = some (.lst (bls b)) → b.length = W.length →
     runG Say.arity (truF W) (s.post.drop (i + 1)) (t0 ++ [b]) = some [tru W s] → ∃ (fs : List V) (tt : List (List Bool)) (p3 p4 : Option V), [some (.ref a), some v, some (.ref fo), some x, o4] = [some (.ref a), some v, some (.ref fo), p3, p4] ∧ Same H (upd H3 fo (.lst (f0 ++ [.ref c]))) ∧ (upd H3 fo (.lst (f0 ++ [.ref c]))) l = some (.lst ps) ∧ Stms (upd H3 fo (.lst (f0 ++ [.ref c]))) ps s.post ∧ (upd H3 fo (.lst (f0 ++ [.ref c]))) fo = some (.lst fs) ∧
      Paired (TrAt fo (upd H3 fo (.lst (f0 ++ [.ref c])))) fs tt ∧ Fit W tt ∧ tt.length ≤ i + 1 ∧ runG Say.arity (truF W) (s.post.drop (i + 1)) tt = some [tru W s] := by
    intro f0 t0 b c H3 o4 S3 hl3 T3 hf3 ht3 fit3 len3 nc hc hb es
    exact ⟨f0 ++ [.ref c], t0 ++ [b], _, _, rfl, S3.set hfo, zcC nlf hl3, Stms.mono hps1 (T3.trans (TupK.lst (TupK.refl _) hf3)), zab, Paired.snoc (zdP ht3 zcv) ⟨c, rfl, nc, zcC nc hc⟩, zlT fit3 hb, by rw [List.length_append]; exact Nat.succ_le_succ len3, es⟩
   obtain ⟨ax, xs, rfl, ex, _⟩ := Stm.parts sx
   walk_at "rd"
   refine zdD (SqT.of ex) (zbZ _ _) ?_
   walk_at "rd"
   refine ⟨(by show 2 ≤ sizeLine; decide), fun p2 hp2 => ?_⟩
   walk_at "rd"
   refine zdE (.inl (SqL.of zab)) rfl rfl ?_
   walk_at "rd"
   rw [znL]
   have SN : Same H1 (upd H1 p2 (.lst [.str "lamp", .str "dark"])) := by walk_at "sm"
   generalize upd H1 p2 (.lst [.str "lamp", .str "dark"]) = H2' at SN ⊢
   have ex2 := SN _ _ ex
   have hf2' := SN _ _ hf1
   cases hleaf : Say.leaf t with
   | true =>
    refine iteT ?_
    obtain ⟨b, k, eb, ek, hk'⟩ := sx.leafK hleaf
    cases eb
    have ek2 := SN _ _ ek
    walk_at "rd"
    refine ⟨t.tag, k, a, W, rfl, hw1.mono SN, hz, fun c H3 S3 hc0 hc => ?_⟩
    walk_at "rd"
    have nc : c ≠ fo := fun e => by rw [e, hf2'] at hc0; cases hc0
    have S13 := SN.trans S3
    refine zbN (S13 _ _ hf1) (zcc (by omega)) ?_
    rw [zmN (zkJ hleaf)] at hrun
    rw [zlK hk'] at hc
    exact fin (S1.trans S13) (S13 _ _ hl1) S13.tupK (S13 _ _ hf1) (zdP htr S13.sameD) hfit htl nc hc (zfx (by rw [zkJ hleaf]; rfl) (fun _ h => by cases h)) hrun
   | false =>
    refine iteF ?_
    walk_at "rd"
    refine zdD (SqT.of ex2) (zbZ _ _) ?_
    walk_at "rd"
    refine ⟨(by show 2 ≤ sizeLine; decide), fun p3 hp3 => ?_⟩
    walk_at "rd"
    refine zdE (.inl (SqL.of zab)) rfl rfl ?_
    walk_at "rd"
    rw [zpx]
    have SN3 : Same H1 (upd H2' p3 (.lst [.str "and", .str "or"])) := by walk_at "sm"
    generalize upd H2' p3 (.lst [.str "and", .str "or"]) = H3 at SN3 ⊢
    have hf3 := SN3 _ _ hf1
    have hl3 := SN3 _ _ hl1
    have htr3 := zdP htr SN3.sameD
    have S3 := S1.trans SN3
    have ex3 := SN3 _ _ ex
    cases hjoin : Say.join t with
    | true =>
     refine iteT ?_
     rcases zbE tt with rfl | ⟨t0, b2, rfl⟩
     ·rw [zeV hjoin] at hk; simp at hk
     rcases zbE t0 with rfl | ⟨t1, b1, rfl⟩
     ·rw [zeV hjoin] at hk; simp at hk
     obtain ⟨f0, y2, rfl, p0, c2, rfl, nc2, hc2⟩ := zez htr3
     obtain ⟨f1, y1, rfl, p1, c1, rfl, nc1, hc1⟩ := zez p0
     have hb2 : b2.length = W.length := hfit b2 (by simp)
     have hb1 : b1.length = W.length := hfit b1 (by simp)
     have fit1 : Fit W t1 := fun z m => hfit z (by simp [m])
     rw [zmM (zeV hjoin)] at hrun
     walk_at "rd"
     refine zdC hf3 ?_
     have ex4 : (upd H3 fo (.lst (f1 ++ [.ref c1]))) ax = _ := TupK.lst (TupK.refl _) hf3 _ _ ex3
     walk_at "rd"
     refine zdD (SqT.of ex4) (zbZ _ _) ?_
     walk_at "rd"
     refine zdC zab ?_
     rw [ziH]
     walk_at "rd"
     refine ⟨t.tag, c1, c2, b1, b2, rfl, zcC nc1 hc1, zcC nc2 hc2, by omega, by omega, fun c H5 S5 hc0 hc => ?_⟩
     walk_at "rd"
     have nc : c ≠ fo := fun e => by rw [e, zab] at hc0; cases hc0
     have hf5 : H5 fo = some (.lst f1) := S5 _ _ zab
     simp only [List.length_append, List.length_cons, List.length_nil] at hlf htl
     refine zbN hf5 (zcc (by omega)) ?_
     rw [zol (W := W) hjoin] at hc
     refine fin (Same.trans (S3.set hfo) S5) (S5 _ _ (zcC nlf hl3)) ((TupK.trans SN3.tupK (TupK.lst (TupK.refl _) hf3)).trans S5.tupK) hf5 (zdP p1 (zcD.trans zcv S5.sameD)) fit1 (by omega) nc hc (zfx (by rw [zeV hjoin]; rfl) fun z m => ?_) hrun
     simp only [List.mem_cons, List.not_mem_nil, or_false] at m
     rcases m with rfl | rfl
     ·exact hb1
     ·exact hb2
    | false =>
     refine iteF ?_
     rcases zbE tt with rfl | ⟨t0, b1, rfl⟩
     ·rw [zkI hleaf hjoin] at hk; simp at hk
     obtain ⟨f0, y1, rfl, p0, c1, rfl, nc1, hc1⟩ := zez htr3
     have hb1 : b1.length = W.length := hfit b1 (by simp)
     have fit1 : Fit W t0 := fun z m => hfit z (by simp [m])
     rw [zkW (zkI hleaf hjoin)] at hrun
     walk_at "rd"
     refine zdD (SqT.of ex3) (zbZ _ _) ?_
     walk_at "rd"
     refine zdC hf3 ?_
     walk_at "rd"
     refine ⟨t.tag, c1, a, W, b1, rfl, hw.mono (S3.set hfo), hv, hz, hdz, zcC nc1 hc1, hb1, fun c H5 S5 hc0 hc => ?_⟩
     walk_at "rd"
     have nc : c ≠ fo := fun e => by rw [e, zab] at hc0; cases hc0
     have hf5 : H5 fo = some (.lst f0) := S5 _ _ zab
     simp only [List.length_append, List.length_cons, List.length_nil] at hlf htl
     refine zbN hf5 (zcc (by omega)) ?_
     rw [zqa hleaf hjoin] at hc
     refine fin (Same.trans (S3.set hfo) S5) (S5 _ _ (zcC nlf hl3)) ((TupK.trans SN3.tupK (TupK.lst (TupK.refl _) hf3)).trans S5.tupK) hf5 (zdP p0 (zcD.trans zcv S5.sameD)) fit1 (by omega) nc hc (zfx (by rw [zkI hleaf hjoin]; rfl) fun z m => ?_) hrun
     simp only [List.mem_cons, List.not_mem_nil, or_false] at m
     rw [m]; exact hb1
  ·rintro σ H1 ⟨fs, tt, o3, o4, rfl, S1, hl1, hps1, hf1, htr, hfit, htl, hrun⟩
   have hend : s.post.drop ps.length = [] := List.drop_eq_nil_of_le (by omega)
   rw [hend] at hrun
   have et : tt = [tru W s] := Option.some.inj hrun
   subst et
   cases htr with
   | cons ha ht =>
    cases ht
    obtain ⟨c, rfl, nc, hc⟩ := ha
    walk_at "rd"
    refine zbt (SqL.of hf1) (zbZ _ _) ?_
    exact q c _ S1 hc
end
section
variable {P : Program} {w : World} {K : PySem.W.Frag} {mg : Str → Option Value} {base : Heap} {f : Addr} {fd : FuncData}
theorem zg3 (D : zaI K mg "_law_is_plain" za0 ["_law_found"] f fd) (B : Blt mg) (h__law_whole : Has P w K mg base "_law_whole" 1 ["_law_found"] zfz) : Has P w K mg base "_law_is_plain" 2 ["_law_found"] zgd := by
 have nd := zc6.nd
 refine D.has (D.fn.ok zc6 (fun vs H Q E h => ?_) (fun cdv A outer s H vs Q E hr h => ?_))
 ·obtain ⟨v, s, rfl, _⟩ := h
  rfl
 ·obtain ⟨v, s, rfl, st, hz, hg, q⟩ := h
  have hu0 := zhR hr
  have hpz := (Say.po_len s).1
  refine ⟨_, (zad (zay (i := 1) nd rfl (Or.inl rfl) (zbe (zaa (pv 0) zac)))
   (zad (zcK PassesOwn.never (zat (zfK K hu0) (pv 1) (zbe zac) (zaF _)) (zad (zay (i := 2) nd rfl (Or.inl rfl) (zcP K PySem.F.plainAttrs_list PySem.F.slot_list_pop PySem.F.type_list_pop zdG (pv 1)))
    (zad (za4 (PW.pt (zda (zca (zbv (zak (zaR K) rfl B.isinstance PyProof.Rows.boot_isinstance (zaa (pv 2) (zaa (zbG (v := .ty "tuple") rfl B.tuple_ PySem.Pv.boot_tuple rfl) zac))))) (zda (zat zib (zak (zax K) rfl B.len PySem.boot_len (zaa (pv 2) zac)) zah (zaF _)) (zcJ (zca (zbv (zak (zaR K) rfl B.isinstance PyProof.Rows.boot_isinstance (zaa (zaJ (zaz K) (pv 2) zah (fun _ _ => rfl)) (zaa (zbG (v := .ty "str") rfl B.str_ PySem.Pv.boot_str rfl) zac))))))))) (zae (zaq zbB)) zaC)
    (zae (za4 (zat (zdF K) (zaJ (zaz K) (pv 2) zah (fun _ _ => rfl)) (zbe (zaa zaB (zaa zaB zac))) (by with_unfolding_all rfl)) (zae (za4 (PW.pt (zda (zat zen (zak (zax K) rfl B.len PySem.boot_len (zaa (pv 2) zac)) zah (zaF _)) (zda (zca (zbv (zaj h__law_whole hr (zaa (zaJ (zaz K) (pv 2) zah (fun _ _ => rfl)) zac)))) (zcJ (zat zib (zaJ (zaz K) (pv 2) zah (fun _ _ => rfl)) zah (zaF _)))))) (zae (zaq zbB)) zaC)) (zae (za4 (zat (zdF K) (zaJ (zaz K) (pv 2) zah (fun _ _ => rfl)) (zbe (zaa zaB (zaa zaB zac))) (by with_unfolding_all rfl)) (zad (za4 (zat zen (zak (zax K) rfl B.len PySem.boot_len (zaa (pv 2) zac)) zah (zaF _)) (zae (zaq zbB)) zaC)
      (zae (zbc (zcb K PySem.F.plainAttrs_list PySem.F.slot_list_append PySem.F.type_list_append zbC (pv 1) (zaa (zaJ (zaz K) (pv 2) zah (fun _ _ => rfl)) zac))))) (zae (za4 (PW.pt (zda (zat (zdj K) (zaJ (zaz K) (pv 2) zah (fun _ _ => rfl)) (zbe (zaa zaB (zaa zaB zac))) (by with_unfolding_all rfl)) (zcJ (zat zen (zak (zax K) rfl B.len PySem.boot_len (zaa (pv 2) zac)) zah (zaF _))))) (zae (zaq zbB)) (zae (zbc (zcb K PySem.F.plainAttrs_list PySem.F.slot_list_extend PySem.F.type_list_extend zcT (pv 1) (zaa (zbW (zcW K) rfl B.list_ PySem.Pv.boot_list (zaa (zdY (zjf K) (pv 2) (zcY zah) zeG) zac)) zac)))))))))))))
   (zae (zaq zbB)))), ?_⟩
  walk_at "rd0"
  walk_at "rd"
  refine ⟨(by show 1 ≤ sizeLine; decide), fun wt hwt => ?_⟩
  walk_at "rd"
  refine ⟨fun m σ H1 => ∃ (Wv : List V) (Ws : List Say) (o2 : Option V), σ = [some v, some (.ref wt), o2] ∧ Same H H1 ∧ H1 wt = some (.lst Wv) ∧ Stms H1 Wv Ws ∧ (∀ t ∈ Ws, Say.good false t) ∧ m = pl Ws ∧ m ≤ 100000,
   ⟨_, [v], [s], none, rfl, by walk_at "sm", zab, .cons (st.mono (by walk_at "tk")) .nil, (fun t m => by rw [List.mem_singleton.mp m]; exact hg), rfl, by simp [pl]; omega⟩, ?_⟩
  rintro m σ H1 ⟨Wv, Ws, o2, rfl, S1, hW, sW, hgs, rfl, hm⟩
  walk_at "rd"
  refine ⟨(by show 0 ≤ sizeLine; decide), fun e1 he1 => ?_⟩
  walk_at "rd"
  have SN : Same H1 (upd H1 e1 (.lst [])) := by walk_at "sm"
  generalize upd H1 e1 (.lst []) = H2 at SN ⊢
  have S2 := S1.trans SN
  have hW2 := SN _ _ hW
  have sW2 := sW.mono SN.tupK
  rcases zbE Wv with rfl | ⟨W0, x, rfl⟩
  ·refine iteF ?_
   walk_at "rd"
   exact q _ S2
  ·have en : (!(W0 ++ [x]).isEmpty) = true := by cases W0 <;> rfl
   rw [en]
   refine iteT ?_
   refine ⟨fun σ' H' => ∃ m', m' < pl Ws ∧ ∃ (Wv : List V) (Ws : List Say) (o2 : Option V), σ' = [some v, some (.ref wt), o2] ∧ Same H H' ∧ H' wt = some (.lst Wv) ∧ Stms H' Wv Ws ∧ (∀ t ∈ Ws, Say.good false t) ∧ m' = pl Ws ∧ m' ≤ 100000, fun _ _ h => h, ?_⟩
   obtain ⟨Ws0, t, rfl, sW0, sx⟩ := zcX sW2
   have e5 := zhA Ws0 [t]
   have e6 : pl [t] = t.po.length := by simp [pl]
   have e4 := zjJ t
   have lW0 := Paired.length sW0
   have hW0l := zhz Ws0
   have gt : Say.good false t := hgs t (by simp)
   have gs0 : ∀ z ∈ Ws0, Say.good false z := fun z m => hgs z (by simp [m])
   walk_at "rd"
   refine zdC hW2 ?_
   have T3 : TupK H2 (upd H2 wt (.lst W0)) := TupK.lst (TupK.refl _) hW2
   have S3 : Same H (upd H2 wt (.lst W0)) := S2.set hwt
   have hW3 : (upd H2 wt (.lst W0)) wt = some (.lst W0) := zab
   have sW3 := Stms.mono sW0 T3
   have sx3 := sx.mono T3
   generalize upd H2 wt (.lst W0) = H3 at S3 hW3 sW3 sx3 ⊢
   clear T3
   -- new ones to look at
   have fin : ∀ {zs : List V} {ks : List Say} {H4 : Hp} {r2 : Option V}, Same H H4 → TupK H3 H4 → H4 wt = some (.lst W0) → Stms H4 zs ks → (∀ z ∈ ks, Say.good false z) → pl ks < t.po.length → ∃ m', m' < pl (Ws0 ++ [t]) ∧ ∃ (Wv : List V) (Ws : List Say) (o2 : Option V), [some v, some (.ref wt), r2] = [some v, some (.ref wt), o2] ∧ Same H (upd H4 wt (.lst (W0 ++ zs))) ∧ (upd H4 wt (.lst (W0 ++ zs))) wt = some (.lst Wv) ∧ Stms (upd H4 wt (.lst (W0 ++ zs))) Wv Ws ∧ (∀ t ∈ Ws, Say.good false t) ∧ m' = pl Ws ∧ m' ≤ 100000 := by
    intro zs ks H4 r2 S4 T4 hW4 sz gk hlt
    have T5 : TupK H4 (upd H4 wt (.lst (W0 ++ zs))) := TupK.lst (TupK.refl _) hW4
    have e7 := zhA Ws0 ks
    refine ⟨pl (Ws0 ++ ks), by omega, W0 ++ zs, Ws0 ++ ks, _, rfl, S4.set hwt, zab, Paired.app (Stms.mono sW3 (T4.trans T5)) (sz.mono T5), fun z m => ?_, rfl, by omega⟩
    rcases List.mem_append.mp m with m | m
    ·exact gs0 z m
    ·exact gk z m
   have fin0 : ∀ {H4 : Hp} {r2 : Option V}, Same H H4 → TupK H3 H4 → H4 wt = some (.lst W0) → ∃ m', m' < pl (Ws0 ++ [t]) ∧ ∃ (Wv : List V) (Ws : List Say) (o2 : Option V), [some v, some (.ref wt), r2] = [some v, some (.ref wt), o2] ∧ Same H H4 ∧ H4 wt = some (.lst Wv) ∧ Stms H4 Wv Ws ∧ (∀ t ∈ Ws, Say.good false t) ∧ m' = pl Ws ∧ m' ≤ 100000 := by
    intro H4 r2 S4 T4 hW4
    exact ⟨pl Ws0, by omega, W0, Ws0, _, rfl, S4, hW4, Stms.mono sW3 T4, gs0, rfl, by omega⟩
   have hk1 : ∀ z ∈ t.kids, Say.good false z := by
    intro z m
    cases t <;> simp only [Say.kids, List.mem_cons, List.not_mem_nil, or_false] at m
    ·exact absurd gt.1 (by decide)
    ·rcases m with rfl | rfl
     ·exact gt.1
     ·exact gt.2
    ·rcases m with rfl | rfl
     ·exact gt.1
     ·exact gt.2
    ·rw [m]; exact gt
    ·rw [m]; exact gt
   obtain ⟨ax, xs, rfl, ex, hkd⟩ := Stm.parts sx3
   walk_at "rd"
   refine za3 (.tup ex) zfj ?_
   walk_at "rd"
   refine iteF ?_
   walk_at "rd"
   have hxl : 1 ≤ xs.length := by
    cases hleaf : Say.leaf t with
    | true =>
     obtain ⟨b, k, eb, ek, _⟩ := sx3.leafK hleaf
     cases eb
     rw [ex] at ek
     cases ek
     exact Nat.le_refl _
    | false =>
     have := Paired.length (hkd hleaf)
     have : 1 ≤ t.kids.length := by cases t <;> first | (cases hleaf; done) | simp [Say.kids]
     omega
   refine zbO (fun c => absurd c (by simp only [List.length_cons]; omega)) (fun _ => ?_)
   walk_at "rd"
   refine zdD (SqT.of ex) (zbZ _ _) ?_
   walk_at "rd"
   refine za3 (.str _) zgt ?_
   walk_at "rd"
   refine iteF ?_
   walk_at "rd"
   refine zdD (SqT.of ex) (zbZ _ _) ?_
   walk_at "rd"
   refine ⟨(by show 2 ≤ sizeLine; decide), fun p4 hp4 => ?_⟩
   walk_at "rd"
   refine zdE (.inl (SqL.of zab)) rfl rfl ?_
   walk_at "rd"
   rw [znL]
   have S34 : Same H3 (upd H3 p4 (.lst [.str "lamp", .str "dark"])) := by walk_at "sm"
   generalize upd H3 p4 (.lst [.str "lamp", .str "dark"]) = H4 at S34 ⊢
   cases hleaf : Say.leaf t with
   | true =>
    refine iteT ?_
    obtain ⟨b, k, eb, ek, hk'⟩ := sx3.leafK hleaf
    cases eb
    have hk1 : 1 ≤ k := by
     rcases hk' with rfl | rfl
     ·exact gt
     ·exact gt
    have ek4 := S34 _ _ ek
    walk_at "rd"
    refine zc8 ?_
    walk_at "rd"
    refine ⟨k, rfl, ?_⟩
    walk_at "rd"
    refine iteF ?_
    walk_at "rd"
    refine zbO (fun c => absurd c (by omega)) (fun _ => ?_)
    walk_at "rd"
    exact fin0 (S3.trans S34) S34.tupK (S34 _ _ hW3)
   | false =>
    refine iteF ?_
    have ex4 := S34 _ _ ex
    walk_at "rd"
    refine zdD (SqT.of ex4) (zbZ _ _) ?_
    walk_at "rd"
    refine ⟨(by show 2 ≤ sizeLine; decide), fun p5 hp5 => ?_⟩
    walk_at "rd"
    refine zdE (.inl (SqL.of zab)) rfl rfl ?_
    walk_at "rd"
    have S35 : Same H3 (upd H4 p5 (.lst [.str "every", .str "some"])) := by walk_at "sm"
    generalize upd H4 p5 (.lst [.str "every", .str "some"]) = H5 at S35 ⊢
    have ex5 := S35 _ _ ex
    have sk5 := (hkd hleaf).mono S35.tupK
    have hW5 := S35 _ _ hW3
    cases hdoor : inV (.str t.tag) [.str "every", .str "some"] with
    | true =>
     refine iteT ?_
     have hd := (in2 _ _ _).mp hdoor
     obtain ⟨x1, k1, rfl, hk2, sx1⟩ : ∃ x1 k1, xs = [x1] ∧ t.kids = [k1] ∧ Stm H5 x1 k1 := by
      cases t with
      | lamp _ => cases hleaf
      | dark _ => cases hleaf
      | neg _ => exact absurd gt.1 (by decide)
      | conj _ _ => rcases hd with hd | hd <;> exact absurd hd (by dsimp only [Say.tag]; decide +kernel)
      | disj _ _ => rcases hd with hd | hd <;> exact absurd hd (by dsimp only [Say.tag]; decide +kernel)
      | ev k1 => cases sk5 with | cons h t => cases t; exact ⟨_, _, rfl, rfl, h⟩
      | so k1 => cases sk5 with | cons h t => cases t; exact ⟨_, _, rfl, rfl, h⟩
     walk_at "rd"
     refine zc8 ?_
     walk_at "rd"
     refine zbN hW5 (zcc (by omega)) ?_
     refine fin (zs := [x1]) (ks := [k1]) (S3.trans S35) S35.tupK hW5 (.cons sx1 .nil) (fun z m => hk1 z (by rw [hk2]; exact m)) ?_
     rw [← hk2]
     omega
    | false =>
     refine iteF ?_
     have hjoin : Say.join t = true := by
      cases t with
      | lamp _ => cases hleaf
      | dark _ => cases hleaf
      | neg _ => exact absurd gt.1 (by decide)
      | conj _ _ => rfl
      | disj _ _ => rfl
      | ev _ => exact absurd (hdoor.symm.trans ((in2 _ _ _).mpr (.inl rfl))) (by decide)
      | so _ => exact absurd (hdoor.symm.trans ((in2 _ _ _).mpr (.inr rfl))) (by decide)
     have hxs2 : xs.length = 2 := by
      have := Paired.length sk5
      rw [this]
      exact zeV hjoin
     walk_at "rd"
     refine zdD (SqT.of ex5) (zbZ _ _) ?_
     walk_at "rd"
     refine ⟨(by show 2 ≤ sizeLine; decide), fun p6 hp6 => ?_⟩
     walk_at "rd"
     refine zdh (.inl (SqL.of zab)) rfl rfl ?_
     walk_at "rd"
     rw [zpx, hjoin]
     refine iteF ?_
     have S36 : Same H3 (upd H5 p6 (.lst [.str "and", .str "or"])) := by walk_at "sm"
     generalize upd H5 p6 (.lst [.str "and", .str "or"]) = H6 at S36 ⊢
     have ex6 := S36 _ _ ex
     have sk6 := (hkd hleaf).mono S36.tupK
     have hW6 := S36 _ _ hW3
     walk_at "rd"
     rw [show (V.str t.tag :: xs).length = 3 by simp [hxs2]]
     refine zc8 ?_
     walk_at "rd"
     refine zjq (SqT.of ex6) fun p7 hp7 => ?_
     walk_at "rd"
     refine zhu (SqT.of zab) fun p8 hp8 => ?_
     walk_at "rd"
     refine zdK (za6 hp8 (za6 hp7 hW6)) (.inl zab) (zh2 (by omega)) ?_
     refine fin (ks := t.kids) (Same.new (Same.new (S3.trans S36) hp7) hp8) (S36.tupK.trans (by walk_at "tk")) (za6 hp8 (za6 hp7 hW6)) (sk6.mono (by walk_at "tk")) hk1 (by omega)
end
end My
set_option Elab.async false
set_option linter.all false
set_option maxRecDepth 100000
set_option maxHeartbeats 4000000
namespace My
open PySem L2
theorem all_mk {l : PySem.W.OpenLaw} {w : World} {K : PySem.W.Frag} {h : Heap} {mg : Str → Option Value} {fa : Addr} (X : K.In h) (G : h.Ns mainGlobals mg) (hfa : mg "law" = some (.ref fa))
  {f1 f2 f3 f4 f5 f6 f7 f8 f9 f10 f11 f12 f13 f14 f15 f16 f17 f18 f19 f20 f21 f22 f23 f24 f25 f26 f27 f28 f29 f30 f31 f32 f33 f34 : Addr} {od1 an1 od2 an2 od3 an3 od4 an4 od5 an5 od6 an6 od7 an7 od8 an8 od9 an9 od10 an10 od11 an11 od12 an12 od13 an13 od14 an14 od15 an15 od16 an16 od17 an17 od18 an18 od19 an19 od20 an20 od21 an21 od22 an22 od23 an23 od24 an24 od25 an25 od26 an26 od27 an27 od28 an28 od29 an29 od30 an30 od31 an31 od32 an32 od33 an33 od34 an34 : Option Addr} {sl1 sl2 sl3 sl4 sl5 sl6 sl7 sl8 sl9 sl10 sl11 sl12 sl13 sl14 sl15 sl16 sl17 sl18 sl19 sl20 sl21 sl22 sl23 sl24 sl25 sl26 sl27 sl28 sl29 sl30 sl31 sl32 sl33 sl34 : Array (Option Value)} {oc1 kV1 dc1 pm1 cd1 ct1 oc2 kV2 dc2 pm2 cd2 ct2 oc3 kV3 dc3 pm3 cd3 ct3 oc4 kV4 dc4 pm4 cd4 ct4 oc5 kV5 dc5 pm5 cd5 ct5 oc6 kV6 dc6 pm6 cd6 ct6 oc7 kV7 dc7 pm7 cd7 ct7 oc8 kV8 dc8 pm8 cd8 ct8 oc9 kV9 dc9 pm9 cd9 ct9 oc10 kV10 dc10 pm10 cd10 ct10 oc11 kV11 dc11 pm11 cd11 ct11 oc12 kV12 dc12 pm12 cd12 ct12 oc13 kV13 dc13 pm13 cd13 ct13 oc14 kV14 dc14 pm14 cd14 ct14 oc15 kV15 dc15 pm15 cd15 ct15 oc16 kV16 dc16 pm16 cd16 ct16 oc17 kV17 dc17 pm17 cd17 ct17 oc18 kV18 dc18 pm18 cd18 ct18 oc19 kV19 dc19 pm19 cd19 ct19 oc20 kV20 dc20 pm20 cd20 ct20 oc21 kV21 dc21 pm21 cd21 ct21 oc22 kV22 dc22 pm22 cd22 ct22 oc23 kV23 dc23 pm23 cd23 ct23 oc24 kV24 dc24 pm24 cd24 ct24 oc25 kV25 dc25 pm25 cd25 ct25 oc26 kV26 dc26 pm26 cd26 ct26 oc27 kV27 dc27 pm27 cd27 ct27 oc28 kV28 dc28 pm28 cd28 ct28 oc29 kV29 dc29 pm29 cd29 ct29 oc30 kV30 dc30 pm30 cd30 ct30 oc31 kV31 dc31 pm31 cd31 ct31 oc32 kV32 dc32 pm32 cd32 ct32 oc33 kV33 dc33 pm33 cd33 ct33 oc34 kV34 dc34 pm34 cd34 ct34 : Value}
  (a1 : PySem.W.nsIn K mainGlobals "leaf_truths" = some (some (.ref f1))) (l1 : K.lookup f1 = some ⟨oc1, od1, .func (PySem.W.fnOf "leaf_truths" "leaf_truths" (zau zbj) (zar zbj) (zaf zbj) .none kV1 dc1 pm1 an1 cd1 ct1), sl1⟩) (c1 : PySem.W.codeIn K cd1 "leaf_truths" = true) (k1 : PySem.W.keepIn K (.ref f1) = true)
  (a2 : PySem.W.nsIn K mainGlobals "join_truths" = some (some (.ref f2))) (l2 : K.lookup f2 = some ⟨oc2, od2, .func (PySem.W.fnOf "join_truths" "join_truths" (zau zbk) (zar zbk) (zaf zbk) .none kV2 dc2 pm2 an2 cd2 ct2), sl2⟩) (c2 : PySem.W.codeIn K cd2 "join_truths" = true) (k2 : PySem.W.keepIn K (.ref f2) = true)
  (a3 : PySem.W.nsIn K mainGlobals "truths_behind" = some (some (.ref f3))) (l3 : K.lookup f3 = some ⟨oc3, od3, .func (PySem.W.fnOf "truths_behind" "truths_behind" (zau zaW) (zar zaW) (zaf zaW) .none kV3 dc3 pm3 an3 cd3 ct3), sl3⟩) (c3 : PySem.W.codeIn K cd3 "truths_behind" = true) (k3 : PySem.W.keepIn K (.ref f3) = true)
  (a4 : PySem.W.nsIn K mainGlobals "door_truths" = some (some (.ref f4))) (l4 : K.lookup f4 = some ⟨oc4, od4, .func (PySem.W.fnOf "door_truths" "door_truths" (zau zbl) (zar zbl) (zaf zbl) .none kV4 dc4 pm4 an4 cd4 ct4), sl4⟩) (c4 : PySem.W.codeIn K cd4 "door_truths" = true) (k4 : PySem.W.keepIn K (.ref f4) = true)
  (a5 : PySem.W.nsIn K mainGlobals "said_of_lamp" = some (some (.ref f5))) (l5 : K.lookup f5 = some ⟨oc5, od5, .func (PySem.W.fnOf "said_of_lamp" "said_of_lamp" (zau za8) (zar za8) (zaf za8) .none kV5 dc5 pm5 an5 cd5 ct5), sl5⟩) (c5 : PySem.W.codeIn K cd5 "said_of_lamp" = true) (k5 : PySem.W.keepIn K (.ref f5) = true)
  (a6 : PySem.W.nsIn K mainGlobals "said_turned" = some (some (.ref f6))) (l6 : K.lookup f6 = some ⟨oc6, od6, .func (PySem.W.fnOf "said_turned" "said_turned" (zau zbi) (zar zbi) (zaf zbi) .none kV6 dc6 pm6 an6 cd6 ct6), sl6⟩) (c6 : PySem.W.codeIn K cd6 "said_turned" = true) (k6 : PySem.W.keepIn K (.ref f6) = true)
  (a7 : PySem.W.nsIn K mainGlobals "said_both" = some (some (.ref f7))) (l7 : K.lookup f7 = some ⟨oc7, od7, .func (PySem.W.fnOf "said_both" "said_both" (zau zbI) (zar zbI) (zaf zbI) .none kV7 dc7 pm7 an7 cd7 ct7), sl7⟩) (c7 : PySem.W.codeIn K cd7 "said_both" = true) (k7 : PySem.W.keepIn K (.ref f7) = true)
  (a8 : PySem.W.nsIn K mainGlobals "said_of_some" = some (some (.ref f8))) (l8 : K.lookup f8 = some ⟨oc8, od8, .func (PySem.W.fnOf "said_of_some" "said_of_some" (zau za7) (zar za7) (zaf za7) .none kV8 dc8 pm8 an8 cd8 ct8), sl8⟩) (c8 : PySem.W.codeIn K cd8 "said_of_some" = true) (k8 : PySem.W.keepIn K (.ref f8) = true)
  (a9 : PySem.W.nsIn K mainGlobals "said_together" = some (some (.ref f9))) (l9 : K.lookup f9 = some ⟨oc9, od9, .func (PySem.W.fnOf "said_together" "said_together" (zau zaX) (zar zaX) (zaf zaX) .none kV9 dc9 pm9 an9 cd9 ct9), sl9⟩) (c9 : PySem.W.codeIn K cd9 "said_together" = true) (k9 : PySem.W.keepIn K (.ref f9) = true)
  (a10 : PySem.W.nsIn K mainGlobals "lamps_lit" = some (some (.ref f10))) (l10 : K.lookup f10 = some ⟨oc10, od10, .func (PySem.W.fnOf "lamps_lit" "lamps_lit" (zau zbJ) (zar zbJ) (zaf zbJ) .none kV10 dc10 pm10 an10 cd10 ct10), sl10⟩) (c10 : PySem.W.codeIn K cd10 "lamps_lit" = true) (k10 : PySem.W.keepIn K (.ref f10) = true)
  (a11 : PySem.W.nsIn K mainGlobals "keep_smaller" = some (some (.ref f11))) (l11 : K.lookup f11 = some ⟨oc11, od11, .func (PySem.W.fnOf "keep_smaller" "keep_smaller" (zau za9) (zar za9) (zaf za9) .none kV11 dc11 pm11 an11 cd11 ct11), sl11⟩) (c11 : PySem.W.codeIn K cd11 "keep_smaller" = true) (k11 : PySem.W.keepIn K (.ref f11) = true)
  (a12 : PySem.W.nsIn K mainGlobals "alike_pairs" = some (some (.ref f12))) (l12 : K.lookup f12 = some ⟨oc12, od12, .func (PySem.W.fnOf "alike_pairs" "alike_pairs" (zau zbm) (zar zbm) (zaf zbm) .none kV12 dc12 pm12 an12 cd12 ct12), sl12⟩) (c12 : PySem.W.codeIn K cd12 "alike_pairs" = true) (k12 : PySem.W.keepIn K (.ref f12) = true)
  (a13 : PySem.W.nsIn K mainGlobals "told_apart" = some (some (.ref f13))) (l13 : K.lookup f13 = some ⟨oc13, od13, .func (PySem.W.fnOf "told_apart" "told_apart" (zau zby) (zar zby) (zaf zby) .none kV13 dc13 pm13 an13 cd13 ct13), sl13⟩) (c13 : PySem.W.codeIn K cd13 "told_apart" = true) (k13 : PySem.W.keepIn K (.ref f13) = true)
  (a14 : PySem.W.nsIn K mainGlobals "_law_draw" = some (some (.ref f14))) (l14 : K.lookup f14 = some ⟨oc14, od14, .func (PySem.W.fnOf "_law_draw" "_law_draw" (zau zbL) (zar zbL) (zaf zbL) .none kV14 dc14 pm14 an14 cd14 ct14), sl14⟩) (c14 : PySem.W.codeIn K cd14 "_law_draw" = true) (k14 : PySem.W.keepIn K (.ref f14) = true)
  (a15 : PySem.W.nsIn K mainGlobals "_law_whole" = some (some (.ref f15))) (l15 : K.lookup f15 = some ⟨oc15, od15, .func (PySem.W.fnOf "_law_whole" "_law_whole" (zau zbz) (zar zbz) (zaf zbz) .none kV15 dc15 pm15 an15 cd15 ct15), sl15⟩) (c15 : PySem.W.codeIn K cd15 "_law_whole" = true) (k15 : PySem.W.keepIn K (.ref f15) = true)
  (a16 : PySem.W.nsIn K mainGlobals "_law_at" = some (some (.ref f16))) (l16 : K.lookup f16 = some ⟨oc16, od16, .func (PySem.W.fnOf "_law_at" "_law_at" (zau zcf) (zar zcf) (zaf zcf) .none kV16 dc16 pm16 an16 cd16 ct16), sl16⟩) (c16 : PySem.W.codeIn K cd16 "_law_at" = true) (k16 : PySem.W.keepIn K (.ref f16) = true)
  (a17 : PySem.W.nsIn K mainGlobals "_law_the_same" = some (some (.ref f17))) (l17 : K.lookup f17 = some ⟨oc17, od17, .func (PySem.W.fnOf "_law_the_same" "_law_the_same" (zau zaZ) (zar zaZ) (zaf zaZ) .none kV17 dc17 pm17 an17 cd17 ct17), sl17⟩) (c17 : PySem.W.codeIn K cd17 "_law_the_same" = true) (k17 : PySem.W.keepIn K (.ref f17) = true)
  (a18 : PySem.W.nsIn K mainGlobals "_law_copy_of" = some (some (.ref f18))) (l18 : K.lookup f18 = some ⟨oc18, od18, .func (PySem.W.fnOf "_law_copy_of" "_law_copy_of" (zau zbb) (zar zbb) (zaf zbb) .none kV18 dc18 pm18 an18 cd18 ct18), sl18⟩) (c18 : PySem.W.codeIn K cd18 "_law_copy_of" = true) (k18 : PySem.W.keepIn K (.ref f18) = true)
  (a19 : PySem.W.nsIn K mainGlobals "_law_led" = some (some (.ref f19))) (l19 : K.lookup f19 = some ⟨oc19, od19, .func (PySem.W.fnOf "_law_led" "_law_led" (zau zb1) (zar zb1) (zaf zb1) .none kV19 dc19 pm19 an19 cd19 ct19), sl19⟩) (c19 : PySem.W.codeIn K cd19 "_law_led" = true) (k19 : PySem.W.keepIn K (.ref f19) = true)
  (a20 : PySem.W.nsIn K mainGlobals "_law_truth_by" = some (some (.ref f20))) (l20 : K.lookup f20 = some ⟨oc20, od20, .func (PySem.W.fnOf "_law_truth_by" "_law_truth_by" (zau zaY) (zar zaY) (zaf zaY) .none kV20 dc20 pm20 an20 cd20 ct20), sl20⟩) (c20 : PySem.W.codeIn K cd20 "_law_truth_by" = true) (k20 : PySem.W.keepIn K (.ref f20) = true)
  (a21 : PySem.W.nsIn K mainGlobals "_law_truth_of_two" = some (some (.ref f21))) (l21 : K.lookup f21 = some ⟨oc21, od21, .func (PySem.W.fnOf "_law_truth_of_two" "_law_truth_of_two" (zau zaG) (zar zaG) (zaf zaG) .none kV21 dc21 pm21 an21 cd21 ct21), sl21⟩) (c21 : PySem.W.codeIn K cd21 "_law_truth_of_two" = true) (k21 : PySem.W.keepIn K (.ref f21) = true)
  (a22 : PySem.W.nsIn K mainGlobals "_law_truth_of_lamp" = some (some (.ref f22))) (l22 : K.lookup f22 = some ⟨oc22, od22, .func (PySem.W.fnOf "_law_truth_of_lamp" "_law_truth_of_lamp" (zau zaE) (zar zaE) (zaf zaE) .none kV22 dc22 pm22 an22 cd22 ct22), sl22⟩) (c22 : PySem.W.codeIn K cd22 "_law_truth_of_lamp" = true) (k22 : PySem.W.keepIn K (.ref f22) = true)
  (a23 : PySem.W.nsIn K mainGlobals "_law_join" = some (some (.ref f23))) (l23 : K.lookup f23 = some ⟨oc23, od23, .func (PySem.W.fnOf "_law_join" "_law_join" (zau zbK) (zar zbK) (zaf zbK) .none kV23 dc23 pm23 an23 cd23 ct23), sl23⟩) (c23 : PySem.W.codeIn K cd23 "_law_join" = true) (k23 : PySem.W.keepIn K (.ref f23) = true)
  (a24 : PySem.W.nsIn K mainGlobals "_law_grown" = some (some (.ref f24))) (l24 : K.lookup f24 = some ⟨oc24, od24, .func (PySem.W.fnOf "_law_grown" "_law_grown" (zau zbn) (zar zbn) (zaf zbn) .none kV24 dc24 pm24 an24 cd24 ct24), sl24⟩) (c24 : PySem.W.codeIn K cd24 "_law_grown" = true) (k24 : PySem.W.keepIn K (.ref f24) = true)
  (a25 : PySem.W.nsIn K mainGlobals "_law_plain_kinds" = some (some (.ref f25))) (l25 : K.lookup f25 = some ⟨oc25, od25, .func (PySem.W.fnOf "_law_plain_kinds" "_law_plain_kinds" (zau zaL) (zar zaL) (zaf zaL) .none kV25 dc25 pm25 an25 cd25 ct25), sl25⟩) (c25 : PySem.W.codeIn K cd25 "_law_plain_kinds" = true) (k25 : PySem.W.keepIn K (.ref f25) = true)
  (a26 : PySem.W.nsIn K mainGlobals "_law_behind_parts" = some (some (.ref f26))) (l26 : K.lookup f26 = some ⟨oc26, od26, .func (PySem.W.fnOf "_law_behind_parts" "_law_behind_parts" (zau zaH) (zar zaH) (zaf zaH) .none kV26 dc26 pm26 an26 cd26 ct26), sl26⟩) (c26 : PySem.W.codeIn K cd26 "_law_behind_parts" = true) (k26 : PySem.W.keepIn K (.ref f26) = true)
  (a27 : PySem.W.nsIn K mainGlobals "_law_truths_of" = some (some (.ref f27))) (l27 : K.lookup f27 = some ⟨oc27, od27, .func (PySem.W.fnOf "_law_truths_of" "_law_truths_of" (zau zaS) (zar zaS) (zaf zaS) .none kV27 dc27 pm27 an27 cd27 ct27), sl27⟩) (c27 : PySem.W.codeIn K cd27 "_law_truths_of" = true) (k27 : PySem.W.keepIn K (.ref f27) = true)
  (a28 : PySem.W.nsIn K mainGlobals "_law_is_plain" = some (some (.ref f28))) (l28 : K.lookup f28 = some ⟨oc28, od28, .func (PySem.W.fnOf "_law_is_plain" "_law_is_plain" (zau za0) (zar za0) (zaf za0) .none kV28 dc28 pm28 an28 cd28 ct28), sl28⟩) (c28 : PySem.W.codeIn K cd28 "_law_is_plain" = true) (k28 : PySem.W.keepIn K (.ref f28) = true)
  (a29 : PySem.W.nsIn K mainGlobals "_law_twin_world" = some (some (.ref f29))) (l29 : K.lookup f29 = some ⟨oc29, od29, .func (PySem.W.fnOf "_law_twin_world" "_law_twin_world" (zau zaP) (zar zaP) (zaf zaP) .none kV29 dc29 pm29 an29 cd29 ct29), sl29⟩) (c29 : PySem.W.codeIn K cd29 "_law_twin_world" = true) (k29 : PySem.W.keepIn K (.ref f29) = true)
  (a30 : PySem.W.nsIn K mainGlobals "_law_matched" = some (some (.ref f30))) (l30 : K.lookup f30 = some ⟨oc30, od30, .func (PySem.W.fnOf "_law_matched" "_law_matched" (zau zba) (zar zba) (zaf zba) .none kV30 dc30 pm30 an30 cd30 ct30), sl30⟩) (c30 : PySem.W.codeIn K cd30 "_law_matched" = true) (k30 : PySem.W.keepIn K (.ref f30) = true)
  (a31 : PySem.W.nsIn K mainGlobals "_law_are_alike" = some (some (.ref f31))) (l31 : K.lookup f31 = some ⟨oc31, od31, .func (PySem.W.fnOf "_law_are_alike" "_law_are_alike" (zau zaT) (zar zaT) (zaf zaT) .none kV31 dc31 pm31 an31 cd31 ct31), sl31⟩) (c31 : PySem.W.codeIn K cd31 "_law_are_alike" = true) (k31 : PySem.W.keepIn K (.ref f31) = true)
  (a32 : PySem.W.nsIn K mainGlobals "_law_moved_world" = some (some (.ref f32))) (l32 : K.lookup f32 = some ⟨oc32, od32, .func (PySem.W.fnOf "_law_moved_world" "_law_moved_world" (zau zaM) (zar zaM) (zaf zaM) .none kV32 dc32 pm32 an32 cd32 ct32), sl32⟩) (c32 : PySem.W.codeIn K cd32 "_law_moved_world" = true) (k32 : PySem.W.keepIn K (.ref f32) = true)
  (a33 : PySem.W.nsIn K mainGlobals "_law_far_by" = some (some (.ref f33))) (l33 : K.lookup f33 = some ⟨oc33, od33, .func (PySem.W.fnOf "_law_far_by" "_law_far_by" (zau zbo) (zar zbo) (zaf zbo) .none kV33 dc33 pm33 an33 cd33 ct33), sl33⟩) (c33 : PySem.W.codeIn K cd33 "_law_far_by" = true) (k33 : PySem.W.keepIn K (.ref f33) = true)
  (a34 : PySem.W.nsIn K mainGlobals "law" = some (some (.ref f34))) (l34 : K.lookup f34 = some ⟨oc34, od34, .func (PySem.W.fnOf "law" "law" (zau zeE) (zar zeE) (zaf zeE) .none kV34 dc34 pm34 an34 cd34 ct34), sl34⟩) (c34 : PySem.W.codeIn K cd34 "law" = true) (k34 : PySem.W.keepIn K (.ref f34) = true)
  {C_Saying : Addr} (q_nSaying : PySem.W.nsIn K mainGlobals "Saying" = some (some (.ref C_Saying))) (q_pgSaying : PySem.W.plainGet K C_Saying Str.empty = true) (q_hdSaying : PySem.W.hasDictIn K C_Saying = true) (q_poSaying : PySem.W.plainOver K C_Saying = true) (q_saSaying : PySem.W.findIn K (.ref C_Saying) "__setattr__" = some (some (.builtin "object.__setattr__"))) (q_mkSaying : PySem.W.makesIn K C_Saying = true) (q_kcSaying : PySem.W.keepIn K (.ref C_Saying) = true)
  (q_noSaying_size : PySem.W.findIn K (.ref C_Saying) "size" = some none)
  (q_noSaying_truths : PySem.W.findIn K (.ref C_Saying) "truths" = some none)
  (q_noSaying_straight : PySem.W.findIn K (.ref C_Saying) "straight" = some none)
  (q_noSaying_turned : PySem.W.findIn K (.ref C_Saying) "turned" = some none)
  {C_Tellers : Addr} (q_nTellers : PySem.W.nsIn K mainGlobals "Tellers" = some (some (.ref C_Tellers))) (q_pgTellers : PySem.W.plainGet K C_Tellers Str.empty = true) (q_hdTellers : PySem.W.hasDictIn K C_Tellers = true) (q_poTellers : PySem.W.plainOver K C_Tellers = true) (q_saTellers : PySem.W.findIn K (.ref C_Tellers) "__setattr__" = some (some (.builtin "object.__setattr__"))) (q_mkTellers : PySem.W.makesIn K C_Tellers = true) (q_kcTellers : PySem.W.keepIn K (.ref C_Tellers) = true)
  (q_noTellers_world : PySem.W.findIn K (.ref C_Tellers) "world" = some none)
  (q_noTellers_best : PySem.W.findIn K (.ref C_Tellers) "best" = some none)
  (q_noTellers_changed : PySem.W.findIn K (.ref C_Tellers) "changed" = some none)
  (q_noTellers_always : PySem.W.findIn K (.ref C_Tellers) "always" = some none)
  {f35 : Addr} {od35 an35 : Option Addr} {sl35 : Array (Option Value)} {oc35 kV35 dc35 pm35 cd35 ct35 : Value}
  (a35 : PySem.W.findIn K (.ref C_Saying) "__init__" = some (some (.ref f35))) (i35 : PySem.W.isFn K (.ref f35) = true) (l35 : K.lookup f35 = some ⟨oc35, od35, .func (PySem.W.fnOf "__init__" "Saying.__init__" (zau zaQ) (zar zaQ) (zaf zaQ) .none kV35 dc35 pm35 an35 cd35 ct35), sl35⟩) (c35 : PySem.W.codeIn K cd35 "Saying.__init__" = true) (k35 : PySem.W.keepIn K (.ref f35) = true)
  {f36 : Addr} {od36 an36 : Option Addr} {sl36 : Array (Option Value)} {oc36 kV36 dc36 pm36 cd36 ct36 : Value}
  (a36 : PySem.W.findIn K (.ref C_Tellers) "__init__" = some (some (.ref f36))) (i36 : PySem.W.isFn K (.ref f36) = true) (l36 : K.lookup f36 = some ⟨oc36, od36, .func (PySem.W.fnOf "__init__" "Tellers.__init__" (zau zaN) (zar zaN) (zaf zaN) .none kV36 dc36 pm36 an36 cd36 ct36), sl36⟩) (c36 : PySem.W.codeIn K cd36 "Tellers.__init__" = true) (k36 : PySem.W.keepIn K (.ref f36) = true)
  {f37 : Addr} {od37 an37 : Option Addr} {sl37 : Array (Option Value)} {oc37 kV37 dc37 pm37 cd37 ct37 : Value}
  (a37 : PySem.W.findIn K (.ref C_Tellers) "learn" = some (some (.ref f37))) (i37 : PySem.W.isFn K (.ref f37) = true) (l37 : K.lookup f37 = some ⟨oc37, od37, .func (PySem.W.fnOf "learn" "Tellers.learn" (zau za1) (zar za1) (zaf za1) .none kV37 dc37 pm37 an37 cd37 ct37), sl37⟩) (c37 : PySem.W.codeIn K cd37 "Tellers.learn" = true) (k37 : PySem.W.keepIn K (.ref f37) = true)
  {f38 : Addr} {od38 an38 : Option Addr} {sl38 : Array (Option Value)} {oc38 kV38 dc38 pm38 cd38 ct38 : Value}
  (a38 : PySem.W.findIn K (.ref C_Tellers) "sayings_against" = some (some (.ref f38))) (i38 : PySem.W.isFn K (.ref f38) = true) (l38 : K.lookup f38 = some ⟨oc38, od38, .func (PySem.W.fnOf "sayings_against" "Tellers.sayings_against" (zau zao) (zar zao) (zaf zao) .none kV38 dc38 pm38 an38 cd38 ct38), sl38⟩) (c38 : PySem.W.codeIn K cd38 "Tellers.sayings_against" = true) (k38 : PySem.W.keepIn K (.ref f38) = true)
  {f39 : Addr} {od39 an39 : Option Addr} {sl39 : Array (Option Value)} {oc39 kV39 dc39 pm39 cd39 ct39 : Value}
  (a39 : PySem.W.findIn K (.ref C_Tellers) "said_against_all" = some (some (.ref f39))) (i39 : PySem.W.isFn K (.ref f39) = true) (l39 : K.lookup f39 = some ⟨oc39, od39, .func (PySem.W.fnOf "said_against_all" "Tellers.said_against_all" (zau zas) (zar zas) (zaf zas) .none kV39 dc39 pm39 an39 cd39 ct39), sl39⟩) (c39 : PySem.W.codeIn K cd39 "Tellers.said_against_all" = true) (k39 : PySem.W.keepIn K (.ref f39) = true)
  {f40 : Addr} {od40 an40 : Option Addr} {sl40 : Array (Option Value)} {oc40 kV40 dc40 pm40 cd40 ct40 : Value}
  (a40 : PySem.W.findIn K (.ref C_Tellers) "rooms_to_try" = some (some (.ref f40))) (i40 : PySem.W.isFn K (.ref f40) = true) (l40 : K.lookup f40 = some ⟨oc40, od40, .func (PySem.W.fnOf "rooms_to_try" "Tellers.rooms_to_try" (zau zaA) (zar zaA) (zaf zaA) .none kV40 dc40 pm40 an40 cd40 ct40), sl40⟩) (c40 : PySem.W.codeIn K cd40 "Tellers.rooms_to_try" = true) (k40 : PySem.W.keepIn K (.ref f40) = true)
  {f41 : Addr} {od41 an41 : Option Addr} {sl41 : Array (Option Value)} {oc41 kV41 dc41 pm41 cd41 ct41 : Value}
  (a41 : PySem.W.findIn K (.ref C_Tellers) "sayings_through_doors" = some (some (.ref f41))) (i41 : PySem.W.isFn K (.ref f41) = true) (l41 : K.lookup f41 = some ⟨oc41, od41, .func (PySem.W.fnOf "sayings_through_doors" "Tellers.sayings_through_doors" (zau zam) (zar zam) (zaf zam) .none kV41 dc41 pm41 an41 cd41 ct41), sl41⟩) (c41 : PySem.W.codeIn K cd41 "Tellers.sayings_through_doors" = true) (k41 : PySem.W.keepIn K (.ref f41) = true)
  {f42 : Addr} {od42 an42 : Option Addr} {sl42 : Array (Option Value)} {oc42 kV42 dc42 pm42 cd42 ct42 : Value}
  (a42 : PySem.W.findIn K (.ref C_Tellers) "learn_through_doors" = some (some (.ref f42))) (i42 : PySem.W.isFn K (.ref f42) = true) (l42 : K.lookup f42 = some ⟨oc42, od42, .func (PySem.W.fnOf "learn_through_doors" "Tellers.learn_through_doors" (zau zap) (zar zap) (zaf zap) .none kV42 dc42 pm42 an42 cd42 ct42), sl42⟩) (c42 : PySem.W.codeIn K cd42 "Tellers.learn_through_doors" = true) (k42 : PySem.W.keepIn K (.ref f42) = true)
  (z_enumerate : PySem.W.nsIn K mainGlobals "enumerate" = some none)
  (z_sorted : PySem.W.nsIn K mainGlobals "sorted" = some none)
  (z_sum : PySem.W.nsIn K mainGlobals "sum" = some none)
  (z_set : PySem.W.nsIn K mainGlobals "set" = some none)
  (z_len : PySem.W.nsIn K mainGlobals "len" = some none)
  (z_isinstance : PySem.W.nsIn K mainGlobals "isinstance" = some none)
  (z_list : PySem.W.nsIn K mainGlobals "list" = some none)
  (z_tuple : PySem.W.nsIn K mainGlobals "tuple" = some none)
  (z_bool : PySem.W.nsIn K mainGlobals "bool" = some none)
  (z_str : PySem.W.nsIn K mainGlobals "str" = some none)
  (z_int : PySem.W.nsIn K mainGlobals "int" = some none)
  (z_range : PySem.W.nsIn K mainGlobals "range" = some none)
  (z_zip : PySem.W.nsIn K mainGlobals "zip" = some none)
  (z_reversed : PySem.W.nsIn K mainGlobals "reversed" = some none)
  (z_min : PySem.W.nsIn K mainGlobals "min" = some none)
  (z_max : PySem.W.nsIn K mainGlobals "max" = some none)
  {tm : Tok} (y_nMOST : PySem.W.nsIn K mainGlobals "MOST_STATEMENTS" = some (some (.int 100000 tm)))
  {cc T : Addr} {occ : Value} {odc : Option Addr} {slc : Array (Option Value)} {vsc : Array Value} (y_hcd : cd38 = .ref cc) (y_lcd : K.lookup cc = some ⟨occ, odc, .fields vsc, slc⟩) (y_htb : vsc[11]? = some (.ref T)) (y_kch : PySem.W.codeHdIn K cc T = true) (y_tt : h.get? T = some (PySem.W.tabObj #[])) (y_knt : PySem.W.noTabs K = true)
  : ∃ (fd : FuncData) (cc T : Addr), PySem.W.codeHdIn K cc T = true ∧ h.get? T = some (PySem.W.tabObj #[]) ∧ PySem.W.noTabs K = true ∧ (∀ (s : Shared) (v : Value), BindsTo s fd ⟨[v], []⟩ [("_law_script", v)]) ∧ ∀ base : Heap, K.In base → base.Ns mainGlobals mg → zgR mg base → PySem.W.CodeHd base cc T → zkO h base → FnOk l.prog w K mg base CX0 9 fa fd ["_law_script"] (zhr K T) := by
 subst y_hcd
 have e := hfa.symm.trans (PySem.W.mg_of X G a34)
 cases e
 have B : Blt mg := ⟨PySem.W.mg_none_of X G z_len, PySem.W.mg_none_of X G z_isinstance, PySem.W.mg_none_of X G z_list, PySem.W.mg_none_of X G z_tuple, PySem.W.mg_none_of X G z_bool, PySem.W.mg_none_of X G z_str, PySem.W.mg_none_of X G z_int, PySem.W.mg_none_of X G z_range, PySem.W.mg_none_of X G z_zip, PySem.W.mg_none_of X G z_reversed, PySem.W.mg_none_of X G z_min, PySem.W.mg_none_of X G z_max⟩
 have D_leaf_truths : zaI K mg "leaf_truths" zbj ["world", "leaf"] _ _ := ⟨zal (st := zbj) l1 c1 k1, PySem.W.mg_of X G a1, (zal (st := zbj) l1 c1 k1).binds (ps := ["world", "leaf"]) fun _ _ _ _ _ _ us hl => match us, hl with | [_, _], _ => rfl⟩
 have D_join_truths : zaI K mg "join_truths" zbk ["kind", "first", "second"] _ _ := ⟨zal (st := zbk) l2 c2 k2, PySem.W.mg_of X G a2, (zal (st := zbk) l2 c2 k2).binds (ps := ["kind", "first", "second"]) fun _ _ _ _ _ _ us hl => match us, hl with | [_, _, _], _ => rfl⟩
 have D_truths_behind : zaI K mg "truths_behind" zaW ["doors", "inner"] _ _ := ⟨zal (st := zaW) l3 c3 k3, PySem.W.mg_of X G a3, (zal (st := zaW) l3 c3 k3).binds (ps := ["doors", "inner"]) fun _ _ _ _ _ _ us hl => match us, hl with | [_, _], _ => rfl⟩
 have D_door_truths : zaI K mg "door_truths" zbl ["world", "kind", "inner"] _ _ := ⟨zal (st := zbl) l4 c4 k4, PySem.W.mg_of X G a4, (zal (st := zbl) l4 c4 k4).binds (ps := ["world", "kind", "inner"]) fun _ _ _ _ _ _ us hl => match us, hl with | [_, _, _], _ => rfl⟩
 have D_said_of_lamp : zaI K mg "said_of_lamp" za8 ["world", "lamp"] _ _ := ⟨zal (st := za8) l5 c5 k5, PySem.W.mg_of X G a5, (zal (st := za8) l5 c5 k5).binds (ps := ["world", "lamp"]) fun _ _ _ _ _ _ us hl => match us, hl with | [_, _], _ => rfl⟩
 have D_said_turned : zaI K mg "said_turned" zbi ["saying"] _ _ := ⟨zal (st := zbi) l6 c6 k6, PySem.W.mg_of X G a6, (zal (st := zbi) l6 c6 k6).binds (ps := ["saying"]) fun _ _ _ _ _ _ us hl => match us, hl with | [_], _ => rfl⟩
 have D_said_both : zaI K mg "said_both" zbI ["one", "other"] _ _ := ⟨zal (st := zbI) l7 c7 k7, PySem.W.mg_of X G a7, (zal (st := zbI) l7 c7 k7).binds (ps := ["one", "other"]) fun _ _ _ _ _ _ us hl => match us, hl with | [_, _], _ => rfl⟩
 have D_said_of_some : zaI K mg "said_of_some" za7 ["world", "saying"] _ _ := ⟨zal (st := za7) l8 c8 k8, PySem.W.mg_of X G a8, (zal (st := za7) l8 c8 k8).binds (ps := ["world", "saying"]) fun _ _ _ _ _ _ us hl => match us, hl with | [_, _], _ => rfl⟩
 have D_said_together : zaI K mg "said_together" zaX ["sayings"] _ _ := ⟨zal (st := zaX) l9 c9 k9, PySem.W.mg_of X G a9, (zal (st := zaX) l9 c9 k9).binds (ps := ["sayings"]) fun _ _ _ _ _ _ us hl => match us, hl with | [_], _ => rfl⟩
 have D_lamps_lit : zaI K mg "lamps_lit" zbJ ["world"] _ _ := ⟨zal (st := zbJ) l10 c10 k10, PySem.W.mg_of X G a10, (zal (st := zbJ) l10 c10 k10).binds (ps := ["world"]) fun _ _ _ _ _ _ us hl => match us, hl with | [_], _ => rfl⟩
 have D_keep_smaller : zaI K mg "keep_smaller" za9 ["found", "saying"] _ _ := ⟨zal (st := za9) l11 c11 k11, PySem.W.mg_of X G a11, (zal (st := za9) l11 c11 k11).binds (ps := ["found", "saying"]) fun _ _ _ _ _ _ us hl => match us, hl with | [_, _], _ => rfl⟩
 have D_alike_pairs : zaI K mg "alike_pairs" zbm ["world", "best"] _ _ := ⟨zal (st := zbm) l12 c12 k12, PySem.W.mg_of X G a12, (zal (st := zbm) l12 c12 k12).binds (ps := ["world", "best"]) fun _ _ _ _ _ _ us hl => match us, hl with | [_, _], _ => rfl⟩
 have D_told_apart : zaI K mg "told_apart" zby ["world", "one", "other"] _ _ := ⟨zal (st := zby) l13 c13 k13, PySem.W.mg_of X G a13, (zal (st := zby) l13 c13 k13).binds (ps := ["world", "one", "other"]) fun _ _ _ _ _ _ us hl => match us, hl with | [_, _, _], _ => rfl⟩
 have D__law_draw : zaI K mg "_law_draw" zbL ["_law_number", "_law_prime", "_law_many"] _ _ := ⟨zal (st := zbL) l14 c14 k14, PySem.W.mg_of X G a14, (zal (st := zbL) l14 c14 k14).binds (ps := ["_law_number", "_law_prime", "_law_many"]) fun _ _ _ _ _ _ us hl => match us, hl with | [_, _, _], _ => rfl⟩
 have D__law_whole : zaI K mg "_law_whole" zbz ["_law_found"] _ _ := ⟨zal (st := zbz) l15 c15 k15, PySem.W.mg_of X G a15, (zal (st := zbz) l15 c15 k15).binds (ps := ["_law_found"]) fun _ _ _ _ _ _ us hl => match us, hl with | [_], _ => rfl⟩
 have D__law_at : zaI K mg "_law_at" zcf ["_law_script", "_law_k"] _ _ := ⟨zal (st := zcf) l16 c16 k16, PySem.W.mg_of X G a16, (zal (st := zcf) l16 c16 k16).binds (ps := ["_law_script", "_law_k"]) fun _ _ _ _ _ _ us hl => match us, hl with | [_, _], _ => rfl⟩
 have D__law_the_same : zaI K mg "_law_the_same" zaZ ["_law_found", "_law_due"] _ _ := ⟨zal (st := zaZ) l17 c17 k17, PySem.W.mg_of X G a17, (zal (st := zaZ) l17 c17 k17).binds (ps := ["_law_found", "_law_due"]) fun _ _ _ _ _ _ us hl => match us, hl with | [_, _], _ => rfl⟩
 have D__law_copy_of : zaI K mg "_law_copy_of" zbb ["_law_world"] _ _ := ⟨zal (st := zbb) l18 c18 k18, PySem.W.mg_of X G a18, (zal (st := zbb) l18 c18 k18).binds (ps := ["_law_world"]) fun _ _ _ _ _ _ us hl => match us, hl with | [_], _ => rfl⟩
 have D__law_led : zaI K mg "_law_led" zb1 ["_law_truth", "_law_doors"] _ _ := ⟨zal (st := zb1) l19 c19 k19, PySem.W.mg_of X G a19, (zal (st := zb1) l19 c19 k19).binds (ps := ["_law_truth", "_law_doors"]) fun _ _ _ _ _ _ us hl => match us, hl with | [_, _], _ => rfl⟩
 have D__law_truth_by : zaI K mg "_law_truth_by" zaY ["_law_sort", "_law_truth", "_law_world"] _ _ := ⟨zal (st := zaY) l20 c20 k20, PySem.W.mg_of X G a20, (zal (st := zaY) l20 c20 k20).binds (ps := ["_law_sort", "_law_truth", "_law_world"]) fun _ _ _ _ _ _ us hl => match us, hl with | [_, _, _], _ => rfl⟩
 have D__law_truth_of_two : zaI K mg "_law_truth_of_two" zaG ["_law_sort", "_law_first", "_law_second"] _ _ := ⟨zal (st := zaG) l21 c21 k21, PySem.W.mg_of X G a21, (zal (st := zaG) l21 c21 k21).binds (ps := ["_law_sort", "_law_first", "_law_second"]) fun _ _ _ _ _ _ us hl => match us, hl with | [_, _, _], _ => rfl⟩
 have D__law_truth_of_lamp : zaI K mg "_law_truth_of_lamp" zaE ["_law_sort", "_law_lamp", "_law_world"] _ _ := ⟨zal (st := zaE) l22 c22 k22, PySem.W.mg_of X G a22, (zal (st := zaE) l22 c22 k22).binds (ps := ["_law_sort", "_law_lamp", "_law_world"]) fun _ _ _ _ _ _ us hl => match us, hl with | [_, _, _], _ => rfl⟩
 have D__law_join : zaI K mg "_law_join" zbK ["_law_pile", "_law_sort"] _ _ := ⟨zal (st := zbK) l23 c23 k23, PySem.W.mg_of X G a23, (zal (st := zbK) l23 c23 k23).binds (ps := ["_law_pile", "_law_sort"]) fun _ _ _ _ _ _ us hl => match us, hl with | [_, _], _ => rfl⟩
 have D__law_grown : zaI K mg "_law_grown" zbn ["_law_cells", "_law_world", "_law_kinds"] _ _ := ⟨zal (st := zbn) l24 c24 k24, PySem.W.mg_of X G a24, (zal (st := zbn) l24 c24 k24).binds (ps := ["_law_cells", "_law_world", "_law_kinds"]) fun _ _ _ _ _ _ us hl => match us, hl with | [_, _, _], _ => rfl⟩
 have D__law_plain_kinds : zaI K mg "_law_plain_kinds" zaL [] _ _ := ⟨zal (st := zaL) l25 c25 k25, PySem.W.mg_of X G a25, (zal (st := zaL) l25 c25 k25).binds (ps := []) fun _ _ _ _ _ _ us hl => match us, hl with | [], _ => rfl⟩
 have D__law_behind_parts : zaI K mg "_law_behind_parts" zaH ["_law_statement"] _ _ := ⟨zal (st := zaH) l26 c26 k26, PySem.W.mg_of X G a26, (zal (st := zaH) l26 c26 k26).binds (ps := ["_law_statement"]) fun _ _ _ _ _ _ us hl => match us, hl with | [_], _ => rfl⟩
 have D__law_truths_of : zaI K mg "_law_truths_of" zaS ["_law_world", "_law_statement"] _ _ := ⟨zal (st := zaS) l27 c27 k27, PySem.W.mg_of X G a27, (zal (st := zaS) l27 c27 k27).binds (ps := ["_law_world", "_law_statement"]) fun _ _ _ _ _ _ us hl => match us, hl with | [_, _], _ => rfl⟩
 have D__law_is_plain : zaI K mg "_law_is_plain" za0 ["_law_found"] _ _ := ⟨zal (st := za0) l28 c28 k28, PySem.W.mg_of X G a28, (zal (st := za0) l28 c28 k28).binds (ps := ["_law_found"]) fun _ _ _ _ _ _ us hl => match us, hl with | [_], _ => rfl⟩
 have D__law_twin_world : zaI K mg "_law_twin_world" zaP ["_law_count", "_law_first", "_law_second"] _ _ := ⟨zal (st := zaP) l29 c29 k29, PySem.W.mg_of X G a29, (zal (st := zaP) l29 c29 k29).binds (ps := ["_law_count", "_law_first", "_law_second"]) fun _ _ _ _ _ _ us hl => match us, hl with | [_, _, _], _ => rfl⟩
 have D__law_matched : zaI K mg "_law_matched" zba ["_law_world", "_law_pairs", "_law_here", "_law_there", "_law_ahead"] _ _ := ⟨zal (st := zba) l30 c30 k30, PySem.W.mg_of X G a30, (zal (st := zba) l30 c30 k30).binds (ps := ["_law_world", "_law_pairs", "_law_here", "_law_there", "_law_ahead"]) fun _ _ _ _ _ _ us hl => match us, hl with | [_, _, _, _, _], _ => rfl⟩
 have D__law_are_alike : zaI K mg "_law_are_alike" zaT ["_law_world", "_law_pairs", "_law_one", "_law_other"] _ _ := ⟨zal (st := zaT) l31 c31 k31, PySem.W.mg_of X G a31, (zal (st := zaT) l31 c31 k31).binds (ps := ["_law_world", "_law_pairs", "_law_one", "_law_other"]) fun _ _ _ _ _ _ us hl => match us, hl with | [_, _, _, _], _ => rfl⟩
 have D__law_moved_world : zaI K mg "_law_moved_world" zaM ["_law_world", "_law_far"] _ _ := ⟨zal (st := zaM) l32 c32 k32, PySem.W.mg_of X G a32, (zal (st := zaM) l32 c32 k32).binds (ps := ["_law_world", "_law_far"]) fun _ _ _ _ _ _ us hl => match us, hl with | [_, _], _ => rfl⟩
 have D__law_far_by : zaI K mg "_law_far_by" zbo ["_law_cell"] _ _ := ⟨zal (st := zbo) l33 c33 k33, PySem.W.mg_of X G a33, (zal (st := zbo) l33 c33 k33).binds (ps := ["_law_cell"]) fun _ _ _ _ _ _ us hl => match us, hl with | [_], _ => rfl⟩
 have D_law : zaI K mg "law" zeE ["_law_script"] _ _ := ⟨zal (st := zeE) l34 c34 k34, PySem.W.mg_of X G a34, (zal (st := zeE) l34 c34 k34).binds (ps := ["_law_script"]) fun _ _ _ _ _ _ us hl => match us, hl with | [_], _ => rfl⟩
 have m_enumerate := PySem.W.mg_none_of X G z_enumerate
 have m_sorted := PySem.W.mg_none_of X G z_sorted
 have m_sum := PySem.W.mg_none_of X G z_sum
 have m_set := PySem.W.mg_none_of X G z_set
 have F_Saying : ClsF K C_Saying ["size", "truths", "straight", "turned"] := ⟨⟨q_pgSaying, q_hdSaying, q_poSaying, q_saSaying⟩, List.forall_mem_cons.mpr ⟨q_noSaying_size, List.forall_mem_cons.mpr ⟨q_noSaying_truths, List.forall_mem_cons.mpr ⟨q_noSaying_straight, List.forall_mem_cons.mpr ⟨q_noSaying_turned, fun _ h => nomatch h⟩⟩⟩⟩⟩
 have M_Saying : Mk K C_Saying _ := ⟨q_mkSaying, a35, i35, q_kcSaying⟩
 have g_Saying := PySem.W.mg_of X G q_nSaying
 have F_Tellers : ClsF K C_Tellers ["world", "best", "changed", "always"] := ⟨⟨q_pgTellers, q_hdTellers, q_poTellers, q_saTellers⟩, List.forall_mem_cons.mpr ⟨q_noTellers_world, List.forall_mem_cons.mpr ⟨q_noTellers_best, List.forall_mem_cons.mpr ⟨q_noTellers_changed, List.forall_mem_cons.mpr ⟨q_noTellers_always, fun _ h => nomatch h⟩⟩⟩⟩⟩
 have M_Tellers : Mk K C_Tellers _ := ⟨q_mkTellers, a36, i36, q_kcTellers⟩
 have g_Tellers := PySem.W.mg_of X G q_nTellers
 have D_Saying___init__ : zb4 K C_Saying "__init__" "Saying.__init__" zaQ ["self", "size", "truths", "straight", "turned"] _ _ := ⟨zal (st := zaQ) l35 c35 k35, ⟨a35, i35, k35⟩, (zal (st := zaQ) l35 c35 k35).binds (ps := ["self", "size", "truths", "straight", "turned"]) fun _ _ _ _ _ _ us hl => match us, hl with | [_, _, _, _, _], _ => rfl⟩
 have D_Tellers___init__ : zb4 K C_Tellers "__init__" "Tellers.__init__" zaN ["self", "world"] _ _ := ⟨zal (st := zaN) l36 c36 k36, ⟨a36, i36, k36⟩, (zal (st := zaN) l36 c36 k36).binds (ps := ["self", "world"]) fun _ _ _ _ _ _ us hl => match us, hl with | [_, _], _ => rfl⟩
 have D_Tellers_learn : zb4 K C_Tellers "learn" "Tellers.learn" za1 ["self", "saying"] _ _ := ⟨zal (st := za1) l37 c37 k37, ⟨a37, i37, k37⟩, (zal (st := za1) l37 c37 k37).binds (ps := ["self", "saying"]) fun _ _ _ _ _ _ us hl => match us, hl with | [_, _], _ => rfl⟩
 have D_Tellers_sayings_against : zb4 K C_Tellers "sayings_against" "Tellers.sayings_against" zao ["self", "room", "others"] _ _ := ⟨zal (st := zao) l38 c38 k38, ⟨a38, i38, k38⟩, (zal (st := zao) l38 c38 k38).binds (ps := ["self", "room", "others"]) fun _ _ _ _ _ _ us hl => match us, hl with | [_, _, _], _ => rfl⟩
 have D_Tellers_said_against_all : zb4 K C_Tellers "said_against_all" "Tellers.said_against_all" zas ["self", "room", "others"] _ _ := ⟨zal (st := zas) l39 c39 k39, ⟨a39, i39, k39⟩, (zal (st := zas) l39 c39 k39).binds (ps := ["self", "room", "others"]) fun _ _ _ _ _ _ us hl => match us, hl with | [_, _, _], _ => rfl⟩
 have D_Tellers_rooms_to_try : zb4 K C_Tellers "rooms_to_try" "Tellers.rooms_to_try" zaA ["self", "room", "anew"] _ _ := ⟨zal (st := zaA) l40 c40 k40, ⟨a40, i40, k40⟩, (zal (st := zaA) l40 c40 k40).binds (ps := ["self", "room", "anew"]) fun _ _ _ _ _ _ us hl => match us, hl with | [_, _, _], _ => rfl⟩
 have D_Tellers_sayings_through_doors : zb4 K C_Tellers "sayings_through_doors" "Tellers.sayings_through_doors" zam ["self", "anew"] _ _ := ⟨zal (st := zam) l41 c41 k41, ⟨a41, i41, k41⟩, (zal (st := zam) l41 c41 k41).binds (ps := ["self", "anew"]) fun _ _ _ _ _ _ us hl => match us, hl with | [_, _], _ => rfl⟩
 have D_Tellers_learn_through_doors : zb4 K C_Tellers "learn_through_doors" "Tellers.learn_through_doors" zap ["self", "anew"] _ _ := ⟨zal (st := zap) l42 c42 k42, ⟨a42, i42, k42⟩, (zal (st := zap) l42 c42 k42).binds (ps := ["self", "anew"]) fun _ _ _ _ _ _ us hl => match us, hl with | [_, _], _ => rfl⟩
 refine ⟨PySem.W.fnOf "law" "law" (zau zeE) (zar zeE) (zaf zeE) .none kV34 dc34 pm34 an34 cd34 ct34, cc, T, y_kch, y_tt, y_knt, fun s v => .of_eq rfl, fun base _ _ hBM hC hKB => ?_⟩
 have h1 := zlq (P := l.prog) (w := w) (base := base) D__law_whole B
 have h2 := zp4 (P := l.prog) (w := w) (base := base) D__law_at B
 have cM := PySem.W.mg_of X G y_nMOST
 have h6 := znC (P := l.prog) (w := w) (base := base) D_leaf_truths B
 have h7 := ze0 (P := l.prog) (w := w) (base := base) D_join_truths B
 have h8 := zjV (P := l.prog) (w := w) (base := base) D_truths_behind B
 have h9 := znG D_door_truths B h8
 have s0 := zic (P := l.prog) (w := w) (base := base) F_Saying D_Saying___init__ M_Saying g_Saying
 have s1 := zlA D_said_of_lamp h6 s0
 have s2 := zlr D_said_turned F_Saying s0
 have s3 := zlC D_said_both F_Saying s0 h7
 have s4 := zlv D_said_of_some F_Saying s0 h9
 have s5 := zph D_said_together B s3
 have s6 := zlz (P := l.prog) (w := w) (base := base) D_lamps_lit B
 have s7 := znD (P := l.prog) (w := w) (base := base) D_keep_smaller B F_Saying
 have t1 := zlx D_Tellers_learn B m_enumerate F_Saying F_Tellers s2
 have t2 := zie (P := l.prog) (w := w) D_Tellers_sayings_against rfl hC hBM B F_Saying F_Tellers
 have t3 := zlD D_Tellers_said_against_all B F_Tellers s5 t2
 have t4 := zls (P := l.prog) (w := w) (base := base) (CS := C_Saying) (T := T) (pos := zb2) D_Tellers_rooms_to_try B F_Tellers
 have t5 := znA D_Tellers_sayings_through_doors B F_Tellers t4 t3 s7 s4
 have t6 := zlw D_Tellers_learn_through_doors B F_Tellers t5 t1
 have t7 := zlu (T := T) (pos := zb2) F_Tellers D_Tellers___init__ M_Tellers g_Tellers B s6 s1 s2 t1
 have t8 := zjT (P := l.prog) (w := w) (base := base) D_alike_pairs B
 have t9 := znz D_told_apart B cM F_Saying F_Tellers t7 t6 t8
 have h11 := znF (P := l.prog) (w := w) (base := base) D__law_draw
 have h13 := zpj (P := l.prog) (w := w) (base := base) D__law_far_by
 have h14 := zpi (P := l.prog) (w := w) (base := base) D__law_led B
 have h15 := zg2 D__law_truth_by B h14
 have h16 := zgo (P := l.prog) (w := w) (base := base) D__law_truth_of_two B
 have h17 := zfM (P := l.prog) (w := w) (base := base) D__law_truth_of_lamp B
 have h18 := znE D__law_join h16
 have h19 := zlB (nt := false) D__law_grown B h18 h15 h17
 have h20 := zeZ (P := l.prog) (w := w) (base := base) D__law_plain_kinds
 have h21 := zny D__law_twin_world B h11
 have h22 := znH (P := l.prog) (w := w) (base := base) D__law_copy_of B
 have h23 := zeY (P := l.prog) (w := w) (base := base) D__law_moved_world B
 have h24 := znB D__law_the_same B h1
 have h25 := zeH (P := l.prog) (w := w) (base := base) D__law_behind_parts B
 have h26 := zgn D__law_truths_of B h25 h17 h16 h15
 have h27 := zg3 D__law_is_plain B h1
 have h28 := zid (P := l.prog) (w := w) (base := base) D__law_matched B
 have h29 := zg4 D__law_are_alike B m_sorted m_set h1 h28
 exact zly D_law B m_sum h2 h21 h20 h19 h13 h23 h22 t9 h24 h27 h26 h29
end My
open PySem PySem.W PyProof.Rows
set_option maxRecDepth 100000 in
set_option maxHeartbeats 0 in
theorem PySem.Challenge.cw_roomsay_k11_whole_told_apart_holds : PySem.Challenge.rw_roomsay_k11_whole_told_apart.Holds := by
 apply My.hd
 k_fill
 refine L2.walk_tab1 (l := PySem.Challenge.rw_roomsay_k11_whole_told_apart) (k := 9) rfl rfl ⟨rfl, by decide, by decide⟩ (fun w h Y => PySem.W.km_in_of Y) ?F
 case F =>
  intro w mg fa h Y KX G hmg hOwn
  refine' My.all_mk KX G hmg ?a1 ?l1 ?c1 ?k1 ?a2 ?l2 ?c2 ?k2 ?a3 ?l3 ?c3 ?k3 ?a4 ?l4 ?c4 ?k4 ?a5 ?l5 ?c5 ?k5 ?a6 ?l6 ?c6 ?k6 ?a7 ?l7 ?c7 ?k7 ?a8 ?l8 ?c8 ?k8 ?a9 ?l9 ?c9 ?k9 ?a10 ?l10 ?c10 ?k10 ?a11 ?l11 ?c11 ?k11 ?a12 ?l12 ?c12 ?k12 ?a13 ?l13 ?c13 ?k13 ?a14 ?l14 ?c14 ?k14 ?a15 ?l15 ?c15 ?k15 ?a16 ?l16 ?c16 ?k16 ?a17 ?l17 ?c17 ?k17 ?a18 ?l18 ?c18 ?k18 ?a19 ?l19 ?c19 ?k19 ?a20 ?l20 ?c20 ?k20 ?a21 ?l21 ?c21 ?k21 ?a22 ?l22 ?c22 ?k22 ?a23 ?l23 ?c23 ?k23 ?a24 ?l24 ?c24 ?k24 ?a25 ?l25 ?c25 ?k25 ?a26 ?l26 ?c26 ?k26 ?a27 ?l27 ?c27 ?k27 ?a28 ?l28 ?c28 ?k28 ?a29 ?l29 ?c29 ?k29 ?a30 ?l30 ?c30 ?k30 ?a31 ?l31 ?c31 ?k31 ?a32 ?l32 ?c32 ?k32 ?a33 ?l33 ?c33 ?k33 ?a34 ?l34 ?c34 ?k34 ?q_nSaying ?q_pgSaying ?q_hdSaying ?q_poSaying ?q_saSaying ?q_mkSaying ?q_kcSaying ?q_noSaying_size ?q_noSaying_truths ?q_noSaying_straight ?q_noSaying_turned ?q_nTellers ?q_pgTellers ?q_hdTellers ?q_poTellers ?q_saTellers ?q_mkTellers ?q_kcTellers ?q_noTellers_world ?q_noTellers_best ?q_noTellers_changed ?q_noTellers_always ?a35 ?i35 ?l35 ?c35 ?k35 ?a36 ?i36 ?l36 ?c36 ?k36 ?a37 ?i37 ?l37 ?c37 ?k37 ?a38 ?i38 ?l38 ?c38 ?k38 ?a39 ?i39 ?l39 ?c39 ?k39 ?a40 ?i40 ?l40 ?c40 ?k40 ?a41 ?i41 ?l41 ?c41 ?k41 ?a42 ?i42 ?l42 ?c42 ?k42 ?z_enumerate ?z_sorted ?z_sum ?z_set ?z_len ?z_isinstance ?z_list ?z_tuple ?z_bool ?z_str ?z_int ?z_range ?z_zip ?z_reversed ?z_min ?z_max ?y_nMOST ?y_hcd ?y_lcd ?y_htb ?y_kch ?y_tt ?y_knt
  (case a1 => k_is)
  (case l1 => k_is)
  (case c1 => k_is)
  (case k1 => k_is)
  (case a2 => k_is)
  (case l2 => k_is)
  (case c2 => k_is)
  (case k2 => k_is)
  (case a3 => k_is)
  (case l3 => k_is)
  (case c3 => k_is)
  (case k3 => k_is)
  (case a4 => k_is)
  (case l4 => k_is)
  (case c4 => k_is)
  (case k4 => k_is)
  (case a5 => k_is)
  (case l5 => k_is)
  (case c5 => k_is)
  (case k5 => k_is)
  (case a6 => k_is)
  (case l6 => k_is)
  (case c6 => k_is)
  (case k6 => k_is)
  (case a7 => k_is)
  (case l7 => k_is)
  (case c7 => k_is)
  (case k7 => k_is)
  (case a8 => k_is)
  (case l8 => k_is)
  (case c8 => k_is)
  (case k8 => k_is)
  (case a9 => k_is)
  (case l9 => k_is)
  (case c9 => k_is)
  (case k9 => k_is)
  (case a10 => k_is)
  (case l10 => k_is)
  (case c10 => k_is)
  (case k10 => k_is)
  (case a11 => k_is)
  (case l11 => k_is)
  (case c11 => k_is)
  (case k11 => k_is)
  (case a12 => k_is)
  (case l12 => k_is)
  (case c12 => k_is)
  (case k12 => k_is)
  (case a13 => k_is)
  (case l13 => k_is)
  (case c13 => k_is)
  (case k13 => k_is)
  (case a14 => k_is)
  (case l14 => k_is)
  (case c14 => k_is)
  (case k14 => k_is)
  (case a15 => k_is)
  (case l15 => k_is)
  (case c15 => k_is)
  (case k15 => k_is)
  (case a16 => k_is)
  (case l16 => k_is)
  (case c16 => k_is)
  (case k16 => k_is)
  (case a17 => k_is)
  (case l17 => k_is)
  (case c17 => k_is)
  (case k17 => k_is)
  (case a18 => k_is)
  (case l18 => k_is)
  (case c18 => k_is)
  (case k18 => k_is)
  (case a19 => k_is)
  (case l19 => k_is)
  (case c19 => k_is)
  (case k19 => k_is)
  (case a20 => k_is)
  (case l20 => k_is)
  (case c20 => k_is)
  (case k20 => k_is)
  (case a21 => k_is)
  (case l21 => k_is)
  (case c21 => k_is)
  (case k21 => k_is)
  (case a22 => k_is)
  (case l22 => k_is)
  (case c22 => k_is)
  (case k22 => k_is)
  (case a23 => k_is)
  (case l23 => k_is)
  (case c23 => k_is)
  (case k23 => k_is)
  (case a24 => k_is)
  (case l24 => k_is)
  (case c24 => k_is)
  (case k24 => k_is)
  (case a25 => k_is)
  (case l25 => k_is)
  (case c25 => k_is)
  (case k25 => k_is)
  (case a26 => k_is)
  (case l26 => k_is)
  (case c26 => k_is)
  (case k26 => k_is)
  (case a27 => k_is)
  (case l27 => k_is)
  (case c27 => k_is)
  (case k27 => k_is)
  (case a28 => k_is)
  (case l28 => k_is)
  (case c28 => k_is)
  (case k28 => k_is)
  (case a29 => k_is)
  (case l29 => k_is)
  (case c29 => k_is)
  (case k29 => k_is)
  (case a30 => k_is)
  (case l30 => k_is)
  (case c30 => k_is)
  (case k30 => k_is)
  (case a31 => k_is)
  (case l31 => k_is)
  (case c31 => k_is)
  (case k31 => k_is)
  (case a32 => k_is)
  (case l32 => k_is)
  (case c32 => k_is)
  (case k32 => k_is)
  (case a33 => k_is)
  (case l33 => k_is)
  (case c33 => k_is)
  (case k33 => k_is)
  (case a34 => k_is)
  (case l34 => k_is)
  (case c34 => k_is)
  (case k34 => k_is)
  (case q_nSaying => k_is)
  (case q_pgSaying => k_is)
  (case q_hdSaying => k_is)
  (case q_poSaying => k_is)
  (case q_saSaying => k_is)
  (case q_mkSaying => k_is)
  (case q_kcSaying => k_is)
  (case q_noSaying_size => k_is)
  (case q_noSaying_truths => k_is)
  (case q_noSaying_straight => k_is)
  (case q_noSaying_turned => k_is)
  (case q_nTellers => k_is)
  (case q_pgTellers => k_is)
  (case q_hdTellers => k_is)
  (case q_poTellers => k_is)
  (case q_saTellers => k_is)
  (case q_mkTellers => k_is)
  (case q_kcTellers => k_is)
  (case q_noTellers_world => k_is)
  (case q_noTellers_best => k_is)
  (case q_noTellers_changed => k_is)
  (case q_noTellers_always => k_is)
  (case a35 => k_is)
  (case i35 => k_is)
  (case l35 => k_is)
  (case c35 => k_is)
  (case k35 => k_is)
  (case a36 => k_is)
  (case i36 => k_is)
  (case l36 => k_is)
  (case c36 => k_is)
  (case k36 => k_is)
  (case a37 => k_is)
  (case i37 => k_is)
  (case l37 => k_is)
  (case c37 => k_is)
  (case k37 => k_is)
  (case a38 => k_is)
  (case i38 => k_is)
  (case l38 => k_is)
  (case c38 => k_is)
  (case k38 => k_is)
  (case a39 => k_is)
  (case i39 => k_is)
  (case l39 => k_is)
  (case c39 => k_is)
  (case k39 => k_is)
  (case a40 => k_is)
  (case i40 => k_is)
  (case l40 => k_is)
  (case c40 => k_is)
  (case k40 => k_is)
  (case a41 => k_is)
  (case i41 => k_is)
  (case l41 => k_is)
  (case c41 => k_is)
  (case k41 => k_is)
  (case a42 => k_is)
  (case i42 => k_is)
  (case l42 => k_is)
  (case c42 => k_is)
  (case k42 => k_is)
  (case z_enumerate => k_is)
  (case z_sorted => k_is)
  (case z_sum => k_is)
  (case z_set => k_is)
  (case z_len => k_is)
  (case z_isinstance => k_is)
  (case z_list => k_is)
  (case z_tuple => k_is)
  (case z_bool => k_is)
  (case z_str => k_is)
  (case z_int => k_is)
  (case z_range => k_is)
  (case z_zip => k_is)
  (case z_reversed => k_is)
  (case z_min => k_is)
  (case z_max => k_is)
  (case y_nMOST => k_is)
  (case y_hcd => exact rfl)
  (case y_lcd => k_is)
  (case y_htb => exact rfl)
  (case y_kch => kernel_rfl)
  (case y_tt => exact PySem.W.km_tabs_of Y _ (by decide))
  (case y_knt => kernel_rfl)
