import PyProof.Rows.All
import Wide.All
import OpenK.AllK
import Wide.FinOn
import Lean
import PyProof.EqAt
import PyProof.EqKinds
import PyProof.TupleCall
import PySem.Challenge.RW_slipdesk_k07_whole_things_there

set_option Elab.async false
set_option linter.all false
set_option maxRecDepth 100000
namespace L2
open PySem PySem.Spec PyProof.Rows

/-- a key: an int or a str -/
abbrev Key := Sum Int Str
def keyIs : Key → Value → Bool
  | .inl k, v => Value.isInt k v
  | .inr x, v => Value.isStrOf x v
def keyH (w : World) : Key → Int
  | .inl k => hashInt k
  | .inr x => hashStr w x
theorem keyIs_shape : ∀ {k : Key} {v : Value}, keyIs k v = true → (∃ i t, k = Sum.inl i ∧ v = Value.int i t) ∨ (∃ x t, k = Sum.inr x ∧ v = Value.str x t)
  | .inl i, v, h => by
    obtain ⟨t, e⟩ := Value.isInt_shape (k := i) (v := v) h
    exact .inl ⟨i, t, rfl, e⟩
  | .inr x, v, h => by
    obtain ⟨t, e⟩ := Value.isStrOf_shape (x := x) (v := v) h
    exact .inr ⟨x, t, rfl, e⟩
theorem keyIs_int (i : Int) (t : Tok) : keyIs (.inl i) (.int i t) = true := by simp [keyIs, Value.isInt]
theorem keyIs_str (x : Str) (t : Tok) : keyIs (.inr x) (.str x t) = true := by simp [keyIs, Value.isStrOf]
theorem key_ll (a b : Int) : decide ((Sum.inl a : Key) = Sum.inl b) = (a == b) := by
  by_cases e : a = b
  · subst e; simp
  · have h : ¬ (Sum.inl a : Key) = Sum.inl b := fun q => e (Sum.inl.inj q)
    rw [decide_eq_false h]
    exact (beq_eq_false_iff_ne.mpr e).symm
theorem key_rr (a b : Str) : decide ((Sum.inr a : Key) = Sum.inr b) = decide (a = b) := by
  by_cases e : a = b
  · subst e; simp
  · have h : ¬ (Sum.inr a : Key) = Sum.inr b := fun q => e (Sum.inr.inj q)
    rw [decide_eq_false h, decide_eq_false e]
theorem key_lr (a : Int) (b : Str) : decide ((Sum.inl a : Key) = Sum.inr b) = false := decide_eq_false (fun q => nomatch q)
theorem key_rl (a : Str) (b : Int) : decide ((Sum.inr a : Key) = Sum.inl b) = false := decide_eq_false (fun q => nomatch q)

def mixKind (prog : Program) (w : World) : PySem.KeyKind prog w Key where
  is := keyIs
  hash := keyH w
  inj := fun v a b ha hb => by
    rcases keyIs_shape ha with ⟨i, t, rfl, rfl⟩ | ⟨x, t, rfl, rfl⟩
    · rcases keyIs_shape hb with ⟨j, u, rfl, e⟩ | ⟨y, u, rfl, e⟩
      · injection e with e1 _; rw [e1]
      · exact nomatch e
    · rcases keyIs_shape hb with ⟨j, u, rfl, e⟩ | ⟨y, u, rfl, e⟩
      · exact nomatch e
      · injection e with e1 _; rw [e1]
  byValue := fun k v h => by
    rcases keyIs_shape h with ⟨i, t, rfl, rfl⟩ | ⟨x, t, rfl, rfl⟩ <;> rfl
  pyHash := fun hv h => by
    rcases keyIs_shape hv with ⟨i, t, rfl, rfl⟩ | ⟨x, t, rfl, rfl⟩
    · exact wpAny_pyHash_int h
    · exact wpAny_pyHash_str h
  eqBool := fun hu hv h => by
    rcases keyIs_shape hu with ⟨i, t, rfl, rfl⟩ | ⟨x, t, rfl, rfl⟩
    · rcases keyIs_shape hv with ⟨j, u, rfl, rfl⟩ | ⟨y, u, rfl, rfl⟩
      · rw [key_ll] at h; exact wpAny_eqBool_int h
      · rw [key_lr] at h; exact SeqAt.EqAt.int_str i t y u _ _ _ _ h
    · rcases keyIs_shape hv with ⟨j, u, rfl, rfl⟩ | ⟨y, u, rfl, rfl⟩
      · rw [key_rl] at h; exact SeqAt.EqAt.str_int x t j u _ _ _ _ h
      · rw [key_rr] at h; exact wpAny_eqBool_str h
  «strs» := fun k x t v h => by
    rcases keyIs_shape h with ⟨i, u, rfl, e⟩ | ⟨y, u, rfl, e⟩
    · exact nomatch e
    · injection e with e1 _
      subst e1
      cases v <;> rfl

theorem mixKind_is (prog : Program) (w : World) (k : Key) (v : Value) : (mixKind prog w).is k v = keyIs k v := rfl
theorem mixKind_int (prog : Program) (w : World) (i : Int) (t : Tok) : (mixKind prog w).is (.inl i) (.int i t) = true := keyIs_int i t
theorem mixKind_str (prog : Program) (w : World) (x : Str) (t : Tok) : (mixKind prog w).is (.inr x) (.str x t) = true := keyIs_str x t
end L2

namespace L2
open PySem PySem.Spec PyProof.Rows

/-- a value, without the heap -/
inductive V where
  | non | bl (b : Bool) | int (i : Int) | str (x : Str) | byt (b : Array UInt8) | flt (b : UInt64) | ref (a : Addr) | ty (n : String)
  deriving DecidableEq

def RelV : V → Value → Prop
  | .non, u => u = Value.none
  | .bl b, u => u = Value.bool b
  | .int i, u => ∃ t, u = Value.int i t
  | .str x, u => ∃ t, u = Value.str x t
  | .byt b, u => ∃ t, u = Value.bytes b t
  | .flt b, u => ∃ t, u = Value.float b t
  | .ref a, u => u = Value.ref a
  | .ty n, u => u = Value.type n

abbrev Vals : List V → List Value → Prop := Paired RelV
theorem Vals.length {xs : List V} {us : List Value} (r : Vals xs us) : xs.length = us.length := Paired.length r
theorem Vals.get : ∀ {xs : List V} {us : List Value} {i : Nat} {x : V}, Vals xs us → xs[i]? = some x → ∃ u, us[i]? = some u ∧ RelV x u
  | _, _, _, _, .nil, e => by simp at e
  | _, _, 0, _, .cons r _, e => by simp at e; subst e; exact ⟨_, rfl, r⟩
  | _, _, i + 1, x, .cons _ t, e => by
    obtain ⟨u, h1, h2⟩ := Vals.get (i := i) (x := x) t (by simpa using e)
    exact ⟨u, by simpa using h1, h2⟩
theorem Vals.set {x : V} {u : Value} (r : RelV x u) : ∀ {xs : List V} {us : List Value} (i : Nat), Vals xs us → Vals (xs.set i x) (us.set i u)
  | _, _, _, .nil => .nil
  | _, _, 0, .cons _ t => .cons r t
  | _, _, i + 1, .cons q t => .cons q (Vals.set r i t)
theorem Vals.append : ∀ {xs ys : List V} {us ws : List Value}, Vals xs us → Vals ys ws → Vals (xs ++ ys) (us ++ ws)
  | _, _, _, _, .nil, s => s
  | _, _, _, _, .cons r t, s => .cons r (Vals.append t s)
theorem Vals.take : ∀ {xs : List V} {us : List Value} (n : Nat), Vals xs us → Vals (xs.take n) (us.take n)
  | _, _, 0, _ => .nil
  | _, _, _ + 1, .nil => .nil
  | _, _, n + 1, .cons r t => .cons r (Vals.take n t)
theorem Vals.drop : ∀ {xs : List V} {us : List Value} (n : Nat), Vals xs us → Vals (xs.drop n) (us.drop n)
  | _, _, 0, r => r
  | _, _, _ + 1, .nil => .nil
  | _, _, n + 1, .cons _ t => Vals.drop n t
theorem Vals.none_of : ∀ {xs : List V} {us : List Value} {i : Nat}, Vals xs us → xs[i]? = none → us[i]? = none := fun {xs us i} r e => by
  have h1 := r.length
  have h2 : xs.length ≤ i := List.getElem?_eq_none_iff.mp e
  exact List.getElem?_eq_none_iff.mpr (by omega)

def RelO : Option V → Option Value → Prop
  | some v, some u => RelV v u
  | none, none => True
  | _, _ => False
def KV {κ : Type} : List (κ × V) → List (κ × Value) → Prop := Paired fun (p : κ × V) (q : κ × Value) => p.1 = q.1 ∧ RelV p.2 q.2

/-- a key of a dict (00_mix): an int or a text -/
def kV : Key → V
  | .inl i => .int i
  | .inr x => .str x

/-- what stands at a tracked address -/
inductive HO where
  /-- a list -/
  | lst (xs : List V)
  /-- a tuple (never changes) -/
  | tup (xs : List V)
  /-- a dict whose keys are ints and texts; one whose keys are tuples of ints and texts (the empty one is both) -/
  | dK (kvs : List (Key × V)) | dT (kvs : List (List Key × V))
  /-- a set of ints: its members, its size -/
  | set (S : Int → Bool) (n : Nat)
  /-- an instance of the class at C, its dict at dx, its attributes -/
  | ins (C dx : Addr) (fs : List (Str × V))
  /-- the dict of the instance at x -/
  | own (x : Addr)
  /-- the dict of an exception -/
  | xd (fs : List (Str × V))
  /-- a bound method, f of x -/
  | met (f x : Addr)
  /-- a range object lo, lo + 1, .. below hi -/
  | rng (lo hi : Int)
  /-- a thing that is known to the object (the script; a dict while a loop walks it): read, never written while it is so -/
  | frz (o : Obj) (u : HO)
  /-- a code object's table -/
  | tbl (ps : Array Value)
  /-- any other thing, by what is true of its one object (a def of one's own: SetO a S n := HO.ext fun h => ..) -/
  | ext (φ : Heap → Prop)

abbrev Hp := Addr → Option HO
def upd (H : Hp) (a : Addr) (o : HO) : Hp := fun b => if b = a then some o else H b
theorem upd_same {H : Hp} {a : Addr} {o : HO} : upd H a o a = some o := by unfold upd; rw [if_pos rfl]
theorem upd_ne {H : Hp} {a b : Addr} {o : HO} (h : b ≠ a) : upd H a o b = H b := by unfold upd; rw [if_neg h]
theorem upd_upd {H : Hp} {a : Addr} {o u : HO} : upd (upd H a o) a u = upd H a u := by
  funext b; unfold upd; split <;> rfl
/-- two objects of different content stand apart -/
theorem ne_of {H : Hp} {a b : Addr} {o u : HO} (h : H a = some o) (h' : H b = some u) (d : o ≠ u) : a ≠ b := by
  intro e; subst e; rw [h] at h'; exact d (Option.some.inj h')
theorem ne_of_none {H : Hp} {a b : Addr} {o : HO} (h : H a = some o) (h' : H b = none) : a ≠ b := by
  intro e; subst e; rw [h] at h'; cases h'

section
variable (P : Program) (w : World)
def ObjOk (H : Hp) (h : Heap) (a : Addr) : HO → Prop
  | .lst xs => xs.length ≤ sizeLine ∧ ∃ (its : List Value) (n : Nat), Vals xs its ∧ h.get? a = some { cls := .type "list", data := .seq its.toArray n }
  | .tup xs => xs.length ≤ sizeLine ∧ ∃ its : List Value, Vals xs its ∧ IsTup h a its.toArray
  | .dK kvs => kvs.length ≤ sizeLine ∧ (a == sysModules) = false ∧ ∃ vs, KV kvs vs ∧ h.DictOf (mixKind P w) a vs
  | .dT kvs => kvs.length ≤ sizeLine ∧ (a == sysModules) = false ∧ ∃ xs : List (List Key × Addr × Value),
      Paired (fun (p : List Key × V) (q : List Key × Addr × Value) => p.1 = q.1 ∧ H q.2.1 = some (.tup (p.1.map kV)) ∧ RelV p.2 q.2.2) kvs xs ∧
      ∃ o es ep, h.get? a = some o ∧ o.ExactDict ∧ o.data = .dict es ep ∧ es.toList = xs.map (entryOfKey (tupleKind (mixKind P w))) ∧ (xs.map (·.1)).Nodup
  | .set S n => h.SetOf (intKind P w) a S n
  | .ins C dx fs => H dx = some (.own a) ∧ fs.length ≤ 1000 ∧ dx ≠ a ∧ h.get? a = some (PySem.W.instObj C dx) ∧
      ∃ mA, h.Ns1 dx mA ∧ (∀ f, RelO (fs.lookup f) (mA f)) ∧ PySem.Within mA (fs.map (·.1))
  | .own _ => ∃ o, h.get? a = some o
  | .xd fs => ∃ mA, h.Ns1 a mA ∧ ∀ f, RelO (fs.lookup f) (mA f)
  | .rng lo hi => ∃ t u v, h.get? a = some { cls := .type "range", data := .fields #[.int lo t, .int hi u, .int 1 v] }
  | .frz o u => h.get? a = some o ∧ ObjOk H h a u
  | .tbl ps => h.get? a = some { cls := .none, data := .fields ps }
  | .met f x => h.get? a = some (PySem.W.methodObj (.ref f) (.ref x))
  | .ext φ => φ h ∧ (∃ o, h.get? a = some o) ∧ ∀ h1 h2 : Heap, φ h1 → (∀ o, h1.get? a = some o → h2.get? a = some o) → φ h2
/-- the abstract heap is held -/
def HOk (H : Hp) (h : Heap) : Prop := ∀ a o, H a = some o → ObjOk P w H h a o
end

section
variable {P : Program} {w : World} {H H' : Hp} {h h' : Heap} {a : Addr} {o : HO}
theorem ObjOk.lt (x : ObjOk P w H h a o) : a < h.objs.size := by
  cases o with
  | lst xs => obtain ⟨_, _, _, _, e⟩ := x; exact Heap.lt_size e
  | tup xs => obtain ⟨_, _, _, p⟩ := x; exact p.lt
  | dK kvs => obtain ⟨_, _, _, _, o, _, _, e, _⟩ := x; exact Heap.lt_size e
  | dT kvs => obtain ⟨_, _, _, _, o, _, _, e, _⟩ := x; exact Heap.lt_size e
  | set S n => obtain ⟨o, _, _, _, e, _⟩ := x; exact Heap.lt_size e
  | ins C dx fs => obtain ⟨_, _, _, e, _⟩ := x; exact Heap.lt_size e
  | own y => obtain ⟨_, e⟩ := x; exact Heap.lt_size e
  | xd fs => obtain ⟨_, ⟨_, _, _, e, _⟩, _⟩ := x; exact Heap.lt_size e
  | rng lo hi => obtain ⟨_, _, _, e⟩ := x; exact Heap.lt_size e
  | frz ob u => obtain ⟨e, _⟩ := x; exact Heap.lt_size e
  | tbl ps => exact Heap.lt_size (show h.get? a = some _ from x)
  | met f y => exact Heap.lt_size (show h.get? a = some _ from x)
  | ext φ => obtain ⟨_, ⟨_, e⟩, _⟩ := x; exact Heap.lt_size e
theorem Paired.mapP {α β : Type} {F G : α → β → Prop} : ∀ {l₁ : List α} {l₂ : List β}, Paired F l₁ l₂ → (∀ a b, F a b → G a b) → Paired G l₁ l₂
  | _, _, .nil, _ => .nil
  | _, _, .cons r t, f => .cons (f _ _ r) (Paired.mapP t f)
theorem Paired.imp' {α β : Type} {F G : α → β → Prop} (f : ∀ a b, F a b → G a b) {l₁ : List α} {l₂ : List β} (r : Paired F l₁ l₂) : Paired G l₁ l₂ := Paired.mapP r f
/-- what an object's description leans on: its own object, its own dict, the tuples -/
theorem ObjOk.stay (x : ObjOk P w H h a o) (k : ∀ b u, (b = a ∨ H b = some (.own a)) → h.get? b = some u → h'.get? b = some u)
    (ho : ∀ b, H b = some (.own a) → H' b = some (.own a)) (ht : ∀ b xs, H b = some (.tup xs) → H' b = some (.tup xs)) : ObjOk P w H' h' a o := by
  induction o with
  | lst xs => obtain ⟨z, its, n, r, e⟩ := x; exact ⟨z, its, n, r, k _ _ (.inl rfl) e⟩
  | tup xs => obtain ⟨z, its, r, ob, e, c⟩ := x; exact ⟨z, its, r, ob, k _ _ (.inl rfl) e, c⟩
  | dK kvs => obtain ⟨z, y, vs, r, ob, es, ep, e, c⟩ := x; exact ⟨z, y, vs, r, ob, es, ep, k _ _ (.inl rfl) e, c⟩
  | dT kvs =>
    obtain ⟨z, y, xs, r, ob, es, ep, e, c⟩ := x
    exact ⟨z, y, xs, Paired.mapP r fun p q z => ⟨z.1, ht _ _ z.2.1, z.2.2⟩, ob, es, ep, k _ _ (.inl rfl) e, c⟩
  | set S n => obtain ⟨ob, es, ep, t, e, c⟩ := x; exact ⟨ob, es, ep, t, k _ _ (.inl rfl) e, c⟩
  | ins C dx fs =>
    obtain ⟨d, z, ne, e, mA, ⟨od, es, ep, e2, c⟩, r⟩ := x
    exact ⟨ho _ d, z, ne, k _ _ (.inl rfl) e, mA, ⟨od, es, ep, k _ _ (.inr d) e2, c⟩, r⟩
  | own y => obtain ⟨ob, e⟩ := x; exact ⟨ob, k _ _ (.inl rfl) e⟩
  | xd fs => obtain ⟨mA, ⟨od, es, ep, e, c⟩, r⟩ := x; exact ⟨mA, ⟨od, es, ep, k _ _ (.inl rfl) e, c⟩, r⟩
  | rng lo hi => obtain ⟨t, u, v, e⟩ := x; exact ⟨t, u, v, k _ _ (.inl rfl) e⟩
  | frz ob u ih => obtain ⟨e, q⟩ := x; exact ⟨k _ _ (.inl rfl) e, ih q⟩
  | tbl ps =>
    have e : h.get? a = some { cls := .none, data := .fields ps } := x
    show h'.get? a = some { cls := .none, data := .fields ps }
    exact k a _ (.inl rfl) e
  | met f y =>
    have e : h.get? a = some (PySem.W.methodObj (.ref f) (.ref y)) := x
    show h'.get? a = some (PySem.W.methodObj (.ref f) (.ref y))
    exact k a _ (.inl rfl) e
  | ext φ => obtain ⟨p, ⟨o, e⟩, st⟩ := x; exact ⟨st _ _ p fun o q => k _ _ (.inl rfl) q, ⟨o, k _ _ (.inl rfl) e⟩, st⟩
theorem HOk.lt (x : HOk P w H h) (e : H a = some o) : a < h.objs.size := (x a o e).lt
theorem HOk.fresh (x : HOk P w H h) (e : h.objs.size ≤ a) : H a = none := by
  cases q : H a with
  | none => rfl
  | some u => exact absurd (Nat.lt_of_lt_of_le (x.lt q) e) (Nat.lt_irrefl _)
/-- every object of the heap is kept -/
theorem HOk.kept (x : HOk P w H h) (k : ∀ b u, h.get? b = some u → h'.get? b = some u) : HOk P w H h' := fun a o e =>
  (x a o e).stay (fun b u _ q => k b u q) (fun _ q => q) fun _ _ q => q
/-- a new object is laid and tracked -/
theorem HOk.laid (x : HOk P w H h) (k : ∀ b u, h.get? b = some u → h'.get? b = some u) (hp : h.objs.size ≤ a) (new : ObjOk P w (upd H a o) h' a o) : HOk P w (upd H a o) h' := fun b u e => by
  have hn := x.fresh hp
  by_cases hb : b = a
  · subst hb; rw [upd_same] at e; cases e; exact new
  · rw [upd_ne hb] at e
    exact (x b u e).stay (fun c v _ q => k c v q) (fun c q => by rw [upd_ne (ne_of_none q hn)]; exact q) fun c xs q => by rw [upd_ne (ne_of_none q hn)]; exact q
end

/-- what may be read as u: it is u, or a known u -/
def Rd (H : Hp) (a : Addr) (u : HO) : Prop := H a = some u ∨ ∃ o, H a = some (.frz o u)
theorem Rd.of {H : Hp} {a : Addr} {u : HO} (h : H a = some u) : Rd H a u := .inl h
theorem Rd.ok {P : Program} {w : World} {H : Hp} {h : Heap} {a : Addr} {u : HO} (r : Rd H a u) (x : HOk P w H h) : ObjOk P w H h a u := by
  rcases r with r | ⟨o, r⟩
  · exact x a u r
  · obtain ⟨_, q⟩ := x a _ r
    exact q
/-- what may be written -/
def Mut : Option HO → Prop
  | some (.lst _) => True
  | some (.dK _) => True
  | some (.dT _) => True
  | some (.set _ _) => True
  | some (.ins _ _ _) => True
  | some (.ext _) => True
  | _ => False
section
variable {P : Program} {w : World} {H : Hp} {h h' : Heap} {x e : Addr} {o' : HO}
/-- the object at e is changed: x itself, or the dict of the instance x -/
theorem HOk.write (ok : HOk P w H h) (mu : Mut (H x)) (he : e = x ∨ H e = some (.own x)) (k : ∀ b u, b ≠ e → h.get? b = some u → h'.get? b = some u) (heo : ∃ u, h'.get? e = some u)
    (new : ObjOk P w (upd H x o') h' x o') : HOk P w (upd H x o') h' := fun b u q => by
  have nown : ∀ c y, H c = some (.own y) → c ≠ x := fun c y r z => by subst z; rw [r] at mu; exact mu
  have ntup : ∀ c xs, H c = some (.tup xs) → c ≠ x := fun c xs r z => by subst z; rw [r] at mu; exact mu
  by_cases hb : b = x
  · subst hb; rw [upd_same] at q; cases q; exact new
  · rw [upd_ne hb] at q
    by_cases hbe : b = e
    · have q' : H b = some (.own x) := by
        rcases he with z | z
        · exact absurd (hbe.trans z) hb
        · rw [hbe]; exact z
      rw [q] at q'; cases q'
      obtain ⟨v, hv⟩ := heo
      exact ⟨v, by rw [hbe]; exact hv⟩
    · refine (ok b u q).stay (fun c v hc r => k c v ?_ r) (fun c r => by rw [upd_ne (nown c b r)]; exact r) fun c xs r => by rw [upd_ne (ntup c xs r)]; exact r
      rcases hc with rfl | hc
      · exact hbe
      · rintro rfl
        rcases he with z | z
        · exact nown c b hc z
        · rw [hc] at z; cases z; exact hb rfl
end

/-! ### kept unless tracked; of the frames at fs (the callers') the slots may change (an exception that passes writes there); of the records at ex (iterators) nothing is said -/
structure Un (fs ex : List Addr) (H H' : Hp) (h h' : Heap) : Prop where
  keep : ∀ b o, h.get? b = some o → H b = none → b ∉ fs → b ∉ ex → h'.get? b = some o
  slot : ∀ b o, h.get? b = some o → H b = none → b ∈ fs → b ∉ ex → ∃ sl, h'.get? b = some { o with slots := sl }
  free : ∀ b o, h.get? b = some o → H b = none → b ∉ ex → H' b = none
  there : ∀ b o, h.get? b = some o → b ∉ ex → ∃ o', h'.get? b = some o'
  tups : ∀ b xs, H b = some (.tup xs) → H' b = some (.tup xs)
  frzs : ∀ b o u, H b = some (.frz o u) → H' b = some (.frz o u)
  tbls : ∀ b ps, H b = some (.tbl ps) → ∃ more, H' b = some (.tbl (ps ++ more))
section
variable {fs fs' ex ex' : List Addr} {H H1 H2 : Hp} {h h1 h2 h' : Heap} {a x e : Addr} {o : HO}
theorem Un.any (u : Un fs ex H H1 h h1) {b : Addr} {ob : Obj} (q : h.get? b = some ob) (n : H b = none) (hx : b ∉ ex) : ∃ sl, h1.get? b = some { ob with slots := sl } := by
  by_cases hb : b ∈ fs
  · exact u.slot b ob q n hb hx
  · exact ⟨ob.slots, u.keep b ob q n hb hx⟩
theorem Un.trans (a : Un fs ex H H1 h h1) (b : Un fs ex H1 H2 h1 h2) : Un fs ex H H2 h h2 where
  keep := fun c ob q n hc hx => b.keep c ob (a.keep c ob q n hc hx) (a.free c ob q n hx) hc hx
  slot := fun c ob q n hc hx => by
    obtain ⟨sl, e1⟩ := a.slot c ob q n hc hx
    obtain ⟨sl', e2⟩ := b.slot c _ e1 (a.free c ob q n hx) hc hx
    exact ⟨sl', e2⟩
  free := fun c ob q n hx => by
    obtain ⟨o', e1⟩ := a.there c ob q hx
    exact b.free c o' e1 (a.free c ob q n hx) hx
  there := fun c ob q hx => by
    obtain ⟨o', e1⟩ := a.there c ob q hx
    exact b.there c o' e1 hx
  tups := fun c xs q => b.tups c xs (a.tups c xs q)
  frzs := fun c ob xs q => b.frzs c ob xs (a.frzs c ob xs q)
  tbls := fun c ps q => by
    obtain ⟨m1, e1⟩ := a.tbls c ps q
    obtain ⟨m2, e2⟩ := b.tbls c _ e1
    exact ⟨m1 ++ m2, by rw [e2, Array.append_assoc]⟩
theorem Un.kept (k : ∀ b u, h.get? b = some u → h'.get? b = some u) : Un fs ex H H h h' :=
  ⟨fun b ob q _ _ _ => k b ob q, fun b ob q _ _ _ => ⟨ob.slots, k b ob q⟩, fun _ _ _ n _ => n, fun b ob q _ => ⟨ob, k b ob q⟩, fun _ _ q => q, fun _ _ _ q => q, fun _ ps q => ⟨#[], by rw [q]; simp⟩⟩
theorem Un.refl : Un fs ex H H h h := Un.kept fun _ _ q => q
theorem Un.laid (k : ∀ b u, h.get? b = some u → h'.get? b = some u) (hp : h.objs.size ≤ a) (hn : H a = none) : Un fs ex H (upd H a o) h h' where
  keep := fun b u q _ _ _ => k b u q
  slot := fun b u q _ _ _ => ⟨u.slots, k b u q⟩
  free := fun b u q n _ => by rw [upd_ne (Nat.ne_of_lt (Nat.lt_of_lt_of_le (Heap.lt_size q) hp))]; exact n
  there := fun b u q _ => ⟨u, k b u q⟩
  tups := fun b xs q => by rw [upd_ne (ne_of_none q hn)]; exact q
  frzs := fun b u xs q => by rw [upd_ne (ne_of_none q hn)]; exact q
  tbls := fun b ps q => ⟨#[], by rw [upd_ne (ne_of_none q hn), q]; simp⟩
theorem Un.write (mu : Mut (H x)) (he : e = x ∨ H e = some (.own x)) (k : ∀ b u, b ≠ e → h.get? b = some u → h'.get? b = some u) (heo : ∃ u, h'.get? e = some u) : Un fs ex H (upd H x o) h h' := by
  have hx : ∀ b, H b = none → b ≠ x := fun b n z => by subst z; rw [n] at mu; exact mu
  have hb : ∀ b, H b = none → b ≠ e := fun b n z => by
    subst z
    rcases he with r | r
    · exact hx b n r
    · rw [n] at r; cases r
  have hm : ∀ b u, H b = some u → ¬ Mut (some u) → b ≠ x := fun b u q nm z => by subst z; rw [q] at mu; exact nm mu
  refine ⟨fun b u q n _ _ => k b u (hb b n) q, fun b u q n _ _ => ⟨u.slots, k b u (hb b n) q⟩, fun b u q n _ => by rw [upd_ne (hx b n)]; exact n, fun b u q _ => ?_,
    fun b xs q => by rw [upd_ne (hm b _ q fun z => z)]; exact q, fun b u xs q => by rw [upd_ne (hm b _ q fun z => z)]; exact q, fun b ps q => ⟨#[], by rw [upd_ne (hm b _ q fun z => z), q]; simp⟩⟩
  by_cases hbe : b = e
  · subst hbe; exact heo
  · exact ⟨u, k b u hbe q⟩
theorem Un.mono (u : Un fs ex H H1 h h1) (hs : ∀ b ∈ fs, b ∈ fs') (hx : ∀ b ∈ ex, b ∈ ex') : Un fs' ex' H H1 h h1 :=
  ⟨fun b ob q n hb he => u.keep b ob q n (fun z => hb (hs b z)) fun z => he (hx b z), fun _ _ q n _ he => u.any q n fun z => he (hx _ z), fun b ob q n he => u.free b ob q n fun z => he (hx b z), fun b ob q he => u.there b ob q fun z => he (hx b z), u.tups, u.frzs, u.tbls⟩
end

/-! ### the heap without what is tracked -/
def trk (h : Heap) (H : Hp) : List Addr := (List.range h.objs.size).filter fun a => (H a).isSome
def hidT (h : Heap) (H : Hp) : Heap := PySem.W.hideAll h (trk h H)
theorem hidT_size (h : Heap) (H : Hp) : (hidT h H).objs.size = h.objs.size := PySem.W.hideAll_size _ _
theorem hidT_get {h : Heap} {H : Hp} {b : Addr} {o : Obj} (e : h.get? b = some o) (n : H b = none) : (hidT h H).get? b = some o :=
  PySem.W.hideAll_get _ e fun hm => by
    have q : (H b).isSome = true := (List.mem_filter.mp hm).2
    rw [n] at q; simp at q
theorem of_hidT {h : Heap} {H : Hp} {b : Addr} {o : Obj} (e : (hidT h H).get? b = some o) : h.get? b = some o ∧ H b = none := by
  have e' : h.get? b = some o := PySem.W.of_hideAll (trk h H) e
  refine ⟨e', ?_⟩
  cases q : H b with
  | none => rfl
  | some x =>
    have hm : b ∈ trk h H := List.mem_filter.mpr ⟨List.mem_range.mpr (Heap.lt_size e'), by simp [q]⟩
    have z : (hidT h H).get? b = none := PySem.W.hideAll_none (trk h H) hm
    rw [z] at e; cases e

/-! ### OpenK's ledger, filled with every new object but one -/
def allNews (g h : Heap) (L : Addr) : List (Addr × Obj) := (List.range h.objs.size).filterMap fun a => if a = L ∨ (g.get? a).isSome = true then none else (h.get? a).map fun o => (a, o)
theorem mem_allNews {g h : Heap} {L a : Addr} {o : Obj} (h1 : a ≠ L) (h2 : g.get? a = none) (h3 : h.get? a = some o) : (a, o) ∈ allNews g h L :=
  List.mem_filterMap.mpr ⟨a, List.mem_range.mpr (Heap.lt_size h3), by simp [h1, h2, h3]⟩
theorem of_mem_allNews {g h : Heap} {L : Addr} {p : Addr × Obj} (hp : p ∈ allNews g h L) : p.1 ≠ L ∧ g.get? p.1 = none ∧ h.get? p.1 = some p.2 := by
  obtain ⟨b, _, e⟩ := List.mem_filterMap.mp hp
  split at e
  · cases e
  · rename_i hn
    cases q : h.get? b with
    | none => rw [q] at e; simp at e
    | some u =>
      rw [q] at e
      simp only [Option.map_some, Option.some.injEq] at e
      subst e
      refine ⟨fun z => hn (.inl z), ?_, q⟩
      show g.get? b = none
      cases r : g.get? b with
      | none => rfl
      | some v => exact (hn (.inr (by simp [r]))).elim
def rest (g h : Heap) (L d : Addr) : List (Addr × Obj) := (allNews g h L).filter fun p => decide (p.1 ≠ d)
theorem rest_ne {g h : Heap} {L d : Addr} : ∀ p ∈ rest g h L d, p.1 ≠ d := fun p hp => of_decide_eq_true (List.mem_filter.mp hp).2
theorem mem_rest {g h : Heap} {L d a : Addr} {o : Obj} (h1 : a ≠ L) (h2 : g.get? a = none) (h3 : h.get? a = some o) (h4 : a ≠ d) : (a, o) ∈ rest g h L d :=
  List.mem_filter.mpr ⟨mem_allNews h1 h2 h3, decide_eq_true h4⟩
theorem news_all {g h : Heap} {L : Addr} : News g L h (allNews g h L) := fun p hp => let ⟨a, b, c⟩ := of_mem_allNews hp; ⟨c, a, b⟩
theorem news_at {g h : Heap} {L d : Addr} {o : Obj} (h1 : d ≠ L) (h2 : g.get? d = none) (h3 : h.get? d = some o) : News g L h ((d, o) :: rest g h L d) := fun p hp => by
  rcases List.mem_cons.mp hp with rfl | hp
  · exact ⟨h3, h1, h2⟩
  · exact news_all p (List.mem_filter.mp hp).1
/-- behind a rule that changed d alone: all else but the frame is kept -/
theorem kept_of_news {g h h' : Heap} {L d : Addr} {m : Str → Option Value} (k : ∀ b o, g.get? b = some o → h.get? b = some o) (F : Fr g L h' m) (N : News g L h' (rest g h L d)) :
    ∀ b o, b ≠ L → b ≠ d → h.get? b = some o → h'.get? b = some o := fun b o h1 h2 e => by
  cases q : g.get? b with
  | some u =>
    have := k b u q
    rw [e] at this; cases this
    exact F.keep b _ q
  | none => exact (N (b, o) (mem_rest h1 q e h2)).1
end L2

namespace L2
open PySem PySem.Spec PyProof.Rows

/-- the module's facts, over the base: the heap at the law's entry without what is tracked there -/
structure Mod (K : PySem.W.Frag) (mg : Str → Option Value) (base : Heap) : Prop where
  kin : K.In base
  glob : base.Ns mainGlobals mg
  blt : ∃ mb, base.Ns builtinsNs mb ∧ ∀ x : Str, x ≠ "__name__" → mb x = bootBuiltins x
  nolimit : base.NoLimit

/-- the context: a def's body (or a comprehension's block) running. base: fixed through the whole law; s₀, H₀: the entry; outer: the frames whose slots others may change (a def's callers); stack: all frames that run;
   ex: iterators that were made ahead of the entry and are walked here (a comprehension's); fn: the names whose cells were made at the entry (a def: all; a comprehension's block: its own); calm: not within an except suite; pn: pins that every state bears; xe: what is wanted of an exception that leaves the code -/
structure Cx where
  prog : Program
  w : World
  K : PySem.W.Frag
  mg : Str → Option Value
  base : Heap
  A : Around
  N : List Str
  s₀ : Shared
  H₀ : Hp
  env : Env
  outer : List Env
  stack : List Env
  ex : List Addr
  fn : Str → Bool
  calm : Bool
  pn : List (Addr × Obj)
  xe : Value → Shared → Prop
/-- the callers' frames -/
def frs (l : List Env) : List Addr := l.filterMap (·.frame)
abbrev Cx.fs (X : Cx) : List Addr := frs X.outer

def Vis (sc : Scope) (x : Str) : Prop := sc.names.lookup x = some .local ∨ sc.names.lookup x = some .cell ∨ sc.names.lookup x = some .free
def Loc (sc : Scope) (x : Str) : Prop := sc.names.lookup x = some .local ∨ sc.names.lookup x = some .cell
def Look (env : Env) (h : Heap) (m : Str → Option Value) (x : Str) (u : Value) : Prop :=
  (env.kindOf x = some .local ∧ m x = some u) ∨ ((env.kindOf x = some .cell ∨ env.kindOf x = some .free) ∧ ∃ c, env.cells.lookup x = some c ∧ h.IsCell c (some u))

structure Cx.Ok (X : Cx) : Prop where
  mod : Mod X.K X.mg X.base
  kind : X.env.scope.kind = .function
  glob : X.env.globals = mainGlobals
  blt : X.env.builtins = builtinsNs
  above : X.s₀.heap.objs.size ≤ X.env.locals
  inj : ∀ x y c, X.env.cells.lookup x = some c → X.env.cells.lookup y = some c → x = y
  has : ∀ x, (X.env.kindOf x = some .cell ∨ X.env.kindOf x = some .free) → ∃ c, X.env.cells.lookup x = some c
  cab : ∀ x c, X.fn x = true → X.env.cells.lookup x = some c → X.s₀.heap.objs.size ≤ c
  hd : X.calm = true → X.A.handled = none
  frames : X.A.frames = some X.stack
  stk : X.stack = X.outer ∨ (X.stack = X.env :: X.outer ∧ X.env.frame = some X.env.locals)
  exf : ∀ b ∈ X.ex, b ≠ X.env.locals ∧ ∀ x c, X.env.cells.lookup x = some c → c ≠ b
  bs : ∀ b o, X.base.get? b = some o → X.s₀.heap.get? b = some o ∧ X.H₀ b = none
  bsz : X.base.objs.size ≤ X.s₀.heap.objs.size
  noex : ∀ b o, X.base.get? b = some o → b ∉ X.ex
  exfs : ∀ b ∈ X.ex, b ∉ X.fs
  funs : X.s₀.heap.FunFrames X.base X.outer
  frf : ∀ b ∈ X.fs, X.H₀ b = none

structure Inv (X : Cx) (pins : List (Addr × Obj)) (σ : List (Option V)) (H : Hp) (s : Shared) : Prop where
  ok : X.Ok
  os : s.os = X.s₀.os
  bare : AllBare s.gens
  base : Un X.fs X.ex X.H₀ H X.s₀.heap s.heap
  loc : ∃ m, s.heap.Ns X.env.locals m ∧ ∀ (i : Nat) (x : Str) (v : V), X.N[i]? = some x → σ[i]? = some (some v) → Vis X.env.scope x → ∃ u, RelV v u ∧ Look X.env s.heap m x u
  cell : ∀ x c, X.env.cells.lookup x = some c → ∃ v, s.heap.IsCell c v
  free : H X.env.locals = none
  freeC : ∀ x c, X.env.cells.lookup x = some c → H c = none
  pin : ∀ p ∈ X.pn ++ pins, s.heap.get? p.1 = some p.2 ∧ H p.1 = none ∧ p.1 ≠ X.env.locals ∧ p.1 ∉ X.fs ∧ ∀ v, p.2.data ≠ .cell v
  hok : HOk X.prog X.w H s.heap
  len : σ.length = X.N.length

section
variable {X : Cx} {pins : List (Addr × Obj)} {σ : List (Option V)} {H H' : Hp} {s : Shared} {h' : Heap}

theorem Cx.Ok.nofr (ok : X.Ok) {b : Addr} {o : Obj} (e : X.base.get? b = some o) : b ∉ X.fs := fun hb => by
  have := (ok.funs.mem hb).1
  rw [e] at this; cases this
theorem Inv.bs (I : Inv X pins σ H s) : ∀ b o, X.base.get? b = some o → s.heap.get? b = some o ∧ H b = none := fun b o e =>
  ⟨I.base.keep b o (I.ok.bs b o e).1 (I.ok.bs b o e).2 (I.ok.nofr e) (I.ok.noex b o e), I.base.free b o (I.ok.bs b o e).1 (I.ok.bs b o e).2 (I.ok.noex b o e)⟩
theorem Inv.bk (I : Inv X pins σ H s) : ∀ b o, X.base.get? b = some o → s.heap.get? b = some o := fun b o e => (I.bs b o e).1
theorem Inv.mod (I : Inv X pins σ H s) : Mod X.K X.mg X.base := I.ok.mod
theorem Inv.kIn (I : Inv X pins σ H s) : X.K.In s.heap := I.ok.mod.kin.keeps I.bk
theorem Inv.nolimit (I : Inv X pins σ H s) : s.heap.NoLimit := I.ok.mod.nolimit.keeps I.bk
/-- the frame over the base: for OpenK's rules (K.In X.base is I.mod.kin) -/
theorem Inv.fr (I : Inv X pins σ H s) : ∃ m, Fr X.base X.env.locals s.heap m :=
  let ⟨m, hn, _⟩ := I.loc
  ⟨m, hn, I.bk, Nat.le_trans I.ok.bsz I.ok.above⟩
theorem Inv.lt (I : Inv X pins σ H s) : X.env.locals < s.heap.objs.size := let ⟨_, hn, _⟩ := I.loc; hn.lt
theorem Inv.sz (I : Inv X pins σ H s) : X.s₀.heap.objs.size ≤ s.heap.objs.size := Nat.le_trans I.ok.above (Nat.le_of_lt I.lt)
theorem Inv.nofs (I : Inv X pins σ H s) {a : Addr} (h : s.heap.objs.size ≤ a) : a ∉ X.fs := fun hb => by
  obtain ⟨_, o, ho, _⟩ := I.ok.funs.mem hb
  exact absurd (Nat.lt_of_lt_of_le (Heap.lt_size ho) (Nat.le_trans I.sz h)) (Nat.lt_irrefl _)
theorem Inv.cne (I : Inv X pins σ H s) : ∀ x c, X.env.cells.lookup x = some c → c ≠ X.env.locals := fun x c e z => by
  obtain ⟨v, o, ho, hd⟩ := I.cell x c e
  obtain ⟨m, ⟨o', es, ep, ho', hd', _⟩, _⟩ := I.loc
  rw [z, ho'] at ho; cases ho; rw [hd'] at hd; cases hd
theorem Inv.funs (I : Inv X pins σ H s) : s.heap.FunFrames X.base X.outer := by
  have all : ∀ (l : List Env), (∀ b ∈ frs l, b ∈ X.fs) → X.s₀.heap.FunFrames X.base l → s.heap.FunFrames X.base l := by
    intro l
    induction l with
    | nil => intro _ _; trivial
    | cons env r ih =>
      intro hs hl
      obtain ⟨hk, ⟨L, o, hf, hn, ho, hd⟩, hr⟩ := hl
      have hL : L ∈ X.fs := hs L (by unfold frs; rw [List.filterMap_cons, hf]; exact List.mem_cons_self)
      obtain ⟨sl, e⟩ := I.base.slot L o ho (I.ok.frf L hL) hL fun z => I.ok.exfs L z hL
      exact ⟨hk, ⟨L, _, hf, hn, e, hd⟩, ih (fun b hb => hs b (by unfold frs; rw [List.filterMap_cons, hf]; exact List.mem_cons_of_mem _ hb)) hr⟩
  exact all X.outer (fun _ hb => hb) I.ok.funs

/-- the frames that run, for a call -/
theorem Inv.stack (I : Inv X pins σ H s) : s.heap.FunFrames X.base X.stack := by
  rcases I.ok.stk with e | ⟨e, hf⟩
  · rw [e]; exact I.funs
  · rw [e]
    obtain ⟨m, hn, _⟩ := I.loc
    refine .cons (by rw [I.ok.kind]; decide) hf hn ?_ I.funs
    exact Heap.get?_none_of_le (Nat.le_trans I.ok.bsz I.ok.above)
theorem Inv.stkSub (I : Inv X pins σ H s) : ∀ b ∈ frs X.stack, b ∈ X.env.locals :: X.fs := fun b hb => by
  rcases I.ok.stk with e | ⟨e, hf⟩
  · rw [e] at hb; exact List.mem_cons_of_mem _ hb
  · rw [e] at hb
    unfold frs at hb
    rw [List.filterMap_cons, hf] at hb
    exact hb
theorem Inv.stkFree (I : Inv X pins σ H s) : ∀ b ∈ frs X.stack, H b = none := fun b hb => by
  rcases List.mem_cons.mp (I.stkSub b hb) with e | hb
  · rw [e]; exact I.free
  · obtain ⟨_, o, ho, _⟩ := I.ok.funs.mem hb
    exact I.base.free b o ho (I.ok.frf b hb) fun z => I.ok.exfs b z hb

/-- THE STEP: the untracked objects but the frame and the records at ch are kept (the callers' frames up to slots), the frame's map is kept, the new abstract heap is held -/
theorem Inv.step {g' : Array GenState} {t' : Nat} {d' : Drawn} {ch : List Addr} (I : Inv X pins σ H s)
    (hch : ∀ b ∈ ch, (b ∈ X.ex ∨ X.s₀.heap.objs.size ≤ b) ∧ b ≠ X.env.locals ∧ (∀ x c, X.env.cells.lookup x = some c → c ≠ b) ∧ ∀ p ∈ X.pn ++ pins, p.1 ≠ b)
    (keep : ∀ b o, b ≠ X.env.locals → b ∉ X.fs → b ∉ ch → s.heap.get? b = some o → H b = none → h'.get? b = some o)
    (slot : ∀ b o, b ≠ X.env.locals → b ∈ X.fs → b ∉ ch → s.heap.get? b = some o → H b = none → ∃ sl, h'.get? b = some { o with slots := sl }) (free : ∀ b o, b ∉ ch → s.heap.get? b = some o → H b = none → H' b = none)
    (there : ∀ b o, b ∉ ch → s.heap.get? b = some o → ∃ o', h'.get? b = some o')
    (tups : ∀ b xs, H b = some (.tup xs) → H' b = some (.tup xs)) (frzs : ∀ b o u, H b = some (.frz o u) → H' b = some (.frz o u)) (tbls : ∀ b ps, H b = some (.tbl ps) → ∃ more, H' b = some (.tbl (ps ++ more)))
    (ns : ∀ m, s.heap.Ns X.env.locals m → h'.Ns X.env.locals m) (hok : HOk X.prog X.w H' h') (hg : AllBare g') :
    Inv X pins σ H' { s with heap := h', gens := g', drawn := d', toks := t' } := by
  have neL : ∀ b o, X.s₀.heap.get? b = some o → b ≠ X.env.locals := fun b o e => Nat.ne_of_lt (Nat.lt_of_lt_of_le (Heap.lt_size e) I.ok.above)
  have neC : ∀ b o, X.s₀.heap.get? b = some o → b ∉ X.ex → b ∉ ch := fun b o e hx hb => by
    rcases (hch b hb).1 with z | z
    · exact hx z
    · exact absurd (Nat.lt_of_lt_of_le (Heap.lt_size e) z) (Nat.lt_irrefl _)
  have cellK : ∀ x c, X.env.cells.lookup x = some c → ∀ v, s.heap.IsCell c v → h'.IsCell c v := fun x c e v ⟨o, ho, hd⟩ => by
    have nch : c ∉ ch := fun z => (hch c z).2.2.1 x c e rfl
    by_cases hc : c ∈ X.fs
    · obtain ⟨sl, q⟩ := slot c o (I.cne x c e) hc nch ho (I.freeC x c e)
      exact ⟨_, q, hd⟩
    · exact ⟨o, keep c o (I.cne x c e) hc nch ho (I.freeC x c e), hd⟩
  refine ⟨I.ok, I.os, hg, ⟨fun b o e n hb hx => ?_, fun b o e n hb hx => ?_, fun b o e n hx => ?_, fun b o e hx => ?_, fun b xs e => tups b xs (I.base.tups b xs e), fun b o xs e => frzs b o xs (I.base.frzs b o xs e), fun b ps e => ?_⟩, ?_, fun x c e => ?_, ?_, fun x c e => ?_, fun p hp => ?_, hok, I.len⟩
  · exact keep b o (neL b o e) hb (neC b o e hx) (I.base.keep b o e n hb hx) (I.base.free b o e n hx)
  · obtain ⟨sl, e1⟩ := I.base.slot b o e n hb hx
    obtain ⟨sl', e2⟩ := slot b _ (neL b o e) hb (neC b o e hx) e1 (I.base.free b o e n hx)
    exact ⟨sl', e2⟩
  · obtain ⟨o', e1⟩ := I.base.there b o e hx
    exact free b o' (neC b o e hx) e1 (I.base.free b o e n hx)
  · obtain ⟨o', e1⟩ := I.base.there b o e hx
    exact there b o' (neC b o e hx) e1
  · obtain ⟨m1, e1⟩ := I.base.tbls b ps e
    obtain ⟨m2, e2⟩ := tbls b _ e1
    exact ⟨m1 ++ m2, by rw [e2, Array.append_assoc]⟩
  · obtain ⟨m, hn, hl⟩ := I.loc
    refine ⟨m, ns m hn, fun i x v e1 e2 e3 => ?_⟩
    obtain ⟨u, r, l⟩ := hl i x v e1 e2 e3
    refine ⟨u, r, ?_⟩
    rcases l with l | ⟨k, c, e, z⟩
    · exact .inl l
    · exact .inr ⟨k, c, e, cellK x c e _ z⟩
  · obtain ⟨v, z⟩ := I.cell x c e
    exact ⟨v, cellK x c e v z⟩
  · obtain ⟨m, ⟨o, _, _, ho, _⟩, _⟩ := I.loc
    exact free _ o (fun z => (hch _ z).2.1 rfl) ho I.free
  · obtain ⟨v, o, ho, hd⟩ := I.cell x c e
    exact free c o (fun z => (hch c z).2.2.1 x c e rfl) ho (I.freeC x c e)
  · obtain ⟨e, n, ne, nf, d⟩ := I.pin p hp
    have nch : p.1 ∉ ch := fun z => (hch p.1 z).2.2.2 p hp rfl
    exact ⟨keep p.1 p.2 ne nf nch e n, free p.1 p.2 nch e n, ne, nf, d⟩
/-- .. where the frame's own object is kept too -/
theorem Inv.un {t' : Nat} (I : Inv X pins σ H s) (u : Un X.fs [] H H' s.heap h') (hok : HOk X.prog X.w H' h') : Inv X pins σ H' { s with heap := h', toks := t' } := by
  obtain ⟨m, ⟨o, es, ep, ho, r⟩, _⟩ := id I.loc
  obtain ⟨sl, hL⟩ := u.any ho I.free (by simp)
  exact I.step (g' := s.gens) (d' := s.drawn) (ch := []) (fun _ z => nomatch z) (fun b o _ hb _ e n => u.keep b o e n hb (by simp)) (fun b o _ hb _ e n => u.slot b o e n hb (by simp)) (fun b o _ e n => u.free b o e n (by simp)) (fun b o _ e => u.there b o e (by simp)) u.tups u.frzs u.tbls (fun m' hm => by
    obtain ⟨o', es', ep', ho', r'⟩ := hm
    rw [ho] at ho'; cases ho'
    exact ⟨_, es', ep', hL, r'⟩) hok I.bare
/-- behind a call (or a comprehension's block): the slots of this frame may have changed too, the records at ch may have turned -/
theorem Inv.call {g' : Array GenState} {t' : Nat} {d' : Drawn} {ch : List Addr} (I : Inv X pins σ H s) (u : Un (frs X.stack) ch H H' s.heap h') (hok : HOk X.prog X.w H' h') (hg : AllBare g')
    (hch : ∀ b ∈ ch, (b ∈ X.ex ∨ X.s₀.heap.objs.size ≤ b) ∧ b ≠ X.env.locals ∧ (∀ x c, X.env.cells.lookup x = some c → c ≠ b) ∧ ∀ p ∈ X.pn ++ pins, p.1 ≠ b) :
    Inv X pins σ H' { s with heap := h', gens := g', drawn := d', toks := t' } := by
  obtain ⟨m, ⟨o, es, ep, ho, r⟩, _⟩ := id I.loc
  obtain ⟨sl, hL⟩ := u.any ho I.free fun z => (hch _ z).2.1 rfl
  exact I.step (ch := ch) hch (fun b o hL hb hc e n => u.keep b o e n (fun z => (List.mem_cons.mp (I.stkSub b z)).elim hL hb) hc) (fun b o _ _ hc e n => u.any e n hc) (fun b o hc e n => u.free b o e n hc) (fun b o hc e => u.there b o e hc) u.tups u.frzs u.tbls (fun m' hm => by
    obtain ⟨o', es', ep', ho', r'⟩ := hm
    rw [ho] at ho'; cases ho'
    exact ⟨_, es', ep', hL, r'⟩) hok hg
/-- an untracked record of ours (an iterator) has turned -/
theorem Inv.turned {t' : Nat} {it : Addr} (I : Inv X pins σ H s) (k : ∀ b o, b ≠ it → s.heap.get? b = some o → h'.get? b = some o) (hn : H it = none) (hL : it ≠ X.env.locals)
    (h1 : it ∈ X.ex ∨ X.s₀.heap.objs.size ≤ it) (h2 : ∀ x c, X.env.cells.lookup x = some c → c ≠ it) (h3 : ∀ p ∈ X.pn ++ pins, p.1 ≠ it) : Inv X pins σ H { s with heap := h', toks := t' } := by
  have nit : ∀ b u, H b = some u → b ≠ it := fun b u e z => by rw [z, hn] at e; cases e
  refine I.step (g' := s.gens) (d' := s.drawn) (ch := [it]) (fun b hb => ?_) (fun b o _ _ hc e _ => k b o (fun z => hc (by simp [z])) e) (fun b o _ _ hc e _ => ⟨o.slots, k b o (fun z => hc (by simp [z])) e⟩) (fun _ _ _ _ n => n)
    (fun b o hc e => ⟨o, k b o (fun z => hc (by simp [z])) e⟩) (fun _ _ e => e) (fun _ _ _ e => e) (fun b ps e => ⟨#[], by rw [e]; simp⟩) (fun m hm => ?_) (fun b u e => ?_) I.bare
  · have e : b = it := by simpa using hb
    subst e
    exact ⟨h1, hL, h2, h3⟩
  · obtain ⟨o, es, ep, ho, r⟩ := hm
    exact ⟨o, es, ep, k _ o (Ne.symm hL) ho, r⟩
  · refine (I.hok b u e).stay (fun c v hc q => k c v ?_ q) (fun _ q => q) fun _ _ q => q
    rcases hc with z | z
    · rw [z]; exact nit b u e
    · exact nit c _ z
theorem Inv.tok (I : Inv X pins σ H s) (t : Nat) : Inv X pins σ H { s with toks := t } := I.un (h' := s.heap) (t' := t) Un.refl I.hok
/-- all objects kept -/
theorem Inv.kept {t' : Nat} (I : Inv X pins σ H s) (k : ∀ b u, s.heap.get? b = some u → h'.get? b = some u) : Inv X pins σ H { s with heap := h', toks := t' } := I.un (Un.kept k) (I.hok.kept k)
/-- a new object laid and tracked -/
theorem Inv.laid {a : Addr} {o : HO} {t' : Nat} (I : Inv X pins σ H s) (k : ∀ b u, s.heap.get? b = some u → h'.get? b = some u) (hp : s.heap.objs.size ≤ a) (new : ObjOk X.prog X.w (upd H a o) h' a o) :
    Inv X pins σ (upd H a o) { s with heap := h', toks := t' } := I.un (Un.laid k hp (I.hok.fresh hp)) (I.hok.laid k hp new)
/-- an object written -/
theorem Inv.write {x e : Addr} {o : HO} {t' : Nat} (I : Inv X pins σ H s) (mu : Mut (H x)) (he : e = x ∨ H e = some (.own x)) (k : ∀ b u, b ≠ e → s.heap.get? b = some u → h'.get? b = some u) (heo : ∃ u, h'.get? e = some u)
    (new : ObjOk X.prog X.w (upd H x o) h' x o) : Inv X pins σ (upd H x o) { s with heap := h', toks := t' } := I.un (Un.write mu he k heo) (I.hok.write mu he k heo new)
/-- forgetting slots, pins -/
theorem Inv.weak {σ' : List (Option V)} (I : Inv X pins σ H s) (hl : σ'.length = σ.length) (w : ∀ (i : Nat) v, σ'[i]? = some (some v) → σ[i]? = some (some v)) : Inv X pins σ' H s :=
  ⟨I.ok, I.os, I.bare, I.base, let ⟨m, hn, hl'⟩ := I.loc; ⟨m, hn, fun i x v e1 e2 e3 => hl' i x v e1 (w i v e2) e3⟩, I.cell, I.free, I.freeC, I.pin, I.hok, hl.trans I.len⟩
theorem Inv.pins_of {pins' : List (Addr × Obj)} (I : Inv X pins σ H s) (h : ∀ p ∈ pins', s.heap.get? p.1 = some p.2 ∧ H p.1 = none ∧ p.1 ≠ X.env.locals ∧ p.1 ∉ X.fs ∧ ∀ v, p.2.data ≠ .cell v) : Inv X pins' σ H s :=
  ⟨I.ok, I.os, I.bare, I.base, I.loc, I.cell, I.free, I.freeC, fun p hp => (List.mem_append.mp hp).elim (fun z => I.pin p (List.mem_append_left _ z)) (h p), I.hok, I.len⟩

theorem nodup_ix {N : List Str} (hN : N.Nodup) {i j : Nat} {x : Str} (a : N[i]? = some x) (b : N[j]? = some x) : i = j := by
  obtain ⟨h1, e1⟩ := List.getElem?_eq_some_iff.mp a
  obtain ⟨h2, e2⟩ := List.getElem?_eq_some_iff.mp b
  exact (List.getElem_inj hN).mp (e1.trans e2.symm)

/-- a name is stored; what changed -/
theorem store_ok2 {M : Model} {A : Around} {E : Value → Shared → Prop} {i : Nat} {x : Str} {v : V} {u : Value} {Q : Unit → Shared → Prop} (I : Inv X pins σ H s) (hN : X.N.Nodup) (hi : X.N[i]? = some x) (hx : Loc X.env.scope x) (r : RelV v u)
    (h : ∀ s', Inv X pins (σ.set i (some v)) H s' → (∃ a, Heap.SameBut a s.heap s'.heap ∧ (a = X.env.locals ∨ X.env.cells.lookup x = some a)) → Q () s') (hf : X.fn x = true ∨ X.env.scope.names.lookup x = some .local := by first | exact .inl rfl | exact .inr rfl | assumption) : wpAny M A (storeName X.env x u) Q E s := by
  obtain ⟨m, hn, hl⟩ := id I.loc
  have hcls : (X.env.scope.kind == .class || (X.env.scope.kind == .module && X.env.locals != X.env.globals)) = false := by rw [I.ok.kind]; rfl
  have hiσ : i < σ.length := by rw [I.len]; exact (List.getElem?_eq_some_iff.mp hi).1
  have cne := I.cne
  have tracked : ∀ {a : Addr} {h' : Heap}, (∃ o, s.heap.get? a = some o ∧ H a = none) → Heap.SameBut a s.heap h' → HOk X.prog X.w H h' := fun {a h'} ha hs b ob e => by
    obtain ⟨_, _, hfree⟩ := ha
    refine (I.hok b ob e).stay (fun c w' hc q => (hs.2 c ?_).trans q) (fun _ q => q) fun _ _ q => q
    rintro rfl
    rcases hc with rfl | hc
    · rw [hfree] at e; cases e
    · rw [hfree] at hc; cases hc
  rcases hx with hk | hk
  · refine wpAny_storeName_local hk hn (fun h' hn' hs => ?_) hcls
    obtain ⟨oL, _, _, hoL, _⟩ := id hn
    refine h _ ⟨I.ok, I.os, I.bare, ⟨fun b o e n hb hx => ?_, fun b o e n hb hx => ?_, I.base.free, fun b o e hx => ?_, I.base.tups, I.base.frzs, I.base.tbls⟩, ⟨_, hn', fun j y v' e1 e2 e3 => ?_⟩, fun y c e => ?_, I.free, I.freeC, fun p hp => ?_, tracked ⟨oL, hoL, I.free⟩ hs, by simpa using I.len⟩ ⟨_, hs, .inl rfl⟩
    · exact (hs.2 b (Nat.ne_of_lt (Nat.lt_of_lt_of_le (Heap.lt_size e) I.ok.above))).trans (I.base.keep b o e n hb hx)
    · obtain ⟨sl, e1⟩ := I.base.slot b o e n hb hx
      exact ⟨sl, (hs.2 b (Nat.ne_of_lt (Nat.lt_of_lt_of_le (Heap.lt_size e) I.ok.above))).trans e1⟩
    · obtain ⟨o', e1⟩ := I.base.there b o e hx
      exact ⟨o', (hs.2 b (Nat.ne_of_lt (Nat.lt_of_lt_of_le (Heap.lt_size e) I.ok.above))).trans e1⟩
    · by_cases hj : j = i
      · subst hj
        rw [hi] at e1; cases e1
        rw [List.getElem?_set_self hiσ] at e2
        cases e2
        exact ⟨u, r, .inl ⟨hk, by simp⟩⟩
      · rw [List.getElem?_set_ne (Ne.symm hj)] at e2
        obtain ⟨u', r', q⟩ := hl j y v' e1 e2 e3
        refine ⟨u', r', ?_⟩
        rcases q with ⟨k, e⟩ | ⟨k, c, e, z⟩
        · refine .inl ⟨k, ?_⟩
          have : y ≠ x := fun e => hj (nodup_ix hN e1 (e ▸ hi))
          simp [this, e]
        · exact .inr ⟨k, c, e, z.sameBut hs (cne y c e)⟩
    · obtain ⟨w', z⟩ := I.cell y c e
      exact ⟨w', z.sameBut hs (cne y c e)⟩
    · obtain ⟨e, n, ne, nf, d⟩ := I.pin p hp
      exact ⟨(hs.2 p.1 ne).trans e, n, ne, nf, d⟩
  · have hfn : X.fn x = true := by
      rcases hf with z | z
      · exact z
      · rw [z] at hk; cases hk
    obtain ⟨c, hc⟩ := I.ok.has x (.inl hk)
    obtain ⟨w', z⟩ := I.cell x c hc
    refine wpAny_storeName_cell I.ok.kind hk hc z (fun h' hc' hs => ?_)
    obtain ⟨oc, hoc, hocd⟩ := id z
    refine h { s with heap := h' } ⟨I.ok, I.os, I.bare, ⟨fun b o e n hb hx => ?_, fun b o e n hb hx => ?_, I.base.free, fun b o e hx => ?_, I.base.tups, I.base.frzs, I.base.tbls⟩, ⟨m, hn.sameBut hs (Ne.symm (cne x c hc)), fun j y v' e1 e2 e3 => ?_⟩, fun y c' e => ?_, I.free, I.freeC, fun p hp => ?_, tracked ⟨oc, hoc, I.freeC x c hc⟩ hs, by simpa using I.len⟩ ⟨c, hs, .inr hc⟩
    · exact (hs.2 b (Nat.ne_of_lt (Nat.lt_of_lt_of_le (Heap.lt_size e) (I.ok.cab x c hfn hc)))).trans (I.base.keep b o e n hb hx)
    · obtain ⟨sl, e1⟩ := I.base.slot b o e n hb hx
      exact ⟨sl, (hs.2 b (Nat.ne_of_lt (Nat.lt_of_lt_of_le (Heap.lt_size e) (I.ok.cab x c hfn hc)))).trans e1⟩
    · obtain ⟨o', e1⟩ := I.base.there b o e hx
      exact ⟨o', (hs.2 b (Nat.ne_of_lt (Nat.lt_of_lt_of_le (Heap.lt_size e) (I.ok.cab x c hfn hc)))).trans e1⟩
    · by_cases hj : j = i
      · subst hj
        rw [hi] at e1; cases e1
        rw [List.getElem?_set_self hiσ] at e2
        cases e2
        exact ⟨u, r, .inr ⟨.inl hk, c, hc, hc'⟩⟩
      · rw [List.getElem?_set_ne (Ne.symm hj)] at e2
        obtain ⟨u', r', q⟩ := hl j y v' e1 e2 e3
        refine ⟨u', r', ?_⟩
        rcases q with q | ⟨k, c', e, z'⟩
        · exact .inl q
        · refine .inr ⟨k, c', e, z'.sameBut hs ?_⟩
          rintro rfl
          exact hj (nodup_ix hN e1 (I.ok.inj _ _ _ e hc ▸ hi))
    · by_cases hcc : c' = c
      · subst hcc; exact ⟨_, hc'⟩
      · obtain ⟨w2, z2⟩ := I.cell y c' e
        exact ⟨w2, z2.sameBut hs hcc⟩
    · obtain ⟨e, n, ne, nf, d⟩ := I.pin p hp
      refine ⟨(hs.2 p.1 ?_).trans e, n, ne, nf, d⟩
      intro q
      rw [q, hoc] at e
      have q' : oc = p.2 := Option.some.inj e
      exact d w' (by rw [← q']; exact hocd)
theorem store_ok {M : Model} {A : Around} {E : Value → Shared → Prop} {i : Nat} {x : Str} {v : V} {u : Value} {Q : Unit → Shared → Prop} (I : Inv X pins σ H s) (hN : X.N.Nodup) (hi : X.N[i]? = some x) (hx : Loc X.env.scope x) (r : RelV v u)
    (h : ∀ s', Inv X pins (σ.set i (some v)) H s' → Q () s') (hf : X.fn x = true ∨ X.env.scope.names.lookup x = some .local := by first | exact .inl rfl | exact .inr rfl | assumption) : wpAny M A (storeName X.env x u) Q E s :=
  store_ok2 I hN hi hx r (fun s' I' _ => h s' I') hf
/-- behind a call or a block, the state as it is -/
theorem Inv.call' {s' : Shared} {ch : List Addr} (I : Inv X pins σ H s) (ho : s'.os = s.os) (u : Un (frs X.stack) ch H H' s.heap s'.heap) (hok : HOk X.prog X.w H' s'.heap) (hg : AllBare s'.gens)
    (hch : ∀ b ∈ ch, (b ∈ X.ex ∨ X.s₀.heap.objs.size ≤ b) ∧ b ≠ X.env.locals ∧ (∀ x c, X.env.cells.lookup x = some c → c ≠ b) ∧ ∀ p ∈ X.pn ++ pins, p.1 ≠ b) : Inv X pins σ H' s' := by
  obtain ⟨h', g', d', t', o'⟩ := s'
  have e : o' = s.os := ho
  subst e
  exact I.call (g' := g') (t' := t') (d' := d') u hok hg hch
end

/-! ### the judgements -/
/-- an exception: its class, its own dict's address (where it has one), the abstract heap behind it -/
abbrev XK := Value → Option Addr → Hp → Prop
abbrev St := List (Option V)
abbrev VK := V → Hp → Prop
/-- an expression's reading; a test's; an argument list's -/
abbrev TE := St → Hp → VK → Prop
abbrev TT := St → Hp → (Bool → Hp → Prop) → Prop
abbrev TA := St → Hp → (List V → Hp → Prop) → Prop
/-- what is wanted behind a statement -/
structure Ends where
  nx : St → Hp → Prop
  rt : VK
  bk : St → Hp → Prop := fun _ _ => False
  ct : St → Hp → Prop := fun _ _ => False
abbrev TS := Ends → St → Hp → Prop

def EP (X : Cx) (pins : List (Addr × Obj)) (σ : St) (Q : VK) (u : Value) (s' : Shared) : Prop := ∃ v H', Inv X pins σ H' s' ∧ RelV v u ∧ Q v H'
def TP (X : Cx) (pins : List (Addr × Obj)) (σ : St) (Q : Bool → Hp → Prop) (b : Bool) (s' : Shared) : Prop := ∃ H', Inv X pins σ H' s' ∧ Q b H'
def AP (X : Cx) (pins : List (Addr × Obj)) (σ : St) (Q : List V → Hp → Prop) (us : List Value) (s' : Shared) : Prop := ∃ vs H', Inv X pins σ H' s' ∧ Vals vs us ∧ Q vs H'
def SP (X : Cx) (pins : List (Addr × Obj)) (D : Ends) (f : Flow) (s' : Shared) : Prop :=
  match f with
  | .next => ∃ σ' H', Inv X pins σ' H' s' ∧ D.nx σ' H'
  | .brk => ∃ σ' H', Inv X pins σ' H' s' ∧ D.bk σ' H'
  | .cont => ∃ σ' H', Inv X pins σ' H' s' ∧ D.ct σ' H'
  | .ret u => ∃ v σ' H', Inv X pins σ' H' s' ∧ RelV v u ∧ D.rt v H'

def PE (X : Cx) (e : Expr) (t : TE) : Prop :=
  ∀ (pins : List (Addr × Obj)) (s : Shared) (σ : St) (H : Hp) (Q : VK), Inv X pins σ H s → t σ H Q → wpAny (model X.prog X.w) X.A (eval e X.env) (EP X pins σ Q) X.xe s
def PT (X : Cx) (e : Expr) (t : TT) : Prop :=
  ∀ (pins : List (Addr × Obj)) (s : Shared) (σ : St) (H : Hp) (Q : Bool → Hp → Prop), Inv X pins σ H s → t σ H Q → wpAny (model X.prog X.w) X.A (isTrue e X.env (eval e X.env)) (TP X pins σ Q) X.xe s
/-- a test whatever its 'whole' is (and, or) -/
def PW (X : Cx) (e : Expr) (t : TT) : Prop :=
  ∀ (whole : Sem Value) (pins : List (Addr × Obj)) (s : Shared) (σ : St) (H : Hp) (Q : Bool → Hp → Prop), Inv X pins σ H s → t σ H Q → wpAny (model X.prog X.w) X.A (isTrue e X.env whole) (TP X pins σ Q) X.xe s
theorem PW.pt {X : Cx} {e : Expr} {t : TT} (h : PW X e t) : PT X e t := h _
/-- an argument list (no star), from the left -/
def PA (X : Cx) (es : List Expr) (t : TA) : Prop :=
  ∀ (pos : Pos) (pins : List (Addr × Obj)) (s : Shared) (σ : St) (H : Hp) (Q : List V → Hp → Prop), Inv X pins σ H s → t σ H Q → wpAny (model X.prog X.w) X.A (spliced (backTo pos (starEach es X.env))) (AP X pins σ Q) X.xe s
def PS (X : Cx) (st : Stmt) (t : TS) : Prop :=
  ∀ (pins : List (Addr × Obj)) (s : Shared) (σ : St) (H : Hp) (D : Ends), Inv X pins σ H s → t D σ H → wpAny (model X.prog X.w) X.A (exec st X.env) (SP X pins D) X.xe s
def PSs (X : Cx) (st : List Stmt) (t : TS) : Prop :=
  ∀ (pins : List (Addr × Obj)) (s : Shared) (σ : St) (H : Hp) (D : Ends), Inv X pins σ H s → t D σ H → wpAny (model X.prog X.w) X.A (execs st X.env) (SP X pins D) X.xe s
/-- weaken the end -/
theorem thn {α : Type} {t : Sem α} {Q Q' : α → Shared → Prop} {M : Model} {A : Around} {E : Value → Shared → Prop} {s : Shared} (h : wpAny M A t Q E s) (hQ : ∀ a s, Q a s → Q' a s) : wpAny M A t Q' E s := wpAny_mono h hQ fun _ _ x => x
end L2

namespace L2
open PySem PySem.Spec PyProof.Rows
section
variable {X : Cx}

/-- two expressions in a row -/
theorem bin {a b : Expr} {ta tb : TE} (ha : PE X a ta) (hb : PE X b tb) {pins : List (Addr × Obj)} {s : Shared} {σ : St} {H : Hp} {R : V → V → Hp → Prop} (I : Inv X pins σ H s) (h : ta σ H fun x H1 => tb σ H1 fun y H2 => R x y H2)
    {α : Type} {Q : α → Shared → Prop} {f : Value → Value → Sem α}
    (hf : ∀ v u s2 x y H2, Inv X pins σ H2 s2 → RelV x v → RelV y u → R x y H2 → wpAny (model X.prog X.w) X.A (f v u) Q X.xe s2) :
    wpAny (model X.prog X.w) X.A (eval a X.env) (fun v s₁ => wpAny (model X.prog X.w) X.A (eval b X.env) (fun u s₂ => wpAny (model X.prog X.w) X.A (f v u) Q X.xe s₂) X.xe s₁) X.xe s := by
  refine thn (ha pins s σ H _ I h) fun v s1 ⟨x, H1, I1, r1, q1⟩ => ?_
  refine thn (hb pins s1 σ H1 _ I1 q1) fun u s2 ⟨y, H2, I2, r2, q2⟩ => ?_
  exact hf v u s2 x y H2 I2 r1 r2 q2

/-! ### names and constants -/
def tVar (i : Nat) : TE := fun σ H Q => ∃ v, σ[i]? = some (some v) ∧ Q v H
def tC (v : V) : TE := fun _ H Q => Q v H
theorem pe_var {i : Nat} {x : Str} {pos : Pos} (hN : X.N[i]? = some x) (hv : Vis X.env.scope x) (hd : (x == ("__debug__" : Str)) = false := by decide) (hcd : (x == ("__classdict__" : Str)) = false := by decide) : PE X (.Name x pos) (tVar i) := by
  intro pins s σ H Q I h
  obtain ⟨v, e, h⟩ := h
  obtain ⟨m, hn, hl⟩ := I.loc
  obtain ⟨u, r, l⟩ := hl i x v hN e hv
  have fin : EP X pins σ Q u s := ⟨v, H, I, r, h⟩
  rcases l with ⟨hk, hm⟩ | ⟨hk, c, hc, hcell⟩
  · exact wpAny_Name (wpAny_loadName_local I.ok.kind hk hn hm fin) hd
  · rcases hk with hk | hk
    · exact wpAny_Name (wpAny_loadName_cell I.ok.kind hk hc hcell fin) hd
    · exact wpAny_Name (wpAny_loadName_free I.ok.kind hk hc hcell fin hcd) hd
theorem pe_int {i j pos} : PE X (.Constant (.int i) j pos) (tC (.int i)) := fun _ _ _ H _ I h => wpAny_Constant_int ⟨.int i, H, I.tok _, ⟨_, rfl⟩, h⟩
theorem pe_bl {b j pos} : PE X (.Constant (.bool b) j pos) (tC (.bl b)) := fun _ _ _ H _ I h => Constant_bool ⟨.bl b, H, I, rfl, h⟩
theorem pe_non {j pos} : PE X (.Constant .none j pos) (tC .non) := fun _ _ _ H _ I h => Constant_none ⟨.non, H, I, rfl, h⟩
theorem pe_str {x j pos} : PE X (.Constant (.str x) j pos) (tC (.str x)) := fun _ _ _ H _ I h => Calls.Constant_str ⟨.str x, H, I.tok _, ⟨_, rfl⟩, h⟩

/-- a global name of the def -/
def Gl (X : Cx) (x : Str) : Prop := X.env.kindOf x = some .globalImplicit
theorem ld_glob {E : Value → Shared → Prop} {pins : List (Addr × Obj)} {s : Shared} {σ : St} {H : Hp} {x : Str} {u : Value} {pos : Pos} {Q : Value → Shared → Prop} (I : Inv X pins σ H s) (hg : Gl X x) (hm : X.mg x = some u) (h : Q u s)
    (hd : (x == ("__debug__" : Str)) = false := by decide) : wpAny (model X.prog X.w) X.A (eval (.Name x pos) X.env) Q E s :=
  Calls.Name_function_global I.ok.kind hg (Calls.loadGlobal_global (by rw [I.ok.glob]; exact I.mod.glob.keeps I.bk) hm h) hd
theorem ld_blt {E : Value → Shared → Prop} {pins : List (Addr × Obj)} {s : Shared} {σ : St} {H : Hp} {x : Str} {u : Value} {pos : Pos} {Q : Value → Shared → Prop} (I : Inv X pins σ H s) (hg : Gl X x) (hm : X.mg x = none) (hv : bootBuiltins x = some u) (h : Q u s)
    (hn : x ≠ "__name__" := by decide) (hd : (x == ("__debug__" : Str)) = false := by decide) : wpAny (model X.prog X.w) X.A (eval (.Name x pos) X.env) Q E s := by
  obtain ⟨mb, h1, h2⟩ := I.mod.blt
  exact Calls.Name_function_global I.ok.kind hg (Calls.loadGlobal_builtin (by rw [I.ok.glob]; exact I.mod.glob.keeps I.bk) hm (by rw [I.ok.blt]; exact h1.keeps I.bk) ((h2 x hn).trans hv) h) hd
/-- a module's constant, a class, a function, as a value -/
theorem pe_glob {x : Str} {v : V} {u : Value} {pos : Pos} (hg : Gl X x) (hm : X.mg x = some u) (r : RelV v u) (hd : (x == ("__debug__" : Str)) = false := by decide) : PE X (.Name x pos) (tC v) :=
  fun _ _ _ H _ I h => ld_glob I hg hm ⟨v, H, I, r, h⟩ hd
theorem pe_bltn {x : Str} {v : V} {u : Value} {pos : Pos} (hg : Gl X x) (hm : X.mg x = none) (hv : bootBuiltins x = some u) (r : RelV v u) (hn : x ≠ "__name__" := by decide) (hd : (x == ("__debug__" : Str)) = false := by decide) : PE X (.Name x pos) (tC v) :=
  fun _ _ _ H _ I h => ld_blt I hg hm hv ⟨v, H, I, r, h⟩ hn hd

/-! ### arithmetic -/
/-- two ints -/
def t2I (ta tb : TE) (k : Int → Int → Hp → Prop) : St → Hp → Prop := fun σ H => ta σ H fun x H1 => tb σ H1 fun y H2 => ∃ i j, x = .int i ∧ y = .int j ∧ k i j H2
def tAdd (ta tb : TE) : TE := fun σ H Q => t2I ta tb (fun i j H2 => Q (.int (i + j)) H2) σ H
def tSub (ta tb : TE) : TE := fun σ H Q => t2I ta tb (fun i j H2 => Q (.int (i - j)) H2) σ H
/-- the left factor below 2^64 -/
def tMul (ta tb : TE) : TE := fun σ H Q => t2I ta tb (fun i j H2 => (-(2 ^ 64) < i ∧ i < 2 ^ 64) ∧ Q (.int (i * j)) H2) σ H
variable {a b : Expr} {ta tb : TE} {pos : Pos}
theorem pe_add (ha : PE X a ta) (hb : PE X b tb) : PE X (.BinOp a .Add b pos) (tAdd ta tb) := by
  intro pins s σ H Q I h
  refine wpAny_BinOp (bin ha hb I h fun v u s2 x y H2 I2 rx ry q => ?_)
  obtain ⟨i, j, rfl, rfl, q⟩ := q
  obtain ⟨t, rfl⟩ := rx
  obtain ⟨t', rfl⟩ := ry
  exact add_int ⟨.int _, H2, I2.tok _, ⟨_, rfl⟩, q⟩
theorem pe_sub (ha : PE X a ta) (hb : PE X b tb) : PE X (.BinOp a .Sub b pos) (tSub ta tb) := by
  intro pins s σ H Q I h
  refine wpAny_BinOp (bin ha hb I h fun v u s2 x y H2 I2 rx ry q => ?_)
  obtain ⟨i, j, rfl, rfl, q⟩ := q
  obtain ⟨t, rfl⟩ := rx
  obtain ⟨t', rfl⟩ := ry
  exact sub_int ⟨.int _, H2, I2.tok _, ⟨_, rfl⟩, q⟩
theorem pe_mul (ha : PE X a ta) (hb : PE X b tb) : PE X (.BinOp a .Mult b pos) (tMul ta tb) := by
  intro pins s σ H Q I h
  refine wpAny_BinOp (bin ha hb I h fun v u s2 x y H2 I2 rx ry q => ?_)
  obtain ⟨i, j, rfl, rfl, ⟨q1, q2⟩, q⟩ := q
  obtain ⟨t, rfl⟩ := rx
  obtain ⟨t', rfl⟩ := ry
  exact mul_int ⟨.int _, H2, I2.tok _, ⟨_, rfl⟩, q⟩ (.of_left (intBits_le_64 q1 q2))

/-! ### comparisons -/
def PC (X : Cx) (op : CmpOp) (a b : Expr) (t : TE) : Prop :=
  ∀ (pins : List (Addr × Obj)) (s : Shared) (σ : St) (H : Hp) (Q : VK), Inv X pins σ H s → t σ H Q →
    wpAny (model X.prog X.w) X.A (eval a X.env) (fun v s₁ => wpAny (model X.prog X.w) X.A (eval b X.env) (fun u s₂ => wpAny (model X.prog X.w) X.A (compareOp op v u) (EP X pins σ Q) X.xe s₂) X.xe s₁) X.xe s
theorem nobehind (b : Expr) {op : CmpOp} (h : op ≠ .In) (h2 : op ≠ .NotIn) : behindInMarks op b = false := by
  have e1 : (op == CmpOp.In) = false := by cases op <;> first | rfl | exact absurd rfl h
  have e2 : (op == CmpOp.NotIn) = false := by cases op <;> first | rfl | exact absurd rfl h2
  cases b <;> simp [behindInMarks, e1, e2]
def tCmp (p : Int → Int → Bool) (ta tb : TE) : TE := fun σ H Q => t2I ta tb (fun i j H2 => Q (.bl (p i j)) H2) σ H
abbrev tLt : TE → TE → TE := tCmp fun i j => decide (i < j)
abbrev tLe : TE → TE → TE := tCmp fun i j => decide (i ≤ j)
abbrev tGt : TE → TE → TE := tCmp fun i j => decide (j < i)
abbrev tGe : TE → TE → TE := tCmp fun i j => decide (j ≤ i)
abbrev tEqI : TE → TE → TE := tCmp fun i j => decide (i = j)
abbrev tNeI : TE → TE → TE := tCmp fun i j => !decide (i = j)
/-- a comparison of two ints, by its rule -/
theorem pc_int {op : CmpOp} {p : Int → Int → Bool} (ha : PE X a ta) (hb : PE X b tb)
    (rule : ∀ (i j : Int) (t u : Tok) (Q : Value → Shared → Prop) (s : Shared), Q (.bool (p i j)) s → wpAny (model X.prog X.w) X.A (compareOp op (.int i t) (.int j u)) Q X.xe s) : PC X op a b (tCmp p ta tb) := by
  intro pins s σ H Q I h
  refine bin ha hb I h fun v u s2 x y H2 I2 rx ry q => ?_
  obtain ⟨i, j, rfl, rfl, q⟩ := q
  obtain ⟨t, rfl⟩ := rx
  obtain ⟨t', rfl⟩ := ry
  exact rule i j t t' _ s2 ⟨.bl _, H2, I2, rfl, q⟩
theorem pc_lt (ha : PE X a ta) (hb : PE X b tb) : PC X .Lt a b (tLt ta tb) := pc_int ha hb fun _ _ _ _ _ _ h => lt_int h
theorem pc_le (ha : PE X a ta) (hb : PE X b tb) : PC X .LtE a b (tLe ta tb) := pc_int ha hb fun _ _ _ _ _ _ h => le_int h
theorem pc_gt (ha : PE X a ta) (hb : PE X b tb) : PC X .Gt a b (tGt ta tb) := pc_int ha hb fun _ _ _ _ _ _ h => gt_int h
theorem pc_ge (ha : PE X a ta) (hb : PE X b tb) : PC X .GtE a b (tGe ta tb) := pc_int ha hb fun _ _ _ _ _ _ h => ge_int h
theorem pc_eqI (ha : PE X a ta) (hb : PE X b tb) : PC X .Eq a b (tEqI ta tb) := pc_int ha hb fun _ _ _ _ _ _ h => eq_int (by rw [Bool.beq_eq_decide_eq]; exact h)
theorem pc_neI (ha : PE X a ta) (hb : PE X b tb) : PC X .NotEq a b (tNeI ta tb) := pc_int ha hb fun _ _ _ _ _ _ h => ne_int (by rw [bne, Bool.beq_eq_decide_eq]; exact h)
/-- is None -/
def tIsN (ta : TE) : TE := fun σ H Q => ta σ H fun x H1 => Q (.bl (decide (x = .non))) H1
def tNotN (ta : TE) : TE := fun σ H Q => ta σ H fun x H1 => Q (.bl (!decide (x = .non))) H1
theorem RelV.none_iff {x : V} {v : Value} (r : RelV x v) : (v == Value.none) = decide (x = .non) := by
  cases x with
  | non => cases r; rfl
  | bl _ => cases r; rfl
  | int _ => obtain ⟨t, rfl⟩ := r; rfl
  | str _ => obtain ⟨t, rfl⟩ := r; rfl
  | byt _ => obtain ⟨t, rfl⟩ := r; rfl
  | flt _ => obtain ⟨t, rfl⟩ := r; rfl
  | ref _ => cases r; rfl
  | ty _ => cases r; rfl
theorem pc_isN {j pos'} (ha : PE X a ta) : PC X .Is a (.Constant .none j pos') (tIsN ta) := by
  intro pins s σ H Q I h
  refine thn (ha pins s σ H _ I h) fun v s1 ⟨x, H1, I1, r1, q1⟩ => ?_
  exact Constant_none (is_none_gen ⟨.bl _, H1, I1, by rw [r1.none_iff]; rfl, q1⟩)
theorem pc_notN {j pos'} (ha : PE X a ta) : PC X .IsNot a (.Constant .none j pos') (tNotN ta) := by
  intro pins s σ H Q I h
  refine thn (ha pins s σ H _ I h) fun v s1 ⟨x, H1, I1, r1, q1⟩ => ?_
  exact Constant_none (isnot_none_gen ⟨.bl _, H1, I1, by rw [r1.none_iff]; rfl, q1⟩)
/-- a comparison as a value, as a test -/
def tB (t : TE) : TT := fun σ H Q => t σ H fun x H1 => ∃ c, x = .bl c ∧ Q c H1
theorem pe_cmp {op : CmpOp} {t : TE} (h : PC X op a b t) (h1 : behindInMarks op b = false := by first | exact nobehind _ (by decide) (by decide) | rfl) : PE X (.Compare a [op] [b] pos) t := fun pins s σ H Q I hw => wpAny_Compare1 (h pins s σ H Q I hw) h1
theorem pt_cmp {op : CmpOp} {t : TE} (h : PC X op a b t) (h1 : behindInMarks op b = false := by first | exact nobehind _ (by decide) (by decide) | rfl) : PT X (.Compare a [op] [b] pos) (tB t) := by
  intro pins s σ H Q I hw
  refine wpAny_isTrue_Compare1 (thn (h pins s σ H _ I hw) fun v s1 h1 => thn h1 fun u s2 h2 => thn h2 fun c s3 ⟨x, H1, I1, r1, q1⟩ => ?_) h1
  obtain ⟨d, rfl, q⟩ := q1
  cases r1
  exact wpAny_truthy_bool ⟨H1, I1, q⟩
/-- an expression whose value is a bool, as a test -/
theorem pt_val {e : Expr} {t : TE} (h : PE X e t) (he : ∀ whole, isTrue e X.env whole = (do let v ← whole; standAt e.pos; holding [v] (truthy v)) := by intro _; rfl) : PT X e (tB t) := by
  intro pins s σ H Q I hw
  refine isTrue_plain (thn (h pins s σ H _ I hw) fun v s1 ⟨x, H1, I1, r1, q1⟩ => ?_) (he _)
  obtain ⟨d, rfl, q⟩ := q1
  cases r1
  exact wpAny_truthy_bool ⟨H1, I1, q⟩

/-! ### and, or, not -/
variable {tA tB' : TT} {rest : List Expr}
def tAnd (t u : TT) : TT := fun σ H Q => t σ H fun c H1 => if c = true then u σ H1 Q else Q false H1
def tOr (t u : TT) : TT := fun σ H Q => t σ H fun c H1 => if c = true then Q true H1 else u σ H1 Q
def tNot (t : TT) : TT := fun σ H Q => t σ H fun c H1 => Q (!c) H1
theorem pw_and1 (ha : PT X a tA) : PW X (.BoolOp .And [a] pos) tA := by
  intro wh pins s σ H Q I h
  refine isTrue_and (thn (ha pins s σ H Q I h) fun c s1 e => ?_)
  cases c with
  | true => exact isTrue_and_nil e
  | false => exact e
theorem pw_or1 (ha : PT X a tA) : PW X (.BoolOp .Or [a] pos) tA := by
  intro wh pins s σ H Q I h
  refine isTrue_or (thn (ha pins s σ H Q I h) fun c s1 e => ?_)
  cases c with
  | false => exact isTrue_or_nil e
  | true => exact e
theorem pw_and (ha : PT X a tA) (hb : PW X (.BoolOp .And (b :: rest) pos) tB') : PW X (.BoolOp .And (a :: b :: rest) pos) (tAnd tA tB') := by
  intro wh pins s σ H Q I h
  refine isTrue_and (thn (ha pins s σ H _ I h) fun c s1 ⟨H1, I1, q1⟩ => ?_)
  cases c with
  | true => exact hb wh pins s1 σ H1 Q I1 q1
  | false => exact ⟨H1, I1, q1⟩
theorem pw_or (ha : PT X a tA) (hb : PW X (.BoolOp .Or (b :: rest) pos) tB') : PW X (.BoolOp .Or (a :: b :: rest) pos) (tOr tA tB') := by
  intro wh pins s σ H Q I h
  refine isTrue_or (thn (ha pins s σ H _ I h) fun c s1 ⟨H1, I1, q1⟩ => ?_)
  cases c with
  | true => exact ⟨H1, I1, q1⟩
  | false => exact hb wh pins s1 σ H1 Q I1 q1
theorem pt_not (ha : PT X a tA) : PT X (.UnaryOp .Not a pos) (tNot tA) := by
  intro pins s σ H Q I h
  exact isTrue_not (ha pins s σ H (fun c H1 => Q (!c) H1) I h)
/-- .. as values (bools) -/
def tAndV (ta tb : TE) : TE := fun σ H Q => ta σ H fun x H1 => ∃ c, x = .bl c ∧ if c = true then tb σ H1 Q else Q (.bl false) H1
def tOrV (ta tb : TE) : TE := fun σ H Q => ta σ H fun x H1 => ∃ c, x = .bl c ∧ if c = true then Q (.bl true) H1 else tb σ H1 Q
def tNotV (ta : TE) : TE := fun σ H Q => ta σ H fun x H1 => ∃ c, x = .bl c ∧ Q (.bl (!c)) H1
theorem pe_one {op} {t : TE} (h : PE X a t) : PE X (.BoolOp op [a] pos) t := fun pins s σ H Q I hw => BoolOp_one (h pins s σ H Q I hw)
theorem pe_and (ha : PE X a ta) (hb : PE X (.BoolOp .And (b :: rest) pos) tb) : PE X (.BoolOp .And (a :: b :: rest) pos) (tAndV ta tb) := by
  intro pins s σ H Q I h
  refine BoolOp_and (thn (ha pins s σ H _ I h) fun v s1 ⟨x, H1, I1, r1, q1⟩ => ?_)
  obtain ⟨c, rfl, q1⟩ := q1
  cases r1
  refine wpAny_truthy_bool ?_
  cases c with
  | true => exact hb pins s1 σ H1 Q I1 q1
  | false => exact ⟨.bl false, H1, I1, rfl, q1⟩
theorem pe_or (ha : PE X a ta) (hb : PE X (.BoolOp .Or (b :: rest) pos) tb) : PE X (.BoolOp .Or (a :: b :: rest) pos) (tOrV ta tb) := by
  intro pins s σ H Q I h
  refine BoolOp_or (thn (ha pins s σ H _ I h) fun v s1 ⟨x, H1, I1, r1, q1⟩ => ?_)
  obtain ⟨c, rfl, q1⟩ := q1
  cases r1
  refine wpAny_truthy_bool ?_
  cases c with
  | false => exact hb pins s1 σ H1 Q I1 q1
  | true => exact ⟨.bl true, H1, I1, rfl, q1⟩
theorem pe_not (ha : PE X a ta) : PE X (.UnaryOp .Not a pos) (tNotV ta) := by
  intro pins s σ H Q I h
  refine UnaryOp_ (thn (ha pins s σ H _ I h) fun v s1 ⟨x, H1, I1, r1, q1⟩ => ?_)
  obtain ⟨c, rfl, q1⟩ := q1
  cases r1
  exact not_of (wpAny_truthy_bool ⟨.bl (!c), H1, I1, rfl, q1⟩)
/-- a if t else b -/
def tIf (t : TT) (ta tb : TE) : TE := fun σ H Q => t σ H fun c H1 => if c = true then ta σ H1 Q else tb σ H1 Q
theorem pe_ifExp {c : Expr} (hc : PT X c tA) (ha : PE X a ta) (hb : PE X b tb) : PE X (.IfExp c a b pos) (tIf tA ta tb) := by
  intro pins s σ H Q I h
  refine wpAny_IfExp (thn (hc pins s σ H _ I h) fun d s1 ⟨H1, I1, q1⟩ => ?_)
  cases d with
  | true => exact ha pins s1 σ H1 Q I1 q1
  | false => exact hb pins s1 σ H1 Q I1 q1
end
end L2

namespace L2
open PySem PySem.Spec PyProof.Rows

/-! ### a list, a tuple that is read: tracked, frozen, or an object of the module -/
def SqL (K : PySem.W.Frag) (H : Hp) (a : Addr) (xs : List V) : Prop :=
  Rd H a (.lst xs) ∨
    ∃ (o : Obj) (its : Array Value) (n : Nat), K.lookup a = some o ∧ o.cls = .type "list" ∧ o.dict = none ∧ o.data = .seq its n ∧ its.size ≤ sizeLine ∧ Vals xs its.toList
def SqT (K : PySem.W.Frag) (H : Hp) (a : Addr) (xs : List V) : Prop :=
  Rd H a (.tup xs) ∨
    ∃ (o : Obj) (its : Array Value) (n : Nat), K.lookup a = some o ∧ o.cls = .type "tuple" ∧ o.data = .seq its n ∧ its.size ≤ sizeLine ∧ Vals xs its.toList
def absV : Value → Option V
  | .none => some .non
  | .bool b => some (.bl b)
  | .int i _ => some (.int i)
  | .str x _ => some (.str x)
  | .bytes b _ => some (.byt b)
  | .float b _ => some (.flt b)
  | .ref a => some (.ref a)
  | .type n => some (.ty n)
  | _ => none
theorem RelV.abs {x : V} {u : Value} (r : RelV x u) : absV u = some x := by
  cases x with
  | non => cases r; rfl
  | bl _ => cases r; rfl
  | int _ => obtain ⟨t, rfl⟩ := r; rfl
  | str _ => obtain ⟨t, rfl⟩ := r; rfl
  | byt _ => obtain ⟨t, rfl⟩ := r; rfl
  | flt _ => obtain ⟨t, rfl⟩ := r; rfl
  | ref _ => cases r; rfl
  | ty _ => cases r; rfl
theorem RelV.inj {x y : V} {u : Value} (r : RelV x u) (q : RelV y u) : x = y := Option.some.inj (r.abs.symm.trans q.abs)
theorem Vals.inj : ∀ {xs ys : List V} {us : List Value}, Vals xs us → Vals ys us → xs = ys
  | _, _, _, .nil, .nil => rfl
  | _, _, _, .cons r t, .cons r' t' => by rw [r.inj r', Vals.inj t t']
section
variable {X : Cx} {pins : List (Addr × Obj)} {σ : St} {H : Hp} {s : Shared} {a : Addr} {xs ys : List V}
theorem SqL.of {K : PySem.W.Frag} (h : H a = some (.lst xs)) : SqL K H a xs := .inl (.inl h)
theorem SqT.of {K : PySem.W.Frag} (h : H a = some (.tup xs)) : SqT K H a xs := .inl (.inl h)
theorem Inv.list (I : Inv X pins σ H s) (h : SqL X.K H a xs) : ∃ its : List Value, Vals xs its ∧ PlainL s.heap a its.toArray ∧ xs.length ≤ sizeLine := by
  rcases h with h | ⟨o, its, n, hk, hc, hd, hs, hz, r⟩
  · obtain ⟨z, its, n, r, e⟩ := h.ok I.hok
    exact ⟨its, r, ⟨_, n, e, rfl, rfl, rfl⟩, z⟩
  · refine ⟨its.toList, r, ⟨o, n, I.kIn a o hk, hc, hd, by simpa using hs⟩, ?_⟩
    have e := r.length
    simp only [Array.length_toList] at e
    omega
theorem Inv.tuple (I : Inv X pins σ H s) (h : SqT X.K H a xs) : ∃ its : List Value, Vals xs its ∧ IsTup s.heap a its.toArray ∧ xs.length ≤ sizeLine := by
  rcases h with h | ⟨o, its, n, hk, hc, hs, hz, r⟩
  · obtain ⟨z, its, r, p⟩ := h.ok I.hok
    exact ⟨its, r, p, z⟩
  · refine ⟨its.toList, r, ⟨o, I.kIn a o hk, hc, n, by simpa using hs⟩, ?_⟩
    have e := r.length
    simp only [Array.length_toList] at e
    omega
theorem Inv.list_inj (I : Inv X pins σ H s) (h : SqL X.K H a xs) (h' : SqL X.K H a ys) : xs = ys := by
  obtain ⟨its, r, ⟨o, n, e, _, _, d⟩, _⟩ := I.list h
  obtain ⟨its', r', ⟨o', n', e', _, _, d'⟩, _⟩ := I.list h'
  rw [e] at e'; cases e'
  rw [d] at d'
  injection d' with d1 _
  have : its = its' := by simpa using congrArg Array.toList d1
  subst this
  exact r.inj r'
theorem Inv.tuple_inj (I : Inv X pins σ H s) (h : SqT X.K H a xs) (h' : SqT X.K H a ys) : xs = ys := by
  obtain ⟨its, r, ⟨o, e, _, n, d⟩, _⟩ := I.tuple h
  obtain ⟨its', r', ⟨o', e', _, n', d'⟩, _⟩ := I.tuple h'
  rw [e] at e'; cases e'
  rw [d] at d'
  injection d' with d1 _
  have : its = its' := by simpa using congrArg Array.toList d1
  subst this
  exact r.inj r'
end

/-! ### another wish about exceptions -/
abbrev Cx.wish (X : Cx) (E : Value → Shared → Prop) : Cx := { X with xe := E }
/-- no exception leaves -/
abbrev Cx.nox (X : Cx) : Cx := X.wish fun _ _ => False
theorem Cx.Ok.wish {X : Cx} (ok : X.Ok) (E : Value → Shared → Prop) : (X.wish E).Ok :=
  ⟨ok.mod, ok.kind, ok.glob, ok.blt, ok.above, ok.inj, ok.has, ok.cab, ok.hd, ok.frames, ok.stk, ok.exf, ok.bs, ok.bsz, ok.noex, ok.exfs, ok.funs, ok.frf⟩
theorem Cx.Ok.unwish {X : Cx} {E : Value → Shared → Prop} (ok : (X.wish E).Ok) : X.Ok :=
  ⟨ok.mod, ok.kind, ok.glob, ok.blt, ok.above, ok.inj, ok.has, ok.cab, ok.hd, ok.frames, ok.stk, ok.exf, ok.bs, ok.bsz, ok.noex, ok.exfs, ok.funs, ok.frf⟩
section
variable {X : Cx} {pins : List (Addr × Obj)} {σ : St} {H : Hp} {s : Shared} {E : Value → Shared → Prop}
theorem Inv.wish (I : Inv X pins σ H s) (E : Value → Shared → Prop) : Inv (X.wish E) pins σ H s := ⟨I.ok.wish E, I.os, I.bare, I.base, I.loc, I.cell, I.free, I.freeC, I.pin, I.hok, I.len⟩
theorem Inv.unwish (I : Inv (X.wish E) pins σ H s) : Inv X pins σ H s := ⟨I.ok.unwish, I.os, I.bare, I.base, I.loc, I.cell, I.free, I.freeC, I.pin, I.hok, I.len⟩
theorem SP.unwish {D : Ends} {f : Flow} {s' : Shared} (h : SP (X.wish E) pins D f s') : SP X pins D f s' := by
  cases f with
  | next => obtain ⟨σ', H', I, q⟩ := h; exact ⟨σ', H', I.unwish, q⟩
  | brk => obtain ⟨σ', H', I, q⟩ := h; exact ⟨σ', H', I.unwish, q⟩
  | cont => obtain ⟨σ', H', I, q⟩ := h; exact ⟨σ', H', I.unwish, q⟩
  | ret u => obtain ⟨v, σ', H', I, r, q⟩ := h; exact ⟨v, σ', H', I.unwish, r, q⟩
theorem PE.nox {e : Expr} {t : TE} (h : PE X.nox e t) : PE X e t := fun pins s σ H Q I hw =>
  wpAny_mono (h pins s σ H Q (I.wish _) hw) (fun _ _ ⟨v, H', I', r, q⟩ => ⟨v, H', I'.unwish, r, q⟩) fun _ _ z => False.elim z
theorem PT.nox {e : Expr} {t : TT} (h : PT X.nox e t) : PT X e t := fun pins s σ H Q I hw =>
  wpAny_mono (h pins s σ H Q (I.wish _) hw) (fun _ _ ⟨H', I', q⟩ => ⟨H', I'.unwish, q⟩) fun _ _ z => False.elim z
theorem PSs.nox {st : List Stmt} {t : TS} (h : PSs X.nox st t) : PSs X st t := fun pins s σ H D I hw =>
  wpAny_mono (h pins s σ H D (I.wish _) hw) (fun _ _ q => q.unwish) fun _ _ z => False.elim z
end

/-! ### blocks and small statements -/
section
variable {X : Cx} {st : Stmt} {rest : List Stmt} {t u : TS} {e : Expr} {te : TE} {pos : Pos}
def tNext : TS := fun D σ H => D.nx σ H
def tSeq (t u : TS) : TS := fun D σ H => t { D with nx := u D } σ H
theorem pss_nil : PSs X [] tNext := fun _ _ σ H _ I h => wpAny_execs_nil ⟨σ, H, I, h⟩
theorem pss_cons (h1 : PS X st t) (h2 : PSs X rest u) : PSs X (st :: rest) (tSeq t u) := by
  intro pins s σ H D I h
  refine wpAny_execs_cons (thn (h1 pins s σ H { D with nx := u D } I h) fun f s1 q => ?_)
  cases f with
  | next =>
    obtain ⟨σ', H', I', q⟩ := q
    exact h2 pins s1 σ' H' D I' q
  | ret v => exact q
  | brk => exact q
  | cont => exact q
theorem pss_one (h1 : PS X st t) : PSs X [st] t := by
  intro pins s σ H D I h
  refine wpAny_execs_cons (thn (h1 pins s σ H D I h) fun f s1 q => ?_)
  cases f with
  | next => exact wpAny_execs_nil q
  | ret v => exact q
  | brk => exact q
  | cont => exact q
def tBreak : TS := fun D σ H => D.bk σ H
def tCont : TS := fun D σ H => D.ct σ H
theorem ps_pass : PS X (.Pass pos) tNext := fun _ _ σ H _ I h => wpAny_Pass ⟨σ, H, I, h⟩
theorem ps_break : PS X (.Break pos) tBreak := fun _ _ σ H _ I h => wpAny_Break ⟨σ, H, I, h⟩
theorem ps_continue : PS X (.Continue pos) tCont := fun _ _ σ H _ I h => wpAny_Continue ⟨σ, H, I, h⟩
/-- in a def's body nothing is shown -/
theorem Inv.quiet {pins : List (Addr × Obj)} {σ : St} {H : Hp} {s : Shared} (I : Inv X pins σ H s) : interactive X.env = false := by simp [interactive, I.ok.kind]
/-- a docstring -/
theorem ps_doc {x j pos pos'} : PS X (.Expr (.Constant (.str x) j pos) pos') tNext := fun _ s σ H _ I h => wpAny_Expr (Calls.Constant_str (show SP X _ _ .next { s with toks := s.toks + 1 } from ⟨σ, H, I.tok _, h⟩)) I.quiet
/-- an expression whose value is dropped -/
def tDrop (te : TE) : TS := fun D σ H => te σ H fun _ H1 => D.nx σ H1
theorem ps_expr (he : PE X e te) (hs : swapsWith e none pos.line X.env = pure false := by rfl) : PS X (.Expr e pos) (tDrop te) := by
  intro pins s σ H D I h
  exact wpAny_Expr_any (thn (he pins s σ H _ I h) fun v s1 ⟨x, H1, I1, r1, q1⟩ => ⟨σ, H1, I1, q1⟩) I.quiet hs
def tRet (te : TE) : TS := fun D σ H => te σ H D.rt
theorem ps_ret (he : PE X e te) : PS X (.Return (some e) pos) (tRet te) := by
  intro pins s σ H D I h
  exact wpAny_Return_some (thn (he pins s σ H _ I h) fun v s1 ⟨x, H1, I1, r1, q1⟩ => ⟨x, σ, H1, I1, r1, q1⟩)
def tRetN : TS := fun D _ H => D.rt .non H
theorem ps_retN : PS X (.Return none pos) tRetN := fun _ _ σ H _ I h => wpAny_Return_none ⟨.non, σ, H, I, rfl, h⟩
def tIfS (c : TT) (t u : TS) : TS := fun D σ H => c σ H fun b H1 => if b = true then t D σ H1 else u D σ H1
theorem ps_if {c : Expr} {a b : List Stmt} {tc : TT} (hc : PT X c tc) (ha : PSs X a t) (hb : PSs X b u) : PS X (.If c a b pos) (tIfS tc t u) := by
  intro pins s σ H D I h
  refine wpAny_If (thn (hc pins s σ H _ I h) fun d s1 ⟨H1, I1, q1⟩ => ?_)
  cases d with
  | true => exact ha pins s1 σ H1 D I1 q1
  | false => exact hb pins s1 σ H1 D I1 q1
/-- code that the proof never comes to -/
def tNever : TS := fun _ _ _ => False
theorem ps_never : PS X st tNever := fun _ _ _ _ _ _ h => h.elim
theorem pss_never {sts : List Stmt} : PSs X sts tNever := fun _ _ _ _ _ _ h => h.elim
end

/-! ### targets -/
abbrev TG := V → St → Hp → (St → Hp → Prop) → Prop
abbrev TGs := List V → St → Hp → (St → Hp → Prop) → Prop
def PG (X : Cx) (target : Expr) (t : TG) : Prop :=
  ∀ (pins : List (Addr × Obj)) (s : Shared) (σ : St) (H : Hp) (v : V) (u : Value) (Q : St → Hp → Prop), Inv X pins σ H s → RelV v u → t v σ H Q →
    wpAny (model X.prog X.w) X.A (assign target X.env u) (fun _ s' => ∃ σ' H', Inv X pins σ' H' s' ∧ Q σ' H') X.xe s
/-- several targets, one after another -/
def PGs (X : Cx) (ts : List Expr) (t : TGs) : Prop :=
  ∀ (pins : List (Addr × Obj)) (s : Shared) (σ : St) (H : Hp) (vs : List V) (us : List Value) (Q : St → Hp → Prop), Inv X pins σ H s → Vals vs us → t vs σ H Q →
    wpAny (model X.prog X.w) X.A (assignInOrder ((assignEach ts X.env).map (·.2)) us) (fun _ s' => ∃ σ' H', Inv X pins σ' H' s' ∧ Q σ' H') X.xe s
/-- o[i] = v, by values -/
abbrev TSet := V → V → V → Hp → (Hp → Prop) → Prop
def PSet (X : Cx) (t : TSet) : Prop :=
  ∀ (pins : List (Addr × Obj)) (s : Shared) (σ : St) (H : Hp) (o i v : V) (ov iv u : Value) (Q : Hp → Prop), Inv X pins σ H s → RelV o ov → RelV i iv → RelV v u → t o i v H Q →
    wpAny (model X.prog X.w) X.A (setItem ov iv u) (fun _ s' => ∃ H', Inv X pins σ H' s' ∧ Q H') X.xe s
/-- a op= b, by values -/
abbrev TIp := V → V → Hp → VK → Prop
def PIp (X : Cx) (op : Operator) (t : TIp) : Prop :=
  ∀ (pins : List (Addr × Obj)) (s : Shared) (σ : St) (H : Hp) (x y : V) (v u : Value) (Q : VK), Inv X pins σ H s → RelV x v → RelV y u → t x y H Q →
    wpAny (model X.prog X.w) X.A (inplaceOp op v u) (EP X pins σ Q) X.xe s
section
variable {X : Cx} {pos : Pos}
def gName (i : Nat) : TG := fun v σ H Q => Q (σ.set i (some v)) H
theorem pg_name {i : Nat} {x : Str} (hN : X.N.Nodup) (hi : X.N[i]? = some x) (hx : Loc X.env.scope x) (hf : X.fn x = true ∨ X.env.scope.names.lookup x = some .local := by first | exact .inl rfl | exact .inr rfl | assumption) : PG X (.Name x pos) (gName i) := by
  intro pins s σ H v u Q I r h
  exact wpAny_assign_Name (store_ok I hN hi hx r (fun s' I' => ⟨_, H, I', h⟩) hf)
def gNil : TGs := fun vs σ H Q => vs = [] ∧ Q σ H
def gCons (t : TG) (u : TGs) : TGs := fun vs σ H Q => ∃ v r, vs = v :: r ∧ t v σ H fun σ' H' => u r σ' H' Q
theorem pgs_nil : PGs X [] gNil := by
  intro pins s σ H vs us Q I r h
  obtain ⟨e, h⟩ := h
  subst e
  cases r
  exact assignInOrder_nil ⟨σ, H, I, h⟩
theorem pgs_cons {e : Expr} {es : List Expr} {t : TG} {u : TGs} (h1 : PG X e t) (h2 : PGs X es u)
    (hs : (assignEach (e :: es) X.env).map (·.2) = assign e X.env :: (assignEach es X.env).map (·.2) := by rfl) : PGs X (e :: es) (gCons t u) := by
  intro pins s σ H vs us Q I r h
  obtain ⟨v, vr, e1, h⟩ := h
  subst e1
  cases r with
  | cons r rr =>
    rw [hs]
    refine assignInOrder_cons (thn (h1 pins s σ H _ _ _ I r h) fun _ s1 ⟨σ1, H1, I1, q1⟩ => ?_)
    exact h2 pins s1 σ1 H1 _ _ Q I1 rr q1
/-- (a, b, ..) = a tuple of that length -/
def gTup (K : PySem.W.Frag) (n : Nat) (t : TGs) : TG := fun v σ H Q => ∃ a xs, v = .ref a ∧ SqT K H a xs ∧ xs.length = n ∧ t xs σ H Q
theorem pg_tup {es : List Expr} {k : Nat} {t : TGs} {n : Nat} (hc : X.calm = true) (h : PGs X es t)
    (hn : (assignEach es X.env).length = n := by rfl) (hst : (assignEach es X.env).findIdx? (·.1) = none := by rfl) : PG X (.Tuple es k pos) (gTup X.K n t) := by
  intro pins s σ H v u Q I r hw
  obtain ⟨a, xs, e1, hq, hl, hw⟩ := hw
  subst e1
  cases r
  obtain ⟨its, rv, ht, hz⟩ := I.tuple hq
  refine assign_Tuple_tuple (I.ok.hd hc) ht (by simp [hn, ← hl, rv.length]) hst fun h' hx => ?_
  have I1 : Inv X pins σ H { s with heap := h' } := I.kept (t' := s.toks) fun b o e => hx b o (Nat.ne_of_lt (Heap.lt_size e)) e
  exact h pins _ σ H xs _ Q I1 (by simpa using rv) hw
/-- o[i] = .. -/
def gSub (to ti : TE) (t : TSet) : TG := fun v σ H Q => to σ H fun o H1 => ti σ H1 fun i H2 => t o i v H2 fun H3 => Q σ H3
theorem pg_sub {o i : Expr} {to ti : TE} {t : TSet} (ho : PE X o to) (hi : PE X i ti) (hs : PSet X t)
    (ha : ∀ v, assign (.Subscript o i pos) X.env v = (do
      let ov ← holding [v] (eval o X.env)
      let iv ← holding [v, ov] (eval i X.env)
      standAt pos
      holding [v, ov, iv] (setItem ov iv v)
      release [v, ov, iv] []) := by intro _; rfl) : PG X (.Subscript o i pos) (gSub to ti t) := by
  intro pins s σ H v u Q I r h
  rw [ha]
  refine wpAny_bind (wpAny_holding (thn (ho pins s σ H _ I h) fun ov s1 ⟨x, H1, I1, r1, q1⟩ => ?_))
  refine wpAny_bind (wpAny_holding (thn (hi pins s1 σ H1 _ I1 q1) fun iv s2 ⟨y, H2, I2, r2, q2⟩ => ?_))
  refine wpAny_bind (wpAny_standAt (wpAny_bind (wpAny_holding (thn (hs pins s2 σ H2 x y v ov iv u _ I2 r1 r2 r q2) fun _ s3 ⟨H3, I3, q3⟩ => ?_))))
  exact wpAny_release ⟨σ, H3, I3, q3⟩
/-- target = value -/
def tAsg (te : TE) (g : TG) : TS := fun D σ H => te σ H fun x H1 => g x σ H1 D.nx
theorem ps_asg {tg e : Expr} {te : TE} {g : TG} (he : PE X e te) (hg : PG X tg g) (hs : swapsWithSole [tg] e pos.line X.env = pure false := by rfl) (hw : swappedStores [tg] e X.env = pure none := by rfl)
    (h1 : (assignEach [tg] X.env).map (·.2) = [assign tg X.env] := by rfl) : PS X (.Assign [tg] e pos) (tAsg te g) := by
  intro pins s σ H D I h
  refine wpAny_Assign_stores (thn (he pins s σ H _ I h) fun v s1 ⟨x, H1, I1, r1, q1⟩ => ?_) hs hw
  rw [h1]
  exact thn (hg pins s1 σ H1 x v _ I1 r1 q1) fun _ s2 q => q
/-- name = value -/
theorem ps_set {i : Nat} {x : Str} {e : Expr} {te : TE} {pos' : Pos} (hN : X.N.Nodup) (hi : X.N[i]? = some x) (hx : Loc X.env.scope x) (he : PE X e te) (hs : swapsWith e (some (.Name x pos')) pos.line X.env = pure false := by rfl) (hf : X.fn x = true ∨ X.env.scope.names.lookup x = some .local := by first | exact .inl rfl | exact .inr rfl | assumption) :
    PS X (.Assign [.Name x pos'] e pos) (tAsg te (gName i)) := by
  intro pins s σ H D I h
  refine wpAny_Assign_Name (thn (he pins s σ H _ I h) fun v s1 ⟨y, H1, I1, r1, q1⟩ => ?_) hs
  exact store_ok I1 hN hi hx r1 (fun s2 I2 => ⟨_, H1, I2, q1⟩) hf
/-- a, b = x, y with plain local names: stored from the right; the pair itself is not tracked (the opening rows as in PyProof/Rows/TupAssign.lean:23) -/
def tPar (i j : Nat) (ta : TA) : TS := fun D σ H => ta σ H fun vs H1 => ∃ v w, vs = [v, w] ∧ D.nx ((σ.set i (some v)).set j (some w)) H1
theorem ps_par {i j : Nat} {x y : Str} {a b : Expr} {ta : TA} {px py pt : Pos} {kt k2 pt2} (hc : X.calm = true) (hN : X.N.Nodup) (hi : X.N[i]? = some x) (hj : X.N[j]? = some y) (hij : i ≠ j)
    (hx : X.env.scope.names.lookup x = some .local) (hy : X.env.scope.names.lookup y = some .local) (ha : PA X [a, b] ta)
    (hw : swappedStores [.Tuple [.Name x px, .Name y py] kt pt] (.Tuple [a, b] k2 pt2) X.env = pure (some [x, y]))
    (hs : swapsWithSole [.Tuple [.Name x px, .Name y py] kt pt] (.Tuple [a, b] k2 pt2) pos.line X.env = pure false := by rfl) :
    PS X (.Assign [.Tuple [.Name x px, .Name y py] kt pt] (.Tuple [a, b] k2 pt2) pos) (tPar i j ta) := by
  intro pins s σ H D I h
  rw [exec_Assign_arm]
  refine wpAny_bind (wpAny_standAt ?_)
  rw [hs]
  refine wpAny_bind (wpAny_pure ?_)
  rw [if_neg (by decide)]
  refine wpAny_bind (Tuple_ (thn (ha _ pins s σ H _ I h) fun us s1 ⟨vs, H1, I1, r1, q1⟩ => ?_))
  obtain ⟨v, w, e1, q1⟩ := q1
  subst e1
  obtain ⟨u1, u2, rfl, rv, rw'⟩ : ∃ u1 u2, us = [u1, u2] ∧ RelV v u1 ∧ RelV w u2 := by
    cases r1 with
    | cons p q =>
      cases q with
      | cons p' q' =>
        cases q'
        exact ⟨_, _, rfl, p, p'⟩
  refine wpAny_newObj_type ?_ (by show 2 ≤ sizeLine; decide)
  have I2 : Inv X pins σ H1 { s1 with heap := s1.heap.push { cls := .type "tuple", data := .seq [u1, u2].toArray } } := I1.kept (t' := s1.toks) fun b o e => Heap.get?_push_of_some _ e
  rw [hw]
  refine wpAny_bind (wpAny_pure ?_)
  show wpAny (model X.prog X.w) X.A (do rule "assign.swapped-stores"; let items ← unpackItems (.ref s1.heap.objs.size) 2 none; assignInOrder [fun v => bindName X.env y v, fun v => bindName X.env x v] items.reverse; pure Flow.next) _ _ _
  refine wpAny_bind (wpAny_rule (wpAny_bind (unpackItems_tuple (items := #[u1, u2]) (I.ok.hd hc) (IsTup.new s1.heap _) fun h' hx' => ?_)))
  have I3 := I2.kept (h' := h') (t' := s1.toks) fun b o e => hx' b o (Nat.ne_of_lt (Heap.lt_size e)) e
  show wpAny _ _ (assignInOrder [fun v => bindName X.env y v, fun v => bindName X.env x v] [u2, u1] >>= fun _ => pure Flow.next) _ _ _
  refine wpAny_bind (assignInOrder_cons (wpAny_bindName (store_ok I3 hN hj (.inl hy) rw' (fun s2 I4 => ?_) (.inr hy))))
  refine assignInOrder_cons (wpAny_bindName (store_ok I4 hN hi (.inl hx) rv (fun s3 I5 => assignInOrder_nil (wpAny_pure ?_)) (.inr hx)))
  rw [List.set_comm _ _ (Ne.symm hij)] at I5
  exact ⟨_, H1, I5, q1⟩
/-- name op= e -/
def tAug (i : Nat) (te : TE) (ti : TIp) : TS := fun D σ H => ∃ x, σ[i]? = some (some x) ∧ te σ H fun y H1 => ti x y H1 fun z H2 => D.nx (σ.set i (some z)) H2
theorem ps_aug {i : Nat} {x : Str} {e : Expr} {te : TE} {op : Operator} {ti : TIp} {pos' : Pos} (hN : X.N.Nodup) (hi : X.N[i]? = some x) (hx : Loc X.env.scope x) (he : PE X e te) (ho : PIp X op ti) (hf : X.fn x = true ∨ X.env.scope.names.lookup x = some .local := by first | exact .inl rfl | exact .inr rfl | assumption) :
    PS X (.AugAssign (.Name x pos') op e pos) (tAug i te ti) := by
  intro pins s σ H D I h
  obtain ⟨v, e1, h⟩ := h
  obtain ⟨m, hn, hl⟩ := I.loc
  have vis : Vis X.env.scope x := by rcases hx with k | k; exact .inl k; exact .inr (.inl k)
  obtain ⟨u, r, l⟩ := hl i x v hi e1 vis
  refine wpAny_AugAssign_Name ?_
  have go : wpAny (model X.prog X.w) X.A (eval e X.env) (fun w s₂ => wpAny (model X.prog X.w) X.A (inplaceOp op u w) (fun r s₃ => wpAny (model X.prog X.w) X.A (storeName X.env x r) (fun _ => SP X pins D .next) X.xe s₃) X.xe s₂) X.xe s := by
    refine thn (he pins s σ H _ I h) fun w s1 ⟨y, H1, I1, r1, q1⟩ => ?_
    refine thn (ho pins s1 σ H1 v y u w _ I1 r r1 q1) fun z s2 ⟨zv, H2, I2, r2, q2⟩ => ?_
    exact store_ok I2 hN hi hx r2 (fun s3 I3 => ⟨_, H2, I3, q2⟩) hf
  rcases l with ⟨hk, hm⟩ | ⟨hk, c, hc, hcell⟩
  · exact wpAny_loadName_local I.ok.kind hk hn hm go
  · rcases hk with hk | hk
    · exact wpAny_loadName_cell I.ok.kind hk hc hcell go
    · rcases hx with k | k
      · have : X.env.scope.names.lookup x = some .free := hk
        rw [k] at this; cases this
      · have : X.env.scope.names.lookup x = some .free := hk
        rw [k] at this; cases this
/-- o[i] op= e -/
def tAugS (to ti te : TE) (tget : V → V → Hp → VK → Prop) (tip : TIp) (tset : TSet) : TS := fun D σ H => to σ H fun o H1 => ti σ H1 fun i H2 => tget o i H2 fun x H3 => te σ H3 fun y H4 => tip x y H4 fun z H5 => tset o i z H5 fun H6 => D.nx σ H6
/-- o[i], by values -/
def PGet (X : Cx) (t : V → V → Hp → VK → Prop) : Prop :=
  ∀ (pins : List (Addr × Obj)) (s : Shared) (σ : St) (H : Hp) (o i : V) (ov iv : Value) (Q : VK), Inv X pins σ H s → RelV o ov → RelV i iv → t o i H Q →
    wpAny (model X.prog X.w) X.A (getItem ov iv) (EP X pins σ Q) X.xe s
theorem ps_augS {o i e : Expr} {to ti te : TE} {tget : V → V → Hp → VK → Prop} {tip : TIp} {tset : TSet} {op : Operator} {tpos : Pos} (ho : PE X o to) (hi : PE X i ti) (hg : PGet X tget) (he : PE X e te) (hp : PIp X op tip) (hs : PSet X tset)
    (ha : ∀ ov iv new, augStore i ov iv new = (do holding [new, ov, iv] (setItem ov iv new); release [new, ov, iv] []; pure .next) := by intros; rfl) : PS X (.AugAssign (.Subscript o i tpos) op e pos) (tAugS to ti te tget tip tset) := by
  intro pins s σ H D I h
  refine wpAny_AugAssign_SubscriptAny (thn (ho pins s σ H _ I h) fun ov s1 ⟨x1, H1, I1, r1, q1⟩ => ?_) ha
  refine thn (hi pins s1 σ H1 _ I1 q1) fun iv s2 ⟨x2, H2, I2, r2, q2⟩ => ?_
  refine thn (hg pins s2 σ H2 x1 x2 ov iv _ I2 r1 r2 q2) fun old s3 ⟨x3, H3, I3, r3, q3⟩ => ?_
  refine thn (he pins s3 σ H3 _ I3 q3) fun v s4 ⟨x4, H4, I4, r4, q4⟩ => ?_
  refine thn (hp pins s4 σ H4 x3 x4 old v _ I4 r3 r4 q4) fun new s5 ⟨x5, H5, I5, r5, q5⟩ => ?_
  exact thn (hs pins s5 σ H5 x1 x2 x5 ov iv new _ I5 r1 r2 r5 q5) fun _ s6 ⟨H6, I6, q6⟩ => ⟨σ, H6, I6, q6⟩
/-- ints -/
def ipI (f : Int → Int → Int) : TIp := fun x y H Q => ∃ i j, x = .int i ∧ y = .int j ∧ Q (.int (f i j)) H
theorem ip_add : PIp X .Add (ipI fun i j => i + j) := by
  intro pins s σ H x y v u Q I r1 r2 h
  obtain ⟨i, j, e1, e2, q⟩ := h
  subst e1; subst e2
  obtain ⟨t, rfl⟩ := r1
  obtain ⟨t', rfl⟩ := r2
  exact iadd_int ⟨.int _, H, I.tok _, ⟨_, rfl⟩, q⟩
theorem ip_sub : PIp X .Sub (ipI fun i j => i - j) := by
  intro pins s σ H x y v u Q I r1 r2 h
  obtain ⟨i, j, e1, e2, q⟩ := h
  subst e1; subst e2
  obtain ⟨t, rfl⟩ := r1
  obtain ⟨t', rfl⟩ := r2
  exact isub_int ⟨.int _, H, I.tok _, ⟨_, rfl⟩, q⟩
end

/-! ### while -/
section
variable {X : Cx} {pos : Pos}
/-- the invariant W with its measure -/
def tWhile (c : TT) (tb : TS) : TS := fun D σ H => ∃ W : Nat → St → Hp → Prop, (∃ m, W m σ H) ∧ ∀ m σ H, W m σ H →
  c σ H fun b H1 => if b = true then ∃ N : St → Hp → Prop, (∀ σ' H', N σ' H' → ∃ m', m' < m ∧ W m' σ' H') ∧ tb { D with nx := N, ct := N, bk := D.nx } σ H1 else D.nx σ H1
theorem ps_while {c : Expr} {body : List Stmt} {tc : TT} {tb : TS} (hp : PassesOwn (model X.prog X.w) X.A X.env X.xe) (hc : PT X c tc) (hb : PSs X body tb) : PS X (.While c body [] pos) (tWhile tc tb) := by
  intro pins s σ H D I h
  obtain ⟨W, ⟨m0, w0⟩, turn⟩ := h
  refine wpAny_While (codeAny_whileLoop (fun n s' => ∃ σ' H', Inv X pins σ' H' s' ∧ W n σ' H') ?_ m0 ⟨σ, H, I, w0⟩)
  rintro n s1 ⟨σ1, H1, I1, w1⟩
  refine wpAny_passesOwn hp (thn (hc pins s1 σ1 H1 _ I1 (turn n σ1 H1 w1)) fun b s2 ⟨H2, I2, q2⟩ => ?_)
  cases b with
  | true =>
    obtain ⟨N, hN, q2⟩ := q2
    rw [if_pos rfl]
    refine wpAny_passesOwn hp (thn (hb pins s2 σ1 H2 _ I2 q2) fun f s3 q3 => ?_)
    cases f with
    | next =>
      obtain ⟨σ3, H3, I3, n3⟩ := q3
      obtain ⟨m', hm, w3⟩ := hN σ3 H3 n3
      exact ⟨m', hm, σ3, H3, I3, w3⟩
    | cont =>
      obtain ⟨σ3, H3, I3, n3⟩ := q3
      obtain ⟨m', hm, w3⟩ := hN σ3 H3 n3
      exact ⟨m', hm, σ3, H3, I3, w3⟩
    | brk => exact q3
    | ret v => exact q3
  | false =>
    rw [if_neg Bool.false_ne_true]
    exact wpAny_execs_nil ⟨σ1, H2, I2, q2⟩
end

/-! ### what a loop or a comprehension walks -/
/-- at turn i: it yields x (the heap may grow), or it stops -/
structure It where
  go : Nat → Hp → Prop
  yld : Nat → Hp → V → Hp → Prop
  stop : Nat → Hp → Prop
/-- the iterator's own objects may turn: they are not the frame's, not pinned, younger than the entry (or a comprehension's own) -/
def FpOk (X : Cx) (pins : List (Addr × Obj)) (H : Hp) (b : Addr) : Prop :=
  H b = none ∧ b ≠ X.env.locals ∧ b ∉ X.fs ∧ (b ∈ X.ex ∨ X.s₀.heap.objs.size ≤ b) ∧ (∀ x c, X.env.cells.lookup x = some c → c ≠ b) ∧ ∀ p ∈ X.pn ++ pins, p.1 ≠ b
theorem Inv.fpOk {X : Cx} {pins : List (Addr × Obj)} {σ : St} {H H' : Hp} {s : Shared} {b : Addr} (I : Inv X pins σ H s) (hb : s.heap.objs.size ≤ b) (hn : H' b = none) : FpOk X pins H' b := by
  refine ⟨hn, Nat.ne_of_gt (Nat.lt_of_lt_of_le I.lt hb), I.nofs hb, .inr (Nat.le_trans I.sz hb), fun x c e z => ?_, fun p hp z => ?_⟩
  · obtain ⟨v, q⟩ := I.cell x c e
    exact absurd (Nat.lt_of_lt_of_le q.lt (by rw [z]; exact hb)) (Nat.lt_irrefl _)
  · exact absurd (Nat.lt_of_lt_of_le (Heap.lt_size (I.pin p hp).1) (by rw [z]; exact hb)) (Nat.lt_irrefl _)
structure Turn (P : Program) (w : World) (K : PySem.W.Frag) (tg : Expr) (J : It) (fp : List Addr) (it : Addr) (tn : Nat → Heap → Prop) : Prop where
  mem : it ∈ fp
  obj : ∀ i h, tn i h → ∀ b ∈ fp, ∃ o, h.get? b = some o ∧ ∀ v, o.data ≠ .cell v
  keep : ∀ i h h', tn i h → (∀ b ∈ fp, ∀ o, h.get? b = some o → h'.get? b = some o) → tn i h'
  item : ∀ (X : Cx), X.prog = P → X.w = w → X.K = K → X.calm = true → ∀ (i : Nat) (pins : List (Addr × Obj)) (s : Shared) (σ : St) (H : Hp) (E : Value → Shared → Prop), Inv X pins σ H s → (∀ b ∈ fp, FpOk X pins H b) → tn i s.heap → J.go i H →
    wpAny (model P w) X.A (pyNext (.ref it)) (fun r s1 => ∃ u, r = some u ∧
      wpAny (model P w) X.A (letOwnedTupleGo tg (.ref it) u) (fun _ s2 => ∃ x H', Inv X pins σ H' s2 ∧ RelV x u ∧ J.yld i H x H' ∧ tn (i + 1) s2.heap ∧ ∀ b ∈ fp, H' b = none) E s1) E s
  done : ∀ (X : Cx), X.prog = P → X.w = w → X.K = K → X.calm = true → ∀ (i : Nat) (pins : List (Addr × Obj)) (s : Shared) (σ : St) (H : Hp) (E : Value → Shared → Prop), Inv X pins σ H s → (∀ b ∈ fp, FpOk X pins H b) → tn i s.heap → J.stop i H →
    wpAny (model P w) X.A (pyNext (.ref it)) (fun r s1 => r = none ∧ Inv X pins σ H s1) E s
  self : ∀ (A : Around) (i : Nat) (s : Shared) (Q : Value → Shared → Prop) (E : Value → Shared → Prop), tn i s.heap → Q (.ref it) s → wpAny (model P w) A (pyIter (.ref it)) Q E s
abbrev TI := St → Hp → (It → Hp → Prop) → Prop
/-- an iterator has come -/
def PIE (X : Cx) (pins : List (Addr × Obj)) (σ : St) (tg : Expr) (R : It → Hp → Prop) (itv : Value) (s2 : Shared) : Prop :=
  ∃ (it : Addr) (fp : List Addr) (tn : Nat → Heap → Prop) (J : It) (H' : Hp), itv = .ref it ∧ Inv X pins σ H' s2 ∧ Turn X.prog X.w X.K tg J fp it tn ∧ tn 0 s2.heap ∧ (∀ b ∈ fp, FpOk X pins H' b) ∧ R J H'
def PI (X : Cx) (tg iter : Expr) (wi : TI) : Prop :=
  ∀ (pins : List (Addr × Obj)) (s : Shared) (σ : St) (H : Hp) (R : It → Hp → Prop), Inv X pins σ H s → wi σ H R →
    wpAny (model X.prog X.w) X.A (eval iter X.env) (fun v s1 => wpAny (model X.prog X.w) X.A (pyIter v) (PIE X pins σ tg R) X.xe s1) X.xe s

/-- the step ahead of the store is nothing for an iterator that keeps no tuple -/
theorem go_of {M : Model} {A : Around} {E : Value → Shared → Prop} {s : Shared} {tg : Expr} {it : Addr} {u : Value} {o : Obj} {n : String} {vs : Array Value} {Q : Unit → Shared → Prop} (ho : s.heap.get? it = some o) (hc : o.cls = .type n) (hd : o.data = .fields vs)
    (hn : ["enumerate", "zip", "dict_itemiterator", "dict_reverseitemiterator", "odict_iterator", "itertools.zip_longest", "itertools.pairwise"].contains n = false) (hQ : Q () s) : wpAny M A (letOwnedTupleGo tg (.ref it) u) Q E s := by
  unfold letOwnedTupleGo
  cases tg <;> first
    | exact wpAny_pure hQ
    | (cases u <;> first
        | exact wpAny_pure hQ
        | (refine wpAny_bind (wpAny_load ho ?_)
           rw [hc, hd]
           show wpAny M A (if (["enumerate", "zip", "dict_itemiterator", "dict_reverseitemiterator", "odict_iterator", "itertools.zip_longest", "itertools.pairwise"].contains n && vs[0]? == some (rawInt _)) = true then _ else _) Q E s
           rw [if_neg (by intro h; rw [hn, Bool.false_and] at h; cases h)]
           exact wpAny_pure hQ))

/-- the list at a, as it stands at each turn (a loop may append to it) -/
def Itl (K : PySem.W.Frag) (a : Addr) : It :=
  ⟨fun i H => ∃ xs x, SqL K H a xs ∧ xs[i]? = some x, fun i H x H' => H' = H ∧ ∀ xs, SqL K H a xs → xs[i]? = some x, fun i H => ∃ xs, SqL K H a xs ∧ xs.length ≤ i⟩
def Itt (K : PySem.W.Frag) (a : Addr) : It :=
  ⟨fun i H => ∃ xs x, SqT K H a xs ∧ xs[i]? = some x, fun i H x H' => H' = H ∧ ∀ xs, SqT K H a xs → xs[i]? = some x, fun i H => ∃ xs, SqT K H a xs ∧ xs.length ≤ i⟩
/-- lo, lo + 1, .. (n of them) -/
def Itr (lo : Int) (n : Nat) : It := ⟨fun i _ => i < n, fun i H x H' => H' = H ∧ x = .int (lo + i), fun i _ => n ≤ i⟩
theorem turn_list {P : Program} {w : World} {K : PySem.W.Frag} {tg : Expr} (a it : Addr) : Turn P w K tg (Itl K a) [it] it (fun i h => h.IsListIter it a i) where
  mem := by simp
  obj := fun i h st b hb => by
    have e : b = it := by simpa using hb
    subst e
    obtain ⟨o, e, c, d⟩ := st
    exact ⟨o, e, fun v z => by rw [d] at z; cases z⟩
  keep := fun i h h' st k => st.at fun o e => k it (by simp) o e
  item := by
    intro X hP hw hK hc i pins s σ H E I hf st hg
    subst hP hw hK
    obtain ⟨xs, x, hq, hx⟩ := hg
    obtain ⟨its, rv, p, hz⟩ := I.list hq
    obtain ⟨u, hu, ru⟩ := rv.get hx
    obtain ⟨f0, f1, f2, f3, f4, f5⟩ := hf it (by simp)
    refine wpAny_pyNext_list_item st p.isList (x := u) (by simpa using hu) fun h' st' sb => ?_
    have I1 : Inv X pins σ H { s with heap := h' } := I.turned (t' := s.toks) (fun b o hb e => (sb.2 b hb).trans e) f0 f1 f3 f4 f5
    obtain ⟨o, e, c, d⟩ := id st'
    exact ⟨u, rfl, go_of (s := { s with heap := h' }) e c d (by decide) ⟨x, H, I1, ru, ⟨rfl, fun ys hy => by rw [I.list_inj hy hq]; exact hx⟩, st', fun b hb => (hf b hb).1⟩⟩
  done := by
    intro X hP hw hK hc i pins s σ H E I hf st hg
    subst hP hw hK
    obtain ⟨xs, hq, hx⟩ := hg
    obtain ⟨its, rv, p, hz⟩ := I.list hq
    obtain ⟨f0, f1, f2, f3, f4, f5⟩ := hf it (by simp)
    have hl := rv.length
    exact wpAny_pyNext_list_end (I.ok.hd hc) st p.isList (by simp; omega) fun h' eb => ⟨rfl, I.turned (t' := s.toks) (fun b o hb e => eb b o hb e) f0 f1 f3 f4 f5⟩
  self := fun _ _ _ _ _ st h => wpAny_pyIter_listiter st h
theorem turn_tuple {P : Program} {w : World} {K : PySem.W.Frag} {tg : Expr} (a it : Addr) : Turn P w K tg (Itt K a) [it] it (fun i h => h.IsTupleIter it a i) where
  mem := by simp
  obj := fun i h st b hb => by
    have e : b = it := by simpa using hb
    subst e
    obtain ⟨o, e, c, d⟩ := st
    exact ⟨o, e, fun v z => by rw [d] at z; cases z⟩
  keep := fun i h h' st k => st.at fun o e => k it (by simp) o e
  item := by
    intro X hP hw hK hc i pins s σ H E I hf st hg
    subst hP hw hK
    obtain ⟨xs, x, hq, hx⟩ := hg
    obtain ⟨its, rv, p, hz⟩ := I.tuple hq
    obtain ⟨u, hu, ru⟩ := rv.get hx
    obtain ⟨f0, f1, f2, f3, f4, f5⟩ := hf it (by simp)
    refine wpAny_pyNext_tuple_item st (show s.heap.IsTuple a its.toArray from p) (x := u) (by simpa using hu) fun h' st' sb => ?_
    have I1 : Inv X pins σ H { s with heap := h' } := I.turned (t' := s.toks) (fun b o hb e => (sb.2 b hb).trans e) f0 f1 f3 f4 f5
    obtain ⟨o, e, c, d⟩ := id st'
    exact ⟨u, rfl, go_of (s := { s with heap := h' }) e c d (by decide) ⟨x, H, I1, ru, ⟨rfl, fun ys hy => by rw [I.tuple_inj hy hq]; exact hx⟩, st', fun b hb => (hf b hb).1⟩⟩
  done := by
    intro X hP hw hK hc i pins s σ H E I hf st hg
    subst hP hw hK
    obtain ⟨xs, hq, hx⟩ := hg
    obtain ⟨its, rv, p, hz⟩ := I.tuple hq
    obtain ⟨f0, f1, f2, f3, f4, f5⟩ := hf it (by simp)
    have hl := rv.length
    exact wpAny_pyNext_tuple_end (I.ok.hd hc) st (show s.heap.IsTuple a its.toArray from p) (by simp; omega) fun h' eb => ⟨rfl, I.turned (t' := s.toks) (fun b o hb e => eb b o hb e) f0 f1 f3 f4 f5⟩
  self := fun _ _ _ _ _ st h => wpAny_pyIter_tupleiter st h
theorem turn_range {P : Program} {w : World} {K : PySem.W.Frag} {tg : Expr} (it : Addr) (lo : Int) (n : Nat) : Turn P w K tg (Itr lo n) [it] it (fun i h => IsRangeIter h it (lo + (i : Nat) * 1) ((n : Int) - (i : Nat)) 1) where
  mem := by simp
  obj := fun i h st b hb => by
    have e : b = it := by simpa using hb
    subst e
    exact ⟨_, st, fun v z => by
      have z' : Data.fields _ = Data.cell v := z
      cases z'⟩
  keep := fun i h h' st k => k it (by simp) _ st
  item := by
    intro X hP hw hK hc i pins s σ H E I hf st hg
    subst hP hw hK
    obtain ⟨f0, f1, f2, f3, f4, f5⟩ := hf it (by simp)
    have W := Walks.range (prog := X.prog) (w := X.w) (I.ok.hd hc) it lo 1 n
    refine W.item i s _ _ hg st fun v h' tk hv st' kk => ?_
    obtain ⟨t, rfl⟩ := hv
    have I1 : Inv X pins σ H { s with heap := h', toks := tk } := I.turned (fun b o hb e => kk b o (by simpa using hb) e) f0 f1 f3 f4 f5
    refine ⟨_, rfl, go_of (s := { s with heap := h', toks := tk }) (n := "range_iterator") st' rfl rfl (by decide) ⟨.int (lo + i), H, I1, ⟨t, ?_⟩, ⟨rfl, rfl⟩, st', fun b hb => (hf b hb).1⟩⟩
    rw [Int.mul_one]
  done := by
    intro X hP hw hK hc i pins s σ H E I hf st hg
    subst hP hw hK
    obtain ⟨f0, f1, f2, f3, f4, f5⟩ := hf it (by simp)
    exact wpAny_pyNext_range_end (I.ok.hd hc) st (by have : n ≤ i := hg; omega) fun h' eb => ⟨rfl, I.turned (t' := s.toks) (fun b o hb e => eb b o hb e) f0 f1 f3 f4 f5⟩
  self := fun _ _ _ _ _ st h => wpAny_pyIter_rangeiter st h
end L2

namespace L2
open PySem PySem.Spec PyProof.Rows
section
variable {X : Cx} {tg : Expr}
def iList (K : PySem.W.Frag) (tl : TE) : TI := fun σ H R => tl σ H fun x H1 => ∃ a, x = .ref a ∧ (∃ xs, SqL K H1 a xs) ∧ R (Itl K a) H1
def iTup (K : PySem.W.Frag) (tl : TE) : TI := fun σ H R => tl σ H fun x H1 => ∃ a, x = .ref a ∧ (∃ xs, SqT K H1 a xs) ∧ R (Itt K a) H1
theorem pi_list {l : Expr} {tl : TE} (hl : PE X l tl) : PI X tg l (iList X.K tl) := by
  intro pins s σ H R I h
  refine thn (hl pins s σ H _ I h) fun v s1 ⟨x, H1, I1, r1, q1⟩ => ?_
  obtain ⟨a, e, ⟨xs, hq⟩, q⟩ := q1
  subst e
  cases r1
  obtain ⟨its, rv, p, hz⟩ := I1.list hq
  refine wpAny_pyIter_list p.isList ?_
  refine ⟨s1.heap.objs.size, [s1.heap.objs.size], _, _, H1, rfl, I1.kept (t' := s1.toks) fun b o e => Heap.get?_push_of_some _ e, turn_list a _, ⟨_, Heap.get?_push_size _ rfl, rfl, rfl⟩, fun b hb => ?_, q⟩
  have e : b = s1.heap.objs.size := by simpa using hb
  subst e
  exact I1.fpOk (Nat.le_refl _) (I1.hok.fresh (Nat.le_refl _))
theorem pi_tup {l : Expr} {tl : TE} (hl : PE X l tl) : PI X tg l (iTup X.K tl) := by
  intro pins s σ H R I h
  refine thn (hl pins s σ H _ I h) fun v s1 ⟨x, H1, I1, r1, q1⟩ => ?_
  obtain ⟨a, e, ⟨xs, hq⟩, q⟩ := q1
  subst e
  cases r1
  obtain ⟨its, rv, p, hz⟩ := I1.tuple hq
  refine wpAny_pyIter_tuple (show s1.heap.IsTuple a its.toArray from p) ?_
  refine ⟨s1.heap.objs.size, [s1.heap.objs.size], _, _, H1, rfl, I1.kept (t' := s1.toks) fun b o e => Heap.get?_push_of_some _ e, turn_tuple a _, ⟨_, Heap.get?_push_size _ rfl, rfl, rfl⟩, fun b hb => ?_, q⟩
  have e : b = s1.heap.objs.size := by simpa using hb
  subst e
  exact I1.fpOk (Nat.le_refl _) (I1.hok.fresh (Nat.le_refl _))
/-- a range object just made, walked -/
theorem range_it {pins : List (Addr × Obj)} {σ : St} {H : Hp} {s : Shared} {R : It → Hp → Prop} {E : Value → Shared → Prop} {lo hi : Int} {t u v : Tok} {tk : Nat} (I : Inv X pins σ H s) (h1 : -(2 ^ 62) ≤ lo) (h2 : lo < 2 ^ 62) (h3 : -(2 ^ 62) ≤ hi) (h4 : hi < 2 ^ 62)
    (q : R (Itr lo (hi - lo).toNat) H) : wpAny (model X.prog X.w) X.A (pyIter (.ref s.heap.objs.size)) (PIE X pins σ tg R) E { s with heap := s.heap.push { cls := .type "range", data := .fields #[.int lo t, .int hi u, .int 1 v] }, toks := tk } := by
  refine wpAny_pyIter_range (IsRange.new ..) (small_one h1 h2 h3 h4) ?_
  have I1 : Inv X pins σ H { s with heap := s.heap.push { cls := .type "range", data := .fields #[.int lo t, .int hi u, .int 1 v] }, toks := tk } := I.kept fun b o e => Heap.get?_push_of_some _ e
  refine ⟨(s.heap.push { cls := .type "range", data := .fields #[.int lo t, .int hi u, .int 1 v] }).objs.size, [(s.heap.push { cls := .type "range", data := .fields #[.int lo t, .int hi u, .int 1 v] }).objs.size], _, _, H, rfl,
    I1.kept (t' := tk) fun b o e => Heap.get?_push_of_some _ e, turn_range _ lo (hi - lo).toNat, ?_, fun b hb => ?_, q⟩
  · have e1 : lo + ((0 : Nat) : Int) * 1 = lo := by simp
    have e2 : (((hi - lo).toNat : Nat) : Int) - ((0 : Nat) : Int) = Builtin.Range.rangeSize lo hi 1 := by rw [rangeSize_one]; split <;> omega
    show IsRangeIter _ _ (lo + ((0 : Nat) : Int) * 1) ((((hi - lo).toNat : Nat) : Int) - ((0 : Nat) : Int)) 1
    rw [e1, e2]
    exact Heap.get?_push_size _ rfl
  · have e : b = (s.heap.push { cls := .type "range", data := .fields #[.int lo t, .int hi u, .int 1 v] }).objs.size := by simpa using hb
    subst e
    exact I1.fpOk (Nat.le_refl _) (I1.hok.fresh (Nat.le_refl _))
def iRng1 (ta : TA) : TI := fun σ H R => ta σ H fun vs H1 => ∃ j : Int, vs = [.int j] ∧ -(2 ^ 62) ≤ j ∧ j < 2 ^ 62 ∧ R (Itr 0 j.toNat) H1
def iRng2 (ta : TA) : TI := fun σ H R => ta σ H fun vs H1 => ∃ i j : Int, vs = [.int i, .int j] ∧ (-(2 ^ 62) ≤ i ∧ i < 2 ^ 62 ∧ -(2 ^ 62) ≤ j ∧ j < 2 ^ 62) ∧ R (Itr i (j - i).toNat) H1
theorem pi_range1 {a : Expr} {ta : TA} {p pos : Pos} (hg : Gl X "range") (hm : X.mg "range" = none) (ha : PA X [a] ta) (hs : starEach [a] X.env = [(false, eval a X.env)] := by rfl) : PI X tg (.Call (.Name "range" p) [a] [] pos) (iRng1 ta) := by
  intro pins s σ H R I h
  refine Call_ (ld_blt I hg hm boot_range (PyProof.Rows.callWith_type1 (thn (ha pos pins s σ H _ I h) fun us s1 ⟨vs, H1, I1, r1, q1⟩ => ?_) hs rfl))
  obtain ⟨j, e, q1, q2, q⟩ := q1
  subst e
  cases r1 with
  | cons r rr =>
    cases rr
    obtain ⟨t, rfl⟩ := r
    exact call_range_1 (range_it I1 (by omega) (by omega) q1 q2 (by simpa using q))
theorem pi_range2 {a b : Expr} {ta : TA} {p pos : Pos} (hg : Gl X "range") (hm : X.mg "range" = none) (ha : PA X [a, b] ta) (hs : starEach [a, b] X.env = [(false, eval a X.env), (false, eval b X.env)] := by rfl) (hs2 : starEach [b] X.env = [(false, eval b X.env)] := by rfl) :
    PI X tg (.Call (.Name "range" p) [a, b] [] pos) (iRng2 ta) := by
  intro pins s σ H R I h
  refine Call_ (ld_blt I hg hm boot_range (PyProof.Rows.callWith_type1 (thn (ha pos pins s σ H _ I h) fun us s1 ⟨vs, H1, I1, r1, q1⟩ => ?_) (by rw [hs, hs2]) (by rw [hs2]; rfl)))
  obtain ⟨i, j, e, ⟨q1, q2, q3, q4⟩, q⟩ := q1
  subst e
  cases r1 with
  | cons r rr =>
    cases rr with
    | cons r' rr =>
      cases rr
      obtain ⟨t, rfl⟩ := r
      obtain ⟨t', rfl⟩ := r'
      exact call_range_2 (range_it I1 q1 q2 q3 q4 q)

/-! ### for -/
/-- W: the invariant by the turn and a measure; N: what the body is to reach -/
def tFor (wi : TI) (g : TG) (tb : TS) : TS := fun D σ H => wi σ H fun J H1 => ∃ W : Nat → Nat → St → Hp → Prop, (∃ m, W 0 m σ H1) ∧ ∀ i m σ H, W i m σ H →
  (J.stop i H ∧ D.nx σ H) ∨ (J.go i H ∧ ∃ N : St → Hp → Prop, (∀ σ' H', N σ' H' → ∃ m', m' < m ∧ W (i + 1) m' σ' H') ∧ ∀ x H', J.yld i H x H' → g x σ H' fun σ2 H2 => tb { D with nx := N, ct := N, bk := D.nx } σ2 H2)
/-- the records at fp as they stand -/
def pinsAt (fp : List Addr) (h : Heap) : List (Addr × Obj) := fp.filterMap fun b => (h.get? b).map fun o => (b, o)
theorem mem_pinsAt {fp : List Addr} {h : Heap} {b : Addr} {o : Obj} (hb : b ∈ fp) (e : h.get? b = some o) : (b, o) ∈ pinsAt fp h := List.mem_filterMap.mpr ⟨b, hb, by rw [e]; rfl⟩
theorem of_pinsAt {fp : List Addr} {h : Heap} {p : Addr × Obj} (hp : p ∈ pinsAt fp h) : p.1 ∈ fp ∧ h.get? p.1 = some p.2 := by
  obtain ⟨b, hb, e⟩ := List.mem_filterMap.mp hp
  cases q : h.get? b with
  | none => rw [q] at e; cases e
  | some o =>
    rw [q] at e
    have e' : (b, o) = p := Option.some.inj e
    subst e'
    exact ⟨hb, q⟩
theorem Inv.pinned {pins : List (Addr × Obj)} {σ : St} {H : Hp} {s : Shared} {fp : List Addr} (I : Inv X pins σ H s) (hf : ∀ b ∈ fp, FpOk X pins H b) (ho : ∀ b ∈ fp, ∃ o, s.heap.get? b = some o ∧ ∀ v, o.data ≠ .cell v) : Inv X (pins ++ pinsAt fp s.heap) σ H s :=
  I.pins_of fun p hp => (List.mem_append.mp hp).elim (fun z => I.pin p (List.mem_append_right _ z)) fun z => by
    obtain ⟨hb, e⟩ := of_pinsAt z
    obtain ⟨f0, f1, f2, _⟩ := hf p.1 hb
    obtain ⟨o, e', d⟩ := ho p.1 hb
    rw [e] at e'; cases e'
    exact ⟨e, f0, f1, f2, d⟩
theorem Inv.unpinned {pins pl : List (Addr × Obj)} {σ : St} {H : Hp} {s : Shared} (I : Inv X (pins ++ pl) σ H s) : Inv X pins σ H s := I.pins_of fun p hp => I.pin p (List.mem_append_right _ (List.mem_append_left _ hp))
theorem ps_for {iter : Expr} {body : List Stmt} {wi : TI} {g : TG} {tb : TS} {pos : Pos} (hp : PassesOwn (model X.prog X.w) X.A X.env X.xe) (hc : X.calm = true) (hi : PI X tg iter wi) (hg : PG X tg g) (hb : PSs X body tb)
    (hs : ∀ x, foldedSetIterable iter X.env x = pure x := by intro _; rfl) : PS X (.For tg iter body [] pos) (tFor wi g tb) := by
  intro pins s σ H D I h
  refine wpAny_For (thn (hi pins s σ H _ I h) fun v s1 h1 => thn h1 fun itv s2 h2 => ?_) hs
  obtain ⟨it, fp, tn, J, H2, e, I2, T, st2, f2, W, ⟨m0, w0⟩, turn⟩ := h2
  subst e
  -- what stays true of the iterator's objects through the loop
  have stat : ∀ {H' : Hp}, (∀ b ∈ fp, H' b = none) → ∀ b ∈ fp, FpOk X pins H' b := fun hn b hb => ⟨hn b hb, (f2 b hb).2⟩
  refine codeAny_forLoop_any (fun n s' => ∃ i σ' H', Inv X pins σ' H' s' ∧ tn i s'.heap ∧ (∀ b ∈ fp, H' b = none) ∧ W i n σ' H') ?_ m0 ⟨0, σ, H2, I2, st2, fun b hb => (f2 b hb).1, w0⟩
  rintro n s3 ⟨i, σ3, H3, I3, st3, fr3, w3⟩
  rcases turn i n σ3 H3 w3 with ⟨stop, qn⟩ | ⟨go, N, hN, step⟩
  · refine wpAny_passesOwn hp (thn (T.done X rfl rfl rfl hc i pins s3 σ3 H3 X.xe I3 (stat fr3) st3 stop) fun r s4 ⟨hr, I4⟩ => ?_)
    subst hr
    exact wpAny_execs_nil ⟨σ3, H3, I4, qn⟩
  · refine wpAny_passesOwn hp (thn (T.item X rfl rfl rfl hc i pins s3 σ3 H3 X.xe I3 (stat fr3) st3 go) fun r s4 ⟨u, hr, h4⟩ => ?_)
    subst hr
    refine wpAny_passesOwn hp (thn h4 fun _ s5 ⟨x, H5, I5, r5, y5, st5, fr5⟩ => ?_)
    have I5' := I5.pinned (stat fr5) (T.obj _ _ st5)
    refine wpAny_passesOwn hp (thn (hg _ s5 σ3 H5 x u _ I5' r5 (step x H5 y5)) fun _ s6 ⟨σ6, H6, I6, q6⟩ => ?_)
    refine wpAny_passesOwn hp (thn (hb _ s6 σ6 H6 _ I6 q6) fun f s7 q7 => ?_)
    have again : ∀ {σ7 : St} {H7 : Hp}, Inv X (pins ++ pinsAt fp s5.heap) σ7 H7 s7 → N σ7 H7 → ∃ m, m < n ∧ ∃ i σ' H', Inv X pins σ' H' s7 ∧ tn i s7.heap ∧ (∀ b ∈ fp, H' b = none) ∧ W i m σ' H' := fun {σ7 H7} I7 n7 => by
      obtain ⟨m', hm, w7⟩ := hN σ7 H7 n7
      refine ⟨m', hm, i + 1, σ7, H7, I7.unpinned, T.keep _ _ _ st5 fun b hb o e => (I7.pin (b, o) (List.mem_append_right _ (List.mem_append_right _ (mem_pinsAt hb e)))).1, fun b hb => ?_, w7⟩
      obtain ⟨o, e, d⟩ := T.obj _ _ st5 b hb
      exact (I7.pin (b, o) (List.mem_append_right _ (List.mem_append_right _ (mem_pinsAt hb e)))).2.1
    cases f with
    | next => obtain ⟨σ7, H7, I7, n7⟩ := q7; exact again I7 n7
    | cont => obtain ⟨σ7, H7, I7, n7⟩ := q7; exact again I7 n7
    | brk => obtain ⟨σ7, H7, I7, q7⟩ := q7; exact ⟨σ7, H7, I7.unpinned, q7⟩
    | ret v => obtain ⟨x7, σ7, H7, I7, r7, q7⟩ := q7; exact ⟨x7, σ7, H7, I7.unpinned, r7, q7⟩
end

/-! ### the forms one uses -/
/-- over a list that the body leaves as it is -/
theorem for_list {K : PySem.W.Frag} {a : Addr} {xs : List V} {g : TG} {tb : TS} {D : Ends} {σ : St} {H : Hp} (Pv : Nat → St → Hp → Prop) (h0 : Pv 0 σ H) (hl : ∀ i σ H, i ≤ xs.length → Pv i σ H → SqL K H a xs)
    (hs : ∀ i x σ H, xs[i]? = some x → Pv i σ H → g x σ H fun σ2 H2 => tb { D with nx := Pv (i + 1), ct := Pv (i + 1), bk := D.nx } σ2 H2) (hd : ∀ σ H, Pv xs.length σ H → D.nx σ H) :
    ∃ W : Nat → Nat → St → Hp → Prop, (∃ m, W 0 m σ H) ∧ ∀ i m σ H, W i m σ H →
      ((Itl K a).stop i H ∧ D.nx σ H) ∨ ((Itl K a).go i H ∧ ∃ N : St → Hp → Prop, (∀ σ' H', N σ' H' → ∃ m', m' < m ∧ W (i + 1) m' σ' H') ∧ ∀ x H', (Itl K a).yld i H x H' → g x σ H' fun σ2 H2 => tb { D with nx := N, ct := N, bk := D.nx } σ2 H2) := by
  refine ⟨fun i m σ H => m = xs.length - i ∧ i ≤ xs.length ∧ Pv i σ H, ⟨xs.length, by simp, Nat.zero_le _, h0⟩, ?_⟩
  rintro i m σ H ⟨rfl, hi, p⟩
  have q := hl i σ H hi p
  by_cases hlt : i < xs.length
  · refine .inr ⟨⟨xs, xs[i], q, by simp [hlt]⟩, Pv (i + 1), fun σ' H' p' => ⟨xs.length - (i + 1), by omega, rfl, hlt, p'⟩, fun x H' y => ?_⟩
    obtain ⟨e, y⟩ := y
    subst e
    exact hs i x σ _ (y xs q) p
  · have e : i = xs.length := by omega
    subst e
    exact .inl ⟨⟨xs, q, Nat.le_refl _⟩, hd σ H p⟩
theorem for_tup {K : PySem.W.Frag} {a : Addr} {xs : List V} {g : TG} {tb : TS} {D : Ends} {σ : St} {H : Hp} (Pv : Nat → St → Hp → Prop) (h0 : Pv 0 σ H) (hl : ∀ i σ H, i ≤ xs.length → Pv i σ H → SqT K H a xs)
    (hs : ∀ i x σ H, xs[i]? = some x → Pv i σ H → g x σ H fun σ2 H2 => tb { D with nx := Pv (i + 1), ct := Pv (i + 1), bk := D.nx } σ2 H2) (hd : ∀ σ H, Pv xs.length σ H → D.nx σ H) :
    ∃ W : Nat → Nat → St → Hp → Prop, (∃ m, W 0 m σ H) ∧ ∀ i m σ H, W i m σ H →
      ((Itt K a).stop i H ∧ D.nx σ H) ∨ ((Itt K a).go i H ∧ ∃ N : St → Hp → Prop, (∀ σ' H', N σ' H' → ∃ m', m' < m ∧ W (i + 1) m' σ' H') ∧ ∀ x H', (Itt K a).yld i H x H' → g x σ H' fun σ2 H2 => tb { D with nx := N, ct := N, bk := D.nx } σ2 H2) := by
  refine ⟨fun i m σ H => m = xs.length - i ∧ i ≤ xs.length ∧ Pv i σ H, ⟨xs.length, by simp, Nat.zero_le _, h0⟩, ?_⟩
  rintro i m σ H ⟨rfl, hi, p⟩
  have q := hl i σ H hi p
  by_cases hlt : i < xs.length
  · refine .inr ⟨⟨xs, xs[i], q, by simp [hlt]⟩, Pv (i + 1), fun σ' H' p' => ⟨xs.length - (i + 1), by omega, rfl, hlt, p'⟩, fun x H' y => ?_⟩
    obtain ⟨e, y⟩ := y
    subst e
    exact hs i x σ _ (y xs q) p
  · have e : i = xs.length := by omega
    subst e
    exact .inl ⟨⟨xs, q, Nat.le_refl _⟩, hd σ H p⟩
theorem for_range {lo : Int} {n : Nat} {g : TG} {tb : TS} {D : Ends} {σ : St} {H : Hp} (Pv : Nat → St → Hp → Prop) (h0 : Pv 0 σ H)
    (hs : ∀ i σ H, i < n → Pv i σ H → g (.int (lo + i)) σ H fun σ2 H2 => tb { D with nx := Pv (i + 1), ct := Pv (i + 1), bk := D.nx } σ2 H2) (hd : ∀ σ H, Pv n σ H → D.nx σ H) :
    ∃ W : Nat → Nat → St → Hp → Prop, (∃ m, W 0 m σ H) ∧ ∀ i m σ H, W i m σ H →
      ((Itr lo n).stop i H ∧ D.nx σ H) ∨ ((Itr lo n).go i H ∧ ∃ N : St → Hp → Prop, (∀ σ' H', N σ' H' → ∃ m', m' < m ∧ W (i + 1) m' σ' H') ∧ ∀ x H', (Itr lo n).yld i H x H' → g x σ H' fun σ2 H2 => tb { D with nx := N, ct := N, bk := D.nx } σ2 H2) := by
  refine ⟨fun i m σ H => m = n - i ∧ i ≤ n ∧ Pv i σ H, ⟨n, by simp, Nat.zero_le _, h0⟩, ?_⟩
  rintro i m σ H ⟨rfl, hi, p⟩
  by_cases hlt : i < n
  · refine .inr ⟨hlt, Pv (i + 1), fun σ' H' p' => ⟨n - (i + 1), by omega, rfl, hlt, p'⟩, fun x H' y => ?_⟩
    obtain ⟨e, y⟩ := y
    subst e y
    exact hs i σ _ hlt p
  · have e : i = n := by omega
    subst e
    exact .inl ⟨Nat.le_refl _, hd σ H p⟩
/-- while, by a word and a measure of the state -/
theorem while_by {c : TT} {tb : TS} {D : Ends} {σ : St} {H : Hp} (Pv : St → Hp → Prop) (μ : St → Hp → Nat) (h0 : Pv σ H)
    (hs : ∀ σ H, Pv σ H → c σ H fun b H1 => if b = true then tb { D with nx := fun σ' H' => Pv σ' H' ∧ μ σ' H' < μ σ H, ct := fun σ' H' => Pv σ' H' ∧ μ σ' H' < μ σ H, bk := D.nx } σ H1 else D.nx σ H1)
    (mono : ∀ σ H Q Q', (∀ b H1, Q b H1 → Q' b H1) → c σ H Q → c σ H Q') : tWhile c tb D σ H := by
  refine ⟨fun m σ H => m = μ σ H ∧ Pv σ H, ⟨_, rfl, h0⟩, ?_⟩
  rintro m σ H ⟨rfl, p⟩
  refine mono σ H _ _ (fun b H1 q => ?_) (hs σ H p)
  cases b with
  | true => exact ⟨_, fun σ' H' ⟨p', l⟩ => ⟨_, l, rfl, p'⟩, q⟩
  | false => exact q
end L2

namespace L2
open PySem PySem.Spec PyProof.Rows

abbrev R2 := V → V → Hp → VK → Prop
/-- a two-place operation on values: f is binaryOp op, inplaceOp op or compareOp op -/
def OpR (X : Cx) (f : Value → Value → Sem Value) (r : R2) : Prop :=
  ∀ (pins : List (Addr × Obj)) (s : Shared) (σ : St) (H : Hp) (x y : V) (v u : Value) (Q : VK), Inv X pins σ H s → RelV x v → RelV y u → r x y H Q →
    wpAny (model X.prog X.w) X.A (f v u) (EP X pins σ Q) X.xe s
/-- a one-place operation -/
def UnR (X : Cx) (f : Value → Sem Value) (r : V → Hp → VK → Prop) : Prop :=
  ∀ (pins : List (Addr × Obj)) (s : Shared) (σ : St) (H : Hp) (x : V) (v : Value) (Q : VK), Inv X pins σ H s → RelV x v → r x H Q →
    wpAny (model X.prog X.w) X.A (f v) (EP X pins σ Q) X.xe s
/-- a call of a value that is known (a builtin, a type) with values -/
def CallR (X : Cx) (f : Value) (r : List V → Hp → VK → Prop) : Prop :=
  ∀ (pins : List (Addr × Obj)) (s : Shared) (σ : St) (H : Hp) (xs : List V) (us : List Value) (Q : VK), Inv X pins σ H s → Vals xs us → r xs H Q →
    wpAny (model X.prog X.w) X.A (call f us) (EP X pins σ Q) X.xe s
/-- a value's truth -/
def TruR (X : Cx) (r : V → Hp → (Bool → Hp → Prop) → Prop) : Prop :=
  ∀ (pins : List (Addr × Obj)) (s : Shared) (σ : St) (H : Hp) (x : V) (v : Value) (Q : Bool → Hp → Prop), Inv X pins σ H s → RelV x v → r x H Q →
    wpAny (model X.prog X.w) X.A (truthy v) (TP X pins σ Q) X.xe s

def tOp (r : R2) (ta tb : TE) : TE := fun σ H Q => ta σ H fun x H1 => tb σ H1 fun y H2 => r x y H2 Q
def tUn (r : V → Hp → VK → Prop) (ta : TE) : TE := fun σ H Q => ta σ H fun x H1 => r x H1 Q
/-- ints in, under C, and a value out -/
def rI (C : Int → Int → Prop) (g : Int → Int → V) : R2 := fun x y H Q => ∃ i j, x = .int i ∧ y = .int j ∧ C i j ∧ Q (g i j) H
def rI0 (g : Int → Int → V) : R2 := fun x y H Q => ∃ i j, x = .int i ∧ y = .int j ∧ Q (g i j) H
def rU (g : Int → V) : V → Hp → VK → Prop := fun x H Q => ∃ i, x = .int i ∧ Q (g i) H

section
variable {X : Cx} {a b c : Expr} {ta tb tc : TE} {pos : Pos}

theorem binT (ha : PE X a ta) (hb : PE X b tb) {pins : List (Addr × Obj)} {s : Shared} {σ : St} {H : Hp} {R : V → V → Hp → Prop} (I : Inv X pins σ H s)
    (h : ta σ H fun x H1 => tb σ H1 fun y H2 => R x y H2) {Q : Value → Shared → Prop} {f : Value → Value → Sem Value}
    (hf : ∀ v u s2 x y H2, Inv X pins σ H2 s2 → RelV x v → RelV y u → R x y H2 → wpAny (model X.prog X.w) X.A (f v u) Q X.xe s2) :
    wpAny (model X.prog X.w) X.A (eval a X.env) (fun v s₁ => wpAny (model X.prog X.w) X.A (eval b X.env) (fun u s₂ => wpAny (model X.prog X.w) X.A (f v u) Q X.xe s₂) X.xe s₁) X.xe s := by
  refine thn (ha pins s σ H _ I h) fun v s1 ⟨x, H1, I1, r1, q1⟩ => ?_
  refine thn (hb pins s1 σ H1 _ I1 q1) fun u s2 ⟨y, H2, I2, r2, q2⟩ => ?_
  exact hf v u s2 x y H2 I2 r1 r2 q2

theorem pe_op {op : Operator} {r : R2} (ho : OpR X (binaryOp op) r) (ha : PE X a ta) (hb : PE X b tb) : PE X (.BinOp a op b pos) (tOp r ta tb) := by
  intro pins s σ H Q I h
  exact wpAny_BinOp (binT ha hb I h fun v u s2 x y H2 I2 rx ry q => ho pins s2 σ H2 x y v u Q I2 rx ry q)
theorem pe_un {op : UnaryOp} {r : V → Hp → VK → Prop} (ho : UnR X (unaryOp op) r) (ha : PE X a ta) : PE X (.UnaryOp op a pos) (tUn r ta) := by
  intro pins s σ H Q I h
  exact UnaryOp_ (thn (ha pins s σ H _ I h) fun v s1 ⟨x, H1, I1, r1, q1⟩ => ho pins s1 σ H1 x v Q I1 r1 q1)
/-- a op= e at a name: the name's slot i -/
theorem augR {op : Operator} {r : R2} (ho : OpR X (inplaceOp op) r) {pins : List (Addr × Obj)} {s : Shared} {σ : St} {H : Hp} {x y : V} {v u : Value} {Q : VK} (I : Inv X pins σ H s)
    (rx : RelV x v) (ry : RelV y u) (q : r x y H Q) : wpAny (model X.prog X.w) X.A (inplaceOp op v u) (EP X pins σ Q) X.xe s := ho pins s σ H x y v u Q I rx ry q

/-! ### ints -/
theorem opI {f : Value → Value → Sem Value} {C : Int → Int → Prop} {g : Int → Int → Int}
    (rule : ∀ (i j : Int) (t u : Tok) (s : Shared) (Q : Value → Shared → Prop) (E : Value → Shared → Prop), C i j → Q (.int (g i j) s.toks) { s with toks := s.toks + 1 } → wpAny (model X.prog X.w) X.A (f (.int i t) (.int j u)) Q E s) :
    OpR X f (rI C fun i j => .int (g i j)) := by
  intro pins s σ H x y v u Q I rx ry h
  obtain ⟨i, j, rfl, rfl, hc, q⟩ := h
  obtain ⟨t, rfl⟩ := rx
  obtain ⟨t', rfl⟩ := ry
  exact rule i j t t' s _ _ hc ⟨.int (g i j), H, I.tok _, ⟨_, rfl⟩, q⟩
theorem opI0 {f : Value → Value → Sem Value} {g : Int → Int → Int}
    (rule : ∀ (i j : Int) (t u : Tok) (s : Shared) (Q : Value → Shared → Prop) (E : Value → Shared → Prop), Q (.int (g i j) s.toks) { s with toks := s.toks + 1 } → wpAny (model X.prog X.w) X.A (f (.int i t) (.int j u)) Q E s) :
    OpR X f (rI0 fun i j => .int (g i j)) := by
  intro pins s σ H x y v u Q I rx ry h
  obtain ⟨i, j, rfl, rfl, q⟩ := h
  obtain ⟨t, rfl⟩ := rx
  obtain ⟨t', rfl⟩ := ry
  exact rule i j t t' s _ _ ⟨.int (g i j), H, I.tok _, ⟨_, rfl⟩, q⟩
theorem opB0 {f : Value → Value → Sem Value} {g : Int → Int → Bool}
    (rule : ∀ (i j : Int) (t u : Tok) (s : Shared) (Q : Value → Shared → Prop) (E : Value → Shared → Prop), Q (.bool (g i j)) s → wpAny (model X.prog X.w) X.A (f (.int i t) (.int j u)) Q E s) :
    OpR X f (rI0 fun i j => .bl (g i j)) := by
  intro pins s σ H x y v u Q I rx ry h
  obtain ⟨i, j, rfl, rfl, q⟩ := h
  obtain ⟨t, rfl⟩ := rx
  obtain ⟨t', rfl⟩ := ry
  exact rule i j t t' s _ _ ⟨.bl (g i j), H, I, rfl, q⟩

def CDiv (i j : Int) : Prop := 0 < j ∧ j < 1073741824
def CDivN (i j : Int) : Prop := j ≠ 0 ∧ j.natAbs < 1073741824
def CPow (i j : Int) : Prop := 0 ≤ j ∧ j ≤ 1000000 ∧ i.natAbs < 2 ^ 64
def CMul (i j : Int) : Prop := (-(2 ^ 64) < i ∧ i < 2 ^ 64) ∨ (-(2 ^ 64) < j ∧ j < 2 ^ 64)
theorem CMul.ok {i j : Int} (h : CMul i j) : IntMulOk i j := by
  rcases h with ⟨h1, h2⟩ | ⟨h1, h2⟩
  · exact .of_left (intBits_le_64 h1 h2)
  · exact .of_right (intBits_le_64 h1 h2)
theorem two_pow_nn (k : Nat) : (0 : Int) ≤ 2 ^ k := by
  rw [two_pow_cast]
  exact Int.natCast_nonneg _

theorem op_add : OpR X (binaryOp .Add) (rI0 fun i j => .int (i + j)) := opI0 fun _ _ _ _ _ _ _ q => add_int q
theorem op_sub : OpR X (binaryOp .Sub) (rI0 fun i j => .int (i - j)) := opI0 fun _ _ _ _ _ _ _ q => sub_int q
theorem op_mul : OpR X (binaryOp .Mult) (rI CMul fun i j => .int (i * j)) := opI fun _ _ _ _ _ _ _ hc q => mul_int q hc.ok
/-- // by a positive divisor -/
theorem op_fdiv : OpR X (binaryOp .FloorDiv) (rI CDiv fun i j => .int (i / j)) := opI fun i j _ _ _ _ _ hc q => by
  have h1 : (0 : Int) < j := hc.1
  have h2 : j < 1073741824 := hc.2
  exact floordiv_int (by omega) (by rw [Int.fdiv_eq_ediv_of_nonneg i (by omega)]; exact q) (.inl (PyProof.noPylong_small (by omega)))
theorem op_fdivN : OpR X (binaryOp .FloorDiv) (rI CDivN fun i j => .int (i.fdiv j)) := opI fun _ _ _ _ _ _ _ hc q => floordiv_int hc.1 q (.inl (PyProof.noPylong_small hc.2))
/-- % by a positive divisor of any size -/
theorem op_mod : OpR X (binaryOp .Mod) (rI (fun _ j => 0 < j) fun i j => .int (i % j)) := opI fun i j _ _ _ _ _ hc q => by
  have h1 : (0 : Int) < j := hc
  exact mod_int' (by omega) (by rw [Int.fmod_eq_emod_of_nonneg i (by omega)]; exact q)
theorem op_modN : OpR X (binaryOp .Mod) (rI (fun _ j => j ≠ 0) fun i j => .int (i.fmod j)) := opI fun _ _ _ _ _ _ _ hc q => mod_int' hc q
theorem op_pow : OpR X (binaryOp .Pow) (rI CPow fun i j => .int (i ^ j.toNat)) := opI fun _ _ _ _ _ _ _ hc q => pow_int_small hc.1 hc.2.1 hc.2.2 q
theorem op_shl : OpR X (binaryOp .LShift) (rI CPow fun i j => .int (i * 2 ^ j.toNat)) := opI fun _ _ _ _ _ _ _ hc q => lshift_int_small hc.1 hc.2.1 hc.2.2 q
theorem op_shr : OpR X (binaryOp .RShift) (rI (fun _ j => 0 ≤ j) fun i j => .int (i / 2 ^ j.toNat)) := opI fun i j _ _ _ _ _ hc q =>
  rshift_int hc (by rw [Int.fdiv_eq_ediv_of_nonneg i (two_pow_nn _)]; exact q)
theorem op_and : OpR X (binaryOp .BitAnd) (rI0 fun i j => .int (Builtin.bitAnd i j)) := opI0 fun _ _ _ _ _ _ _ q => and_int q
theorem op_or : OpR X (binaryOp .BitOr) (rI0 fun i j => .int (Builtin.bitOr i j)) := opI0 fun _ _ _ _ _ _ _ q => or_int q
theorem op_xor : OpR X (binaryOp .BitXor) (rI0 fun i j => .int (Builtin.bitXor i j)) := opI0 fun _ _ _ _ _ _ _ q => xor_int q

theorem iop_add : OpR X (inplaceOp .Add) (rI0 fun i j => .int (i + j)) := opI0 fun _ _ _ _ _ _ _ q => iadd_int q
theorem iop_sub : OpR X (inplaceOp .Sub) (rI0 fun i j => .int (i - j)) := opI0 fun _ _ _ _ _ _ _ q => isub_int q
theorem iop_mul : OpR X (inplaceOp .Mult) (rI CMul fun i j => .int (i * j)) := opI fun _ _ _ _ _ _ _ hc q => imul_int q hc.ok
theorem iop_fdiv : OpR X (inplaceOp .FloorDiv) (rI CDiv fun i j => .int (i / j)) := opI fun i j _ _ _ _ _ hc q => by
  have h1 : (0 : Int) < j := hc.1
  have h2 : j < 1073741824 := hc.2
  exact ifloordiv_int (by omega) (by rw [Int.fdiv_eq_ediv_of_nonneg i (by omega)]; exact q) (.inl (PyProof.noPylong_small (by omega)))
theorem iop_mod : OpR X (inplaceOp .Mod) (rI (fun _ j => 0 < j) fun i j => .int (i % j)) := opI fun i j _ _ _ _ _ hc q => by
  have h1 : (0 : Int) < j := hc
  exact imod_int (by omega) (by rw [Int.fmod_eq_emod_of_nonneg i (by omega)]; exact q)
theorem iop_shl : OpR X (inplaceOp .LShift) (rI CPow fun i j => .int (i * 2 ^ j.toNat)) := opI fun _ _ _ _ _ _ _ hc q => ilshift_int_small hc.1 hc.2.1 hc.2.2 q
theorem iop_shr : OpR X (inplaceOp .RShift) (rI (fun _ j => 0 ≤ j) fun i j => .int (i / 2 ^ j.toNat)) := opI fun i j _ _ _ _ _ hc q =>
  irshift_int hc (by rw [Int.fdiv_eq_ediv_of_nonneg i (two_pow_nn _)]; exact q)
theorem iop_and : OpR X (inplaceOp .BitAnd) (rI0 fun i j => .int (Builtin.bitAnd i j)) := opI0 fun _ _ _ _ _ _ _ q => iand_int q
theorem iop_or : OpR X (inplaceOp .BitOr) (rI0 fun i j => .int (Builtin.bitOr i j)) := opI0 fun _ _ _ _ _ _ _ q => ior_int q
theorem iop_xor : OpR X (inplaceOp .BitXor) (rI0 fun i j => .int (Builtin.bitXor i j)) := opI0 fun _ _ _ _ _ _ _ q => ixor_int q

theorem unI {f : Value → Sem Value} {g : Int → Int}
    (rule : ∀ (i : Int) (t : Tok) (s : Shared) (Q : Value → Shared → Prop) (E : Value → Shared → Prop), Q (.int (g i) s.toks) { s with toks := s.toks + 1 } → wpAny (model X.prog X.w) X.A (f (.int i t)) Q E s) :
    UnR X f (rU fun i => .int (g i)) := by
  intro pins s σ H x v Q I rx h
  obtain ⟨i, rfl, q⟩ := h
  obtain ⟨t, rfl⟩ := rx
  exact rule i t s _ _ ⟨.int (g i), H, I.tok _, ⟨_, rfl⟩, q⟩
theorem un_neg : UnR X (unaryOp .USub) (rU fun i => .int (-i)) := unI fun _ _ _ _ _ q => neg_int q
theorem un_inv : UnR X (unaryOp .Invert) (rU fun i => .int (Builtin.bitNot i)) := unI fun _ _ _ _ _ q => invert_int q

/-! ### bools among ints: n += (a < b) -/
theorem op_add_ib : OpR X (binaryOp .Add) (fun x y H Q => ∃ i k, x = .int i ∧ y = .bl k ∧ Q (.int (i + b2i k)) H) := by
  intro pins s σ H x y v u Q I rx ry h
  obtain ⟨i, k, rfl, rfl, q⟩ := h
  obtain ⟨t, rfl⟩ := rx
  cases ry
  exact add_int_bool ⟨.int (i + b2i k), H, I.tok _, ⟨_, rfl⟩, q⟩
end

/-! ### comparisons -/
/-- the scalars that == tells apart as data does -/
def scal : V → V → Bool
  | .non, .non => true | .non, .int _ => true | .int _, .non => true | .non, .bl _ => true | .bl _, .non => true | .non, .str _ => true | .str _, .non => true
  | .int _, .int _ => true | .bl _, .bl _ => true | .str _, .str _ => true | .byt _, .byt _ => true
  | .int _, .str _ => true | .str _, .int _ => true | .bl _, .str _ => true | .str _, .bl _ => true
  | _, _ => false
def rEq : R2 := fun x y H Q => scal x y = true ∧ Q (.bl (decide (x = y))) H
def rNe : R2 := fun x y H Q => scal x y = true ∧ Q (.bl (!decide (x = y))) H

theorem dec_int {i j : Int} : decide (V.int i = V.int j) = (i == j) := by
  rw [Bool.eq_iff_iff]
  simp
theorem dec_bl {i j : Bool} : decide (V.bl i = V.bl j) = (i == j) := by
  rw [Bool.eq_iff_iff]
  simp
theorem dec_str {i j : Str} : decide (V.str i = V.str j) = (i == j) := by
  rw [Bool.eq_iff_iff]
  simp
theorem dec_byt {i j : Array UInt8} : decide (V.byt i = V.byt j) = (i.toList == j.toList) := by
  rw [Bool.eq_iff_iff]
  cases i
  cases j
  simp

section
variable {X : Cx} {a b c : Expr} {ta tb tc : TE} {pos : Pos}
theorem fin_bl {pins : List (Addr × Obj)} {σ : St} {H : Hp} {s : Shared} {Q : VK} {k k' : Bool} (I : Inv X pins σ H s) (q : Q (.bl k) H) (e : k = k') : EP X pins σ Q (.bool k') s := by
  subst e
  exact ⟨.bl k, H, I, rfl, q⟩
theorem op_eq : OpR X (compareOp .Eq) rEq := by
  intro pins s σ H x y v u Q I rx ry h
  obtain ⟨hs, q⟩ := h
  cases x with
  | non =>
    cases rx
    cases y with
    | non => cases ry; exact PySem.EqNone.eq_none_none (fin_bl I q (by simp))
    | bl j => cases ry; exact PySem.EqNone.eq_none_bool (fin_bl I q (by simp))
    | int j => obtain ⟨t', rfl⟩ := ry; exact PySem.EqNone.eq_none_int (fin_bl I q (by simp))
    | str j => obtain ⟨t', rfl⟩ := ry; exact PySem.EqNone.eq_none_str (fin_bl I q (by simp))
    | _ => exact absurd (show false = true from hs) Bool.false_ne_true
  | bl i =>
    cases rx
    cases y with
    | non => cases ry; exact PySem.EqNone.eq_bool_none (fin_bl I q (by simp))
    | bl j => cases ry; exact eq_bool (fin_bl I q dec_bl)
    | str j => obtain ⟨t', rfl⟩ := ry; exact PySem.EqMixed.eq_bool_str (fin_bl I q (by simp))
    | _ => exact absurd (show false = true from hs) Bool.false_ne_true
  | int i =>
    obtain ⟨t, rfl⟩ := rx
    cases y with
    | non => cases ry; exact PySem.EqNone.eq_int_none (fin_bl I q (by simp))
    | int j => obtain ⟨t', rfl⟩ := ry; exact eq_int (fin_bl I q dec_int)
    | str j => obtain ⟨t', rfl⟩ := ry; exact PySem.EqMixed.eq_int_str (fin_bl I q (by simp))
    | _ => exact absurd (show false = true from hs) Bool.false_ne_true
  | str i =>
    obtain ⟨t, rfl⟩ := rx
    cases y with
    | non => cases ry; exact PySem.EqNone.eq_str_none (fin_bl I q (by simp))
    | bl j => cases ry; exact PySem.EqMixed.eq_str_bool (fin_bl I q (by simp))
    | int j => obtain ⟨t', rfl⟩ := ry; exact PySem.EqMixed.eq_str_int (fin_bl I q (by simp))
    | str j => obtain ⟨t', rfl⟩ := ry; exact eq_str (fin_bl I q dec_str)
    | _ => exact absurd (show false = true from hs) Bool.false_ne_true
  | byt i =>
    obtain ⟨t, rfl⟩ := rx
    cases y with
    | byt j => obtain ⟨t', rfl⟩ := ry; exact PySem.W.eq_bytes (fin_bl I q dec_byt)
    | _ => exact absurd (show false = true from hs) Bool.false_ne_true
  | _ => cases y <;> exact absurd (show false = true from hs) Bool.false_ne_true
theorem op_ne : OpR X (compareOp .NotEq) rNe := by
  intro pins s σ H x y v u Q I rx ry h
  obtain ⟨hs, q⟩ := h
  cases x with
  | non =>
    cases rx
    cases y with
    | non => cases ry; exact PySem.EqNone.ne_none_none (fin_bl I q (by simp))
    | bl j => cases ry; exact PySem.EqNone.ne_none_bool (fin_bl I q (by simp))
    | int j => obtain ⟨t', rfl⟩ := ry; exact PySem.EqNone.ne_none_int (fin_bl I q (by simp))
    | str j => obtain ⟨t', rfl⟩ := ry; exact PySem.EqNone.ne_none_str (fin_bl I q (by simp))
    | _ => exact absurd (show false = true from hs) Bool.false_ne_true
  | bl i =>
    cases rx
    cases y with
    | non => cases ry; exact PySem.EqNone.ne_bool_none (fin_bl I q (by simp))
    | bl j => cases ry; exact ne_bool (fin_bl I q (congrArg not dec_bl))
    | str j => obtain ⟨t', rfl⟩ := ry; exact PySem.EqMixed.ne_bool_str (fin_bl I q (by simp))
    | _ => exact absurd (show false = true from hs) Bool.false_ne_true
  | int i =>
    obtain ⟨t, rfl⟩ := rx
    cases y with
    | non => cases ry; exact PySem.EqNone.ne_int_none (fin_bl I q (by simp))
    | int j => obtain ⟨t', rfl⟩ := ry; exact ne_int (fin_bl I q (congrArg not dec_int))
    | str j => obtain ⟨t', rfl⟩ := ry; exact PySem.EqMixed.ne_int_str (fin_bl I q (by simp))
    | _ => exact absurd (show false = true from hs) Bool.false_ne_true
  | str i =>
    obtain ⟨t, rfl⟩ := rx
    cases y with
    | non => cases ry; exact PySem.EqNone.ne_str_none (fin_bl I q (by simp))
    | bl j => cases ry; exact PySem.EqMixed.ne_str_bool (fin_bl I q (by simp))
    | int j => obtain ⟨t', rfl⟩ := ry; exact PySem.EqMixed.ne_str_int (fin_bl I q (by simp))
    | str j => obtain ⟨t', rfl⟩ := ry; exact ne_str (fin_bl I q (congrArg not dec_str))
    | _ => exact absurd (show false = true from hs) Bool.false_ne_true
  | byt i =>
    obtain ⟨t, rfl⟩ := rx
    cases y with
    | byt j => obtain ⟨t', rfl⟩ := ry; exact PySem.W.ne_bytes (fin_bl I q (congrArg not dec_byt))
    | _ => exact absurd (show false = true from hs) Bool.false_ne_true
  | _ => cases y <;> exact absurd (show false = true from hs) Bool.false_ne_true

theorem op_lt : OpR X (compareOp .Lt) (rI0 fun i j => .bl (decide (i < j))) := opB0 fun _ _ _ _ _ _ _ q => lt_int q
theorem op_le : OpR X (compareOp .LtE) (rI0 fun i j => .bl (decide (i ≤ j))) := opB0 fun _ _ _ _ _ _ _ q => le_int q
theorem op_gt : OpR X (compareOp .Gt) (rI0 fun i j => .bl (decide (j < i))) := opB0 fun _ _ _ _ _ _ _ q => gt_int q
theorem op_ge : OpR X (compareOp .GtE) (rI0 fun i j => .bl (decide (j ≤ i))) := opB0 fun _ _ _ _ _ _ _ q => ge_int q
theorem op_lt_str : OpR X (compareOp .Lt) (fun x y H Q => ∃ i j, x = .str i ∧ y = .str j ∧ Q (.bl (decide (i.cps.toList < j.cps.toList))) H) := by
  intro pins s σ H x y v u Q I rx ry h
  obtain ⟨i, j, rfl, rfl, q⟩ := h
  obtain ⟨t, rfl⟩ := rx
  obtain ⟨t', rfl⟩ := ry
  exact lt_str (fin_bl I q rfl)
/-- the one string within the other -/
theorem op_in_str : OpR X (compareOp .In) (fun x y H Q => ∃ i j, x = .str i ∧ y = .str j ∧ Q (.bl (!(Builtin.Str.occurrences j i 0 j.length 1).isEmpty)) H) := by
  intro pins s σ H x y v u Q I rx ry h
  obtain ⟨i, j, rfl, rfl, q⟩ := h
  obtain ⟨t, rfl⟩ := rx
  obtain ⟨t', rfl⟩ := ry
  exact in_str (fin_bl I q rfl)

/-- is None, is not None: the right side a value none -/
theorem op_isN : OpR X (compareOp .Is) (fun x y H Q => y = .non ∧ Q (.bl (decide (x = .non))) H) := by
  intro pins s σ H x y v u Q I rx ry h
  obtain ⟨rfl, q⟩ := h
  cases ry
  refine is_none_gen (fin_bl I q ?_)
  cases x <;> first
    | (cases rx; rfl)
    | (obtain ⟨t, rfl⟩ := rx; rfl)
theorem op_notN : OpR X (compareOp .IsNot) (fun x y H Q => y = .non ∧ Q (.bl (!decide (x = .non))) H) := by
  intro pins s σ H x y v u Q I rx ry h
  obtain ⟨rfl, q⟩ := h
  cases ry
  refine isnot_none_gen (fin_bl I q ?_)
  cases x <;> first
    | (cases rx; rfl)
    | (obtain ⟨t, rfl⟩ := rx; rfl)

theorem op_notin_str : OpR X (compareOp .NotIn) (fun x y H Q => ∃ i j, x = .str i ∧ y = .str j ∧ Q (.bl (!(!(Builtin.Str.occurrences j i 0 j.length 1).isEmpty))) H) := by
  intro pins s σ H x y v u Q I rx ry h
  obtain ⟨i, j, rfl, rfl, q⟩ := h
  obtain ⟨t, rfl⟩ := rx
  obtain ⟨t', rfl⟩ := ry
  exact notIn_str (fin_bl I q rfl)
/-- is, is not of two objects that are tracked lists or instances -/
def isObj : HO → Bool
  | .lst _ => true
  | .ins _ _ _ => true
  | _ => false
theorem obj_there {pins : List (Addr × Obj)} {s : Shared} {σ : St} {H : Hp} {a : Addr} {o : HO} (I : Inv X pins σ H s) (h : H a = some o) (p : isObj o = true) : ∃ ob, s.heap.get? a = some ob ∧ ob.cls ≠ .type "tuple" := by
  cases o with
  | lst xs =>
    obtain ⟨_, its, n, _, e⟩ : xs.length ≤ sizeLine ∧ ∃ (its : List Value) (n : Nat), Vals xs its ∧ s.heap.get? a = some { cls := .type "list", data := .seq its.toArray n } := I.hok a _ h
    exact ⟨_, e, (by show Value.type "list" ≠ .type "tuple"; decide +kernel)⟩
  | ins C dx fs =>
    have x := I.hok a _ h
    obtain ⟨_, _, _, e, _⟩ := x
    exact ⟨_, e, (by show Value.ref C ≠ .type "tuple"; exact fun z => by cases z)⟩
  | _ => exact absurd (show false = true from p) Bool.false_ne_true
theorem op_is_ref : OpR X (compareOp .Is) (fun x y H Q => ∃ a b oa ob, x = .ref a ∧ y = .ref b ∧ H a = some oa ∧ isObj oa = true ∧ H b = some ob ∧ isObj ob = true ∧ Q (.bl (decide (a = b))) H) := by
  intro pins s σ H x y v u Q I rx ry h
  obtain ⟨a, b, oa, ob, rfl, rfl, ha, pa, hb, pb, q⟩ := h
  cases rx
  cases ry
  obtain ⟨o1, e1, n1⟩ := obj_there I ha pa
  obtain ⟨o2, e2, _⟩ := obj_there I hb pb
  by_cases z : a = b
  · subst z
    exact wpAny_is_ref_self (fin_bl I q (by simp))
  · exact wpAny_is_ref_other z e1 e2 n1 (fin_bl I q (by simp [z]))
theorem op_isnot_ref : OpR X (compareOp .IsNot) (fun x y H Q => ∃ a b oa ob, x = .ref a ∧ y = .ref b ∧ H a = some oa ∧ isObj oa = true ∧ H b = some ob ∧ isObj ob = true ∧ Q (.bl (!decide (a = b))) H) := by
  intro pins s σ H x y v u Q I rx ry h
  obtain ⟨a, b, oa, ob, rfl, rfl, ha, pa, hb, pb, q⟩ := h
  cases rx
  cases ry
  obtain ⟨o1, e1, n1⟩ := obj_there I ha pa
  obtain ⟨o2, e2, _⟩ := obj_there I hb pb
  by_cases z : a = b
  · subst z
    exact wpAny_isNot_ref_self (fin_bl I q (by simp))
  · exact wpAny_isNot_ref_other z e1 e2 n1 (fin_bl I q (by simp [z]))

/-- two rules for one operation: by cases -/
theorem OpR.or {f : Value → Value → Sem Value} {r r' : R2} (h : OpR X f r) (h' : OpR X f r') : OpR X f (fun x y H Q => r x y H Q ∨ r' x y H Q) := by
  intro pins s σ H x y v u Q I rx ry q
  rcases q with q | q
  · exact h pins s σ H x y v u Q I rx ry q
  · exact h' pins s σ H x y v u Q I rx ry q

theorem nomark (b : Expr) {op : CmpOp} (h : op ≠ .In := by decide) (h2 : op ≠ .NotIn := by decide) : behindInMarks op b = false := by
  have e1 : (op == CmpOp.In) = false := by cases op <;> first | rfl | exact absurd rfl h
  have e2 : (op == CmpOp.NotIn) = false := by cases op <;> first | rfl | exact absurd rfl h2
  cases b <;> simp [behindInMarks, e1, e2]
/-- a comparison as a value; hm: nomark b, or (for in, not in) by with_unfolding_all rfl -/
theorem pe_cmpR {op : CmpOp} {r : R2} (ho : OpR X (compareOp op) r) (ha : PE X a ta) (hb : PE X b tb) (hm : behindInMarks op b = false) : PE X (.Compare a [op] [b] pos) (tOp r ta tb) := by
  intro pins s σ H Q I h
  exact wpAny_Compare1 (binT ha hb I h fun v u s2 x y H2 I2 rx ry q => ho pins s2 σ H2 x y v u Q I2 rx ry q) hm
/-- a reading of a value as a test -/
def tTest (t : TE) : TT := fun σ H Q => t σ H fun x H' => ∃ k, x = .bl k ∧ Q k H'
theorem pt_cmpR {op : CmpOp} {r : R2} (ho : OpR X (compareOp op) r) (ha : PE X a ta) (hb : PE X b tb) (hm : behindInMarks op b = false) : PT X (.Compare a [op] [b] pos) (tTest (tOp r ta tb)) := by
  intro pins s σ H Q I h
  refine wpAny_isTrue_Compare1 (thn (ha pins s σ H _ I h) fun v s1 ⟨x, H1, I1, r1, q1⟩ => thn (hb pins s1 σ H1 _ I1 q1) fun u s2 ⟨y, H2, I2, r2, q2⟩ =>
    thn (ho pins s2 σ H2 x y v u _ I2 r1 r2 q2) fun c s3 ⟨z, H3, I3, r3, k, e, q3⟩ => ?_) hm
  subst e
  cases r3
  exact wpAny_truthy_bool ⟨H3, I3, q3⟩
/-- a op1 b op2 c -/
def tChain (r r' : R2) (ta tb tc : TE) : TE := fun σ H Q => ta σ H fun x H1 => tb σ H1 fun y H2 => r x y H2 fun z H3 => ∃ k, z = .bl k ∧
  (if k = true then tc σ H3 fun w' H4 => r' y w' H4 Q else Q (.bl false) H3)
theorem pe_chain {op op' : CmpOp} {r r' : R2} (ho : OpR X (compareOp op) r) (ho' : OpR X (compareOp op') r') (ha : PE X a ta) (hb : PE X b tb) (hc : PE X c tc)
    (hm : lastMarks [op, op'] [b, c] = false := by with_unfolding_all rfl) : PE X (.Compare a [op, op'] [b, c] pos) (tChain r r' ta tb tc) := by
  intro pins s σ H Q I h
  refine Compare_chain (thn (ha pins s σ H _ I h) fun v s1 ⟨x, H1, I1, r1, q1⟩ => chain_link (thn (hb pins s1 σ H1 _ I1 q1) fun u s2 ⟨y, H2, I2, r2, q2⟩ =>
    thn (ho pins s2 σ H2 x y v u _ I2 r1 r2 q2) fun d s3 ⟨z, H3, I3, r3, k, e, q3⟩ => ?_)) hm
  subst e
  cases r3
  refine wpAny_truthy_bool ?_
  cases k with
  | false => exact ite_ff ⟨.bl false, H3, I3, rfl, q3⟩
  | true => exact ite_tt (chain_last (thn (hc pins s3 σ H3 _ I3 q3) fun w' s4 ⟨z', H4, I4, r4, q4⟩ => ho' pins s4 σ H4 y z' u w' Q I4 r2 r4 q4))
theorem pt_chain {op op' : CmpOp} {r r' : R2} (ho : OpR X (compareOp op) r) (ho' : OpR X (compareOp op') r') (ha : PE X a ta) (hb : PE X b tb) (hc : PE X c tc)
    (hm : lastMarks [op, op'] [b, c] = false := by with_unfolding_all rfl) : PT X (.Compare a [op, op'] [b, c] pos) (tTest (tChain r r' ta tb tc)) := by
  intro pins s σ H Q I h
  refine isTrue_chain (thn (ha pins s σ H _ I h) fun v s1 ⟨x, H1, I1, r1, q1⟩ => test_link (thn (hb pins s1 σ H1 _ I1 q1) fun u s2 ⟨y, H2, I2, r2, q2⟩ =>
    thn (ho pins s2 σ H2 x y v u _ I2 r1 r2 q2) fun d s3 ⟨z, H3, I3, r3, k, e, q3⟩ => ?_)) hm
  subst e
  cases r3
  refine wpAny_truthy_bool ?_
  cases k with
  | false =>
    obtain ⟨k', e', q'⟩ := q3
    cases e'
    exact ite_ff ⟨H3, I3, q'⟩
  | true =>
    refine ite_tt (test_last (thn (hc pins s3 σ H3 _ I3 q3) fun w' s4 ⟨z', H4, I4, r4, q4⟩ => thn (ho' pins s4 σ H4 y z' u w' _ I4 r2 r4 q4) fun d' s5 ⟨z2, H5, I5, r5, k2, e2, q5⟩ => ?_))
    subst e2
    cases r5
    exact wpAny_truthy_bool ⟨H5, I5, q5⟩

/-! ### truth -/
/-- a value's truth by the abstract heap -/
def TruV (K : PySem.W.Frag) (x : V) (H : Hp) (k : Bool) : Prop :=
  match x with
  | .non => k = false
  | .bl b => k = b
  | .int i => k = (i != 0)
  | .str y => y.length ≤ sizeLine ∧ k = ((y.length : Int) != 0)
  | .byt y => y.size ≤ sizeLine ∧ k = ((y.size : Int) != 0)
  | .ref p => (∃ xs, SqL K H p xs ∧ k = !xs.isEmpty) ∨ (∃ xs, SqT K H p xs ∧ k = !xs.isEmpty) ∨ ∃ kvs, H p = some (.dK kvs) ∧ k = !kvs.isEmpty
  | _ => False
theorem isEmpty_kv {κ : Type} {kvs : List (κ × V)} {vs : List (κ × Value)} (r : KV kvs vs) : (!vs.isEmpty) = !kvs.isEmpty := by
  cases r <;> rfl
theorem isEmpty_of {xs : List V} {its : List Value} (r : Vals xs its) : (!its.toArray.isEmpty) = !xs.isEmpty := by
  cases r <;> simp
theorem line63 : (sizeLine : Nat) < 2 ^ 63 := by rw [sizeLine_eq]; decide
theorem tru_ok : TruR X (fun x H Q => ∃ k, TruV X.K x H k ∧ Q k H) := by
  intro pins s σ H x v Q I rx h
  obtain ⟨k, e, q⟩ := h
  have hl := line63
  have hs : sizeLine = 16777216 := sizeLine_eq
  cases x with
  | non =>
    cases rx
    have e' : k = false := e
    subst e'
    exact truthy_none ⟨H, I, q⟩
  | bl b =>
    cases rx
    have e' : k = b := e
    subst e'
    exact wpAny_truthy_bool ⟨H, I, q⟩
  | int i =>
    obtain ⟨t, rfl⟩ := rx
    have e' : k = (i != 0) := e
    subst e'
    exact PySem.P.truthy_int ⟨H, I, q⟩
  | str y =>
    obtain ⟨t, rfl⟩ := rx
    obtain ⟨hy, e'⟩ : y.length ≤ sizeLine ∧ k = ((y.length : Int) != 0) := e
    subst e'
    exact PySem.P.truthy_str (by omega) ⟨H, I.tok _, q⟩
  | byt y =>
    obtain ⟨t, rfl⟩ := rx
    obtain ⟨hy, e'⟩ : y.size ≤ sizeLine ∧ k = ((y.size : Int) != 0) := e
    subst e'
    exact PySem.W.truthy_bytes (by omega) ⟨H, I.tok _, q⟩
  | ref p =>
    cases rx
    have e' : (∃ xs, SqL X.K H p xs ∧ k = !xs.isEmpty) ∨ (∃ xs, SqT X.K H p xs ∧ k = !xs.isEmpty) ∨ ∃ kvs, H p = some (.dK kvs) ∧ k = !kvs.isEmpty := e
    rcases e' with ⟨xs, hx, e'⟩ | ⟨xs, hx, e'⟩ | ⟨kvs, hx, e'⟩
    · subst e'
      obtain ⟨its, r, pl, hz⟩ := I.list hx
      have hlen := r.length
      exact wpAny_truthy_list pl.isList (by simp only [List.size_toArray]; omega) ⟨H, I.tok _, by rw [isEmpty_of r]; exact q⟩
    · subst e'
      obtain ⟨its, r, pl, hz⟩ := I.tuple hx
      have hlen := r.length
      exact truthy_tuple pl (by simp only [List.size_toArray]; omega) ⟨H, I.tok _, by rw [isEmpty_of r]; exact q⟩
    · subst e'
      obtain ⟨hz, hS, vs, r, m⟩ : kvs.length ≤ sizeLine ∧ (p == sysModules) = false ∧ ∃ vs, KV kvs vs ∧ s.heap.DictOf (mixKind X.prog X.w) p vs := I.hok p _ hx
      have hlen : kvs.length = vs.length := Paired.length r
      exact wpAny_truthy_dict hS m (by omega) ⟨H, I.tok _, by rw [isEmpty_kv r]; exact q⟩
  | _ => exact (show False from e).elim
/-- any expression whose test is its value's truth (a name, a call, a subscript, a field ..: he by fun _ => rfl) -/
theorem pt_truth (ha : PE X a ta) (he : ∀ whole, isTrue a X.env whole = (do let v ← whole; standAt a.pos; holding [v] (truthy v))) :
    PT X a (fun σ H Q => ta σ H fun x H' => ∃ k, TruV X.K x H' k ∧ Q k H') := by
  intro pins s σ H Q I h
  exact isTrue_plain (thn (ha pins s σ H _ I h) fun v s1 ⟨x, H1, I1, r1, q1⟩ => tru_ok pins s1 σ H1 x v Q I1 r1 q1) (he _)

/-! ### strs and bytes -/
theorem pe_byt {x : List UInt8} {k : Nat} : PE X (.Constant (.bytes x) k pos) (fun _ H Q => Q (.byt x.toArray) H) := fun _ _ _ H _ I h => PySem.W.Constant_bytes ⟨.byt x.toArray, H, I.tok _, ⟨_, rfl⟩, h⟩
theorem op_add_str : OpR X (binaryOp .Add) (fun x y H Q => ∃ i j, x = .str i ∧ y = .str j ∧ i.length + j.length ≤ sizeLine ∧ Q (.str (i ++ j)) H) := by
  intro pins s σ H x y v u Q I rx ry h
  obtain ⟨i, j, rfl, rfl, hz, q⟩ := h
  obtain ⟨t, rfl⟩ := rx
  obtain ⟨t', rfl⟩ := ry
  exact add_str (fun t' tk => ⟨.str (i ++ j), H, I.tok _, ⟨_, rfl⟩, q⟩) hz
theorem iop_add_str : OpR X (inplaceOp .Add) (fun x y H Q => ∃ i j, x = .str i ∧ y = .str j ∧ i.length + j.length ≤ sizeLine ∧ Q (.str (i ++ j)) H) := by
  intro pins s σ H x y v u Q I rx ry h
  obtain ⟨i, j, rfl, rfl, hz, q⟩ := h
  obtain ⟨t, rfl⟩ := rx
  obtain ⟨t', rfl⟩ := ry
  exact iadd_str (fun t' tk => ⟨.str (i ++ j), H, I.tok _, ⟨_, rfl⟩, q⟩) hz
theorem op_add_byt : OpR X (binaryOp .Add) (fun x y H Q => ∃ i j, x = .byt i ∧ y = .byt j ∧ i.size + j.size ≤ 16777216 ∧ Q (.byt (i ++ j)) H) := by
  intro pins s σ H x y v u Q I rx ry h
  obtain ⟨i, j, rfl, rfl, hz, q⟩ := h
  obtain ⟨t, rfl⟩ := rx
  obtain ⟨t', rfl⟩ := ry
  exact PySem.W.KBy.add_bytes hz (fun t' tk => ⟨.byt (i ++ j), H, I.tok _, ⟨_, rfl⟩, q⟩)

def PlainIxT (b : Expr) : Prop := ∀ o i, subscripted b false o i = operate [o, i] (getItem o i)
/-- s[i], 0 ≤ i < len -/
theorem pe_item_str (ha : PE X a ta) (hb : PE X b tb) (hs : PlainIxT b) :
    PE X (.Subscript a b pos) (tOp (fun x y H Q => ∃ z i c, x = .str z ∧ y = .int i ∧ 0 ≤ i ∧ i < 2 ^ 63 ∧ i < z.length ∧ z.cps[i.toNat]? = some c ∧ Q (.str ⟨#[c]⟩) H) ta tb) := by
  intro pins s σ H Q I h
  refine Subscript_ (binT ha hb I h fun v u s2 x y H2 I2 rx ry q => ?_)
  obtain ⟨z, i, c, rfl, rfl, h0, h63, h1, hc, q⟩ := q
  obtain ⟨t, rfl⟩ := rx
  obtain ⟨t', rfl⟩ := ry
  have e : seqIndex? i z.length = some i.toNat := PySem.StrLaws.seqIndex_nonneg h0 h1
  exact tail_any (typeIs_str s2 z t) slot_str_getitem.lookup (getItem_str (c := c) (by
    have e1 : decide (i < -(2 ^ 63 : Int)) = false := decide_eq_false (by omega)
    have e2 : decide (i ≥ 2 ^ 63) = false := decide_eq_false (by omega)
    rw [e1, e2] <;> rfl) (by rw [e]; exact hc) ⟨.str ⟨#[c]⟩, H2, I2.tok _, ⟨_, rfl⟩, q⟩) (hs _ _)
/-- b[i], 0 ≤ i < len -/
theorem pe_item_byt (ha : PE X a ta) (hb : PE X b tb) (hs : PlainIxT b) :
    PE X (.Subscript a b pos) (tOp (fun x y H Q => ∃ (z : List UInt8) (i : Int), x = .byt z.toArray ∧ y = .int i ∧ z.length ≤ sizeLine ∧ 0 ≤ i ∧ i < z.length ∧ Q (.int ((z.getD i.toNat 0).toNat : Nat)) H) ta tb) := by
  intro pins s σ H Q I h
  refine Subscript_ (binT ha hb I h fun v u s2 x y H2 I2 rx ry q => ?_)
  obtain ⟨z, i, rfl, rfl, hz, h0, h1, q⟩ := q
  obtain ⟨t, rfl⟩ := rx
  obtain ⟨t', rfl⟩ := ry
  have hl : sizeLine = 16777216 := sizeLine_eq
  exact tail_any (PySem.W.typeIs_bytes s2 z.toArray t) PySem.W.FB.slot_bytes_getitem.lookup (PySem.W.getItem_bytes (by omega) h0 h1 ⟨.int ((z.getD i.toNat 0).toNat : Nat), H2, I2.tok _, ⟨_, rfl⟩, q⟩) (hs _ _)

/-! ### scalar builtins, by CallR -/
theorem vals1 {x : V} {us : List Value} (r : Vals [x] us) : ∃ u, us = [u] ∧ RelV x u := by
  cases r with
  | cons r1 r2 => cases r2; exact ⟨_, rfl, r1⟩
theorem vals2 {x y : V} {us : List Value} (r : Vals [x, y] us) : ∃ u w', us = [u, w'] ∧ RelV x u ∧ RelV y w' := by
  cases r with
  | cons r1 r2 =>
    cases r2 with
    | cons r3 r4 => cases r4; exact ⟨_, _, rfl, r1, r3⟩
theorem call_abs : CallR X (.builtin "abs") (fun xs H Q => ∃ i, xs = [.int i] ∧ Q (.int (if i < 0 then -i else i)) H) := by
  intro pins s σ H xs us Q I r h
  obtain ⟨i, rfl, q⟩ := h
  obtain ⟨u, rfl, t, rfl⟩ := vals1 r
  exact call_abs_int fun u tk => ⟨.int (if i < 0 then -i else i), H, I.tok _, ⟨_, rfl⟩, q⟩
theorem call_max2 (hc : X.calm = true) : CallR X (.builtin "max") (fun xs H Q => ∃ i j, xs = [.int i, .int j] ∧ Q (.int (if j > i then j else i)) H) := by
  intro pins s σ H xs us Q I r h
  obtain ⟨i, j, rfl, q⟩ := h
  obtain ⟨u, w', rfl, ⟨t, rfl⟩, ⟨t', rfl⟩⟩ := vals2 r
  refine max_two_ints (I.ok.hd hc) fun h' tk k => ⟨_, H, I.kept k, ?_, q⟩
  by_cases hj : j > i
  · rw [if_pos hj, if_pos hj]; exact ⟨_, rfl⟩
  · rw [if_neg hj, if_neg hj]; exact ⟨_, rfl⟩
theorem call_min2 (hc : X.calm = true) : CallR X (.builtin "min") (fun xs H Q => ∃ i j, xs = [.int i, .int j] ∧ Q (.int (if j < i then j else i)) H) := by
  intro pins s σ H xs us Q I r h
  obtain ⟨i, j, rfl, q⟩ := h
  obtain ⟨u, w', rfl, ⟨t, rfl⟩, ⟨t', rfl⟩⟩ := vals2 r
  refine min_two_ints (I.ok.hd hc) fun h' tk k => ⟨_, H, I.kept k, ?_, q⟩
  by_cases hj : j < i
  · rw [if_pos hj, if_pos hj]; exact ⟨_, rfl⟩
  · rw [if_neg hj, if_neg hj]; exact ⟨_, rfl⟩
theorem call_int1 : CallR X (.type "int") (fun xs H Q => (∃ i, xs = [.int i] ∧ Q (.int i) H) ∨ ∃ k, xs = [.bl k] ∧ Q (.int (if k then 1 else 0)) H) := by
  intro pins s σ H xs us Q I r h
  rcases h with ⟨i, rfl, q⟩ | ⟨k, rfl, q⟩
  · obtain ⟨u, rfl, t, rfl⟩ := vals1 r
    exact call_int_int ⟨.int i, H, I, ⟨_, rfl⟩, q⟩
  · obtain ⟨u, rfl, r1⟩ := vals1 r
    cases r1
    exact call_int_bool ⟨.int (if k then 1 else 0), H, I.tok _, ⟨_, rfl⟩, q⟩
theorem call_bool1 : CallR X (.type "bool") (fun xs H Q => (∃ i, xs = [.int i] ∧ Q (.bl (i != 0)) H) ∨ ∃ k, xs = [.bl k] ∧ Q (.bl k) H) := by
  intro pins s σ H xs us Q I r h
  rcases h with ⟨i, rfl, q⟩ | ⟨k, rfl, q⟩
  · obtain ⟨u, rfl, t, rfl⟩ := vals1 r
    exact call_bool_int ⟨.bl (i != 0), H, I, rfl, q⟩
  · obtain ⟨u, rfl, r1⟩ := vals1 r
    cases r1
    exact call_bool_bool ⟨.bl k, H, I, rfl, q⟩
theorem call_str_int : CallR X (.type "str") (fun xs H Q => ∃ i, xs = [.int i] ∧ i.natAbs.log2 < 1920 ∧ Q (.str (toString i)) H) := by
  intro pins s σ H xs us Q I r h
  obtain ⟨i, rfl, hz, q⟩ := h
  obtain ⟨u, rfl, t, rfl⟩ := vals1 r
  exact PySem.P.str_of_int hz ⟨.str _, H, I.tok _, ⟨_, rfl⟩, q⟩
theorem call_ord : CallR X (.builtin "ord") (fun xs H Q => ∃ x, xs = [.str x] ∧ x.length = 1 ∧ Q (.int (x.cps.getD 0 0 : Nat)) H) := by
  intro pins s σ H xs us Q I r h
  obtain ⟨x, rfl, hz, q⟩ := h
  obtain ⟨u, rfl, t, rfl⟩ := vals1 r
  exact ord_of_one hz ⟨.int _, H, I.tok _, ⟨_, rfl⟩, q⟩
theorem call_chr : CallR X (.builtin "chr") (fun xs H Q => ∃ i, xs = [.int i] ∧ 0 ≤ i ∧ i ≤ 1114111 ∧ Q (.str ⟨#[i.toNat]⟩) H) := by
  intro pins s σ H xs us Q I r h
  obtain ⟨i, rfl, h0, h1, q⟩ := h
  obtain ⟨u, rfl, t, rfl⟩ := vals1 r
  exact chr_of_range h0 h1 ⟨.str _, H, I.tok _, ⟨_, rfl⟩, q⟩
/-- len of a str, a bytes, a list, a tuple -/
def LenV (K : PySem.W.Frag) (x : V) (H : Hp) (n : Nat) : Prop :=
  match x with
  | .str y => y.length ≤ sizeLine ∧ n = y.length
  | .byt y => y.size ≤ sizeLine ∧ n = y.size
  | .ref p => (∃ xs, SqL K H p xs ∧ n = xs.length) ∨ ∃ xs, SqT K H p xs ∧ n = xs.length
  | _ => False
theorem call_len : CallR X (.builtin "len") (fun xs H Q => ∃ x n, xs = [x] ∧ LenV X.K x H n ∧ Q (.int n) H) := by
  intro pins s σ H xs us Q I r h
  obtain ⟨x, n, rfl, e, q⟩ := h
  obtain ⟨u, rfl, rx⟩ := vals1 r
  have hl := line63
  have hs : sizeLine = 16777216 := sizeLine_eq
  cases x with
  | str y =>
    obtain ⟨t, rfl⟩ := rx
    obtain ⟨hy, e'⟩ : y.length ≤ sizeLine ∧ n = y.length := e
    subst e'
    exact len_str (by omega) ⟨.int _, H, I.tok _, ⟨_, rfl⟩, q⟩
  | byt y =>
    obtain ⟨t, rfl⟩ := rx
    obtain ⟨hy, e'⟩ : y.size ≤ sizeLine ∧ n = y.size := e
    subst e'
    exact PySem.W.len_bytes (by omega) ⟨.int _, H, I.tok _, ⟨_, rfl⟩, q⟩
  | ref p =>
    cases rx
    have e' : (∃ xs, SqL X.K H p xs ∧ n = xs.length) ∨ ∃ xs, SqT X.K H p xs ∧ n = xs.length := e
    rcases e' with ⟨xs, hx, e'⟩ | ⟨xs, hx, e'⟩
    · subst e'
      obtain ⟨its, r', pl, hz⟩ := I.list hx
      have hlen := r'.length
      exact Calls.call_len_list pl.isList (by simp only [List.size_toArray]; omega) ⟨.int xs.length, H, I.tok _, ⟨_, by simp only [List.size_toArray]; rw [hlen]⟩, q⟩
    · subst e'
      obtain ⟨its, r', pl, hz⟩ := I.tuple hx
      have hlen := r'.length
      exact len_tuple pl (by simp only [List.size_toArray]; omega) ⟨.int xs.length, H, I.tok _, ⟨_, by simp only [List.size_toArray]; rw [hlen]⟩, q⟩
  | _ => exact (show False from e).elim
/-- divmod: a new tuple -/
theorem call_divmod : CallR X (.builtin "divmod") (fun xs H Q => ∃ i j, xs = [.int i, .int j] ∧ CDiv i j ∧ ∀ p, H p = none → Q (.ref p) (upd H p (.tup [.int (i / j), .int (i % j)]))) := by
  intro pins s σ H xs us Q I r h
  obtain ⟨i, j, rfl, ⟨h1, h2⟩, q⟩ := h
  obtain ⟨u, w', rfl, ⟨t, rfl⟩, ⟨t', rfl⟩⟩ := vals2 r
  refine divmod_int (by omega) ?_ (.inl (PyProof.noPylong_small (by omega)))
  rw [Int.fdiv_eq_ediv_of_nonneg i (by omega), Int.fmod_eq_emod_of_nonneg i (by omega)]
  have hn : H s.heap.objs.size = none := I.hok.fresh (Nat.le_refl _)
  refine ⟨.ref s.heap.objs.size, _, ?_, rfl, q _ hn⟩
  refine I.laid (fun b o e => Heap.get?_push_of_some _ e) (Nat.le_refl _) ⟨by simp only [List.length_cons, List.length_nil]; rw [sizeLine_eq]; decide, [.int (i / j) s.toks, .int (i % j) (s.toks + 1)], .cons ⟨_, rfl⟩ (.cons ⟨_, rfl⟩ .nil), ?_⟩
  exact ⟨_, Heap.get?_push_size s.heap rfl, rfl, 0, rfl⟩
end
end L2

namespace L2
open PySem PySem.Spec PyProof.Rows

/-! ### an instance, its attributes a map -/
structure ObjM (h : Heap) (x dx C : Addr) (mA : Str → Option Value) : Prop where
  obj : h.get? x = some (PySem.W.instObj C dx)
  ns : h.Ns1 dx mA
  ne : dx ≠ x

theorem lookIn_ns {h : Heap} {dx : Addr} {mA : Str → Option Value} (n : h.Ns1 dx mA) : ∃ od, h.get? dx = some od ∧ ∀ name, PySem.W.lookIn name od = some (mA name) := by
  obtain ⟨o, es, ep, ho, hd, hk, _, hm⟩ := n
  refine ⟨o, ho, fun name => ?_⟩
  have e := hm name
  unfold nsFind findBy at e
  rw [← Array.find?_toList] at e
  unfold PySem.W.lookIn
  rw [hd]
  dsimp only
  split
  · rename_i y q
    rw [q] at e
    exact congrArg some e
  · rename_i q
    rw [q] at e
    have a : es.toList.any (·.refKey) = false := by
      rw [List.any_eq_false]
      intro y hy
      obtain ⟨z, t, hkey⟩ := hk y (Array.mem_toList_iff.mp hy)
      simp [DictEntry.refKey, hkey]
    have a' : ¬ es.toList.any (·.refKey) = true := by rw [a]; exact Bool.false_ne_true
    rw [if_neg a']
    exact congrArg some e

theorem ObjM.look {h : Heap} {x dx C : Addr} {mA : Str → Option Value} (I : ObjM h x dx C mA) : ∃ od, PySem.W.InstAt h x (PySem.W.instObj C dx) C (some od) ∧ ∀ name, PySem.W.lookIn name od = some (mA name) :=
  let ⟨od, ho, hl⟩ := lookIn_ns I.ns
  ⟨od, ⟨I.obj, rfl, rfl, ho⟩, hl⟩

section
variable {prog : Program} {w : World} {A : Around} {E : Value → Shared → Prop} {s : Shared} {K : PySem.W.Frag} {x dx C f : Addr} {mA : Str → Option Value} {name : Str} {v : Value}

theorem get_map {expr : Bool} {Q : Value → Shared → Prop} (X : K.In s.heap) (I : ObjM s.heap x dx C mA) (hg : PySem.W.plainGet K C name = true) (hh : PySem.W.hasDictIn K C = true)
    (ha : PySem.W.findIn K (.ref C) name = some none) (hv : mA name = some v) (hv' : PySem.W.handedIn v = true) (h : Q v { s with toks := s.toks + 1 }) :
    wpAny (model prog w) A (getAttr (.ref x) name expr) Q E s := by
  obtain ⟨od, J, hl⟩ := I.look
  exact PySem.W.get_value X J (PySem.W.plainGet_of hg).1 (PySem.W.findObj_own hh ha rfl (by rw [hl, hv])) hv' h

theorem get_const {expr : Bool} {a : Value} {Q : Value → Shared → Prop} (X : K.In s.heap) (I : ObjM s.heap x dx C mA) (hg : PySem.W.plainGet K C name = true) (hh : PySem.W.hasDictIn K C = true)
    (ha : PySem.W.findIn K (.ref C) name = some (some a)) (hn : PySem.W.specialIn K a "__get__" = some none) (hc : PySem.W.copiedNames.contains name = false) (hv : mA name = none) (hv' : PySem.W.handedIn a = true)
    (h : Q a { s with toks := s.toks + 1 }) : wpAny (model prog w) A (getAttr (.ref x) name expr) Q E s := by
  obtain ⟨od, J, hl⟩ := I.look
  exact PySem.W.get_value X J (PySem.W.plainGet_of hg).1 (PySem.W.findObj_cls hh ha hn hv' hc (by rw [hl, hv])) hv' h

theorem get_meth {pl : Sem Bool} {Q : Value × List Value → Shared → Prop} (X : K.In s.heap) (I : ObjM s.heap x dx C mA) (hg : PySem.W.plainGet K C name = true)
    (hf : PySem.W.findIn K (.ref C) name = some (some (.ref f))) (ht : PySem.W.isFn K (.ref f) = true) (hv : mA name = none) (h : Q (.ref f, [.ref x]) s) :
    wpAny (model prog w) A (getMethod (.ref x) name pl) Q E s := by
  obtain ⟨od, J, hl⟩ := I.look
  exact PySem.W.method_fn X J (PySem.W.plainGet_of hg).1 (PySem.W.plainGet_of hg).2 hf (beq_iff_eq.mp ht) (by show (PySem.W.lookIn name od).map (·.isSome) = some false; rw [hl, hv]; rfl) h

theorem set_map {ns : List Str} {Q : Unit → Shared → Prop} (X : K.In s.heap) (I : ObjM s.heap x dx C mA)
    (hs : PySem.W.findIn K (.ref C) "__setattr__" = some (some (.builtin "object.__setattr__"))) (hp : PySem.W.plainOver K C = true) (ht : PySem.W.takerIn K C name = some none) (hh : PySem.W.hasDictIn K C = true)
    (hw : PySem.Within mA ns) (hsz : ns.length ≤ sizeLine)
    (h : ∀ h', ObjM h' x dx C (fun y => if y = name then some v else mA y) → Heap.SameBut dx s.heap h' → Q () { s with heap := h', toks := s.toks + 2 }) :
    wpAny (model prog w) A (setAttr (.ref x) name v) Q E s := by
  obtain ⟨od, J, hl⟩ := I.look
  refine PySem.W.set_plain X J hs (PySem.W.osa_open (s := { s with toks := s.toks + 1 }) (r := none) X J hp ht fun b => ?_)
  obtain ⟨cd, hc, hd'⟩ := PySem.W.any_some hh
  have hx : s.heap.get? x = some ⟨.ref C, some dx, .plain, #[]⟩ := I.obj
  refine wpAny_bind (wpAny_pure (wpAny_bind (wpAny_bind (wpAny_loadPart hx (wpAny_bind (PySem.W.Looks.here (s := { s with toks := s.toks + 1 }) (PySem.W.looks_clsIn X hc) ?_))))))
  rw [hd']
  refine wpAny_pure (a := some dx) (wpAny_bind (wpAny_pure (wpAny_bind ?_)))
  refine wpAny_nsSet1 (s := { s with toks := s.toks + 1 }) I.ns fun h' hn2 hs2 => ?_
  obtain ⟨oD, esD, epD, hoD, hdD, hcD⟩ := hn2.count (PySem.Within.cons name v hw)
  refine wpAny_bind (wpAny_lookBehind hoD (by rw [hdD]; exact pastItsLine_dict (Nat.le_trans hcD (by rw [List.length_cons]; omega))) ?_)
  exact wpAny_pure (h _ ⟨(hs2.2 _ (Ne.symm I.ne)).trans I.obj, hn2, I.ne⟩ hs2)

/-- C(..): the dict at the heap's end, the instance behind it; then its __init__ -/
theorem make_map {R : Result → Shared → Prop} {vs : List Value} {kw : List (Str × Value)} (X : K.In s.heap) (hm : PySem.W.makesIn K C = true)
    (hi : PySem.W.findIn K (.ref C) "__init__" = some (some (.ref f))) (hf : PySem.W.typeIn K (.ref f) = some (.type "function"))
    (h : codeAny (model prog w) (A.under (.builtin "type.__call__" ⟨.ref C :: vs, kw⟩)) (.call (.ref f) ⟨.ref (s.heap.objs.size + 1) :: vs, kw⟩) (PySem.W.InitBack (s.heap.objs.size + 1) R)
      { s with heap := (s.heap.push PySem.W.emptyDict).push (PySem.W.instObj C s.heap.objs.size) }) :
    codeAny (model prog w) A (.call (.ref C) ⟨vs, kw⟩) R s := by
  obtain ⟨hh, g, d, t, os⟩ := s
  exact PySem.W.make_core (PySem.W.makes_of X hm) (PySem.W.looks_findIn X hi) (fun self => PySem.W.bind_fn X self hf) (.inl rfl) h
/-- C() where there is no __init__ but object's -/
theorem make_map0 {R : Result → Shared → Prop} (X : K.In s.heap) (hm : PySem.W.makesIn K C = true)
    (hi : PySem.W.findIn K (.ref C) "__init__" = some (some (.builtin "object.__init__")))
    (hb : ∀ self, PySem.W.Looks (model prog w) s.heap (bindSpecial (.builtin "object.__init__") self) (.builtin "object.__init__", [self]))
    (h : codeAny (model prog w) (A.under (.builtin "type.__call__" ⟨[.ref C], []⟩)) (.call (.builtin "object.__init__") ⟨[.ref (s.heap.objs.size + 1)], []⟩) (PySem.W.InitBack (s.heap.objs.size + 1) R)
      { s with heap := (s.heap.push PySem.W.emptyDict).push (PySem.W.instObj C s.heap.objs.size) }) :
    codeAny (model prog w) A (.call (.ref C) ⟨[], []⟩) R s := by
  obtain ⟨hh, g, d, t, os⟩ := s
  exact PySem.W.make_core (PySem.W.makes_of X hm) (PySem.W.looks_findIn X hi) hb (.inr ⟨rfl, rfl⟩) h
end

/-! ### the attributes as a list of pairs -/
def putF (f : Str) (v : V) : List (Str × V) → List (Str × V)
  | [] => [(f, v)]
  | (g, x) :: r => if g = f then (g, v) :: r else (g, x) :: putF f v r
theorem lookup_putF (f g : Str) (v : V) : ∀ fs : List (Str × V), (putF f v fs).lookup g = if g = f then some v else fs.lookup g
  | [] => by
    show List.lookup g [(f, v)] = _
    by_cases h : g = f
    · have hb : (g == f) = true := beq_iff_eq.mpr h
      simp only [List.lookup, hb, if_pos h]
    · have hb : (g == f) = false := beq_eq_false_iff_ne.mpr h
      simp only [List.lookup, hb, if_neg h]
  | (k, x) :: r => by
    have ih := lookup_putF f g v r
    rw [show putF f v ((k, x) :: r) = (if k = f then (k, v) :: r else (k, x) :: putF f v r) from rfl]
    by_cases hk : k = f
    · rw [if_pos hk]
      by_cases h : g = k
      · have hb : (g == k) = true := beq_iff_eq.mpr h
        simp only [List.lookup, hb, if_pos (h.trans hk)]
      · have hb : (g == k) = false := beq_eq_false_iff_ne.mpr h
        simp only [List.lookup, hb, if_neg (fun e : g = f => h (e.trans hk.symm))]
    · rw [if_neg hk]
      by_cases h : g = k
      · have hb : (g == k) = true := beq_iff_eq.mpr h
        simp only [List.lookup, hb, if_neg (fun e : g = f => hk (h.symm.trans e))]
      · have hb : (g == k) = false := beq_eq_false_iff_ne.mpr h
        simp only [List.lookup, hb]
        exact ih
theorem keys_putF (f : Str) (v : V) : ∀ fs : List (Str × V), f ∈ (putF f v fs).map (·.1) ∧ ∀ g, g ∈ fs.map (·.1) → g ∈ (putF f v fs).map (·.1)
  | [] => ⟨by simp [putF], fun g h => by simp at h⟩
  | (k, x) :: r => by
    obtain ⟨i1, i2⟩ := keys_putF f v r
    rw [show putF f v ((k, x) :: r) = (if k = f then (k, v) :: r else (k, x) :: putF f v r) from rfl]
    by_cases hk : k = f
    · rw [if_pos hk]
      subst hk
      exact ⟨by simp, fun g h => by simpa using h⟩
    · rw [if_neg hk]
      refine ⟨?_, fun g h => ?_⟩
      · rw [List.map_cons]
        exact List.mem_cons_of_mem _ i1
      · rw [List.map_cons] at h ⊢
        rcases List.mem_cons.mp h with e | e
        · exact List.mem_cons.mpr (.inl e)
        · exact List.mem_cons_of_mem _ (i2 g e)
theorem length_putF (f : Str) (v : V) : ∀ fs : List (Str × V), (putF f v fs).length ≤ fs.length + 1
  | [] => by simp [putF]
  | (k, x) :: r => by
    have ih := length_putF f v r
    rw [show putF f v ((k, x) :: r) = (if k = f then (k, v) :: r else (k, x) :: putF f v r) from rfl]
    by_cases hk : k = f
    · rw [if_pos hk, List.length_cons, List.length_cons]; omega
    · rw [if_neg hk, List.length_cons, List.length_cons]; omega

theorem RelO.some_of {v : V} {o : Option Value} (r : RelO (some v) o) : ∃ u, o = some u ∧ RelV v u := by
  cases o with
  | none => exact (show False from r).elim
  | some u => exact ⟨u, rfl, r⟩
theorem RelO.none_of {o : Option Value} (r : RelO none o) : o = none := by
  cases o with
  | none => rfl
  | some u => exact (show False from r).elim
theorem handed_of {v : V} {u : Value} (r : RelV v u) : PySem.W.handedIn u = true := by
  cases v with
  | non => cases (show u = Value.none from r); rfl
  | bl b => cases (show u = Value.bool b from r); rfl
  | int i => obtain ⟨t, e⟩ := (show ∃ t, u = Value.int i t from r); cases e; rfl
  | str x => obtain ⟨t, e⟩ := (show ∃ t, u = Value.str x t from r); cases e; rfl
  | byt b => obtain ⟨t, e⟩ := (show ∃ t, u = Value.bytes b t from r); cases e; rfl
  | flt b => obtain ⟨t, e⟩ := (show ∃ t, u = Value.float b t from r); cases e; rfl
  | ref a => cases (show u = Value.ref a from r); rfl
  | ty n => cases (show u = Value.type n from r); rfl

section
variable {P : Program} {w : World} {H H' : Hp} {h h' : Heap} {a C dx : Addr} {fs fs' : List (Str × V)}
theorem ins_get (hok : HOk P w H h) (e : H a = some (.ins C dx fs)) : ∃ mA, ObjM h a dx C mA ∧ (∀ f, RelO (fs.lookup f) (mA f)) ∧ PySem.Within mA (fs.map (·.1)) ∧ fs.length ≤ 1000 ∧ H dx = some (.own a) := by
  obtain ⟨d, z, ne, ob, mA, n, r, q⟩ := (show ObjOk P w H h a (.ins C dx fs) from hok a _ e)
  exact ⟨mA, ⟨ob, n, ne⟩, r, q, z, d⟩
end

/-! ### what of the text a class must have -/
structure Cls (K : PySem.W.Frag) (C : Addr) : Prop where
  pg : PySem.W.plainGet K C Str.empty = true
  hd : PySem.W.hasDictIn K C = true
  po : PySem.W.plainOver K C = true
  sa : PySem.W.findIn K (.ref C) "__setattr__" = some (some (.builtin "object.__setattr__"))
theorem Cls.get {K : PySem.W.Frag} {C : Addr} (c : Cls K C) (f : Str) : PySem.W.plainGet K C f = true := c.pg
/-- no class of it has the name -/
def NoAttr (K : PySem.W.Frag) (C : Addr) (f : Str) : Prop := PySem.W.findIn K (.ref C) f = some none
theorem NoAttr.taker {K : PySem.W.Frag} {C : Addr} {f : Str} (n : NoAttr K C f) : PySem.W.takerIn K C f = some none := by
  unfold PySem.W.takerIn
  rw [show PySem.W.findIn K (.ref C) f = some none from n]
  rfl
/-- a constant of the class -/
structure Con (K : PySem.W.Frag) (C : Addr) (f : Str) (v : V) (u : Value) : Prop where
  at_ : PySem.W.findIn K (.ref C) f = some (some u)
  rel : RelV v u
  get : PySem.W.specialIn K u "__get__" = some none
  cp : PySem.W.copiedNames.contains f = false
/-- a method: a plain def of the class or of one above it -/
structure Meth (K : PySem.W.Frag) (C : Addr) (m : Str) (f : Addr) : Prop where
  at_ : PySem.W.findIn K (.ref C) m = some (some (.ref f))
  fn : PySem.W.isFn K (.ref f) = true
  kp : PySem.W.keepIn K (.ref f) = true

section
variable {X : Cx} {pins : List (Addr × Obj)} {σ : St} {H : Hp} {s : Shared} {a C dx : Addr} {fs : List (Str × V)} {f : Str} {v : V} {A : Around} {E : Value → Shared → Prop}

theorem getattr_ok {b : Bool} {Q : Value → Shared → Prop} (I : Inv X pins σ H s) (e : H a = some (.ins C dx fs)) (c : Cls X.K C) (n : NoAttr X.K C f) (l : fs.lookup f = some v)
    (h : ∀ u s', Inv X pins σ H s' → RelV v u → Q u s') : wpAny (model X.prog X.w) A (getAttr (.ref a) f b) Q E s := by
  obtain ⟨mA, O, r, _, _, _⟩ := ins_get I.hok e
  obtain ⟨u, hu, ru⟩ := RelO.some_of (v := v) (o := mA f) (by rw [← l]; exact r f)
  exact get_map I.kIn O (c.get f) c.hd n hu (handed_of ru) (h u _ (I.tok _) ru)

theorem getcon_ok {b : Bool} {u : Value} {Q : Value → Shared → Prop} (I : Inv X pins σ H s) (e : H a = some (.ins C dx fs)) (c : Cls X.K C) (k : Con X.K C f v u) (l : fs.lookup f = none)
    (h : ∀ s', Inv X pins σ H s' → Q u s') : wpAny (model X.prog X.w) A (getAttr (.ref a) f b) Q E s := by
  obtain ⟨mA, O, r, _, _, _⟩ := ins_get I.hok e
  have hn : mA f = none := RelO.none_of (by rw [← l]; exact r f)
  exact get_const I.kIn O (c.get f) c.hd k.at_ k.get k.cp hn (handed_of k.rel) (h _ (I.tok _))

theorem getmeth_ok {m : Str} {g : Addr} {pl : Sem Bool} {Q : Value × List Value → Shared → Prop} (I : Inv X pins σ H s) (e : H a = some (.ins C dx fs)) (c : Cls X.K C) (k : Meth X.K C m g) (l : fs.lookup m = none)
    (h : Q (.ref g, [.ref a]) s) : wpAny (model X.prog X.w) A (getMethod (.ref a) m pl) Q E s := by
  obtain ⟨mA, O, r, _, _, _⟩ := ins_get I.hok e
  have hn : mA m = none := RelO.none_of (by rw [← l]; exact r m)
  exact get_meth I.kIn O (c.get m) k.at_ k.fn hn h

theorem setattr_ok {y : V} {u : Value} {Q : Unit → Shared → Prop} (I : Inv X pins σ H s) (e : H a = some (.ins C dx fs)) (c : Cls X.K C) (n : NoAttr X.K C f) (hl : fs.length < 1000) (ry : RelV y u)
    (h : ∀ s', Inv X pins σ (upd H a (.ins C dx (putF f y fs))) s' → Q () s') : wpAny (model X.prog X.w) A (setAttr (.ref a) f u) Q E s := by
  obtain ⟨mA, O, r, wi, _, ho⟩ := ins_get I.hok e
  have hz : (fs.map (·.1)).length ≤ sizeLine := by rw [List.length_map, sizeLine_eq]; omega
  refine set_map I.kIn O c.sa c.po n.taker c.hd wi hz fun h' O' sb => h _ ?_
  have hd : ∃ o, h'.get? dx = some o := let ⟨o, _, _, e', _⟩ := O'.ns; ⟨o, e'⟩
  refine I.write (x := a) (e := dx) (by rw [e]; exact True.intro) (.inr ho) (fun b q hb z => (sb.2 b hb).trans z) hd ?_
  refine ⟨by rw [upd_ne O.ne]; exact ho, ?_, O.ne, O'.obj, _, O'.ns, fun g => ?_, fun g hg => ?_⟩
  · have := length_putF f y fs; omega
  · show RelO ((putF f y fs).lookup g) (if g = f then some u else mA g)
    rw [lookup_putF]
    by_cases q : g = f
    · rw [if_pos q, if_pos q]; exact ry
    · rw [if_neg q, if_neg q]; exact r g
  · by_cases q : g = f
    · rw [q]; exact (keys_putF f y fs).1
    · refine (keys_putF f y fs).2 g (wi g fun z => hg ?_)
      show (if g = f then some u else mA g) = none
      rw [if_neg q]; exact z

/-- a new instance, tracked, without attributes -/
theorem Inv.made (I : Inv X pins σ H s) : Inv X pins σ (upd (upd H s.heap.objs.size (.own (s.heap.objs.size + 1))) (s.heap.objs.size + 1) (.ins C s.heap.objs.size []))
    { s with heap := (s.heap.push PySem.W.emptyDict).push (PySem.W.instObj C s.heap.objs.size) } := by
  have e1 : (s.heap.push PySem.W.emptyDict).get? s.heap.objs.size = some PySem.W.emptyDict := Heap.get?_push_size s.heap rfl
  have e2 : ((s.heap.push PySem.W.emptyDict).push (PySem.W.instObj C s.heap.objs.size)).get? (s.heap.objs.size + 1) = some (PySem.W.instObj C s.heap.objs.size) := by
    have := Heap.get?_push_size (s.heap.push PySem.W.emptyDict) (o := PySem.W.instObj C s.heap.objs.size) rfl
    rwa [Heap.size_push] at this
  have e3 : (s.heap.push PySem.W.emptyDict).Ns s.heap.objs.size (fun _ => none) := ⟨PySem.W.emptyDict, #[], _, e1, rfl, (fun e he => absurd he (by simp)), fun _ => rfl⟩
  have I1 := I.laid (a := s.heap.objs.size) (o := .own (s.heap.objs.size + 1)) (h' := s.heap.push PySem.W.emptyDict) (t' := s.toks) (fun b u q => Heap.get?_push_of_some _ q) (Nat.le_refl _) ⟨_, e1⟩
  refine I1.laid (a := s.heap.objs.size + 1) (o := .ins C s.heap.objs.size []) (t' := s.toks) (fun b u q => Heap.get?_push_of_some _ q) (Nat.le_of_eq (Heap.size_push _ _)) ?_
  have ne : s.heap.objs.size ≠ s.heap.objs.size + 1 := Nat.ne_of_lt (Nat.lt_succ_self _)
  refine ⟨by rw [upd_ne ne, upd_same], Nat.zero_le _, ne, e2, fun _ => none, (Heap.Ns1.of_empty e3).at fun o q => Heap.get?_push_of_some _ q, fun _ => True.intro, fun y hy => absurd rfl hy⟩

/-- e.f where nothing but the object is asked: through attributeBase (super) and the last hold -/
theorem attr_of {prog : Program} {w : World} {env : Env} {e : Expr} {f : Str} {pos : Pos} {s : Shared} {Q : Value → Shared → Prop} (hb : attributeBase e f env (eval e env) = eval e env)
    (h : wpAny (model prog w) A (eval e env) (fun o s₁ => wpAny (model prog w) A (getAttr o f true) Q E s₁) E s) : wpAny (model prog w) A (eval (.Attribute e f pos) env) Q E s :=
  Attribute_any_ h (by rw [arm_eval_Attribute, hb])
end

/-! ### readings and rules -/
/-- e.f, an attribute of the instance -/
def tFld (K : PySem.W.Frag) (ta : TE) (f : Str) : TE := fun σ H Q => ta σ H fun x H1 => ∃ a C dx fs v, x = .ref a ∧ H1 a = some (.ins C dx fs) ∧ Cls K C ∧ NoAttr K C f ∧ fs.lookup f = some v ∧ Q v H1
/-- e.f, a constant of the class -/
def tCon (K : PySem.W.Frag) (ta : TE) (f : Str) : TE := fun σ H Q => ta σ H fun x H1 => ∃ a C dx fs v u, x = .ref a ∧ H1 a = some (.ins C dx fs) ∧ Cls K C ∧ Con K C f v u ∧ fs.lookup f = none ∧ Q v H1
/-- e.f = value -/
def sFld (K : PySem.W.Frag) (ta tv : TE) (f : Str) : TS := fun D σ H => tv σ H fun y H1 => ta σ H1 fun x H2 => ∃ a C dx fs, x = .ref a ∧ H2 a = some (.ins C dx fs) ∧ Cls K C ∧ NoAttr K C f ∧ fs.length < 1000 ∧
  D.nx σ (upd H2 a (.ins C dx (putF f y fs)))
/-- an augmented operator on two values -/
def InOp (X : Cx) (op : Operator) (rd : V → V → Hp → VK → Prop) : Prop :=
  ∀ (pins : List (Addr × Obj)) (s : Shared) (σ : St) (H : Hp) (x y : V) (u v : Value) (Q : VK), Inv X pins σ H s → RelV x u → RelV y v → rd x y H Q → wpAny (model X.prog X.w) X.A (inplaceOp op u v) (EP X pins σ Q) X.xe s
/-- e.f op= value -/
def sFldAug (K : PySem.W.Frag) (ta tv : TE) (rd : V → V → Hp → VK → Prop) (f : Str) : TS := fun D σ H => ta σ H fun x H1 => ∃ a C dx fs v, x = .ref a ∧ H1 a = some (.ins C dx fs) ∧ Cls K C ∧ NoAttr K C f ∧ fs.lookup f = some v ∧
  tv σ H1 fun y H2 => rd v y H2 fun z H3 => ∃ dx' fs', H3 a = some (.ins C dx' fs') ∧ fs'.length < 1000 ∧ D.nx σ (upd H3 a (.ins C dx' (putF f z fs')))

section
variable {X : Cx} {o e value : Expr} {f : Str} {pos pos' tpos : Pos} {ta tv : TE}
theorem pe_fld (he : PE X e ta) (hb : attributeBase e f X.env (eval e X.env) = eval e X.env) : PE X (.Attribute e f pos) (tFld X.K ta f) := by
  intro pins s σ H Q I h
  refine attr_of hb (thn (he pins s σ H _ I h) fun u s1 ⟨x, H1, I1, rx, a, C, dx, fs, v, ex, ea, c, n, l, q⟩ => ?_)
  subst ex
  obtain rfl : u = Value.ref a := rx
  exact getattr_ok I1 ea c n l fun u' s2 I2 ru => ⟨v, H1, I2, ru, q⟩
theorem pe_con (he : PE X e ta) (hb : attributeBase e f X.env (eval e X.env) = eval e X.env) : PE X (.Attribute e f pos) (tCon X.K ta f) := by
  intro pins s σ H Q I h
  refine attr_of hb (thn (he pins s σ H _ I h) fun u s1 ⟨x, H1, I1, rx, a, C, dx, fs, v, u0, ex, ea, c, k, l, q⟩ => ?_)
  subst ex
  obtain rfl : u = Value.ref a := rx
  exact getcon_ok I1 ea c k l fun s2 I2 => ⟨v, H1, I2, k.rel, q⟩
theorem ps_fld (ha : PE X o ta) (hv : PE X value tv) (hs : swapsWith value (some (.Attribute o f pos')) pos.line X.env = pure false) : PS X (.Assign [.Attribute o f pos'] value pos) (sFld X.K ta tv f) := by
  intro pins s σ H D I h
  refine plainObj_wpAny_Assign_Attribute (thn (hv pins s σ H _ I h) fun u s1 ⟨y, H1, I1, ry, q⟩ => thn (ha pins s1 σ H1 _ I1 q) fun ov s2 ⟨x, H2, I2, rx, a, C, dx, fs, ex, ea, c, n, l, q2⟩ => ?_) hs
  subst ex
  obtain rfl : ov = Value.ref a := rx
  exact setattr_ok I2 ea c n l ry fun s3 I3 => ⟨σ, _, I3, q2⟩
theorem ps_fldaug {op : Operator} {rd : V → V → Hp → VK → Prop} (ha : PE X o ta) (hv : PE X value tv) (hop : InOp X op rd) : PS X (.AugAssign (.Attribute o f tpos) op value pos) (sFldAug X.K ta tv rd f) := by
  intro pins s σ H D I h
  refine wpAny_AugAssign_AttributeAny (thn (ha pins s σ H _ I h) fun ov s1 ⟨x, H1, I1, rx, a, C, dx, fs, v, ex, ea, c, n, l, q⟩ => ?_)
  subst ex
  obtain rfl : ov = Value.ref a := rx
  refine getattr_ok I1 ea c n l fun u s2 I2 ru => thn (hv pins s2 σ H1 _ I2 q) fun w3 s3 ⟨y, H2, I3, ry, q3⟩ => thn (hop pins s3 σ H2 v y u w3 _ I3 ru ry q3) fun w4 s4 ⟨z, H3, I4, rz, dx', fs', ea', l', q4⟩ => ?_
  exact setattr_ok I4 ea' c n l' rz fun s5 I5 => ⟨σ, _, I5, q4⟩
def rAdd : V → V → Hp → VK → Prop := fun x y H Q => ∃ i j, x = .int i ∧ y = .int j ∧ Q (.int (i + j)) H
def rSub : V → V → Hp → VK → Prop := fun x y H Q => ∃ i j, x = .int i ∧ y = .int j ∧ Q (.int (i - j)) H
theorem in_add : InOp X .Add rAdd := by
  rintro pins s σ H x y u v Q I rx ry ⟨i, j, rfl, rfl, q⟩
  obtain ⟨t, rfl⟩ := (show ∃ t, u = Value.int i t from rx)
  obtain ⟨t', rfl⟩ := (show ∃ t', v = Value.int j t' from ry)
  exact PyProof.Rows.iadd_int ⟨.int (i + j), H, I.tok _, ⟨_, rfl⟩, q⟩
theorem in_sub : InOp X .Sub rSub := by
  rintro pins s σ H x y u v Q I rx ry ⟨i, j, rfl, rfl, q⟩
  obtain ⟨t, rfl⟩ := (show ∃ t, u = Value.int i t from rx)
  obtain ⟨t', rfl⟩ := (show ∃ t', v = Value.int j t' from ry)
  exact PyProof.Rows.isub_int ⟨.int (i - j), H, I.tok _, ⟨_, rfl⟩, q⟩

/-- what is between an instance and its method: the tree of a method call -/
theorem methcall_of {pl : Sem Bool} {m : Str} {apos : Pos} {args : List Expr} {pins : List (Addr × Obj)} {s : Shared} {σ : St} {H : Hp} {Q : Value → Shared → Prop} {te : TE} (he : PE X e te) (I : Inv X pins σ H s)
    (h : te σ H fun x H1 => ∃ a C dx fs g, x = .ref a ∧ H1 a = some (.ins C dx fs) ∧ Cls X.K C ∧ Meth X.K C m g ∧ fs.lookup m = none ∧
      ∀ s1, Inv X pins σ H1 s1 → wpAny (model X.prog X.w) X.A (callWith pos (.ref g) [.ref a] (backTo pos (starEach args X.env)) (backToKw pos (keywordEach [] X.env))) Q X.xe s1)
    (ht : eval (.Call (.Attribute e m apos) args [] pos) X.env = (do
      let ov ← eval e X.env
      standAt apos.atName
      let (f, first) ← holding [ov] (getMethod ov m pl)
      callWith pos f first (backTo pos (starEach args X.env)) (backToKw pos (keywordEach [] X.env)))) :
    wpAny (model X.prog X.w) X.A (eval (.Call (.Attribute e m apos) args [] pos) X.env) Q X.xe s := by
  refine PySem.W.methodCall_KW (pl := pl) (thn (he pins s σ H _ I h) fun u s1 ⟨x, H1, I1, rx, a, C, dx, fs, g, ex, ea, c, k, l, q⟩ => ?_) ht
  subst ex
  obtain rfl : u = Value.ref a := rx
  exact getmeth_ok I1 ea c k l (q s1 I1)
end

/-! ### isinstance -/
section
variable {X : Cx} {pins : List (Addr × Obj)} {σ : St} {H : Hp} {s : Shared} {A : Around} {E : Value → Shared → Prop} {Q : Value → Shared → Prop} {c : Value} {b : Bool}
/-- the type of a value, as the fragment's deciders take it; for an instance its class -/
inductive TyOf (K : PySem.W.Frag) (H : Hp) : V → Value → Prop where
  | non : TyOf K H .non (.type "NoneType")
  | bl (x : Bool) : TyOf K H (.bl x) (.type "bool")
  | int (i : Int) : TyOf K H (.int i) (.type "int")
  | str (x : Str) : TyOf K H (.str x) (.type "str")
  | flt (x : UInt64) : TyOf K H (.flt x) (.type "float")
  | lst {a : Addr} {xs : List V} (e : H a = some (.lst xs)) : TyOf K H (.ref a) (.type "list")
  | frz {a : Addr} {o : Obj} {xs : List V} (e : H a = some (.frz o (.lst xs))) : TyOf K H (.ref a) (.type "list")
  | tup {a : Addr} {xs : List V} (e : H a = some (.tup xs)) : TyOf K H (.ref a) (.type "tuple")
  | dK {a : Addr} {kvs : List (Key × V)} (e : H a = some (.dK kvs)) : TyOf K H (.ref a) (.type "dict")
  | dT {a : Addr} {kvs : List (List Key × V)} (e : H a = some (.dT kvs)) : TyOf K H (.ref a) (.type "dict")
  | ins {a C dx : Addr} {fs : List (Str × V)} (e : H a = some (.ins C dx fs)) (cl : Cls K C) (ha : PySem.W.findIn K (.ref C) "__class__" = some (some (.builtin "object.__class__")))
      (hn : PySem.W.specialIn K (.builtin "object.__class__") "__get__" = some (some (.builtin "getset_descriptor.__get__"))) (htk : PySem.W.takesIn K (.builtin "object.__class__") = some true)
      (hm : PySem.W.mroIn K C (.type "object") = some true) : TyOf K H (.ref a) (.ref C)
/-- isinstance(x, c) for one class c, a built-in or an own one: kitOne's answer -/
theorem isinst_ok {x : V} {u t : Value} (I : Inv X pins σ H s) (rx : RelV x u) (ty : TyOf X.K H x t) (e : PySem.W.kitOne X.K t c = some b) (h : ∀ tk, Q (.bool b) { s with toks := tk }) :
    wpAny (model X.prog X.w) A (call (.builtin "isinstance") [u, c]) Q E s := by
  cases ty with
  | non => cases (show u = Value.none from rx); exact PySem.W.kia_one PySem.W.kitx_none I.kIn True.intro e (fun z => nomatch z) h
  | bl y => cases (show u = Value.bool y from rx); exact PySem.W.kia_one PySem.W.kitx_bool I.kIn True.intro e (fun z => nomatch z) h
  | int i => obtain ⟨t, q⟩ := (show ∃ t, u = Value.int i t from rx); cases q; exact PySem.W.kia_one PySem.W.kitx_int I.kIn True.intro e (fun z => nomatch z) h
  | str y => obtain ⟨t, q⟩ := (show ∃ t, u = Value.str y t from rx); cases q; exact PySem.W.kia_one PySem.W.kitx_str I.kIn True.intro e (fun z => nomatch z) h
  | flt y => obtain ⟨t, q⟩ := (show ∃ t, u = Value.float y t from rx); cases q; exact PySem.W.kia_one PySem.W.kitx_float I.kIn True.intro e (fun z => nomatch z) h
  | @lst a xs ea =>
    cases (show u = Value.ref a from rx)
    obtain ⟨_, _, n, _, h1⟩ := (show ObjOk X.prog X.w H s.heap a (.lst xs) from I.hok a _ ea)
    exact PySem.W.kia_one PySem.W.kitx_list I.kIn ⟨_, h1, rfl⟩ e (fun z => nomatch z) h
  | @frz a ob xs ea =>
    cases (show u = Value.ref a from rx)
    obtain ⟨_, _, _, n, _, h1⟩ := (show ObjOk X.prog X.w H s.heap a (.frz ob (.lst xs)) from I.hok a _ ea)
    exact PySem.W.kia_one PySem.W.kitx_list I.kIn ⟨_, h1, rfl⟩ e (fun z => nomatch z) h
  | @tup a xs ea =>
    cases (show u = Value.ref a from rx)
    obtain ⟨_, _, _, p⟩ := (show ObjOk X.prog X.w H s.heap a (.tup xs) from I.hok a _ ea)
    obtain ⟨o, h1, h2, _⟩ := p
    exact PySem.W.kia_one PySem.W.kitx_tuple I.kIn ⟨o, h1, h2⟩ e (fun z => nomatch z) h
  | @dK a kvs ea =>
    cases (show u = Value.ref a from rx)
    obtain ⟨_, _, vs, _, p⟩ := (show ObjOk X.prog X.w H s.heap a (.dK kvs) from I.hok a _ ea)
    obtain ⟨o, es, ep, h1, h2, _⟩ := p
    exact PySem.W.kia_one PySem.W.kitx_dict I.kIn ⟨o, h1, h2.1⟩ e (fun z => nomatch z) h
  | @dT a kvs ea =>
    cases (show u = Value.ref a from rx)
    obtain ⟨_, _, xs, _, o, es, ep, h1, h2, _⟩ := (show ObjOk X.prog X.w H s.heap a (.dT kvs) from I.hok a _ ea)
    exact PySem.W.kia_one PySem.W.kitx_dict I.kIn ⟨o, h1, h2.1⟩ e (fun z => nomatch z) h
  | @ins a C dx fs ea cl ha hn htk hm =>
    cases (show u = Value.ref a from rx)
    obtain ⟨mA, O, _⟩ := ins_get I.hok ea
    obtain ⟨od, J, _⟩ := O.look
    exact PySem.W.kia_one (PySem.W.kitx_own (cl.get _) cl.hd ha hn htk hm) I.kIn J e (fun z => nomatch z) h
end
end L2

namespace L2
open PySem PySem.Spec PyProof.Rows

/-! ### room -/
structure Room (k : Nat) (A : Around) : Prop where
  hd : A.handled = none
  dp : A.depth + 3 * k + 5 < recursionLimit
  un : A.units + 16 * k + 200 < cLine
theorem Room.mono {j k : Nat} {A : Around} (r : Room k A) (h : j ≤ k) : Room j A := ⟨r.hd, by have := r.dp; omega, by have := r.un; omega⟩
theorem Room.deeper {k : Nat} {A : Around} (r : Room (k + 1) A) (env : Env) : Room k (A.deeper env) :=
  ⟨r.hd, by have := r.dp; show A.depth + 1 + 3 * k + 5 < _; omega, by have := r.un; show A.units + 3 + 16 * k + 200 < _; omega⟩
theorem Room.in1 {k : Nat} {A : Around} (r : Room (k + 1) A) : Room k A.in1 :=
  ⟨r.hd, by have := r.dp; show A.depth + 3 * k + 5 < _; omega, by have := r.un; show A.units + 1 + 16 * k + 200 < _; omega⟩
theorem make_depth {A : Around} {C : Addr} {us : List Value} {kw : List (Str × Value)} : (A.under (.builtin "type.__call__" ⟨.ref C :: us, kw⟩)).depth = A.depth + 1 := by
  first | rfl | simp [Around.under, Code.weight, Code.isCreation, Code.isGuard, Code.isCaller, Code.frames, Code.isFrame, guardIds]
theorem make_units {A : Around} {C : Addr} {us : List Value} {kw : List (Str × Value)} : (A.under (.builtin "type.__call__" ⟨.ref C :: us, kw⟩)).units = A.units + 1 := by
  first | rfl | simp [Around.under, Code.cUnits, Code.frames, Code.isFrame]
theorem Room.make {k : Nat} {A : Around} (r : Room (k + 1) A) (C : Addr) (us : List Value) (kw : List (Str × Value)) : Room k (A.under (.builtin "type.__call__" ⟨.ref C :: us, kw⟩)) :=
  ⟨r.hd, by have := r.dp; rw [make_depth]; omega, by have := r.un; rw [make_units]; omega⟩
theorem Room.depth {k : Nat} {A : Around} (r : Room k A) : A.depth < recursionLimit := by have := r.dp; omega
theorem Room.units {k : Nat} {A : Around} (r : Room k A) : A.units + 64 < cLine := by have := r.un; omega
theorem Room.units0 {k : Nat} {A : Around} (r : Room k A) : A.units < cLine := by have := r.un; omega

/-! ### argument lists and displays -/
def tNil : TA := fun _ H Q => Q [] H
def tCons (ta : TE) (tr : TA) : TA := fun σ H Q => ta σ H fun x H1 => tr σ H1 fun xs H2 => Q (x :: xs) H2
section
variable {X : Cx} {e : Expr} {es : List Expr} {te : TE} {t : TA} {pos : Pos}
theorem pa_nil : PA X [] tNil := fun _ _ _ _ H Q I h => Calls.spliced_nil ⟨[], H, I, .nil, h⟩
theorem pa_cons (ha : PE X e te) (hr : PA X es t) (hs : starEach (e :: es) X.env = (false, eval e X.env) :: starEach es X.env := by rfl) : PA X (e :: es) (tCons te t) := by
  intro pos pins s σ H Q I h
  rw [hs]
  show wpAny _ _ (spliced ((false, eval e X.env) :: backTo pos (starEach es X.env))) _ _ s
  refine Calls.spliced_cons (thn (ha pins s σ H _ I h) fun u s1 ⟨x, H1, I1, r1, q1⟩ => ?_)
  exact thn (hr pos pins s1 σ H1 _ I1 q1) fun us s2 ⟨xs, H2, I2, r2, q2⟩ => ⟨x :: xs, H2, I2, .cons r1 r2, q2⟩

/-- a tuple, a list of written items -/
def tTup (t : TA) : TE := fun σ H Q => t σ H fun xs H1 => xs.length ≤ sizeLine ∧ ∀ p, H1 p = none → Q (.ref p) (upd H1 p (.tup xs))
def tLst (t : TA) : TE := fun σ H Q => t σ H fun xs H1 => xs.length ≤ sizeLine ∧ ∀ p, H1 p = none → Q (.ref p) (upd H1 p (.lst xs))
theorem pe_tup {x1} (h : PA X es t) : PE X (.Tuple es x1 pos) (tTup t) := by
  intro pins s σ H Q I hq
  refine wpAny_Tuple_spliced (thn (h pos pins s σ H _ I hq) fun us s1 ⟨xs, H1, I1, r, z, q⟩ => ⟨by rw [← r.length]; exact z, ?_⟩)
  have hf : H1 s1.heap.objs.size = none := I1.hok.fresh (Nat.le_refl _)
  refine ⟨.ref s1.heap.objs.size, upd H1 s1.heap.objs.size (.tup xs), I1.laid (t' := s1.toks) (fun b u e => Heap.get?_push_of_some _ e) (Nat.le_refl _) ?_, rfl, q _ hf⟩
  exact ⟨z, us, r, ⟨_, Heap.get?_push_size _ rfl, rfl, _, rfl⟩⟩
theorem pe_lst (h : PA X es t) : PE X (.List es pos) (tLst t) := by
  intro pins s σ H Q I hq
  refine wpAny_List_spliced (thn (h pos pins s σ H _ I hq) fun us s1 ⟨xs, H1, I1, r, z, q⟩ => ⟨by rw [← r.length]; exact z, ?_⟩)
  have hf : H1 s1.heap.objs.size = none := I1.hok.fresh (Nat.le_refl _)
  refine ⟨.ref s1.heap.objs.size, upd H1 s1.heap.objs.size (.lst xs), I1.laid (t' := s1.toks) (fun b u e => Heap.get?_push_of_some _ e) (Nat.le_refl _) ?_, rfl, q _ hf⟩
  exact ⟨z, us, 0, r, Heap.get?_push_size _ rfl⟩
end

/-! ### what a def promises -/
/-- a def's promise: the bound arguments in the parameters' order, the heap, the wanted end, the wanted exception -/
abbrev Sp := List V → Hp → VK → XK → Prop
/-- how an exception lies behind a call (file 08 gives it): the callers' frames, abstract heap and state ahead of the call, the wish, the exception, the state -/
abbrev CXT := List Env → Hp → Shared → XK → Value → Shared → Prop

/-- the state at a call -/
structure Env0 (P : Program) (w : World) (K : PySem.W.Frag) (mg : Str → Option Value) (base : Heap) (A : Around) (outer : List Env) (s : Shared) (H : Hp) : Prop where
  frames : A.frames = some outer
  mod : Mod K mg base
  bs : ∀ b o, base.get? b = some o → s.heap.get? b = some o ∧ H b = none
  bsz : base.objs.size ≤ s.heap.objs.size
  funs : s.heap.FunFrames base outer
  frf : ∀ b ∈ frs outer, H b = none
  hok : HOk P w H s.heap
  bare : AllBare s.gens
/-- a call's end -/
def CE (outer : List Env) (P : Program) (w : World) (H : Hp) (s : Shared) (Q : VK) (u : Value) (s' : Shared) : Prop :=
  ∃ v H', s'.os = s.os ∧ AllBare s'.gens ∧ Un (frs outer) [] H H' s.heap s'.heap ∧ HOk P w H' s'.heap ∧ RelV v u ∧ Q v H'
def CR (CX : CXT) (outer : List Env) (P : Program) (w : World) (H : Hp) (s : Shared) (Q : VK) (E : XK) (r : Result) (s' : Shared) : Prop :=
  match r with
  | .ok (.ret u) => CE outer P w H s Q u s'
  | .ok _ => False
  | .error e => CX outer H s E e s'
structure FnOk (P : Program) (w : World) (K : PySem.W.Frag) (mg : Str → Option Value) (base : Heap) (CX : CXT) (k : Nat) (f : Addr) (fd : FuncData) (ps : List Str) (sp : Sp) : Prop where
  len : ∀ vs H Q E, sp vs H Q E → vs.length = ps.length
  run : ∀ (A : Around) (outer : List Env) (s : Shared) (H : Hp) (args : Args) (us : List Value) (vs : List V) (Q : VK) (E : XK), Room k A → Env0 P w K mg base A outer s H → BindsTo s fd args (ps.zip us) → Vals vs us → sp vs H Q E →
    codeAny (model P w) A (.call (.ref f) args) (CR CX outer P w H s Q E) s
theorem FnOk.mono {P : Program} {w : World} {K : PySem.W.Frag} {mg : Str → Option Value} {base : Heap} {CX : CXT} {j k : Nat} {f : Addr} {fd : FuncData} {ps : List Str} {sp : Sp} (F : FnOk P w K mg base CX j f fd ps sp) (h : j ≤ k) :
    FnOk P w K mg base CX k f fd ps sp := ⟨F.len, fun A outer s H args us vs Q E hr => F.run A outer s H args us vs Q E (hr.mono h)⟩
/-- a weaker promise -/
theorem FnOk.imp {P : Program} {w : World} {K : PySem.W.Frag} {mg : Str → Option Value} {base : Heap} {CX : CXT} {k : Nat} {f : Addr} {fd : FuncData} {ps : List Str} {sp sp' : Sp} (F : FnOk P w K mg base CX k f fd ps sp)
    (h : ∀ vs H Q E, sp' vs H Q E → sp vs H Q E) : FnOk P w K mg base CX k f fd ps sp' :=
  ⟨fun vs H Q E q => F.len vs H Q E (h _ _ _ _ q), fun A outer s H args us vs Q E hr he hb hv hs => F.run A outer s H args us vs Q E hr he hb hv (h _ _ _ _ hs)⟩

theorem Env0.make {P : Program} {w : World} {K : PySem.W.Frag} {mg : Str → Option Value} {base : Heap} {A : Around} {outer : List Env} {s : Shared} {H : Hp} (e : Env0 P w K mg base A outer s H) (C : Addr) (us : List Value) (kw : List (Str × Value)) :
    Env0 P w K mg base (A.under (.builtin "type.__call__" ⟨.ref C :: us, kw⟩)) outer s H := ⟨by first | exact e.frames | (simpa [Around.under, Code.envs, Code.isFrame, pushEnvs] using e.frames), e.mod, e.bs, e.bsz, e.funs, e.frf, e.hok, e.bare⟩
theorem Env0.in1 {P : Program} {w : World} {K : PySem.W.Frag} {mg : Str → Option Value} {base : Heap} {A : Around} {outer : List Env} {s : Shared} {H : Hp} (e : Env0 P w K mg base A outer s H) :
    Env0 P w K mg base A.in1 outer s H := ⟨e.frames, e.mod, e.bs, e.bsz, e.funs, e.frf, e.hok, e.bare⟩

section
variable {X : Cx} {pins : List (Addr × Obj)} {σ : St} {H : Hp} {s s' : Shared}
/-- from a body: what a callee wants -/
theorem Inv.env0 (I : Inv X pins σ H s) : Env0 X.prog X.w X.K X.mg X.base X.A X.stack s H :=
  ⟨I.ok.frames, I.ok.mod, I.bs, Nat.le_trans I.ok.bsz I.sz, I.stack, I.stkFree, I.hok, I.bare⟩
/-- behind a call -/
theorem Inv.after {Q : VK} {u : Value} (I : Inv X pins σ H s) (h : CE X.stack X.prog X.w H s Q u s') : EP X pins σ Q u s' := by
  obtain ⟨v, H', os, bare, un, hok, r, q⟩ := h
  obtain ⟨hh, g, d, t, os'⟩ := s'
  obtain rfl : os' = s.os := os
  exact ⟨v, H', I.call (h' := hh) (g' := g) (d' := d) (t' := t) (ch := []) un hok bare (fun b z => absurd z (by simp)), r, q⟩
end

/-! ### calls -/
/-- f(..): the written arguments, then the defaults dvs; E: what is wanted of an exception -/
def tCall (sp : Sp) (dvs : List V) (E : XK) (t : TA) : TE := fun σ H Q => t σ H fun vs H1 => sp (vs ++ dvs) H1 Q E
/-- o.m(..) of an instance of the class at C -/
def tMeth (C : Addr) (m : Str) (sp : Sp) (dvs : List V) (E : XK) (ta : TE) (t : TA) : TE := fun σ H Q => ta σ H fun x H1 => ∃ a dx fs, x = .ref a ∧ H1 a = some (.ins C dx fs) ∧ fs.lookup m = none ∧
  t σ H1 fun vs H2 => sp (x :: (vs ++ dvs)) H2 Q E
/-- C(..): a new instance and its dict, then __init__ -/
def tMake (C : Addr) (sp : Sp) (dvs : List V) (E : XK) (t : TA) : TE := fun σ H Q => t σ H fun vs H1 => ∀ x dx, H1 x = none → H1 dx = none → dx ≠ x →
  sp (.ref x :: (vs ++ dvs)) (upd (upd H1 dx (.own x)) x (.ins C dx [])) (fun v H2 => v = .non ∧ Q (.ref x) H2) E

/-- how the parameters are bound: us the positional arguments, kw the keywords' values by name, ds the defaults that fill up -/
def Binds (K : PySem.W.Frag) (fd : FuncData) (ps : List Str) (ds : List Value) : Prop :=
  ∀ (s : Shared) (us : List Value), K.In s.heap → (us ++ ds).length = ps.length → BindsTo s fd ⟨us, []⟩ (ps.zip (us ++ ds))
/-- every parameter is given -/
theorem Binds.all {K : PySem.W.Frag} {fd : FuncData} {ps : List Str} (h : ∀ us : List Value, us.length = ps.length → bindArgs fd ⟨us, []⟩ = pure (ps.zip us)) : Binds K fd ps [] := fun s us _ hl => by
  rw [List.append_nil] at hl ⊢
  exact .of_eq (h us hl)

/-- an exception of a callee reaches what this body wants of exceptions -/
def Passes (CX : CXT) (X : Cx) (E : XK) : Prop := ∀ (pins : List (Addr × Obj)) (σ : St) (H : Hp) (s : Shared) (e : Value) (s' : Shared), Inv X pins σ H s → CX X.stack H s E e s' → X.xe e s'

section
variable {X : Cx} {CX : CXT} {k : Nat} {f C : Addr} {fd : FuncData} {ps : List Str} {sp : Sp} {dvs : List V} {ds : List Value} {E : XK} {x m : Str} {p pos apos : Pos} {e o : Expr} {es : List Expr} {ta : TE} {t : TA}

/-- the callee runs -/
theorem run_fn {pins : List (Addr × Obj)} {σ : St} {H : Hp} {s : Shared} {Q : VK} {us : List Value} {vs : List V} (F : FnOk X.prog X.w X.K X.mg X.base CX k f fd ps sp) (hr : Room k X.A) (hb : Binds X.K fd ps ds) (hd : Vals dvs ds) (hx : Passes CX X E)
    (I : Inv X pins σ H s) (r : Vals vs us) (h : sp (vs ++ dvs) H Q E) : wpAny (model X.prog X.w) X.A (call (.ref f) us) (EP X pins σ Q) X.xe s := by
  have r2 : Vals (vs ++ dvs) (us ++ ds) := r.append hd
  have hl : (us ++ ds).length = ps.length := by rw [← r2.length]; exact F.len _ _ _ _ h
  refine wpAny_call (codeAny_mono (F.run X.A X.stack s H ⟨us, []⟩ (us ++ ds) (vs ++ dvs) Q E hr I.env0 (hb s us I.kIn hl) r2 h) fun r s' hq => ?_)
  cases r with
  | error e => exact hx pins σ H s e s' I hq
  | ok fl =>
    cases fl with
    | ret u => exact I.after hq
    | next => exact False.elim hq
    | brk => exact False.elim hq
    | cont => exact False.elim hq

theorem pe_call (F : FnOk X.prog X.w X.K X.mg X.base CX k f fd ps sp) (hr : Room k X.A) (hg : Gl X x) (hm : X.mg x = some (.ref f)) (hk : PySem.W.keepIn X.K (.ref f) = true) (hb : Binds X.K fd ps ds) (hd : Vals dvs ds) (hx : Passes CX X E)
    (ha : PA X (e :: es) t) (hdb : (x == ("__debug__" : Str)) = false := by decide) (he : starEach (e :: es) X.env = (false, eval e X.env) :: starEach es X.env := by rfl) (hpl : (backTo pos (starEach es X.env)).any (·.1) = false := by rfl) :
    PE X (.Call (.Name x p) (e :: es) [] pos) (tCall sp dvs E t) := by
  intro pins s σ H Q I h
  refine wpAny_Call_Name_kw (ld_glob I hg hm ?_ hdb)
  refine PySem.W.callWith_K (h₀ := X.base) I.ok.mod.kin hk (thn (ha pos pins s σ H _ I h) fun us s1 ⟨vs, H1, I1, r, q⟩ => ⟨I1.kIn, ?_⟩) he hpl
  exact run_fn F hr hb hd hx I1 r q
theorem pe_call0 (F : FnOk X.prog X.w X.K X.mg X.base CX k f fd ps sp) (hr : Room k X.A) (hg : Gl X x) (hm : X.mg x = some (.ref f)) (hk : PySem.W.keepIn X.K (.ref f) = true) (hb : Binds X.K fd ps ds) (hd : Vals dvs ds) (hx : Passes CX X E)
    (hdb : (x == ("__debug__" : Str)) = false := by decide) : PE X (.Call (.Name x p) [] [] pos) (tCall sp dvs E tNil) := by
  intro pins s σ H Q I h
  refine wpAny_Call_Name_kw (ld_glob I hg hm ?_ hdb)
  exact PySem.W.callWith_K0 I.kIn hk (run_fn (us := []) F hr hb hd hx I .nil h)

/-- o.m(e, ..) -/
theorem pe_meth {pl : Sem Bool} (he : PE X o ta) (c : Cls X.K C) (hm : Meth X.K C m f) (F : FnOk X.prog X.w X.K X.mg X.base CX k f fd ps sp) (hr : Room k X.A) (hb : Binds X.K fd ps ds) (hd : Vals dvs ds) (hx : Passes CX X E) (ha : PA X (e :: es) t)
    (hst : starEach (e :: es) X.env = (false, eval e X.env) :: starEach es X.env := by rfl) (hpl : (backTo pos (starEach es X.env)).any (·.1) = false := by rfl)
    (ht : eval (.Call (.Attribute o m apos) (e :: es) [] pos) X.env = (do
      let ov ← eval o X.env
      standAt apos.atName
      let (f, first) ← holding [ov] (getMethod ov m pl)
      callWith pos f first (backTo pos (starEach (e :: es) X.env)) (backToKw pos (keywordEach [] X.env))) := by rfl) :
    PE X (.Call (.Attribute o m apos) (e :: es) [] pos) (tMeth C m sp dvs E ta t) := by
  intro pins s σ H Q I h
  refine PySem.W.methodCall_KW (pl := pl) (thn (he pins s σ H _ I h) fun u s1 ⟨x, H1, I1, rx, a, dx, fs, ex, ea, l, q⟩ => ?_) ht
  subst ex
  obtain rfl : u = Value.ref a := rx
  refine getmeth_ok I1 ea c hm l ?_
  refine PySem.W.callWith_K (first := [.ref a]) (h₀ := X.base) I.ok.mod.kin hm.kp (thn (ha pos pins s1 σ H1 _ I1 q) fun us s2 ⟨vs, H2, I2, r, q2⟩ => ⟨I2.kIn, ?_⟩) hst hpl
  exact run_fn (us := .ref a :: us) (vs := .ref a :: vs) F hr hb hd hx I2 (.cons rfl r) q2
/-- o.m() -/
theorem pe_meth0 {pl : Sem Bool} (he : PE X o ta) (c : Cls X.K C) (hm : Meth X.K C m f) (F : FnOk X.prog X.w X.K X.mg X.base CX k f fd ps sp) (hr : Room k X.A) (hb : Binds X.K fd ps ds) (hd : Vals dvs ds) (hx : Passes CX X E)
    (ht : eval (.Call (.Attribute o m apos) [] [] pos) X.env = (do
      let ov ← eval o X.env
      standAt apos.atName
      let (f, first) ← holding [ov] (getMethod ov m pl)
      callWith pos f first (backTo pos (starEach [] X.env)) (backToKw pos (keywordEach [] X.env))) := by rfl) :
    PE X (.Call (.Attribute o m apos) [] [] pos) (tMeth C m sp dvs E ta tNil) := by
  intro pins s σ H Q I h
  refine PySem.W.methodCall_KW (pl := pl) (thn (he pins s σ H _ I h) fun u s1 ⟨x, H1, I1, rx, a, dx, fs, ex, ea, l, q⟩ => ?_) ht
  subst ex
  obtain rfl : u = Value.ref a := rx
  refine getmeth_ok I1 ea c hm l ?_
  exact PySem.W.callWith_K0 (first := [.ref a]) I1.kIn hm.kp (run_fn (us := [.ref a]) (vs := [.ref a]) F hr hb hd hx I1 (.cons rfl .nil) q)

/-- what a class must have to be made -/
structure Mk (K : PySem.W.Frag) (C f : Addr) : Prop where
  makes : PySem.W.makesIn K C = true
  init : PySem.W.findIn K (.ref C) "__init__" = some (some (.ref f))
  fn : PySem.W.isFn K (.ref f) = true
  kp : PySem.W.keepIn K (.ref C) = true

theorem run_make {pins : List (Addr × Obj)} {σ : St} {H : Hp} {s : Shared} {Q : VK} {us : List Value} {vs : List V} (M : Mk X.K C f) (F : FnOk X.prog X.w X.K X.mg X.base CX k f fd ps sp) (hr : Room (k + 1) X.A) (hb : Binds X.K fd ps ds) (hd : Vals dvs ds)
    (hx : Passes CX X E) (I : Inv X pins σ H s) (r : Vals vs us)
    (h : ∀ x dx, H x = none → H dx = none → dx ≠ x → sp (.ref x :: (vs ++ dvs)) (upd (upd H dx (.own x)) x (.ins C dx [])) (fun v H2 => v = .non ∧ Q (.ref x) H2) E) :
    wpAny (model X.prog X.w) X.A (call (.ref C) us) (EP X pins σ Q) X.xe s := by
  have hq := h (s.heap.objs.size + 1) s.heap.objs.size (I.hok.fresh (Nat.le_succ _)) (I.hok.fresh (Nat.le_refl _)) (Nat.ne_of_lt (Nat.lt_succ_self _))
  have I2 := Inv.made (C := C) I
  have r2 : Vals (V.ref (s.heap.objs.size + 1) :: (vs ++ dvs)) (Value.ref (s.heap.objs.size + 1) :: (us ++ ds)) := .cons rfl (r.append hd)
  have hl : (Value.ref (s.heap.objs.size + 1) :: us ++ ds).length = ps.length := by
    have e := r2.length
    rw [F.len _ _ _ _ hq] at e
    exact e.symm
  refine wpAny_call (make_map (f := f) I.kIn M.makes M.init (beq_iff_eq.mp M.fn) (codeAny_mono (F.run _ X.stack _ _ ⟨Value.ref (s.heap.objs.size + 1) :: us, []⟩ (Value.ref (s.heap.objs.size + 1) :: (us ++ ds)) _ _ E (hr.make C us [])
    (I2.env0.make C us []) (hb _ (Value.ref (s.heap.objs.size + 1) :: us) I2.kIn hl) r2 hq) fun r s' hq' => ?_))
  cases r with
  | error e => exact hx pins σ _ _ e s' I2 hq'
  | ok fl =>
    cases fl with
    | ret u =>
      obtain ⟨v, H', I3, rv, ev, q3⟩ := I2.after hq'
      subst ev
      exact ⟨rv, ⟨V.ref (s.heap.objs.size + 1), H', I3, rfl, q3⟩⟩
    | next => exact False.elim hq'
    | brk => exact False.elim hq'
    | cont => exact False.elim hq'
theorem pe_make (M : Mk X.K C f) (F : FnOk X.prog X.w X.K X.mg X.base CX k f fd ps sp) (hr : Room (k + 1) X.A) (hg : Gl X x) (hm : X.mg x = some (.ref C)) (hb : Binds X.K fd ps ds) (hd : Vals dvs ds) (hx : Passes CX X E)
    (ha : PA X (e :: es) t) (hdb : (x == ("__debug__" : Str)) = false := by decide) (he : starEach (e :: es) X.env = (false, eval e X.env) :: starEach es X.env := by rfl) (hpl : (backTo pos (starEach es X.env)).any (·.1) = false := by rfl) :
    PE X (.Call (.Name x p) (e :: es) [] pos) (tMake C sp dvs E t) := by
  intro pins s σ H Q I h
  refine wpAny_Call_Name_kw (ld_glob I hg hm ?_ hdb)
  refine PySem.W.callWith_K (h₀ := X.base) I.ok.mod.kin M.kp (thn (ha pos pins s σ H _ I h) fun us s1 ⟨vs, H1, I1, r, q⟩ => ⟨I1.kIn, ?_⟩) he hpl
  exact run_make M F hr hb hd hx I1 r q
theorem pe_make0 (M : Mk X.K C f) (F : FnOk X.prog X.w X.K X.mg X.base CX k f fd ps sp) (hr : Room (k + 1) X.A) (hg : Gl X x) (hm : X.mg x = some (.ref C)) (hb : Binds X.K fd ps ds) (hd : Vals dvs ds) (hx : Passes CX X E)
    (hdb : (x == ("__debug__" : Str)) = false := by decide) : PE X (.Call (.Name x p) [] [] pos) (tMake C sp dvs E tNil) := by
  intro pins s σ H Q I h
  refine wpAny_Call_Name_kw (ld_glob I hg hm ?_ hdb)
  exact PySem.W.callWith_K0 I.kIn M.kp (run_make (us := []) M F hr hb hd hx I .nil h)
end

/-! ### keywords -/
/-- the values of the keywords, from the left -/
def PK (X : Cx) (kws : List Keyword) (t : TA) : Prop :=
  ∀ (pos : Pos) (pins : List (Addr × Obj)) (s : Shared) (σ : St) (H : Hp) (Q : List V → Hp → Prop), Inv X pins σ H s → t σ H Q → wpAny (model X.prog X.w) X.A (evalAll ((backToKw pos (keywordEach kws X.env)).map (·.2))) (AP X pins σ Q) X.xe s
section
variable {X : Cx} {CX : CXT} {k : Nat} {f C : Addr} {fd : FuncData} {ps ks : List Str} {sp : Sp} {E : XK} {x m : Str} {p pos apos kpos : Pos} {e o : Expr} {es : List Expr} {kws : List Keyword} {te ta : TE} {t tk : TA} {nm : Option Str}
theorem pk_nil : PK X [] tNil := fun _ _ _ _ H Q I h => wpAny_evalAll_nil ⟨[], H, I, .nil, h⟩
theorem pk_cons (ha : PE X e te) (hr : PK X kws t) : PK X (⟨nm, e, kpos⟩ :: kws) (tCons te t) := by
  intro pos pins s σ H Q I h
  show wpAny _ _ (evalAll ((do let v ← eval e X.env; standAt pos; pure v) :: (backToKw pos (keywordEach kws X.env)).map (·.2))) _ _ s
  refine wpAny_evalAll_cons (wpAny_bind (thn (ha pins s σ H _ I h) fun u s1 ⟨x, H1, I1, r1, q1⟩ => wpAny_bind (wpAny_standAt (wpAny_pure ?_))))
  exact thn (hr pos pins s1 σ H1 _ I1 q1) fun us s2 ⟨xs, H2, I2, r2, q2⟩ => ⟨x :: xs, H2, I2, .cons r1 r2, q2⟩

/-- how a call with keywords binds: g puts the positional values us and the keywords' values ws (names ks) in the parameters' order, defaults among them -/
structure KBinds (K : PySem.W.Frag) (fd : FuncData) (ps ks : List Str) (g : List Value → List Value → List Value) (gV : List V → List V → List V) : Prop where
  to : ∀ (s : Shared) (us ws : List Value), K.In s.heap → (g us ws).length = ps.length → BindsTo s fd ⟨us, ks.zip ws⟩ (ps.zip (g us ws))
  rel : ∀ {vs : List V} {us : List Value} {zs : List V} {ws : List Value}, Vals vs us → Vals zs ws → Vals (gV vs zs) (g us ws)
def tCallK (sp : Sp) (gV : List V → List V → List V) (E : XK) (t tk : TA) : TE := fun σ H Q => t σ H fun vs H1 => tk σ H1 fun zs H2 => sp (gV vs zs) H2 Q E
variable {g : List Value → List Value → List Value} {gV : List V → List V → List V}
theorem run_fnk {pins : List (Addr × Obj)} {σ : St} {H : Hp} {s : Shared} {Q : VK} {us ws : List Value} {vs zs : List V} (F : FnOk X.prog X.w X.K X.mg X.base CX k f fd ps sp) (hr : Room k X.A) (hb : KBinds X.K fd ps ks g gV) (hx : Passes CX X E)
    (I : Inv X pins σ H s) (r : Vals vs us) (rz : Vals zs ws) (h : sp (gV vs zs) H Q E) : wpAny (model X.prog X.w) X.A (call (.ref f) us (ks.zip ws)) (EP X pins σ Q) X.xe s := by
  have r2 := hb.rel r rz
  have hl : (g us ws).length = ps.length := by rw [← r2.length]; exact F.len _ _ _ _ h
  refine wpAny_call (codeAny_mono (F.run X.A X.stack s H ⟨us, ks.zip ws⟩ (g us ws) (gV vs zs) Q E hr I.env0 (hb.to s us ws I.kIn hl) r2 h) fun r s' hq => ?_)
  cases r with
  | error e => exact hx pins σ H s e s' I hq
  | ok fl =>
    cases fl with
    | ret u => exact I.after hq
    | next => exact False.elim hq
    | brk => exact False.elim hq
    | cont => exact False.elim hq
/-- f(e, .., k = v, ..) -/
theorem pe_callK (F : FnOk X.prog X.w X.K X.mg X.base CX k f fd ps sp) (hr : Room k X.A) (hg : Gl X x) (hm : X.mg x = some (.ref f)) (hk : PySem.W.keepIn X.K (.ref f) = true) (hb : KBinds X.K fd ps ks g gV) (hx : Passes CX X E)
    (ha : PA X (e :: es) t) (hkw : PK X kws tk) (hall : (backToKw pos (keywordEach kws X.env)).all (·.1.isSome) = true := by rfl) (hks : (backToKw pos (keywordEach kws X.env)).filterMap (·.1) = ks := by rfl)
    (hdb : (x == ("__debug__" : Str)) = false := by decide) (he : starEach (e :: es) X.env = (false, eval e X.env) :: starEach es X.env := by rfl)
    (hpl : ((backTo pos (starEach (e :: es) X.env)).any (·.1) || (backToKw pos (keywordEach kws X.env)).any (·.1.isNone)) = false := by rfl) :
    PE X (.Call (.Name x p) (e :: es) kws pos) (tCallK sp gV E t tk) := by
  intro pins s σ H Q I h
  refine wpAny_Call_Name_kw (ld_glob I hg hm ?_ hdb)
  refine PySem.W.callWith_KW (h₀ := X.base) I.ok.mod.kin hk hall (thn (ha pos pins s σ H _ I h) fun us s1 ⟨vs, H1, I1, r, q⟩ => ?_) hpl he
  refine thn (hkw pos pins s1 σ H1 _ I1 q) fun ws s2 ⟨zs, H2, I2, rz, q2⟩ => ⟨I2.kIn, ?_⟩
  rw [hks]
  exact run_fnk F hr hb hx I2 r rz q2
end

/-! ### a def's body keeps its promise -/
/-- names: the parameters first -/
structure FnScope (N P : List Str) (sc : Scope) : Prop where
  kind : sc.kind = .function
  co : sc.isCoroutine = false
  gen : sc.isGenerator = false
  nd : N.Nodup
  pre : N.take P.length = P
  par : ∀ x ∈ P, sc.names.lookup x = some .local ∨ sc.names.lookup x = some .cell
  nofree : ∀ y ∈ sc.names, y.2 ≠ .free

theorem bindL_out {kindOf : Str → Option NameKind} {x : Str} : ∀ {binds : List (Str × Value)} {m : Str → Option Value}, (∀ v, (x, v) ∉ binds) → bindL kindOf binds m x = m x
  | [], _, _ => rfl
  | (n, v) :: r, m, h => by
    unfold bindL
    rw [bindL_out fun w hw => h w (List.mem_cons_of_mem _ hw)]
    split
    · have : x ≠ n := by rintro rfl; exact h v List.mem_cons_self
      simp [this]
    · rfl
theorem bindC_out {kindOf : Str → Option NameKind} {x : Str} : ∀ {binds : List (Str × Value)} {m : Str → Option Value}, (∀ v, (x, v) ∉ binds) → bindC kindOf binds m x = m x
  | [], _, _ => rfl
  | (n, v) :: r, m, h => by
    unfold bindC
    rw [bindC_out fun w hw => h w (List.mem_cons_of_mem _ hw)]
    split
    · rfl
    · have : x ≠ n := by rintro rfl; exact h v List.mem_cons_self
      simp [this]
theorem bindL_get {kindOf : Str → Option NameKind} {x : Str} {v : Value} : ∀ {P : List Str} {vs : List Value} {i : Nat} {m : Str → Option Value}, P.Nodup → P[i]? = some x → vs[i]? = some v → kindOf x = some .local →
    bindL kindOf (P.zip vs) m x = some v
  | [], _, _, _, _, h, _, _ => by simp at h
  | _ :: _, [], _, _, _, _, h, _ => by simp at h
  | p :: P, w :: vs, 0, m, nd, h1, h2, hk => by
    simp at h1 h2; subst h1; subst h2
    show bindL kindOf ((p, w) :: P.zip vs) m p = _
    unfold bindL
    rw [bindL_out fun v hv => (List.nodup_cons.mp nd).1 (List.of_mem_zip hv).1, if_pos hk]
    simp
  | p :: P, w :: vs, i + 1, m, nd, h1, h2, hk => by
    show bindL kindOf ((p, w) :: P.zip vs) m x = _
    unfold bindL
    exact bindL_get (i := i) (List.nodup_cons.mp nd).2 (by simpa using h1) (by simpa using h2) hk
theorem bindC_get {kindOf : Str → Option NameKind} {x : Str} {v : Value} : ∀ {P : List Str} {vs : List Value} {i : Nat} {m : Str → Option Value}, P.Nodup → P[i]? = some x → vs[i]? = some v → kindOf x ≠ some .local →
    bindC kindOf (P.zip vs) m x = some v
  | [], _, _, _, _, h, _, _ => by simp at h
  | _ :: _, [], _, _, _, _, h, _ => by simp at h
  | p :: P, w :: vs, 0, m, nd, h1, h2, hk => by
    simp at h1 h2; subst h1; subst h2
    show bindC kindOf ((p, w) :: P.zip vs) m p = _
    unfold bindC
    rw [bindC_out fun v hv => (List.nodup_cons.mp nd).1 (List.of_mem_zip hv).1, if_neg hk]
    simp
  | p :: P, w :: vs, i + 1, m, nd, h1, h2, hk => by
    show bindC kindOf ((p, w) :: P.zip vs) m x = _
    unfold bindC
    exact bindC_get (i := i) (List.nodup_cons.mp nd).2 (by simpa using h1) (by simpa using h2) hk

/-- the names' values at the entry -/
def start (N : List Str) (vs : List V) : St := vs.map some ++ List.replicate (N.length - vs.length) none

/-- the context of a def's body, at its entry; an exception leaves the frame, then lies as CX says -/
def cxOf (CX : CXT) (P : Program) (w : World) (K : PySem.W.Frag) (mg : Str → Option Value) (base : Heap) (N : List Str) (qual : Str) (scope : Scope) (f : Addr) (cd : Value) (A : Around) (outer : List Env) (s : Shared) (H : Hp) (E : XK) : Cx where
  prog := P
  w := w
  K := K
  mg := mg
  base := base
  A := A.deeper (envOfC qual scope s.heap.objs.size f cd)
  N := N
  s₀ := s
  H₀ := H
  env := envOfC qual scope s.heap.objs.size f cd
  outer := outer
  stack := envOfC qual scope s.heap.objs.size f cd :: outer
  ex := []
  calm := true
  fn := fun _ => true
  pn := []
  xe := fun e s' => wpAny (model P w) (A.deeper (envOfC qual scope s.heap.objs.size f cd)) (leaving (envOfC qual scope s.heap.objs.size f cd) e) (fun _ s'' => CX outer H s E e s'') (fun e' s'' => CX outer H s E e' s'') s'

theorem cell_has {sc : Scope} {n : Nat} {x : Str} (h : sc.names.lookup x = some .cell) : ∃ c, (cellsFrom n sc.names []).lookup x = some c := by
  have q := PySem.W.cellsFrom_some sc.names n [] (.inl h)
  exact Option.isSome_iff_exists.mp q

theorem inv_start {CX : CXT} {P : Program} {w : World} {K : PySem.W.Frag} {mg : Str → Option Value} {base : Heap} {N ps : List Str} {qual : Str} {scope : Scope} {f : Addr} {cd : Value} {A : Around} {outer : List Env} {s s1 : Shared} {H : Hp} {E : XK} {us : List Value} {vs : List V}
    (S : FnScope N ps scope) (hd : A.handled = none) (e0 : Env0 P w K mg base A outer s H) (hl : vs.length = ps.length) (r : Vals vs us)
    (x : InCallC s s.heap.objs.size (bindL (envOfC qual scope s.heap.objs.size f cd).kindOf (ps.zip us) fun _ => none) (cellsFrom (s.heap.objs.size + 1) scope.names []) (bindC (envOfC qual scope s.heap.objs.size f cd).kindOf (ps.zip us) fun _ => none) s1) :
    Inv (cxOf CX P w K mg base N qual scope f cd A outer s H E) [] (start N vs) H s1 := by
  have hpl : ps.length ≤ N.length := by have := congrArg List.length S.pre; rw [List.length_take] at this; omega
  obtain ⟨h1, tk, rfl, hk⟩ := x.done
  have noA : ∀ b : Addr, b ∉ (cxOf CX P w K mg base N qual scope f cd A outer s H E).ex := fun b z => absurd (show b ∈ ([] : List Addr) from z) (by simp)
  refine ⟨⟨e0.mod, S.kind, rfl, rfl, Nat.le_refl _, fun y z c h1 h2 => ?_, fun y hy => ?_, fun y c _ h => ?_, fun _ => hd, Around.frames_deeper e0.frames, .inr ⟨rfl, rfl⟩, fun b z => absurd z (noA b), e0.bs, e0.bsz, fun b _ _ => noA b, fun b z => absurd z (noA b), e0.funs, e0.frf⟩,
    rfl, e0.bare, Un.kept hk, ⟨_, x.toInCall.ns, fun i y v h1 h2 h3 => ?_⟩, fun y c h => ⟨_, x.cell y c h⟩, e0.hok.fresh (Nat.le_refl _), fun y c h => ?_, fun p hp => absurd (show p ∈ ([] : List (Addr × Obj)) from hp) (by simp), e0.hok.kept hk, ?_⟩
  · exact name_of_addr x.apart (PySem.mem_of_lookup h1) (PySem.mem_of_lookup h2)
  · have hy : scope.names.lookup y = some .cell ∨ scope.names.lookup y = some .free := hy
    rcases hy with hy | hy
    · exact cell_has hy
    · exact absurd rfl (S.nofree _ (PySem.mem_of_lookup hy))
  · exact Nat.le_of_lt (x.above y c (PySem.mem_of_lookup h))
  · have hi : i < vs.length := by
      unfold start at h2
      by_cases hi : i < vs.length
      · exact hi
      · rw [List.getElem?_append_right (by simpa using hi)] at h2
        rw [List.getElem?_replicate] at h2
        split at h2 <;> cases h2
    have ha : vs[i]? = some v := by
      unfold start at h2
      rw [List.getElem?_append_left (by simpa using hi), List.getElem?_map] at h2
      cases e : vs[i]? with
      | none => rw [e] at h2; cases h2
      | some a => rw [e] at h2; cases h2; rfl
    obtain ⟨u, hu, rv⟩ := r.get ha
    have hp : ps[i]? = some y := by
      rw [← S.pre, List.getElem?_take_of_lt (by omega)]; exact h1
    have ndP : ps.Nodup := by rw [← S.pre]; exact S.nd.sublist (List.take_sublist _ _)
    refine ⟨u, rv, ?_⟩
    rcases S.par y (List.mem_of_getElem? hp) with k | k
    · exact .inl ⟨k, bindL_get ndP hp hu k⟩
    · obtain ⟨c, e⟩ := cell_has (n := s.heap.objs.size + 1) k
      refine .inr ⟨.inl k, c, e, ?_⟩
      have q := x.cell y c e
      rw [bindC_get ndP hp hu (by show scope.names.lookup y ≠ _; rw [k]; decide)] at q
      exact q
  · exact e0.hok.fresh (Nat.le_of_lt (x.above y c (PySem.mem_of_lookup h)))
  · unfold start
    show _ = N.length
    rw [List.length_append, List.length_map, List.length_replicate]
    omega

/-- THE RULE: a def (or a method) of the text, by its body. The body's reading t is chosen for each entry; it is run at the parameters' values -/
theorem fn_of {CX : CXT} {P : Program} {w : World} {K : PySem.W.Frag} {mg : Str → Option Value} {base : Heap} {k : Nat} {f : Addr} {name qual : Str} {params : Arguments} {body : List Stmt} {scope : Scope} {dV kV doc pm cdv ct oc : Value} {an od : Option Addr}
    {osl : Array (Option Value)} {N ps : List Str} {sp : Sp} (lk : K.lookup f = some ⟨oc, od, .func (PySem.W.fnOf name qual params body scope dV kV doc pm an cdv ct), osl⟩) (hcd : PySem.W.codeIn K cdv qual = true) (S : FnScope N ps scope)
    (len : ∀ vs H Q E, sp vs H Q E → vs.length = ps.length)
    (hbody : ∀ (A : Around) (outer : List Env) (s : Shared) (H : Hp) (vs : List V) (Q : VK) (E : XK), Room k (A.deeper (envOfC qual scope s.heap.objs.size f cdv)) → sp vs H Q E →
      ∃ t, PSs (cxOf CX P w K mg base N qual scope f cdv A outer s H E) body t ∧ t { nx := fun _ H' => Q .non H', rt := Q } (start N vs) H) :
    FnOk P w K mg base CX (k + 1) f (PySem.W.fnOf name qual params body scope dV kV doc pm an cdv ct) ps sp := by
  refine ⟨len, fun A outer s H args us vs Q E hr e0 hb r hsp => ?_⟩
  have hl := len _ _ _ _ hsp
  have KX : K.In s.heap := e0.mod.kin.keeps fun b o e => (e0.bs b o e).1
  have lim : s.heap.NoLimit := e0.mod.nolimit.keeps fun b o e => (e0.bs b o e).1
  have hkind : ∀ y ∈ ps.zip us, scope.names.lookup y.1 = some .local ∨ (scope.names.lookup y.1 = some .cell ∧ ((cellsFrom (s.heap.objs.size + 1) scope.names []).lookup y.1).isSome = true) := fun ⟨n, v⟩ hy => by
    rcases S.par n (List.of_mem_zip hy).1 with q | q
    · exact .inl q
    · exact .inr ⟨q, PySem.W.cellsFrom_some _ _ _ (.inl q)⟩
  refine codeAny_call_function hr.depth (KX _ _ lk) rfl S.co S.gen rfl (PySem.W.codeRec_of KX hcd) (hb _ _ _ _ ?_)
  refine wpAny_newFunctionEnv_cells S.kind hkind fun env he s1 x => ?_
  subst he
  refine ⟨lim.keeps x.toInCall.keep, codeAny_func ?_⟩
  obtain ⟨t, ht, hq⟩ := hbody A outer s H vs Q E (hr.deeper _) hsp
  have I : Inv (cxOf CX P w K mg base N qual scope f cdv A outer s H E) [] (start N vs) H s1 := inv_start S hr.hd e0 hl r x
  refine wpAny_mono (ht [] s1 (start N vs) H _ I hq) (fun fl s' hs => ?_) fun e s' hs => hs
  have fin : ∀ {σ' : St} {H' : Hp} {v : V} {u : Value}, Inv (cxOf CX P w K mg base N qual scope f cdv A outer s H E) [] σ' H' s' → RelV v u → Q v H' → CE outer P w H s Q u s' :=
    fun {σ' H' v u} J rv q => ⟨v, H', J.os, J.bare, J.base, J.hok, rv, q⟩
  cases fl with
  | ret u =>
    obtain ⟨v, σ', H', J, rv, q⟩ := hs
    exact fin J rv q
  | next =>
    obtain ⟨σ', H', J, q⟩ := hs
    exact fin (v := V.non) (u := Value.none) J rfl q
  | brk =>
    obtain ⟨_, _, _, q⟩ := hs
    exact False.elim q
  | cont =>
    obtain ⟨_, _, _, q⟩ := hs
    exact False.elim q
end L2

namespace L2
open PySem PySem.Spec PyProof.Rows
section
variable {X : Cx} {x : Str} {p pos : Pos} {e : Expr} {es : List Expr} {t : TA} {id T : String} {r : List V → Hp → VK → Prop}

def tCB (r : List V → Hp → VK → Prop) (t : TA) : TE := fun σ H Q => t σ H fun vs H1 => r vs H1 Q
/-- f(e, ..), f a built-in function -/
theorem pe_callB (hc : CallR X (.builtin id) r) (hg : Gl X x) (hm : X.mg x = none) (hv : bootBuiltins x = some (.builtin id)) (ha : PA X (e :: es) t) (hn : x ≠ "__name__" := by decide) (hdb : (x == ("__debug__" : Str)) = false := by decide)
    (he : starEach (e :: es) X.env = (false, eval e X.env) :: starEach es X.env := by rfl) (hpl : (backTo pos (starEach es X.env)).any (·.1) = false := by rfl) : PE X (.Call (.Name x p) (e :: es) [] pos) (tCB r t) := by
  intro pins s σ H Q I h
  refine wpAny_Call_Name_kw (ld_blt I hg hm hv ?_ hn hdb)
  exact PyProof.Rows.callWith_builtin1 (thn (ha pos pins s σ H _ I h) fun us s1 ⟨vs, H1, I1, r1, q1⟩ => hc pins s1 σ H1 vs us Q I1 r1 q1) he hpl
/-- T(e, ..), T a built-in type -/
theorem pe_callTy (hc : CallR X (.type T) r) (hg : Gl X x) (hm : X.mg x = none) (hv : bootBuiltins x = some (.type T)) (ha : PA X (e :: es) t) (hn : x ≠ "__name__" := by decide) (hdb : (x == ("__debug__" : Str)) = false := by decide)
    (he : starEach (e :: es) X.env = (false, eval e X.env) :: starEach es X.env := by rfl) (hpl : (backTo pos (starEach es X.env)).any (·.1) = false := by rfl) : PE X (.Call (.Name x p) (e :: es) [] pos) (tCB r t) := by
  intro pins s σ H Q I h
  refine wpAny_Call_Name_kw (ld_blt I hg hm hv ?_ hn hdb)
  exact PyProof.Rows.callWith_type1 (thn (ha pos pins s σ H _ I h) fun us s1 ⟨vs, H1, I1, r1, q1⟩ => hc pins s1 σ H1 vs us Q I1 r1 q1) he hpl
/-- T() -/
theorem pe_callTy0 (hc : CallR X (.type T) r) (hg : Gl X x) (hm : X.mg x = none) (hv : bootBuiltins x = some (.type T)) (hn : x ≠ "__name__" := by decide) (hdb : (x == ("__debug__" : Str)) = false := by decide) :
    PE X (.Call (.Name x p) [] [] pos) (tCB r tNil) := by
  intro pins s σ H Q I h
  refine wpAny_Call_Name_kw (ld_blt I hg hm hv ?_ hn hdb)
  exact PyProof.Rows.callWith_type0 (hc pins s σ H [] [] Q I .nil h)
end
end L2

namespace HT
open PySem PyProof.Rows

/-- t < u of tuples of ints -/
def lexLt : List Int → List Int → Bool
  | [], [] => false
  | [], _ :: _ => true
  | _ :: _, [] => false
  | x :: xs, y :: ys => if x = y then lexLt xs ys else decide (x < y)
theorem lexLt_cons (x y : Int) (xs ys : List Int) : lexLt (x :: xs) (y :: ys) = if x = y then lexLt xs ys else decide (x < y) := rfl
theorem lexLt_nil_nil : lexLt [] [] = false := rfl
theorem lexLt_nil_cons (y : Int) (ys : List Int) : lexLt [] (y :: ys) = true := rfl
theorem lexLt_cons_nil (x : Int) (xs : List Int) : lexLt (x :: xs) [] = false := rfl

theorem eqAt_int (A : Around) (s : Shared) (a : Int) (t : Tok) (c : Int) (u : Tok) : ∃ e, SeqAt.EqAt A s (.int a t) (.int c u) e ∧ (e = true ↔ a = c) :=
  ⟨(a == c), SeqAt.EqAt.int_int a t c u, by simp⟩
theorem rcLt_int (A : Around) (s : Shared) (a : Int) (t : Tok) (c : Int) (u : Tok) (prog : Program) (w : World) (E : Value → Shared → Prop) (Q : Value → Shared → Prop) (h : Q (.bool (decide (a < c))) s) :
    wpAny (model prog w) A (richCompare .Lt (.int a t) (.int c u)) Q E s :=
  (PyProof.Rows.lt_int h : wpAny (model prog w) A (compareOp .Lt (.int a t) (.int c u)) Q E s)

section
open PySem.SeqAt
open PySem.AutoSeq1 (wpAny_loadPart')
open PySem.MeetsSeq PySem.MeetsSeq2 PySem.MeetsSeq3

theorem tuple_lt_ints (l b : Addr) (items items2 : Array Value) (n n2 : Nat) (dd dd2 : Option Addr) (sl sl2 : Array (Option Value)) (ns ms : List Int) (hi : IntsAre items.toList ns) (hj : IntsAre items2.toList ms) :
    Meets (Builtin.«tuple.__lt__» ⟨[.ref l, .ref b], []⟩)
      (fun _ R s => s.heap.get? l = some { cls := .type "tuple", dict := dd, data := .seq items n, slots := sl } ∧ s.heap.get? b = some { cls := .type "tuple", dict := dd2, data := .seq items2 n2, slots := sl2 } ∧
        R (.ok (.ret (.bool (lexLt ns ms)))) s) :=
  .of_wp fun prog w A R s h => by
    obtain ⟨hp, g, d, tk, os⟩ := s; obtain ⟨hl, hb, h⟩ := h
    have f2 := AutoSeq1.sub_tuple_tuple
    have z1 : items.size = ns.length := by rw [← hi.length]; simp
    have z2 : items2.size = ms.length := by rw [← hj.length]; simp
    wp_walk using wpAny_loadPart' hl, wpAny_loadPart' hb, wpAny_forIn_list _ (fun rest b s' => b.1 = none ∧ s' = ⟨hp, g, d, tk, os⟩ ∧ ∃ (vs ws : List Value) (ns' ms' : List Int), rest = vs.zip ws ∧
      IntsAre vs ns' ∧ IntsAre ws ms' ∧ ns'.length + items2.size = ms'.length + items.size ∧ R (.ok (.ret (.bool (lexLt ns' ms')))) ⟨hp, g, d, tk, os⟩) _
    case turn =>
      rintro ⟨y, x⟩ rest b s' ⟨hb', rfl, vs, ws, ns', ms', hz, hvi, hwi, hlen, hR⟩
      cases hvi with
      | nil => rw [List.zip_nil_left] at hz; cases hz
      | cons a t hvi' =>
        cases hwi with
        | nil => rw [List.zip_nil_right] at hz; cases hz
        | cons c u hwi' =>
          rw [List.zip_cons_cons] at hz
          injection hz with hyx hrest
          injection hyx with hy hx
          subst hy hx
          rw [lexLt_cons] at hR
          simp only [List.length_cons] at hlen
          obtain ⟨e, he, hiff⟩ := eqAt_int A.in1 ⟨hp, g, d, tk, os⟩ a t c u
          refine wpAny_bind (he prog w _ _ ?_)
          cases e with
          | true =>
            rw [if_pos (hiff.mp rfl)] at hR
            wp_walk
            exact ⟨rfl, rfl, _, _, _, _, hrest, hvi', hwi', by omega, hR⟩
          | false =>
            rw [if_neg (fun q => absurd (hiff.mpr q) Bool.false_ne_true)] at hR
            have hri := rcLt_int A.in1 ⟨hp, g, d, tk, os⟩ a t c u prog w
            wp_walk using hri
            exact ⟨_, rfl, by simpa using hR⟩
    case fin =>
      rintro ⟨b1, b2⟩ s' ⟨hb', rfl, vs, ws, ns', ms', hz, hvi, hwi, hlen, hR⟩
      simp only at hb'
      subst hb'
      have hv : lexLt ns' ms' = decide (items.size < items2.size) := by
        cases hvi with
        | nil =>
          cases hwi with
          | nil =>
            simp only [List.length_nil] at hlen
            rw [lexLt_nil_nil]
            exact (decide_eq_false (by omega)).symm
          | cons c u hw =>
            simp only [List.length_nil, List.length_cons] at hlen
            rw [lexLt_nil_cons]
            exact (decide_eq_true (by omega)).symm
        | cons a t hv =>
          cases hwi with
          | nil =>
            simp only [List.length_nil, List.length_cons] at hlen
            rw [lexLt_cons_nil]
            exact (decide_eq_false (by omega)).symm
          | cons c u hw =>
            rw [List.zip_cons_cons] at hz
            cases hz
      rw [hv] at hR
      wp_walk
      exact ⟨_, rfl, by simpa [Builtin.Tuple.tupleCompareSizes] using hR⟩
    case h =>
      exact ⟨rfl, rfl, items.toList, items2.toList, ns, ms, rfl, hi, hj, by omega, h⟩
end

section
variable {prog : Program} {w : World} {A : Around} {E : Value → Shared → Prop} {s : Shared}

theorem lt_tupInts {l b : Addr} {items items2 : Array Value} {ns ms : List Int} {Q : Value → Shared → Prop} (hl : IsTup s.heap l items) (hb : IsTup s.heap b items2) (hi : IntsAre items.toList ns) (hj : IntsAre items2.toList ms)
    (hu : A.units < cLine) (h : Q (.bool (lexLt ns ms)) s) : wpAny (model prog w) A (compareOp .Lt (.ref l) (.ref b)) Q E s := by
  obtain ⟨⟨cls, dd, data, sl⟩, ho, hc, n, hd⟩ := id hl
  obtain ⟨⟨cls2, dd2, data2, sl2⟩, ho2, hc2, n2, hd2⟩ := id hb
  simp only at hc hd hc2 hd2
  subst hc hd hc2 hd2
  exact richCompare_meets_room (op := .Lt) ⟨_, ho, rfl⟩ ⟨_, ho2, rfl⟩ PySem.F.slot_tuple_lt PySem.F.entry_tuple_lt (PySem.F.args_tuple_lt_2 _ _) (tuple_lt_ints l b items items2 n n2 dd dd2 sl sl2 ns ms hi hj)
    ⟨ho, ho2, show Value.bool (lexLt ns ms) ≠ Value.notImplemented ∧ Q (.bool (lexLt ns ms)) s from ⟨(fun x => nomatch x), h⟩⟩ hu

/-- t + u, t not empty -/
theorem cat_tup {t b : Addr} {vs ws : List Value} {Q : Value → Shared → Prop} (ht : IsTup s.heap t vs.toArray) (hb : IsTup s.heap b ws.toArray) (hv : vs ≠ [])
    (h1 : ws = [] → Q (.ref t) s) (h2 : ws ≠ [] → Q (.ref s.heap.objs.size) { s with heap := s.heap.push { cls := .type "tuple", data := .seq (vs ++ ws).toArray } })
    (hsz : vs.length + ws.length ≤ sizeLine) : wpAny (model prog w) A (binaryOp .Add (.ref t) (.ref b)) Q E s := by
  obtain ⟨⟨cls, dd, data, sl⟩, ho, hc, n, hd⟩ := id ht
  obtain ⟨⟨cls2, dd2, data2, sl2⟩, ho2, hc2, n2, hd2⟩ := id hb
  simp only at hc hd hc2 hd2
  subst hc hd hc2 hd2
  have e : vs.toArray ++ ws.toArray = (vs ++ ws).toArray := by simp
  by_cases hw : ws = []
  · exact concat_meets ⟨_, ho, rfl⟩ ⟨_, ho2, rfl⟩ noFill_tuple_add seq_tuple_add PySem.F.slot_tuple_add PySem.F.entry_tuple_add (PySem.F.args_tuple_add_2 _ _)
      (tuple_addW1 t b vs.toArray ws.toArray n n2 dd dd2 sl sl2 (by simpa using hv) (by simp [hw])) ⟨ho, ho2, h1 hw⟩
  · refine concat_meets ⟨_, ho, rfl⟩ ⟨_, ho2, rfl⟩ noFill_tuple_add seq_tuple_add PySem.F.slot_tuple_add PySem.F.entry_tuple_add (PySem.F.args_tuple_add_2 _ _)
      (tuple_addW2 t b vs.toArray ws.toArray n n2 dd dd2 sl sl2 (by simpa using hv) (by simpa using hw) (by rw [List.size_toArray, List.size_toArray]; exact hsz)) ⟨ho, ho2, ?_⟩
    rw [e]
    exact h2 hw

/-! ### t[a:b], not the whole -/
/-- a slice's bound as a place among n (d where it is left out) -/
def sIx (n d : Nat) : Option Int → Nat
  | none => d
  | some v => if v < 0 then (v + (n : Int)).toNat else min v.toNat n
theorem sIx_none (n d : Nat) : sIx n d none = d := rfl
theorem sIx_nat (n d k : Nat) : sIx n d (some (k : Int)) = min k n := by
  show (if (k : Int) < 0 then ((k : Int) + (n : Int)).toNat else min (k : Int).toNat n) = min k n
  rw [if_neg (by omega), Int.toNat_natCast]
theorem sIx_le (n d : Nat) (hd : d ≤ n) (o : Option Int) : sIx n d o ≤ n := by
  cases o with
  | none => exact hd
  | some v =>
    show (if v < 0 then (v + (n : Int)).toNat else min v.toNat n) ≤ n
    by_cases hv : v < 0
    · rw [if_pos hv]; omega
    · rw [if_neg hv]; exact Nat.min_le_right _ _
theorem clip_eq (v : Int) (n d : Nat) : (if v < 0 then max (v + (n : Int)) 0 else min v (n : Int)) = ((sIx n d (some v) : Nat) : Int) := by
  show (if v < 0 then max (v + (n : Int)) 0 else min v (n : Int)) = (((if v < 0 then (v + (n : Int)).toNat else min v.toNat n) : Nat) : Int)
  by_cases hv : v < 0
  · simp only [if_pos hv]; omega
  · simp only [if_neg hv]; omega
theorem adjust_gen (lo hi : Option Int) (n : Nat) : Builtin.Slice.sliceAdjust lo hi 1 (n : Int) = (((sIx n 0 lo : Nat) : Int), ((sIx n n hi : Nat) : Int)) := by
  have h1 : ¬ ((1 : Int) < 0) := by omega
  unfold Builtin.Slice.sliceAdjust
  simp only [h1, if_false]
  refine Prod.ext ?_ ?_
  · cases lo with
    | none => rfl
    | some v => exact clip_eq v n 0
  · cases hi with
    | none => rfl
    | some v => exact clip_eq v n n
theorem places_gen (i j : Nat) : Builtin.Slice.slicePlaces (i : Int) (j : Int) 1 = j - i := by
  unfold Builtin.Slice.slicePlaces
  have h1 : (1 : Int) > 0 := by omega
  simp only [h1, if_true, Int.ediv_one]
  split <;> omega
theorem slicePart_ {v : Value} {o : Option Int} {Q : Option Int → Shared → Prop} (p : IsPart v o) (h : Q o s) : wpAny (model prog w) A (Builtin.Slice.slicePartIndex v) Q E s := by
  cases p with
  | none => exact slicePart_none h
  | int i t => exact slicePart_int h
theorem sliceApplied_gen {sl : Addr} {vl vu : Value} {lo hi : Option Int} {n : Nat} {Q : Int × Int × Nat → Shared → Prop} (hs : s.heap.IsSliceOf sl vl vu .none) (pl : IsPart vl lo) (pu : IsPart vu hi)
    (h : Q (((sIx n 0 lo : Nat) : Int), 1, sIx n n hi - sIx n 0 lo) s) : wpAny (model prog w) A (Builtin.Slice.sliceApplied (.ref sl) (pure (n : Int))) Q E s := by
  obtain ⟨os, hos, hcs, hds⟩ := id hs
  unfold Builtin.Slice.sliceApplied Builtin.Slice.sliceFields
  refine wpAny_bind (wpAny_bind (wpAny_field hos hds (x := vl) rfl (wpAny_bind (wpAny_field hos hds (x := vu) rfl (wpAny_bind (wpAny_field hos hds (x := .none) rfl (wpAny_pure ?_)))))))
  refine wpAny_bind (slicePart_none ?_)
  show wpAny _ _ (if ((1 : Int) == 0) = true then _ else _) _ _ s
  rw [if_neg (by decide)]
  refine wpAny_bind (slicePart_ pl (wpAny_bind (slicePart_ pu (wpAny_bind (wpAny_pure ?_)))))
  show wpAny _ _ (match Builtin.Slice.sliceAdjust lo hi 1 (n : Int) with | (lo, hi) => pure (lo, (1 : Int), Builtin.Slice.slicePlaces lo hi 1)) _ _ s
  rw [adjust_gen lo hi n]
  show wpAny _ _ (pure (((sIx n 0 lo : Nat) : Int), (1 : Int), Builtin.Slice.slicePlaces ((sIx n 0 lo : Nat) : Int) ((sIx n n hi : Nat) : Int) 1)) _ _ s
  rw [places_gen]
  exact wpAny_pure h
theorem pick_gen (xs : Array Value) (i k : Nat) : ((List.range k).filterMap fun (m : Nat) => xs[((i : Int) + (m : Int) * 1).toNat]?).toArray = ((xs.toList.drop i).take k).toArray := by
  have e : (fun (m : Nat) => xs[((i : Int) + (m : Int) * 1).toNat]?) = fun m => xs[i + m]? := by
    funext m
    have : ((i : Int) + (m : Int) * 1).toNat = i + m := by omega
    rw [this]
  rw [e]
  have := pick_run xs i k
  rw [List.filterMap_map] at this
  have e2 : ((fun x => xs[x]?) ∘ fun x => i + x) = fun m => xs[i + m]? := rfl
  rw [e2] at this
  rw [this]

theorem getItem_tuple_cut {t sl : Addr} {items : Array Value} {vl vu : Value} {lo hi : Option Int} {Q : Value → Shared → Prop} (ht : IsTup s.heap t items) (hs : s.heap.IsSliceOf sl vl vu .none) (pl : IsPart vl lo) (pu : IsPart vu hi)
    (hw : ¬ (sIx items.size 0 lo = 0 ∧ sIx items.size items.size hi = items.size))
    (h : Q (.ref s.heap.objs.size) { s with heap := s.heap.push { cls := .type "tuple", data := .seq ((items.toList.drop (sIx items.size 0 lo)).take (sIx items.size items.size hi - sIx items.size 0 lo)).toArray } })
    (hsz : items.size ≤ sizeLine) : wpAny (model prog w) A (getItem (.ref t) (.ref sl)) Q E s := by
  have htake : sizeOk (.seq ((items.toList.drop (sIx items.size 0 lo)).take (sIx items.size items.size hi - sIx items.size 0 lo)).toArray) := by
    show ((items.toList.drop (sIx items.size 0 lo)).take (sIx items.size items.size hi - sIx items.size 0 lo)).toArray.size ≤ sizeLine
    rw [List.size_toArray, List.length_take, List.length_drop, Array.length_toList]
    omega
  have hj : sIx items.size items.size hi ≤ items.size := sIx_le _ _ (Nat.le_refl _) hi
  obtain ⟨os, hos, hcs, hds⟩ := id hs
  have hTs : s.TypeIs (.ref sl) "slice" := ⟨os, hos, hcs⟩
  unfold getItem
  try with_reducible refine wpAny_holding ?_
  first | refine wpAny_bind (wpAny_pure ?_) | skip
  refine wpAny_bind (wpAny_sequenceKey ht.typeIs (by decide) ?_)
  refine wpAny_bind (wpAny_callSpecial?_slot (name := Str.ofString "__getitem__") ht.typeIs PyProof.Rows.slot_tuple_getitem
    (wpAny_call_entry PyProof.Rows.slot_tuple_getitem ht.typeIs entry_tuple_getitem ?_ (args_tuple_getitem _ _)))
  show wpAny _ _ (Builtin.Tuple.tupleItemsOf (.ref t) >>= _) _ _ s
  refine wpAny_bind (tupleItemsOf_ ht ?_)
  refine wpAny_bind (wpAny_typeOf hTs ?_)
  rw [if_pos (by decide)]
  refine wpAny_bind (sliceApplied_gen hs pl pu ?_)
  have hno : ¬ ((((sIx items.size 0 lo : Nat) : Int) == 0 && (1 : Int) == 1 && (sIx items.size items.size hi - sIx items.size 0 lo) == items.size) = true) := by
    intro q
    rw [Bool.and_eq_true, Bool.and_eq_true] at q
    have q1 : ((sIx items.size 0 lo : Nat) : Int) = 0 := eq_of_beq q.1.1
    have q2 : sIx items.size items.size hi - sIx items.size 0 lo = items.size := eq_of_beq q.2
    exact hw ⟨by omega, by omega⟩
  show wpAny _ _ (if (((sIx items.size 0 lo : Nat) : Int) == 0 && (1 : Int) == 1 && (sIx items.size items.size hi - sIx items.size 0 lo) == items.size) = true then _ else _) _ _ s
  rw [if_neg hno, pick_gen]
  first
    | exact wpAny_bind (m := Builtin.Tuple.tupleExact _) (wpAny_newObj_type (wpAny_pure ⟨_, rfl, wpAny_pure h⟩) htake)
    | exact wpAny_bind (m := Builtin.Tuple.tupleExact _) (wpAny_newObj_type (wpAny_bind (wpAny_pure (wpAny_pure ⟨_, rfl, wpAny_pure h⟩))) htake)
    | exact wpAny_bind (wpAny_bind (m := Builtin.Tuple.tupleExact _) (wpAny_newObj_type (wpAny_pure (wpAny_pure ⟨_, rfl, wpAny_pure h⟩)) htake))
    | exact wpAny_bind (wpAny_bind (m := Builtin.Tuple.tupleExact _) (wpAny_newObj_type (wpAny_pure ⟨_, rfl, wpAny_pure h⟩) htake))
end
end HT

namespace L2
open PySem PySem.Spec PyProof.Rows

/-! ### the parts of a slice -/
abbrev TO := St → Hp → (Option Int → Hp → Prop) → Prop
/-- a slice's part (left out, or an int) -/
def PO (X : Cx) (e : Option Expr) (t : TO) : Prop :=
  ∀ (pins : List (Addr × Obj)) (s : Shared) (σ : St) (H : Hp) (Q : Option Int → Hp → Prop), Inv X pins σ H s → t σ H Q →
    wpAny (model X.prog X.w) X.A (evalPart e X.env) (fun u s' => ∃ o H', Inv X pins σ H' s' ∧ IsPart u o ∧ Q o H') X.xe s
def tNoPart : TO := fun _ H Q => Q none H
def tPart (t : TE) : TO := fun σ H Q => t σ H fun x H1 => ∃ i, x = .int i ∧ Q (some i) H1

theorem intsAre_of {ns : List Int} : ∀ {us : List Value}, Vals (ns.map V.int) us → IntsAre us ns := by
  induction ns with
  | nil => intro us r; rw [List.map_nil] at r; cases r; exact .nil
  | cons n ns ih =>
    intro us r
    rw [List.map_cons] at r
    cases r with
    | cons r1 r2 =>
      obtain ⟨t, e⟩ := r1
      subst e
      exact .cons n t (ih r2)

section
variable {X : Cx} {e : Expr} {te : TE} {lo hi : Option Expr} {tl th : TO} {pos p2 : Pos}

theorem po_none : PO X none tNoPart := by
  intro pins s σ H Q I h
  rw [evalPart_none]
  exact wpAny_pure ⟨none, H, I, .none, h⟩
theorem po_some (h : PE X e te) : PO X (some e) (tPart te) := by
  intro pins s σ H Q I hw
  rw [evalPart_some]
  refine thn (h pins s σ H _ I hw) fun u s1 ⟨x, H1, I1, r1, q1⟩ => ?_
  obtain ⟨i, rfl, q⟩ := q1
  obtain ⟨t, rfl⟩ := r1
  exact ⟨some i, H1, I1, .int i t, q⟩

/-- what a slice of a value is, by values: the slice object stands at sl -/
def SlR (X : Cx) (r : V → Option Int → Option Int → Hp → VK → Prop) : Prop :=
  ∀ (pins : List (Addr × Obj)) (s : Shared) (σ : St) (H : Hp) (x : V) (v vl vu : Value) (lo hi : Option Int) (sl : Addr) (Q : VK), Inv X pins σ H s → RelV x v → s.heap.IsSliceOf sl vl vu .none → IsPart vl lo → IsPart vu hi → r x lo hi H Q →
    ∃ T id, typeLookup (.type T) "__getitem__" = pure (some (.builtin id)) ∧ s.TypeIs v T ∧ wpAny (model X.prog X.w) X.A (getItem v (.ref sl)) (EP X pins σ Q) X.xe s
theorem SlR.or {r r' : V → Option Int → Option Int → Hp → VK → Prop} (h : SlR X r) (h' : SlR X r') : SlR X (fun x lo hi H Q => r x lo hi H Q ∨ r' x lo hi H Q) := by
  intro pins s σ H x v vl vu lo hi sl Q I rx hs pl pu q
  rcases q with q | q
  · exact h pins s σ H x v vl vu lo hi sl Q I rx hs pl pu q
  · exact h' pins s σ H x v vl vu lo hi sl Q I rx hs pl pu q
def tSl (r : V → Option Int → Option Int → Hp → VK → Prop) (te : TE) (tl th : TO) : TE := fun σ H Q => te σ H fun x H1 => tl σ H1 fun l H2 => th σ H2 fun u H3 => r x l u H3 Q
/-- a[lo:hi], any a -/
theorem pe_slice {r : V → Option Int → Option Int → Hp → VK → Prop} (hr : SlR X r) (he : PE X e te) (hl : PO X lo tl) (hu : PO X hi th) : PE X (.Subscript e (.Slice lo hi none p2) pos) (tSl r te tl th) := by
  intro pins s σ H Q I h
  refine Subscript_ (thn (he pins s σ H _ I h) fun v s1 ⟨x, H1, I1, r1, q1⟩ => ?_)
  refine wpAny_Slice (thn (hl pins s1 σ H1 _ I1 q1) fun vl s2 ⟨l, H2, I2, pl, q2⟩ => thn (hu pins s2 σ H2 _ I2 q2) fun vu s3 ⟨u, H3, I3, pu, q3⟩ => ?_)
  rw [evalPart_none]
  refine wpAny_pure ?_
  have I4 : Inv X pins σ H3 { s3 with heap := s3.heap.push { cls := .type "slice", data := .fields #[vl, vu, .none] } } := I3.kept (t' := s3.toks) fun b ob q => Heap.get?_push_of_some _ q
  obtain ⟨T, id, hT, ht, hg⟩ := hr pins { s3 with heap := s3.heap.push { cls := .type "slice", data := .fields #[vl, vu, .none] } } σ H3 x v vl vu l u s3.heap.objs.size Q I4 r1 (Heap.IsSliceOf.new ..) pl pu q3
  show wpAny (model X.prog X.w) X.A (subscriptTail e (.Slice lo hi none p2) v (.ref s3.heap.objs.size)) (EP X pins σ Q) X.xe { s3 with heap := s3.heap.push { cls := .type "slice", data := .fields #[vl, vu, .none] } }
  exact tail_any (ops := [.ref s3.heap.objs.size, v]) ht hT hg (by with_unfolding_all rfl)

/-- the items of xs[lo:hi] -/
def cutV (xs : List V) (lo hi : Option Int) : List V := (xs.drop (HT.sIx xs.length 0 lo)).take (HT.sIx xs.length xs.length hi - HT.sIx xs.length 0 lo)
theorem cutV_length (xs : List V) (lo hi : Option Int) : (cutV xs lo hi).length ≤ xs.length := by
  unfold cutV
  rw [List.length_take, List.length_drop]
  omega
/-- t[lo:hi], not the whole of it (the whole would be t itself) -/
def rSlT (K : PySem.W.Frag) : V → Option Int → Option Int → Hp → VK → Prop := fun x lo hi H Q => ∃ a xs, x = .ref a ∧ SqT K H a xs ∧
  ¬ (HT.sIx xs.length 0 lo = 0 ∧ HT.sIx xs.length xs.length hi = xs.length) ∧ ∀ p, H p = none → Q (.ref p) (upd H p (.tup (cutV xs lo hi)))
theorem sl_tup : SlR X (rSlT X.K) := by
  intro pins s σ H x v vl vu lo hi sl Q I rx hs pl pu h
  obtain ⟨a, xs, rfl, hx, hw, q⟩ := h
  cases rx
  obtain ⟨its, r, ht, hz⟩ := I.tuple hx
  have hlen : its.toArray.size = xs.length := by rw [List.size_toArray]; exact r.length.symm
  refine ⟨"tuple", _, PyProof.Rows.slot_tuple_getitem.lookup, ht.typeIs, ?_⟩
  refine HT.getItem_tuple_cut ht hs pl pu (by rw [hlen]; exact hw) ?_ (by rw [hlen]; exact hz)
  rw [hlen]
  refine ⟨.ref s.heap.objs.size, _, I.laid (t' := s.toks) (o := .tup (cutV xs lo hi)) (fun b ob q => Heap.get?_push_of_some _ q) (Nat.le_refl _) ?_, rfl, q _ (I.hok.fresh (Nat.le_refl _))⟩
  exact ⟨Nat.le_trans (cutV_length xs lo hi) hz, _, (r.drop (HT.sIx xs.length 0 lo)).take (HT.sIx xs.length xs.length hi - HT.sIx xs.length 0 lo), IsTup.new _ _⟩

/-! ### t < u, t + u -/
def rLtT (K : PySem.W.Frag) : R2 := fun x y H Q => ∃ a b ns ms, x = .ref a ∧ y = .ref b ∧ SqT K H a (ns.map V.int) ∧ SqT K H b (ms.map V.int) ∧ Q (.bl (HT.lexLt ns ms)) H
theorem op_ltT (hu : X.A.units < cLine) : OpR X (compareOp .Lt) (rLtT X.K) := by
  intro pins s σ H x y v u Q I rx ry h
  obtain ⟨a, b, ns, ms, rfl, rfl, ha, hb, q⟩ := h
  cases rx
  cases ry
  obtain ⟨its, r1, p1, _⟩ := I.tuple ha
  obtain ⟨its2, r2, p2, _⟩ := I.tuple hb
  have i1 : IntsAre its.toArray.toList ns := intsAre_of r1
  have i2 : IntsAre its2.toArray.toList ms := intsAre_of r2
  exact HT.lt_tupInts p1 p2 i1 i2 hu ⟨.bl (HT.lexLt ns ms), H, I, rfl, q⟩
/-- t + u, t not empty: u empty gives t itself -/
def rCatT (K : PySem.W.Frag) : R2 := fun x y H Q => ∃ a b xs ys, x = .ref a ∧ y = .ref b ∧ SqT K H a xs ∧ SqT K H b ys ∧ xs ≠ [] ∧ xs.length + ys.length ≤ sizeLine ∧
  (ys = [] → Q (.ref a) H) ∧ (ys ≠ [] → ∀ p, H p = none → Q (.ref p) (upd H p (.tup (xs ++ ys))))
theorem Vals.nil_iff {xs : List V} {us : List Value} (r : Vals xs us) : us = [] ↔ xs = [] := by
  cases r with
  | nil => simp
  | cons _ _ => simp
theorem op_catT : OpR X (binaryOp .Add) (rCatT X.K) := by
  intro pins s σ H x y v u Q I rx ry h
  obtain ⟨a, b, xs, ys, rfl, rfl, ha, hb, hx, hz, q1, q2⟩ := h
  cases rx
  cases ry
  obtain ⟨its, r1, p1, _⟩ := I.tuple ha
  obtain ⟨its2, r2, p2, _⟩ := I.tuple hb
  refine HT.cat_tup p1 p2 (fun z => hx (r1.nil_iff.mp z)) (fun z => ⟨.ref a, H, I, rfl, q1 (r2.nil_iff.mp z)⟩) (fun z => ?_) (by rw [← r1.length, ← r2.length]; exact hz)
  refine ⟨.ref s.heap.objs.size, _, I.laid (t' := s.toks) (o := .tup (xs ++ ys)) (fun b ob q => Heap.get?_push_of_some _ q) (Nat.le_refl _) ?_, rfl, q2 (fun w => z (r2.nil_iff.mpr w)) _ (I.hok.fresh (Nat.le_refl _))⟩
  exact ⟨by rw [List.length_append]; exact hz, _, r1.append r2, IsTup.new _ _⟩
/-- tuple(t) -/
theorem call_tupleT : CallR X (.type "tuple") (fun xs H Q => ∃ a ys, xs = [.ref a] ∧ SqT X.K H a ys ∧ Q (.ref a) H) := by
  intro pins s σ H xs us Q I r h
  obtain ⟨a, ys, rfl, ha, q⟩ := h
  obtain ⟨u, rfl, ru⟩ := vals1 r
  cases ru
  obtain ⟨its, _, p1, _⟩ := I.tuple ha
  exact call_tuple_same (items := its.toArray) p1 ⟨.ref a, H, I, rfl, q⟩
end
end L2

namespace L2
open PySem PySem.Spec PyProof.Rows

/-! ### places -/
/-- the place that an index of any sign means -/
def ixN (n : Nat) (i : Int) : Option Nat := if 0 ≤ i then (if i < n then some i.toNat else none) else if -(n : Int) ≤ i then some (i + n).toNat else none
def atI {α : Type} (xs : List α) (i : Int) : Option α := (ixN xs.length i).bind fun j => xs[j]?
theorem ixN_seq {n : Nat} {i : Int} {j : Nat} (h : ixN n i = some j) : seqIndex? i n = some j ∧ j < n ∧ -(n : Int) ≤ i ∧ i < n := by
  unfold ixN at h
  by_cases h0 : 0 ≤ i
  · rw [if_pos h0] at h
    by_cases h1 : i < n
    · rw [if_pos h1] at h
      have e : i.toNat = j := Option.some.inj h
      exact ⟨by rw [seqIndex_of h0 h1, e], by omega, by omega, h1⟩
    · rw [if_neg h1] at h; cases h
  · rw [if_neg h0] at h
    by_cases h1 : -(n : Int) ≤ i
    · rw [if_pos h1] at h
      have e : (i + n).toNat = j := Option.some.inj h
      exact ⟨by rw [seqIndex_neg (by omega) h1, e], by omega, h1, by omega⟩
    · rw [if_neg h1] at h; cases h
theorem atI_get {α : Type} {xs : List α} {i : Int} {v : α} (h : atI xs i = some v) : ∃ j, seqIndex? i xs.length = some j ∧ xs[j]? = some v ∧ j < xs.length ∧ -(xs.length : Int) ≤ i ∧ i < xs.length := by
  unfold atI at h
  cases e : ixN xs.length i with
  | none => rw [e] at h; cases h
  | some j =>
    rw [e] at h
    obtain ⟨h1, h2, h3, h4⟩ := ixN_seq e
    exact ⟨j, h1, h, h2, h3, h4⟩
theorem atI_nat {α : Type} {xs : List α} {j : Nat} {v : α} (h : xs[j]? = some v) : atI xs (j : Int) = some v := by
  have hj : j < xs.length := (List.getElem?_eq_some_iff.mp h).1
  have e : ixN xs.length (j : Int) = some j := by
    unfold ixN
    rw [if_pos (by omega), if_pos (by omega)]; simp
  unfold atI; rw [e]; exact h
theorem atI_last {α : Type} (xs : List α) (v : α) : atI (xs ++ [v]) (-1) = some v := by
  have hl : (xs ++ [v]).length = xs.length + 1 := by simp
  have e : ixN (xs ++ [v]).length (-1) = some xs.length := by
    unfold ixN
    rw [hl, if_neg (by decide), if_pos (by omega)]
    congr 1
    omega
  unfold atI
  rw [e]
  show (xs ++ [v])[xs.length]? = some v
  simp

/-! ### what may be subscripted -/
/-- what stands as an index of a plain subscript -/
def PlainIx (b : Expr) : Prop := ∀ o i, subscripted b false o i = operate [o, i] (getItem o i)
/-- a subscript by values -/
def IxR (X : Cx) (r : R2) : Prop :=
  ∀ (value slice : Expr) (pins : List (Addr × Obj)) (s : Shared) (σ : St) (H : Hp) (x y : V) (v u : Value) (Q : VK), Inv X pins σ H s → RelV x v → RelV y u → r x y H Q →
    subscripted slice false v u = operate [v, u] (getItem v u) → wpAny (model X.prog X.w) X.A (subscriptTail value slice v u) (EP X pins σ Q) X.xe s
/-- a call of a builtin's method by values: the receiver, the arguments -/
def MtR (X : Cx) (id : String) (r : V → List V → Hp → VK → Prop) : Prop :=
  ∀ (pins : List (Addr × Obj)) (s : Shared) (σ : St) (H : Hp) (x : V) (xs : List V) (v : Value) (us : List Value) (Q : VK), Inv X pins σ H s → RelV x v → Vals xs us → r x xs H Q →
    wpAny (model X.prog X.w) X.A (call (.builtin id) (v :: us)) (EP X pins σ Q) X.xe s
section
variable {X : Cx} {a b : Expr} {ta tb : TE} {pos : Pos}
theorem IxR.or {r r' : R2} (h : IxR X r) (h' : IxR X r') : IxR X (fun x y H Q => r x y H Q ∨ r' x y H Q) := by
  intro value slice pins s σ H x y v u Q I rx ry q hs
  rcases q with q | q
  · exact h value slice pins s σ H x y v u Q I rx ry q hs
  · exact h' value slice pins s σ H x y v u Q I rx ry q hs
theorem MtR.or {id : String} {r r' : V → List V → Hp → VK → Prop} (h : MtR X id r) (h' : MtR X id r') : MtR X id (fun x xs H Q => r x xs H Q ∨ r' x xs H Q) := by
  intro pins s σ H x xs v us Q I rx rs q
  rcases q with q | q
  · exact h pins s σ H x xs v us Q I rx rs q
  · exact h' pins s σ H x xs v us Q I rx rs q
/-- a[b] -/
theorem pe_ix {r : R2} (hr : IxR X r) (ha : PE X a ta) (hb : PE X b tb) (hs : PlainIx b) : PE X (.Subscript a b pos) (tOp r ta tb) := by
  intro pins s σ H Q I h
  exact Subscript_ (binT ha hb I h fun v u s2 x y H2 I2 rx ry q => hr a b pins s2 σ H2 x y v u Q I2 rx ry q (hs _ _))

def rIxL (K : PySem.W.Frag) : R2 := fun x y H Q => ∃ p xs i v, x = .ref p ∧ y = .int i ∧ SqL K H p xs ∧ atI xs i = some v ∧ Q v H
def rIxT (K : PySem.W.Frag) : R2 := fun x y H Q => ∃ p xs i v, x = .ref p ∧ y = .int i ∧ SqT K H p xs ∧ atI xs i = some v ∧ Q v H
def rIxS : R2 := fun x y H Q => ∃ z i c, x = .str z ∧ y = .int i ∧ z.length ≤ sizeLine ∧ atI z.cps.toList i = some c ∧ Q (.str ⟨#[c]⟩) H
theorem ix_list : IxR X (rIxL X.K) := by
  intro value slice pins s σ H x y v u Q I rx ry h hs
  obtain ⟨p, xs, i, z, rfl, rfl, hq, he, q⟩ := h
  cases rx
  obtain ⟨t, rfl⟩ := ry
  obtain ⟨its, r, pl, hz⟩ := I.list hq
  obtain ⟨j, h1, h2, h3, h4, h5⟩ := atI_get he
  obtain ⟨w, ew, rw'⟩ := r.get h2
  have hl := r.length
  have hn := line63
  have fin : EP X pins σ Q w s := ⟨z, H, I, rw', q⟩
  by_cases h0 : 0 ≤ i
  · have hj : i.toNat = j := by
      rw [seqIndex_of h0 h5] at h1
      exact Option.some.inj h1
    exact item_listR pl.isList h0 (by omega) (by rw [hj]; simpa using ew) fin hs
  · have hj : (i + (its.toArray.size : Int)).toNat = j := by
      rw [seqIndex_neg (by omega) h4] at h1
      rw [List.size_toArray, ← hl]
      exact Option.some.inj h1
    exact subscriptTail_builtinR (x := w) pl.isList.typeIs slot_list_getitem.lookup
      (wpAny_getItem_list_neg (Q := fun r s' => r = w ∧ EP X pins σ Q r s') pl.isList (by omega) (by rw [List.size_toArray] <;> omega) (by omega) (by rw [hj]; simpa using ew) ⟨rfl, fin⟩) hs
theorem ix_tup : IxR X (rIxT X.K) := by
  intro value slice pins s σ H x y v u Q I rx ry h hs
  obtain ⟨p, xs, i, z, rfl, rfl, hq, he, q⟩ := h
  cases rx
  obtain ⟨t, rfl⟩ := ry
  obtain ⟨its, r, pl, hz⟩ := I.tuple hq
  obtain ⟨j, h1, h2, h3, h4, h5⟩ := atI_get he
  obtain ⟨w, ew, rw'⟩ := r.get h2
  have hl := r.length
  have hn := line63
  have fin : EP X pins σ Q w s := ⟨z, H, I, rw', q⟩
  exact subscriptTail_builtinR (x := w) pl.typeIs slot_tuple_getitem.lookup
    (getItem_tuple (j := j) (Q := fun r s' => r = w ∧ EP X pins σ Q r s') pl (by omega) (by omega) (by rw [List.size_toArray, ← hl]; exact h1) (by simpa using ew) ⟨rfl, fin⟩) hs
theorem ix_str : IxR X rIxS := by
  intro value slice pins s σ H x y v u Q I rx ry h hs
  obtain ⟨z, i, c, rfl, rfl, hz, he, q⟩ := h
  obtain ⟨t, rfl⟩ := rx
  obtain ⟨t', rfl⟩ := ry
  obtain ⟨j, h1, h2, h3, h4, h5⟩ := atI_get he
  have hl : z.cps.toList.length = z.length := by simp [Str.length]
  rw [hl] at h1 h4 h5
  have hn := line63
  exact tail_any (typeIs_str s z t) slot_str_getitem.lookup (getItem_str (c := c) (by
    have e1 : decide (i < -(2 ^ 63 : Int)) = false := decide_eq_false (by omega)
    have e2 : decide (i ≥ 2 ^ 63) = false := decide_eq_false (by omega)
    rw [e1, e2, Bool.or_false]) (by rw [h1]; simpa using h2) ⟨.str ⟨#[c]⟩, H, I.tok _, ⟨_, rfl⟩, q⟩) hs
/-- list, tuple or str -/
def rIx (K : PySem.W.Frag) : R2 := fun x y H Q => rIxL K x y H Q ∨ rIxT K x y H Q ∨ rIxS x y H Q
theorem ix_seq : IxR X (rIx X.K) := ix_list.or (ix_tup.or ix_str)

/-! ### xs[i] = v, any sign -/
/-- the list's object behind a store -/
theorem mapSeq_set (its : List Value) (n j : Nat) (u : Value) : Obj.mapSeq (·.setIfInBounds j u) { cls := .type "list", data := .seq its.toArray n } = { cls := .type "list", data := .seq (its.set j u).toArray n } := by
  simp [Obj.mapSeq]
theorem Inv.lst {pins : List (Addr × Obj)} {σ : St} {H : Hp} {s : Shared} {p : Addr} {xs : List V} (I : Inv X pins σ H s) (h : H p = some (.lst xs)) :
    ∃ (its : List Value) (n : Nat), Vals xs its ∧ s.heap.get? p = some { cls := .type "list", data := .seq its.toArray n } ∧ xs.length ≤ sizeLine := by
  obtain ⟨z, its, n, r, e⟩ := I.hok p _ h
  exact ⟨its, n, r, e, z⟩
/-- the list at p is written by an update of its object -/
theorem Inv.lstUpd {pins : List (Addr × Obj)} {σ : St} {H : Hp} {s : Shared} {p : Addr} {xs ys : List V} {its its' : List Value} {n n' : Nat} {f : Obj → Obj} (I : Inv X pins σ H s) (h : H p = some (.lst xs))
    (ho : s.heap.get? p = some { cls := .type "list", data := .seq its.toArray n }) (hf : f { cls := .type "list", data := .seq its.toArray n } = { cls := .type "list", data := .seq its'.toArray n' }) (r : Vals ys its') (hz : ys.length ≤ sizeLine) (t : Nat) :
    Inv X pins σ (upd H p (.lst ys)) { s with heap := s.heap.update p f, toks := t } := by
  have e : (s.heap.update p f).get? p = some { cls := .type "list", data := .seq its'.toArray n' } := by
    rw [Heap.get?_update_self f ho (by rw [hf] <;> rfl), hf]
  refine I.write (x := p) (e := p) (by rw [h]; trivial) (.inl rfl) (fun b u hb q => (Heap.get?_update_other _ _ (Ne.symm hb)).trans q) ⟨_, e⟩ ?_
  exact ⟨hz, its', n', r, e⟩
def rSetL : V → V → V → Hp → (Hp → Prop) → Prop := fun o i v H Q => ∃ p xs k j, o = .ref p ∧ i = .int k ∧ H p = some (.lst xs) ∧ ixN xs.length k = some j ∧ Q (upd H p (.lst (xs.set j v)))
theorem set_list : PSet X rSetL := by
  intro pins s σ H o i v ov iv u Q I ro ri rv h
  obtain ⟨p, xs, k, j, rfl, rfl, hp, hj, q⟩ := h
  cases ro
  obtain ⟨t, rfl⟩ := ri
  obtain ⟨its, n, r, ho, hz⟩ := I.lst hp
  obtain ⟨h1, h2, h3, h4⟩ := ixN_seq hj
  have hl := r.length
  have hn := line63
  have I' : Inv X pins σ (upd H p (.lst (xs.set j v))) { s with heap := s.heap.update p (Obj.mapSeq (·.setIfInBounds j u)) } :=
    I.lstUpd hp ho (mapSeq_set its n j u) (r.set rv j) (by rw [List.length_set]; exact hz) s.toks
  by_cases h0 : 0 ≤ k
  · have hk : k.toNat = j := by
      rw [seqIndex_of h0 h4] at h1
      exact Option.some.inj h1
    exact PySem.W.ki_setAt ho h0 (by omega) (by rw [List.size_toArray, ← hl]; exact h4) (by rw [hk]; exact ⟨_, I', q⟩)
  · have hk : (k + (its.toArray.size : Int)).toNat = j := by
      rw [seqIndex_neg (by omega) h3] at h1
      rw [List.size_toArray, ← hl]
      exact Option.some.inj h1
    exact PySem.W.ki_setBack ho (by omega) (by rw [List.size_toArray, ← hl]; exact h3) (by omega) (by rw [hk]; exact ⟨_, I', q⟩)

/-! ### slices -/
theorem slice_bounds (lo hi : Option Int) (n : Nat) : (sliceBounds lo hi none n).1 = ((HT.sIx n 0 lo : Nat) : Int) ∧ (sliceBounds lo hi none n).2.1 = ((HT.sIx n n hi : Nat) : Int) ∧ (sliceBounds lo hi none n).2.2 = 1 := by
  refine ⟨?_, ?_, rfl⟩
  · cases lo with
    | none => simp [sliceBounds, HT.sIx]
    | some i =>
      simp only [sliceBounds, HT.sIx, Option.getD_none, show (1 : Int) > 0 by decide, if_true]
      by_cases h : i < 0
      · simp only [h, if_true] <;> omega
      · simp only [h, if_false] <;> omega
  · cases hi with
    | none => simp [sliceBounds, HT.sIx]
    | some i =>
      simp only [sliceBounds, HT.sIx, Option.getD_none, show (1 : Int) > 0 by decide, if_true]
      by_cases h : i < 0
      · simp only [h, if_true] <;> omega
      · simp only [h, if_false] <;> omega
theorem slicePick_cut (its : List Value) (lo hi : Option Int) : slicePick its.toArray lo hi none = ((its.drop (HT.sIx its.length 0 lo)).take (HT.sIx its.length its.length hi - HT.sIx its.length 0 lo)).toArray := by
  obtain ⟨h1, h2, h3⟩ := slice_bounds lo hi its.toArray.size
  unfold slicePick
  rw [h1, h2, h3]
  simp only [sliceRange_one, pick_run, List.size_toArray] <;> rfl
/-- xs[lo:hi] of a list: a new list -/
def rSlL (K : PySem.W.Frag) : V → Option Int → Option Int → Hp → VK → Prop := fun x lo hi H Q => ∃ a xs, x = .ref a ∧ SqL K H a xs ∧ ∀ p, H p = none → Q (.ref p) (upd H p (.lst (cutV xs lo hi)))
theorem sl_list : SlR X (rSlL X.K) := by
  intro pins s σ H x v vl vu lo hi sl Q I rx hs pl pu h
  obtain ⟨a, xs, rfl, hx, q⟩ := h
  cases rx
  obtain ⟨its, r, ht, hz⟩ := I.list hx
  have hlen := r.length
  refine ⟨"list", _, slot_list_getitem.lookup, ht.isList.typeIs, ?_⟩
  refine wpAny_getItem_list_slice ht.isList hs pl pu .none (by simp) ?_ (by rw [List.size_toArray] <;> omega)
  rw [slicePick_cut, ← hlen]
  refine ⟨.ref s.heap.objs.size, _, I.laid (t' := s.toks) (o := .lst (cutV xs lo hi)) (fun b ob q => Heap.get?_push_of_some _ q) (Nat.le_refl _) ?_, rfl, q _ (I.hok.fresh (Nat.le_refl _))⟩
  exact ⟨Nat.le_trans (cutV_length xs lo hi) hz, _, 0, (r.drop (HT.sIx xs.length 0 lo)).take (HT.sIx xs.length xs.length hi - HT.sIx xs.length 0 lo), Heap.get?_push_size _ rfl⟩

/-! ### in, not in: flat items -/
def flatV : V → Bool
  | .non => true
  | .bl _ => true
  | .int _ => true
  | .str _ => true
  | _ => false
/-- == of flat values -/
def eqV : V → V → Bool
  | .non, .non => true
  | .bl a, .bl b => a == b
  | .bl a, .int b => (if a then 1 else 0) == b
  | .int a, .bl b => a == (if b then 1 else 0)
  | .int a, .int b => a == b
  | .str a, .str b => a == b
  | _, _ => false
theorem eqAt_V {A : Around} {s : Shared} {y x : V} {u v : Value} (ry : RelV y u) (rx : RelV x v) (fy : flatV y = true) (fx : flatV x = true) : SeqAt.EqAt A s u v (eqV y x) := by
  cases y with
  | non =>
    cases ry
    cases x with
    | non => cases rx; exact SeqAt.EqAt.same _
    | bl b => cases rx; exact SeqAt.EqAt.none_bool b
    | int b => obtain ⟨t, rfl⟩ := rx; exact SeqAt.EqAt.none_int b t
    | str b => obtain ⟨t, rfl⟩ := rx; exact SeqAt.EqAt.none_str b t
    | _ => exact absurd (show false = true from fx) Bool.false_ne_true
  | bl a =>
    cases ry
    cases x with
    | non => cases rx; exact SeqAt.EqAt.bool_none a
    | bl b => cases rx; exact SeqAt.EqAt.bool_bool a b
    | int b => obtain ⟨t, rfl⟩ := rx; exact SeqAt.EqAt.bool_int a b t
    | str b => obtain ⟨t, rfl⟩ := rx; exact SeqAt.EqAt.bool_str a b t
    | _ => exact absurd (show false = true from fx) Bool.false_ne_true
  | int a =>
    obtain ⟨t', rfl⟩ := ry
    cases x with
    | non => cases rx; exact SeqAt.EqAt.int_none a t'
    | bl b => cases rx; exact SeqAt.EqAt.int_bool a t' b
    | int b => obtain ⟨t, rfl⟩ := rx; exact SeqAt.EqAt.int_int a t' b t
    | str b => obtain ⟨t, rfl⟩ := rx; exact SeqAt.EqAt.int_str a t' b t
    | _ => exact absurd (show false = true from fx) Bool.false_ne_true
  | str a =>
    obtain ⟨t', rfl⟩ := ry
    cases x with
    | non => cases rx; exact SeqAt.EqAt.str_none a t'
    | bl b => cases rx; exact SeqAt.EqAt.str_bool a t' b
    | int b => obtain ⟨t, rfl⟩ := rx; exact SeqAt.EqAt.str_int a t' b t
    | str b => obtain ⟨t, rfl⟩ := rx; exact SeqAt.EqAt.str_str a t' b t
    | _ => exact absurd (show false = true from fx) Bool.false_ne_true
  | _ => exact absurd (show false = true from fy) Bool.false_ne_true
/-- the items' answers, read off the values (a value's own answer does not lean on its token) -/
def eqU (x : V) (u : Value) : Bool := match u with
  | .none => eqV .non x
  | .bool b => eqV (.bl b) x
  | .int i _ => eqV (.int i) x
  | .str z _ => eqV (.str z) x
  | _ => false
theorem eqU_of {x y : V} {u : Value} (r : RelV y u) (f : flatV y = true) : eqU x u = eqV y x := by
  cases y with
  | non => cases r; rfl
  | bl b => cases r; rfl
  | int i => obtain ⟨t, rfl⟩ := r; rfl
  | str z => obtain ⟨t, rfl⟩ := r; rfl
  | _ => exact absurd (show false = true from f) Bool.false_ne_true
theorem any_eqU {x : V} : ∀ {xs : List V} {us : List Value}, Vals xs us → xs.all flatV = true → us.any (eqU x) = xs.any fun y => eqV y x
  | _, _, .nil, _ => rfl
  | y :: xs, u :: us, .cons r t, f => by
    rw [List.all_cons, Bool.and_eq_true] at f
    rw [List.any_cons, List.any_cons, eqU_of r f.1, any_eqU t f.2]
theorem mem_eqAt {A : Around} {s : Shared} {x : V} {v : Value} (rx : RelV x v) (fx : flatV x = true) : ∀ {xs : List V} {us : List Value}, Vals xs us → xs.all flatV = true → ∀ u ∈ us, SeqAt.EqAt A s u v (eqU x u)
  | _, _, .nil, _ => fun u hu => by cases hu
  | y :: xs, u :: us, .cons r t, f => fun u' hu => by
    rw [List.all_cons, Bool.and_eq_true] at f
    rcases List.mem_cons.mp hu with rfl | hu
    · rw [eqU_of r f.1]; exact eqAt_V r rx f.1 fx
    · exact mem_eqAt rx fx t f.2 u' hu
def inV (x : V) (xs : List V) : Bool := xs.any fun y => eqV y x
/-- x in a list or tuple of flat items -/
def rIn (K : PySem.W.Frag) (neg : Bool) : R2 := fun x y H Q => ∃ p xs, y = .ref p ∧ (SqL K H p xs ∨ SqT K H p xs) ∧ flatV x = true ∧ xs.all flatV = true ∧ Q (.bl (if neg then !inV x xs else inV x xs)) H
theorem op_in_seq : OpR X (compareOp .In) (rIn X.K false) := by
  intro pins s σ H x y v u Q I rx ry h
  obtain ⟨p, xs, rfl, hq, fx, fs, q⟩ := h
  cases ry
  rcases hq with hq | hq
  · obtain ⟨its, r, pl, hz⟩ := I.list hq
    refine SeqAt.in_listAt (eqU x) pl.isList (fun w hw => mem_eqAt rx fx r fs w (by simpa using hw)) ⟨.bl _, H, I, rfl, ?_⟩
    rw [show its.toArray.any (eqU x) = its.any (eqU x) by simp, any_eqU r fs]
    exact q
  · obtain ⟨its, r, pl, hz⟩ := I.tuple hq
    refine SeqAt.in_tupleAt (eqU x) pl (fun w hw => mem_eqAt rx fx r fs w (by simpa using hw)) ⟨.bl _, H, I, rfl, ?_⟩
    rw [show its.toArray.any (eqU x) = its.any (eqU x) by simp, any_eqU r fs]
    exact q
theorem op_notIn_seq : OpR X (compareOp .NotIn) (rIn X.K true) := by
  intro pins s σ H x y v u Q I rx ry h
  obtain ⟨p, xs, rfl, hq, fx, fs, q⟩ := h
  cases ry
  rcases hq with hq | hq
  · obtain ⟨its, r, pl, hz⟩ := I.list hq
    refine SeqAt.notIn_listAt (eqU x) pl.isList (fun w hw => mem_eqAt rx fx r fs w (by simpa using hw)) ⟨.bl _, H, I, rfl, ?_⟩
    rw [show its.toArray.any (eqU x) = its.any (eqU x) by simp, any_eqU r fs]
    exact q
  · obtain ⟨its, r, pl, hz⟩ := I.tuple hq
    refine SeqAt.notIn_tupleAt (eqU x) pl (fun w hw => mem_eqAt rx fx r fs w (by simpa using hw)) ⟨.bl _, H, I, rfl, ?_⟩
    rw [show its.toArray.any (eqU x) = its.any (eqU x) by simp, any_eqU r fs]
    exact q
theorem op_notIn_str : OpR X (compareOp .NotIn) (fun x y H Q => ∃ i j, x = .str i ∧ y = .str j ∧ Q (.bl (!(!(Builtin.Str.occurrences j i 0 j.length 1).isEmpty))) H) := by
  intro pins s σ H x y v u Q I rx ry h
  obtain ⟨i, j, rfl, rfl, q⟩ := h
  obtain ⟨t, rfl⟩ := rx
  obtain ⟨t', rfl⟩ := ry
  exact notIn_str ⟨.bl _, H, I, rfl, q⟩

/-! ### len, list(x), tuple(x) of any list or tuple that is read -/
theorem call_len_seq : CallR X (.builtin "len") (fun xs H Q => ∃ p ys, xs = [.ref p] ∧ (SqL X.K H p ys ∨ SqT X.K H p ys) ∧ Q (.int ys.length) H) := by
  intro pins s σ H xs us Q I r h
  obtain ⟨p, ys, rfl, hq, q⟩ := h
  obtain ⟨u, rfl, rx⟩ := vals1 r
  cases rx
  have hn := line63
  rcases hq with hq | hq
  · obtain ⟨its, r', pl, hz⟩ := I.list hq
    have hlen := r'.length
    exact Calls.call_len_list pl.isList (by simp only [List.size_toArray] <;> omega) ⟨.int ys.length, H, I.tok _, ⟨s.toks + 1, by rw [List.size_toArray, hlen]⟩, q⟩
  · obtain ⟨its, r', pl, hz⟩ := I.tuple hq
    have hlen := r'.length
    exact len_tuple pl (by simp only [List.size_toArray] <;> omega) ⟨.int ys.length, H, I.tok _, ⟨s.toks + 1, by rw [List.size_toArray, hlen]⟩, q⟩
theorem call_len_str : CallR X (.builtin "len") (fun xs H Q => ∃ z, xs = [.str z] ∧ z.length ≤ sizeLine ∧ Q (.int z.length) H) := by
  intro pins s σ H xs us Q I r h
  obtain ⟨z, rfl, hz, q⟩ := h
  obtain ⟨u, rfl, t, rfl⟩ := vals1 r
  have hn := line63
  exact len_str (by omega) ⟨.int z.length, H, I.tok _, ⟨_, rfl⟩, q⟩
theorem CallR.or {f : Value} {r r' : List V → Hp → VK → Prop} (h : CallR X f r) (h' : CallR X f r') : CallR X f (fun xs H Q => r xs H Q ∨ r' xs H Q) := by
  intro pins s σ H xs us Q I rs q
  rcases q with q | q
  · exact h pins s σ H xs us Q I rs q
  · exact h' pins s σ H xs us Q I rs q
theorem call_list_of : CallR X (.type "list") (fun xs H Q => ∃ p ys, xs = [.ref p] ∧ (SqL X.K H p ys ∨ SqT X.K H p ys) ∧ ∀ l, H l = none → Q (.ref l) (upd H l (.lst ys))) := by
  intro pins s σ H xs us Q I r h
  obtain ⟨p, ys, rfl, hq, q⟩ := h
  obtain ⟨u, rfl, rx⟩ := vals1 r
  cases rx
  have fin : ∀ (its : List Value), Vals ys its → ys.length ≤ sizeLine → ∀ (h' : Heap) (c' : Nat), (∀ b o', s.heap.get? b = some o' → h'.get? b = some o') →
      h'.get? s.heap.objs.size = some { cls := .type "list", dict := none, data := .seq its.toArray c', slots := #[] } → EP X pins σ Q (.ref s.heap.objs.size) { s with heap := h' } := fun its r' hz h' c' kp e =>
    ⟨.ref s.heap.objs.size, _, I.laid (t' := s.toks) kp (Nat.le_refl _) (show ObjOk X.prog X.w _ h' _ (.lst ys) from ⟨hz, its, c', r', e⟩), rfl, q _ (I.hok.fresh (Nat.le_refl _))⟩
  rcases hq with hq | hq
  · obtain ⟨its, r', pl, hz⟩ := I.list hq
    have hlen := r'.length
    obtain ⟨o, ho, hc, n, hd⟩ := pl.isList
    exact call_list_seq p (.inl rfl) ho hc hd (fun h' c' kp e => fin its r' hz h' c' kp e) (by simp only [List.size_toArray] <;> omega)
  · obtain ⟨its, r', pl, hz⟩ := I.tuple hq
    have hlen := r'.length
    obtain ⟨o, ho, hc, n, hd⟩ := pl
    exact call_list_seq p (.inr rfl) ho hc hd (fun h' c' kp e => fin its r' hz h' c' kp e) (by simp only [List.size_toArray] <;> omega)
theorem call_tuple_of : CallR X (.type "tuple") (fun xs H Q => ∃ p ys, xs = [.ref p] ∧ ((SqL X.K H p ys ∧ ∀ l, H l = none → Q (.ref l) (upd H l (.tup ys))) ∨ (SqT X.K H p ys ∧ Q (.ref p) H))) := by
  intro pins s σ H xs us Q I r h
  obtain ⟨p, ys, rfl, h⟩ := h
  obtain ⟨u, rfl, rx⟩ := vals1 r
  cases rx
  rcases h with ⟨hq, q⟩ | ⟨hq, q⟩
  · obtain ⟨its, r', pl, hz⟩ := I.list hq
    have hlen := r'.length
    refine call_tuple_list pl.isList (fun h' kp => ?_) (by simp only [List.size_toArray] <;> omega)
    have I1 : Inv X pins σ H { s with heap := h' } := I.kept (t' := s.toks) kp
    have I2 : Inv X pins σ (upd H h'.objs.size (.tup ys)) { s with heap := h'.push { cls := .type "tuple", data := .seq its.toArray } } :=
      I1.laid (t' := s.toks) (fun b o e => Heap.get?_push_of_some _ e) (Nat.le_refl _) (show ObjOk X.prog X.w _ _ _ (.tup ys) from ⟨hz, its, r', IsTup.new _ _⟩)
    exact ⟨.ref h'.objs.size, _, I2, rfl, q _ (I1.hok.fresh (Nat.le_refl _))⟩
  · obtain ⟨its, r', pl, hz⟩ := I.tuple hq
    exact call_tuple_same pl ⟨.ref p, H, I, rfl, q⟩

/-! ### the call of a builtin's method: o.m(..) -/
/-- the value is of that builtin type -/
def tyV (K : PySem.W.Frag) (T : String) (x : V) (H : Hp) : Prop := match x with
  | .str _ => T = "str"
  | .int _ => T = "int"
  | .ref p => (T = "list" ∧ ∃ xs, SqL K H p xs) ∨ (T = "tuple" ∧ ∃ o, K.lookup p = some o ∧ o.cls = .type "tuple" ∧ o.dict = none) ∨
      (T = "dict" ∧ ((∃ kvs, H p = some (.dK kvs)) ∨ ∃ kvs, H p = some (.dT kvs))) ∨ (T = "set" ∧ ∃ S n, H p = some (.set S n))
  | _ => False
theorem tyV_is {pins : List (Addr × Obj)} {σ : St} {H : Hp} {s : Shared} {T : String} {x : V} {v : Value} (I : Inv X pins σ H s) (r : RelV x v) (ty : tyV X.K T x H) :
    s.TypeIs v T ∧ ∀ a, v = .ref a → ∃ ob, s.heap.get? a = some ob ∧ ob.dict = none := by
  cases x with
  | str z =>
    obtain ⟨t, rfl⟩ := r
    cases (show T = "str" from ty)
    exact ⟨typeIs_str s z t, fun _ e => nomatch e⟩
  | int i =>
    obtain ⟨t, rfl⟩ := r
    cases (show T = "int" from ty)
    exact ⟨typeIs_int s i t, fun _ e => nomatch e⟩
  | ref p =>
    cases r
    rcases ty with ⟨rfl, xs, hq⟩ | ⟨rfl, o, hk, hc, hd⟩ | ⟨rfl, hk⟩ | ⟨rfl, S, n, hk⟩
    · obtain ⟨its, _, pl, _⟩ := I.list hq
      refine ⟨pl.isList.typeIs, fun a e => ?_⟩
      cases e
      obtain ⟨o, n, e, c, hd, _⟩ := pl
      exact ⟨o, e, hd⟩
    · refine ⟨⟨o, I.kIn p o hk, hc⟩, fun a e => ?_⟩
      cases e
      exact ⟨o, I.kIn _ o hk, hd⟩
    · have z : ∃ o, s.heap.get? p = some o ∧ o.ExactDict := by
        rcases hk with ⟨kvs, hk⟩ | ⟨kvs, hk⟩
        · obtain ⟨_, _, _, _, o, _, _, e, ex, _⟩ := I.hok p _ hk
          exact ⟨o, e, ex⟩
        · obtain ⟨_, _, _, _, o, _, _, e, ex, _⟩ := I.hok p _ hk
          exact ⟨o, e, ex⟩
      obtain ⟨o, e, ex⟩ := z
      refine ⟨⟨o, e, ex.1⟩, fun a e2 => ?_⟩
      cases e2
      exact ⟨o, e, ex.2.1⟩
    · obtain ⟨o, _, _, _, e, ex, _⟩ := I.hok p _ hk
      refine ⟨⟨o, e, ex.1⟩, fun a e2 => ?_⟩
      cases e2
      exact ⟨o, e, ex.2.1⟩
  | _ => exact False.elim ty
def tBM0 (K : PySem.W.Frag) (T : String) (r : V → List V → Hp → VK → Prop) (to : TE) : TE := fun σ H Q => to σ H fun x H1 => tyV K T x H1 ∧ r x [] H1 Q
def tBM (K : PySem.W.Frag) (T : String) (r : V → List V → Hp → VK → Prop) (to : TE) (t : TA) : TE := fun σ H Q => to σ H fun x H1 => tyV K T x H1 ∧ t σ H1 fun xs H2 => r x xs H2 Q
variable {o e : Expr} {es : List Expr} {to : TE} {t : TA} {name : Str} {apos cpos : Pos} {T id : String} {r : V → List V → Hp → VK → Prop}
theorem pe_bm0 (pa : PlainAttrs T) (slot : Slot T name id) (hty : typeOf (.builtin id) = pure (.type "method_descriptor")) (hm : MtR X id r) (ho : PE X o to)
    (hbase : attributeBase o name X.env (eval o X.env) = eval o X.env := by rfl) (hline : (apos.endLine == cpos.line) = true := by rfl) : PE X (.Call (.Attribute o name apos) [] [] cpos) (tBM0 X.K T r to) := by
  intro pins s σ H Q I h
  refine wpAny_Call_method0_late hbase hline (thn (ho pins s σ H _ I h) fun v s1 ⟨x, H1, I1, r1, ty, q1⟩ => ?_)
  obtain ⟨h1, h2⟩ := tyV_is I1 r1 ty
  exact ⟨T, id, pa, slot, hty, h1, h2, Calls.callWith_builtin rfl (PySem.evalArgs_none (hm pins s1 σ H1 x [] v [] Q I1 r1 .nil q1))⟩
theorem pe_bm (pa : PlainAttrs T) (slot : Slot T name id) (hty : typeOf (.builtin id) = pure (.type "method_descriptor")) (hm : MtR X id r) (ho : PE X o to) (ha : PA X (e :: es) t)
    (hbase : attributeBase o name X.env (eval o X.env) = eval o X.env := by rfl)
    (hfew : ((backTo cpos (starEach (e :: es) X.env)).all (fun x => !x.1) && (backToKw cpos (keywordEach [] X.env)).all (fun x => x.1.isSome)
      && decide ((e :: es).length + ([] : List Keyword).length + (if ([] : List Keyword).isEmpty then 0 else 1) < 30)) = true := by rfl)
    (hline : (apos.endLine == cpos.line) = true := by rfl) (hs : starEach (e :: es) X.env = (false, eval e X.env) :: starEach es X.env := by rfl) (hplain : (backTo cpos (starEach es X.env)).any (·.1) = false := by rfl) :
    PE X (.Call (.Attribute o name apos) (e :: es) [] cpos) (tBM X.K T r to t) := by
  intro pins s σ H Q I h
  refine wpAny_Call_method_late hbase hfew hline rfl (thn (ho pins s σ H _ I h) fun v s1 ⟨x, H1, I1, r1, ty, q1⟩ => ?_)
  obtain ⟨h1, h2⟩ := tyV_is I1 r1 ty
  refine ⟨T, id, pa, slot, hty, h1, h2, ?_⟩
  have hA := ha cpos pins s1 σ H1 _ I1 q1
  rw [hs] at hA ⊢
  refine Calls.callWith_builtin (by show (false || (backTo cpos (starEach es X.env)).any (·.1)) = false; rw [hplain] <;> rfl) (Calls.evalArgs_plain ?_)
  exact thn hA fun us s2 ⟨vs, H2, I2, r2, q2⟩ => hm pins s2 σ H2 x vs v us Q I2 r1 r2 q2
/- xs.append(e), list.index on a module's tuple .. are MtR facts of 06m -/
end
end L2

namespace L2
open PySem PySem.Spec PyProof.Rows

def MtM (X : Cx) (id : String) (r : V → List V → Hp → VK → Prop) : Prop :=
  ∀ (pins : List (Addr × Obj)) (s : Shared) (σ : St) (H : Hp) (x : V) (xs : List V) (v : Value) (us : List Value) (Q : VK), Inv X pins σ H s → RelV x v → Vals xs us → r x xs H Q →
    wpAny (model X.prog X.w) X.A (call (.builtin id) (v :: us)) (EP X pins σ Q) X.xe s

/-! ### lists of values -/
theorem Vals.one : ∀ {x : V} {us : List Value}, Vals [x] us → ∃ u, us = [u] ∧ RelV x u
  | _, _, .cons r .nil => ⟨_, rfl, r⟩
theorem Vals.two : ∀ {x y : V} {us : List Value}, Vals [x, y] us → ∃ u v, us = [u, v] ∧ RelV x u ∧ RelV y v
  | _, _, _, .cons r (.cons q .nil) => ⟨_, _, rfl, r, q⟩
theorem Vals.zero : ∀ {us : List Value}, Vals [] us → us = []
  | _, .nil => rfl
theorem Vals.dropLast {xs : List V} {us : List Value} (h : Vals xs us) : Vals xs.dropLast us.dropLast := by
  induction h with
  | nil => exact .nil
  | cons r t ih =>
    cases t with
    | nil => exact .nil
    | cons q t' => exact .cons r ih
theorem Vals.eraseIdx : ∀ {xs : List V} {us : List Value} (i : Nat), Vals xs us → Vals (xs.eraseIdx i) (us.eraseIdx i)
  | _, _, _, .nil => .nil
  | _, _, 0, .cons _ t => t
  | _, _, i + 1, .cons r t => .cons r (Vals.eraseIdx i t)
theorem Vals.reverse {xs : List V} {us : List Value} (h : Vals xs us) : Vals xs.reverse us.reverse := by
  induction h with
  | nil => exact .nil
  | cons r t ih => rw [List.reverse_cons, List.reverse_cons]; exact Vals.append ih (.cons r .nil)
theorem Vals.rep {xs : List V} {us : List Value} (h : Vals xs us) : ∀ k : Nat, Vals (List.replicate k xs).flatten (List.replicate k us).flatten
  | 0 => .nil
  | k + 1 => by
    rw [List.replicate_succ, List.replicate_succ, List.flatten_cons, List.flatten_cons]
    exact Vals.append h (Vals.rep h k)
theorem erase_last {α : Type} (l : List α) : l.eraseIdx (l.length - 1) = l.dropLast := by
  induction l with
  | nil => rfl
  | cons a r ih =>
    cases r with
    | nil => rfl
    | cons b r =>
      have e : (a :: b :: r).length - 1 = ((b :: r).length - 1) + 1 := by
        have h1 : (a :: b :: r).length = r.length + 2 := rfl
        have h2 : (b :: r).length = r.length + 1 := rfl
        omega
      rw [e, List.eraseIdx_cons_succ, ih]
      all_goals rfl
theorem len_erase {α : Type} : ∀ (l : List α) (i : Nat), (l.eraseIdx i).length ≤ l.length
  | [], _ => Nat.le_refl _
  | _ :: _, 0 => Nat.le_succ _
  | _ :: r, i + 1 => Nat.succ_le_succ (len_erase r i)
theorem foldl_rep (its : List Value) : ∀ (k : Nat) (acc : List Value),
    List.foldl (fun x1 x2 => x1 ++ x2) acc.toArray (List.replicate k its.toArray) = (acc ++ (List.replicate k its).flatten).toArray
  | 0, acc => by simp
  | k + 1, acc => by
    have e : acc.toArray ++ its.toArray = (acc ++ its).toArray := by simp
    have e2 : (acc ++ its) ++ (List.replicate k its).flatten = acc ++ (List.replicate (k + 1) its).flatten := by
      rw [List.replicate_succ, List.flatten_cons, List.append_assoc]
    rw [← e2, ← foldl_rep its k (acc ++ its), ← e, List.replicate_succ, List.foldl_cons]

section
variable {X : Cx} {pins : List (Addr × Obj)} {σ : St} {H : Hp} {s : Shared} {l b : Addr} {xs ys zs : List V}

/-! ### the two steps: a tracked list is rewritten, a new list is laid -/
theorem Inv.lset {its its' : List Value} {n : Nat} {f : Array Value → Array Value} {t' : Nat} (I : Inv X pins σ H s) (hH : H l = some (.lst xs))
    (e : s.heap.get? l = some { cls := .type "list", data := .seq its.toArray n }) (hf : f its.toArray = its'.toArray) (hv : Vals ys its') (hz : ys.length ≤ sizeLine) :
    Inv X pins σ (upd H l (.lst ys)) { s with heap := s.heap.update l (Obj.mapSeq f), toks := t' } := by
  have q := PySem.IsL.update e f
  rw [hf] at q
  refine I.write (x := l) (e := l) (by rw [hH]; exact trivial) (.inl rfl) (fun b' u hb hu => (Heap.get?_update_other s.heap (Obj.mapSeq f) (Ne.symm hb)).trans hu) ⟨_, q⟩ ?_
  exact ⟨hz, its', _, hv, q⟩
theorem Inv.lnew {its : List Value} {t' : Nat} (I : Inv X pins σ H s) (hv : Vals ys its) (hz : ys.length ≤ sizeLine) :
    Inv X pins σ (upd H s.heap.objs.size (.lst ys)) { s with heap := s.heap.push { cls := .type "list", data := .seq its.toArray }, toks := t' } :=
  I.laid (fun _ _ q => Heap.get?_push_of_some _ q) (Nat.le_refl _) ⟨hz, its, 0, hv, Heap.get?_push_size _ rfl⟩
theorem Inv.fresh (I : Inv X pins σ H s) : H s.heap.objs.size = none := I.hok.fresh (Nat.le_refl _)
theorem Inv.lstM (I : Inv X pins σ H s) (hH : H l = some (.lst xs)) : xs.length ≤ sizeLine ∧ ∃ (its : List Value) (n : Nat), Vals xs its ∧ xs.length = its.length ∧ s.heap.get? l = some { cls := .type "list", data := .seq its.toArray n } := by
  obtain ⟨z, its, n, r, e⟩ := I.hok l _ hH
  exact ⟨z, its, n, r, r.length, e⟩

theorem notLongL {n : Nat} (h : n ≤ sizeLine) : Builtin.List.listTooLong n = false := by
  unfold Builtin.List.listTooLong
  exact decide_eq_false (by omega)
end

section
variable {X : Cx}

/-! ### methods -/
def rAppend : V → List V → Hp → VK → Prop := fun x vs H Q => ∃ l xs y, x = .ref l ∧ vs = [y] ∧ H l = some (.lst xs) ∧ xs.length < sizeLine ∧ Q .non (upd H l (.lst (xs ++ [y])))
theorem mt_append : MtM X "list.append" rAppend := by
  intro pins s σ H x vs v us Q I rx rv h
  obtain ⟨l, xs, y, rfl, rfl, hH, hz, q⟩ := h
  cases rx
  obtain ⟨u, rfl, ru⟩ := rv.one
  obtain ⟨z, its, n, r, hl, e⟩ := I.lstM hH
  refine call_meets F.slot_list_append ⟨_, e, rfl⟩ F.entry_list_append (F.args_list_append_2 _ _) (PySem.list_append l its.toArray n u (by rw [List.size_toArray]; omega)) ⟨e, ?_⟩
  refine ⟨.non, _, I.lset (its' := its ++ [u]) hH e (by simp) (r.append (.cons ru .nil)) ?_, rfl, q⟩
  rw [List.length_append, List.length_singleton]
  omega

def rExtend : V → List V → Hp → VK → Prop := fun x vs H Q => ∃ l b xs zs, x = .ref l ∧ vs = [.ref b] ∧ H l = some (.lst xs) ∧ H b = some (.lst zs) ∧ xs.length + zs.length ≤ sizeLine ∧ Q .non (upd H l (.lst (xs ++ zs)))
theorem mt_extend : MtM X "list.extend" rExtend := by
  intro pins s σ H x vs v us Q I rx rv h
  obtain ⟨l, b, xs, zs, rfl, rfl, hH, hB, hz, q⟩ := h
  cases rx
  obtain ⟨u, rfl, ru⟩ := rv.one
  cases ru
  obtain ⟨z, its, n, r, hl, e⟩ := I.lstM hH
  obtain ⟨z2, its2, n2, r2, hl2, e2⟩ := I.lstM hB
  have hsz : its.toArray.size + its2.toArray.size ≤ sizeLine := by rw [List.size_toArray, List.size_toArray]; omega
  have hlong : ¬ (!its.toArray.isEmpty && Builtin.List.listTooLong (its.toArray.size + its2.toArray.size)) = true := by
    rw [notLongL hsz, Bool.and_false]
    exact Bool.false_ne_true
  refine call_meets F.slot_list_extend ⟨_, e, rfl⟩ F.entry_list_extend (F.args_list_extend_2 _ _)
    (AutoSeq1.list_extend_list_list_0 l its.toArray n b its2.toArray n2 hlong (by rw [List.size_toArray]; omega) (by omega)) ⟨e, e2, ?_⟩
  refine ⟨.non, _, I.lset (its' := its ++ its2) hH e (by simp) (r.append r2) ?_, rfl, q⟩
  rw [List.length_append]
  omega

def rPop : V → List V → Hp → VK → Prop := fun x vs H Q => ∃ l xs y, x = .ref l ∧ vs = [] ∧ H l = some (.lst xs) ∧ xs[xs.length - 1]? = some y ∧ Q y (upd H l (.lst xs.dropLast))
theorem mt_pop : MtM X "list.pop" rPop := by
  intro pins s σ H x vs v us Q I rx rv h
  obtain ⟨l, xs, y, rfl, rfl, hH, hy, q⟩ := h
  cases rx
  have hus := rv.zero
  subst hus
  obtain ⟨z, its, n, r, hl, e⟩ := I.lstM hH
  obtain ⟨u, hu, ru⟩ := r.get hy
  have hy' : its.toArray[its.toArray.size - 1]? = some u := by
    show its.toArray[its.length - 1]? = some u
    rw [← Array.getElem?_toList, ← hl]
    exact hu
  refine call_meets F.slot_list_pop ⟨_, e, rfl⟩ F.entry_list_pop (F.args_list_pop_1 _) (MeetsSeq.list_pop_last l its.toArray n u hy' (by rw [List.size_toArray]; omega)) ⟨e, ?_⟩
  refine ⟨y, _, I.lset (its' := its.dropLast) hH e ?_ r.dropLast ?_, ru, q⟩
  · show its.toArray.eraseIdxIfInBounds (its.toArray.size - 1) = its.dropLast.toArray
    rw [List.size_toArray, List.eraseIdxIfInBounds_toArray, erase_last]
  · rw [List.length_dropLast]
    omega

def rPopAt : V → List V → Hp → VK → Prop := fun x vs H Q => ∃ l xs i k y, x = .ref l ∧ vs = [.int i] ∧ H l = some (.lst xs) ∧ -(2 ^ 63) ≤ i ∧ i < 2 ^ 63 ∧ seqIndex? i xs.length = some k ∧ xs[k]? = some y ∧ Q y (upd H l (.lst (xs.eraseIdx k)))
theorem mt_popAt : MtM X "list.pop" rPopAt := by
  intro pins s σ H x vs v us Q I rx rv h
  obtain ⟨l, xs, i, k, y, rfl, rfl, hH, h1, h2, hk, hy, q⟩ := h
  cases rx
  obtain ⟨u, rfl, ru⟩ := rv.one
  obtain ⟨t, rfl⟩ := ru
  obtain ⟨z, its, n, r, hl, e⟩ := I.lstM hH
  obtain ⟨w, hw, rw'⟩ := r.get hy
  refine call_meets F.slot_list_pop ⟨_, e, rfl⟩ F.entry_list_pop (F.args_list_pop_2 _ _)
    (MeetsSeq.list_pop_at l its.toArray n i t k w (fitsIndex_both h1 h2) (by rw [List.size_toArray, ← hl]; exact hk) (by rw [← Array.getElem?_toList]; exact hw) (by rw [List.size_toArray]; omega)) ⟨e, ?_⟩
  refine ⟨y, _, I.lset (its' := its.eraseIdx k) hH e ?_ (r.eraseIdx k) ?_, rw', q⟩
  · show its.toArray.eraseIdxIfInBounds k = (its.eraseIdx k).toArray
    rw [List.eraseIdxIfInBounds_toArray]
  · have := len_erase xs k
    omega

def rReverse : V → List V → Hp → VK → Prop := fun x vs H Q => ∃ l xs, x = .ref l ∧ vs = [] ∧ H l = some (.lst xs) ∧ Q .non (upd H l (.lst xs.reverse))
theorem mt_reverse : MtM X "list.reverse" rReverse := by
  intro pins s σ H x vs v us Q I rx rv h
  obtain ⟨l, xs, rfl, rfl, hH, q⟩ := h
  cases rx
  have hus := rv.zero
  subst hus
  obtain ⟨z, its, n, r, hl, e⟩ := I.lstM hH
  refine call_meets F.slot_list_reverse ⟨_, e, rfl⟩ F.entry_list_reverse (F.args_list_reverse_1 _) (AutoSeq1.list_reverse_list_0 l its.toArray n (by rw [List.size_toArray]; omega)) ⟨e, ?_⟩
  refine ⟨.non, _, I.lset (its' := its.reverse) hH e (by simp) r.reverse ?_, rfl, q⟩
  rw [List.length_reverse]
  omega

def rClear : V → List V → Hp → VK → Prop := fun x vs H Q => ∃ l xs, x = .ref l ∧ vs = [] ∧ H l = some (.lst xs) ∧ Q .non (upd H l (.lst []))
theorem mt_clear : MtM X "list.clear" rClear := by
  intro pins s σ H x vs v us Q I rx rv h
  obtain ⟨l, xs, rfl, rfl, hH, q⟩ := h
  cases rx
  have hus := rv.zero
  subst hus
  obtain ⟨z, its, n, r, hl, e⟩ := I.lstM hH
  refine call_meets F.slot_list_clear ⟨_, e, rfl⟩ F.entry_list_clear (F.args_list_clear_1 _) (AutoSeq1.list_clear_list_0 l its.toArray n (by rw [List.size_toArray]; omega)) ⟨e, ?_⟩
  exact ⟨.non, _, I.lset (its' := []) (ys := []) hH e rfl .nil (Nat.zero_le _), rfl, q⟩

/-! ### list + list, list += list, list * int -/
def rCat : R2 := fun x y H Q => ∃ l b xs zs, x = .ref l ∧ y = .ref b ∧ H l = some (.lst xs) ∧ H b = some (.lst zs) ∧ xs.length + zs.length ≤ sizeLine ∧ ∀ p, H p = none → Q (.ref p) (upd H p (.lst (xs ++ zs)))
theorem op_cat : OpR X (binaryOp .Add) rCat := by
  intro pins s σ H x y v u Q I rx ry h
  obtain ⟨l, b, xs, zs, rfl, rfl, hH, hB, hz, q⟩ := h
  cases rx
  cases ry
  obtain ⟨z, its, n, r, hl, e⟩ := I.lstM hH
  obtain ⟨z2, its2, n2, r2, hl2, e2⟩ := I.lstM hB
  refine PySem.P.add_list e e2 ?_ (by rw [List.size_toArray, List.size_toArray]; omega)
  have ea : its.toArray ++ its2.toArray = (its ++ its2).toArray := by simp
  rw [ea]
  exact ⟨.ref _, _, I.lnew (t' := s.toks) (r.append r2) (by rw [List.length_append]; omega), rfl, q _ I.fresh⟩
/-- a list times an int (a negative one is nothing) -/
def rRep : R2 := fun x y H Q => ∃ l k xs, x = .ref l ∧ y = .int k ∧ H l = some (.lst xs) ∧ -(2 ^ 63) ≤ k ∧ k < 2 ^ 63 ∧ xs.length * k.toNat ≤ sizeLine ∧
  ∀ p, H p = none → Q (.ref p) (upd H p (.lst (List.replicate k.toNat xs).flatten))
theorem len_rep {α : Type} (xs : List α) (k : Nat) : (List.replicate k xs).flatten.length = k * xs.length := by
  induction k with
  | zero => simp
  | succ k ih => rw [List.replicate_succ, List.flatten_cons, List.length_append, ih, Nat.succ_mul, Nat.add_comm]
theorem op_rep : OpR X (binaryOp .Mult) rRep := by
  intro pins s σ H x y v u Q I rx ry h
  obtain ⟨l, k, xs, rfl, rfl, hH, h1, h2, hz, q⟩ := h
  cases rx
  obtain ⟨t, rfl⟩ := ry
  obtain ⟨z, its, n, r, hl, e⟩ := I.lstM hH
  have hlen : its.toArray.size * k.toNat ≤ sizeLine := by rw [List.size_toArray, ← hl]; exact hz
  have hcap : ¬ its.toArray.size * k.toNat > (2 ^ 63 - 1) / 8 := by
    have : (sizeLine : Nat) ≤ (2 ^ 63 - 1) / 8 := by decide
    omega
  have hfit : ¬ (!Builtin.List.listFitsIndex k) = true := by
    rw [fitsIndex_both h1 h2]
    exact Bool.false_ne_true
  have hlong : ¬ Builtin.List.listTooLong (its.toArray.size * k.toNat) = true := by
    rw [notLongL hlen]
    exact Bool.false_ne_true
  have hnew : List.foldl (fun x1 x2 => x1 ++ x2) #[] (List.replicate (if its.toArray.isEmpty = true then 0 else k.toNat) its.toArray) = (List.replicate k.toNat its).flatten.toArray := by
    have f0 : ∀ m : Nat, List.foldl (fun x1 x2 => x1 ++ x2) #[] (List.replicate m its.toArray) = (List.replicate m its).flatten.toArray := fun m => by
      have := foldl_rep its m []
      rw [List.nil_append] at this
      exact this
    rw [f0]
    cases its with
    | nil => simp
    | cons a r' => rw [if_neg (by simp)]
  refine wpAny_binaryOp_repeat_ref (T := "list") (U := "int") (by decide) ⟨_, e, rfl⟩ (fun s' => typeIs_int s' k t) noFill_list_mul F.fills_int_mul F.slot_int_rmul repeat_list F.slot_int_index.lookup
    (call_meets F.slot_int_rmul (typeIs_int s k t) F.entry_int_rmul (F.args_int_rmul_2 _ _) (int___rmul___int_list k t l its.toArray n)
      ⟨e, rfl, ⟨_, e, rfl⟩, call_meets F.slot_list_mul ⟨_, e, rfl⟩ F.entry_list_mul (F.args_list_mul_2 _ _) (AutoListH.list___mul___list_int_3 l its.toArray n k t hfit hcap hlong) ⟨e, ?_⟩⟩)
  rw [hnew]
  exact ⟨.ref _, _, I.lnew (t' := s.toks) (r.rep k.toNat) (by rw [len_rep, Nat.mul_comm]; exact hz), rfl, q _ I.fresh⟩

/-! ### del xs[i] -/
theorem del_list {pins : List (Addr × Obj)} {s : Shared} {σ : St} {H : Hp} {l : Addr} {xs : List V} {i : Int} {t : Tok} {k : Nat} {Q : Unit → Shared → Prop} (I : Inv X pins σ H s) (hH : H l = some (.lst xs))
    (h1 : -(2 ^ 63) ≤ i) (h2 : i < 2 ^ 63) (hk : seqIndex? i xs.length = some k) (h : ∀ s', Inv X pins σ (upd H l (.lst (xs.eraseIdx k))) s' → Q () s') :
    wpAny (model X.prog X.w) X.A (delItem (.ref l) (.int i t)) Q X.xe s := by
  obtain ⟨z, its, n, r, hl, e⟩ := I.lstM hH
  refine PySem.P.delItem_list (k := k) e (fitsIndex_both h1 h2) (by rw [List.size_toArray, ← hl]; exact hk) (h _ ?_) (by rw [List.size_toArray]; omega)
  refine I.lset (its' := its.eraseIdx k) (t' := s.toks) hH e ?_ (r.eraseIdx k) ?_
  · show its.toArray.eraseIdxIfInBounds k = (its.eraseIdx k).toArray
    rw [List.eraseIdxIfInBounds_toArray]
  · have := len_erase xs k
    omega
end

/-! ### xs[a:b] = ys -/
section
variable {prog : Program} {w : World} {A : Around} {E : Value → Shared → Prop} {s : Shared}
theorem splice_eq (its its2 : List Value) (a c : Nat) : its.toArray.extract 0 a ++ its2.toArray ++ its.toArray.extract c its.toArray.size = (its.take a ++ its2 ++ its.drop c).toArray := by
  apply Array.toList_inj.mp
  first
    | (simp
       exact List.take_of_length_le (by simp))
    | simp [List.take_of_length_le]
    | simp
theorem bounds_run {a c n : Nat} (hac : a ≤ c) (hc : c ≤ n) : sliceBounds (some (a : Int)) (some (c : Int)) none n = ((a : Int), (c : Int), 1) := by
  simp only [sliceBounds, Option.getD_none]
  have h1 : ¬ ((a : Int) < 0) := by omega
  have h2 : ¬ ((c : Int) < 0) := by omega
  simp only [h1, h2, if_false, show (1 : Int) > 0 by decide, if_true]
  congr 1
  · omega
  · congr 1; omega
set_option maxRecDepth 100000 in
/-- list.__setitem__ with a slice of step one and another list -/
theorem setItem_slice {l b sl : Addr} {items new : Array Value} {n n2 : Nat} {vl vu : Value} {a c : Nat} {Q : Unit → Shared → Prop}
    (e : s.heap.get? l = some { cls := .type "list", data := .seq items n }) (e2 : s.heap.get? b = some { cls := .type "list", data := .seq new n2 }) (hne : l ≠ b)
    (hs : s.heap.IsSliceOf sl vl vu .none) (pl : IsPart vl (some (a : Int))) (pu : IsPart vu (some (c : Int))) (hac : a ≤ c) (hc : c ≤ items.size)
    (hsz : items.size + new.size ≤ sizeLine) (h : Q () { s with heap := s.heap.update l (Obj.mapSeq fun xs => xs.extract 0 a ++ new ++ xs.extract c xs.size) }) :
    wpAny (model prog w) A (setItem (.ref l) (.ref sl) (.ref b)) Q E s := by
  have hl : s.heap.IsList l items := PySem.IsL.isList e
  have hb : s.heap.IsList b new := PySem.IsL.isList e2
  obtain ⟨os, hos, hcs, hds⟩ := id hs
  have hTs : s.TypeIs (.ref sl) "slice" := ⟨os, hos, hcs⟩
  have hstep : ¬ ((rawPart none == rawInt 0) = true) := Bool.false_ne_true
  have hsame : Builtin.List.listSameRef (.ref l) (.ref b) = false := by
    unfold Builtin.List.listSameRef
    exact beq_eq_false_iff_ne.mpr hne
  have hmax : (max (a : Int) (c : Int)).toNat = c := by omega
  have hz' : ((fun xs : Array Value => xs.extract 0 a ++ new ++ xs.extract c xs.size) items).size ≤ sizeLine + 1 := by
    simp only [Array.size_append, Array.size_extract]
    omega
  unfold setItem
  try with_reducible refine wpAny_holding ?_
  first | refine wpAny_bind (wpAny_pure ?_) | skip
  refine wpAny_bind (wpAny_sequenceKey hl.typeIs (by decide) ?_)
  refine wpAny_bind (wpAny_callSpecial?_slot (name := Str.ofString "__setitem__") hl.typeIs slot_list_setitem
    (wpAny_call_entry slot_list_setitem hl.typeIs entry_list_setitem ?_ (args_list_setitem _ _ _)))
  show wpAny _ _ (Builtin.List.listSubscript? (.ref sl) >>= _) _ _ s
  refine wpAny_bind ?_
  unfold Builtin.List.listSubscript?
  refine wpAny_bind (wpAny_specialOf hTs slice_no_index ?_)
  simp only [Option.isNone_none, if_true]
  refine wpAny_pure ?_
  show wpAny _ _ (typeOf (.ref sl) >>= _) _ _ s
  refine wpAny_bind (wpAny_typeOf hTs ?_)
  first
    | rw [if_neg (by decide)]
    | refine PySem.W.KFB.if_not (by decide) ?_
  rw [listSliceParts_eq]
  refine wpAny_bind (wpAny_bind (wpAny_field hos hds (x := .none) rfl (wpAny_bind (wpAny_listPart .none ?_))))
  rw [if_neg hstep]
  refine wpAny_bind (wpAny_field hos hds (x := vl) rfl (wpAny_bind (wpAny_listPart pl ?_)))
  refine wpAny_bind (wpAny_field hos hds (x := vu) rfl (wpAny_bind (wpAny_listPart pu (wpAny_pure ?_))))
  first
    | simp only [hsame, Bool.false_eq_true, if_false]
    | refine PySem.W.KFB.if_not hsame ?_
    | (dsimp only
       rw [if_neg (by rw [hsame]; exact Bool.false_ne_true)])
  refine wpAny_bind (m := Builtin.List.listAllItems (.ref b) "must assign iterable to extended slice") ?_
  unfold Builtin.List.listAllItems
  refine wpAny_bind (wpAny_typeOf hb.typeIs ?_)
  first
    | refine PySem.W.KFB.if_so (by decide) ?_
    | rw [if_pos (by decide)]
    | simp only [beq_self_eq_true, Bool.true_or, if_true]
  unfold Builtin.List.listItems
  refine wpAny_bind (wpAny_seqItems e2 rfl (wpAny_pure ?_))
  refine wpAny_bind (wpAny_bind (wpAny_seqItems e rfl (wpAny_pure ?_)))
  refine wpAny_bind (wpAny_of_eq ((sliceIndices_raw (some (a : Int)) (some (c : Int)) none items.size (by simp)).trans (congrArg (pure : Int × Int × Int → Sem (Int × Int × Int)) (bounds_run hac hc))) ?_)
  show wpAny _ _ (if ((1 : Int) == 1) = true then _ else _) _ _ s
  rw [if_pos (by decide)]
  refine wpAny_bind (wpAny_rule ?_)
  first
    | simp only [notLongL hsz, Bool.false_eq_true, if_false]
    | refine PySem.W.KFB.if_not (notLongL hsz) ?_
  first | refine wpAny_bind (wpAny_pure ?_) | skip
  show wpAny _ _ (updateSeq l (fun xs => xs.extract 0 ((a : Int)).toNat ++ new ++ xs.extract (max (a : Int) (c : Int)).toNat xs.size) >>= _) _ _ s
  rw [hmax, Int.toNat_natCast]
  refine wpAny_bind (wpAny_updateSeq (hz := Nat.le_trans (Nat.le_add_right _ _) hsz) (_hz' := hz') e rfl ?_)
  refine wpAny_bind (wpAny_letGo ?_)
  first
    | exact wpAny_bind (wpAny_pure (wpAny_pure ⟨.none, rfl, wpAny_pure h⟩))
    | exact wpAny_pure ⟨.none, rfl, wpAny_pure h⟩
end

section
variable {X : Cx}
/-- xs[a:c] = ys of another list, at the value level: sl is the slice object that was just made -/
theorem set_slice {pins : List (Addr × Obj)} {s : Shared} {σ : St} {H : Hp} {l b sl : Addr} {xs ys : List V} {a c : Int} {vl vu : Value} {Q : Unit → Shared → Prop} (I : Inv X pins σ H s)
    (hH : H l = some (.lst xs)) (hB : H b = some (.lst ys)) (hne : l ≠ b) (hs : s.heap.IsSliceOf sl vl vu .none) (ra : RelV (.int a) vl) (rc : RelV (.int c) vu) (h0 : 0 ≤ a) (hac : a ≤ c) (hc : c ≤ xs.length)
    (hz : xs.length + ys.length ≤ sizeLine) (h : ∀ s', Inv X pins σ (upd H l (.lst (xs.take a.toNat ++ ys ++ xs.drop c.toNat))) s' → Q () s') :
    wpAny (model X.prog X.w) X.A (setItem (.ref l) (.ref sl) (.ref b)) Q X.xe s := by
  obtain ⟨ta, rfl⟩ := ra
  obtain ⟨tc, rfl⟩ := rc
  obtain ⟨z, its, n, r, hl, e⟩ := I.lstM hH
  obtain ⟨z2, its2, n2, r2, hl2, e2⟩ := I.lstM hB
  obtain ⟨a', rfl⟩ := Int.eq_ofNat_of_zero_le h0
  obtain ⟨c', rfl⟩ := Int.eq_ofNat_of_zero_le (Int.le_trans h0 hac)
  simp only [Int.toNat_natCast] at h
  refine setItem_slice (a := a') (c := c') e e2 hne hs (.int _ _) (.int _ _) (by omega) (by rw [List.size_toArray]; omega) (by rw [List.size_toArray, List.size_toArray]; omega) (h _ ?_)
  refine I.lset (its' := its.take a' ++ its2 ++ its.drop c') (t' := s.toks) hH e ?_ (Vals.append (Vals.append (r.take _) r2) (r.drop _)) ?_
  · exact splice_eq its its2 a' c'
  · rw [List.length_append, List.length_append, List.length_take, List.length_drop]
    omega
end
end L2

namespace Att
open PySem PySem.W PySem.Calls PyProof.Rows

/-! ### the script -/
theorem ints_of_wellAll {P : Params} {h : Heap} : ∀ (ns : List Int) (vs : List Value), WellAll P h vs (ns.map WData.int) → IntsAre vs ns := by
  intro ns
  induction ns with
  | nil =>
    intro vs w
    rw [List.map_nil] at w
    cases w
    exact .nil
  | cons n ns ih =>
    intro vs w
    rw [List.map_cons] at w
    cases w with
    | cons a b =>
      cases a
      exact .cons _ _ (ih _ b)

theorem script_of {l : OpenLaw} {n : Nat} (hn : l.most = some n) {P : Params} {h : Heap} {args : List WData} {vals : List Value}
    (hpre : l.row.toRowW.claim.pre args = true) (hwl : WellAll P h vals args) :
    ∃ a vs ns, vals = [Value.ref a] ∧ args = [WData.list (ns.map WData.int)] ∧ h.get? a = some { cls := .type "list", data := .seq vs.toArray } ∧ IntsAre vs ns ∧ ns.length ≤ n := by
  have hsh : WShape.hasAll [] args [.list .int] = true := (pre_splitW hpre).1
  have hc : l.pre.holds [] { args := args } = true := (pre_splitW hpre).2
  obtain ⟨d, r, rfl, h1, h2⟩ := hasAllW_cons hsh
  obtain rfl := hasAllW_nil h2
  obtain ⟨xs, rfl, h3⟩ := hasW_list h1
  obtain ⟨ns, rfl⟩ := items_int h3
  have hlen : ns.length ≤ n := by
    unfold OpenLaw.pre at hc
    have h4 : (WTm.not (.lt (.lit (.int (n : Int))) (.len (.arg 0)))).holds [] { args := [.list (ns.map .int)] } = true := by
      have h4 := (holds_andW hc).1
      rw [hn] at h4
      exact h4
    have h5 := condW_of h4 (w_not (w_lt w_lit (w_len_list (w_arg rfl))))
    rw [List.length_map] at h5
    refine Nat.le_of_not_lt fun q => ?_
    have q' : (n : Int) < ((ns.length : Nat) : Int) := by omega
    first
      | (rw [decide_eq_true q'] at h5; exact absurd h5 (by decide))
      | (simp at h5; omega)
  cases hwl with
  | cons w1 w2 =>
    cases w2
    cases w1 with
    | list ho hall => exact ⟨_, _, ns, rfl, rfl, ho, ints_of_wellAll ns _ hall, hlen⟩

theorem post_true (l : OpenLaw) (args : List WData) : l.row.toRowW.claim.post args (.bool true) args = true :=
  postW_of (r := l.row.toRowW) (X := (true == true))
    (show WShape.has [] (.bool true) .bool = true by first | rfl | decide | simp [WShape.has, WShape.arms, WShape.armsAll])
    (show (WTm.eq .res (.lit (.bool true))).value [] { args := args, res := some (.bool true), after := args } = some (.bool (true == true)) from w_eq_bool (w_res rfl) w_lit) rfl

/-! ### the attachment: holds_open's last premise (the goal 'hc' behind k_head) from a wpAny of the law's body -/
theorem attach {l : OpenLaw} {n : Nat} {q : Program} {loose : List Str} {XP : (Str → Option Value) → Heap → Prop} {YP : World → Heap → Prop} {d : DefRec} {x : Str}
    (hn : l.most = some n) (hdf : d.params.defaults = [])
    (hbind : ∀ pm cd doc v : Value, bindArgs (docDef d.name d.params d.body d.scope pm cd doc) ⟨[v], []⟩ = pure [(x, v)])
    (hx : d.scope.names.lookup x = some .local ∨ d.scope.names.lookup x = some .cell)
    (hk : d.scope.kind = .function) (hco : d.scope.isCoroutine = false) (hgen : d.scope.isGenerator = false)
    (body : ∀ (w : World) (s₀ s₁ s : Shared) (mg mb : Str → Option Value) (fa : Addr) (o : Obj) (pm cd doc : Value) (a : Addr) (vs : List Value) (ns : List Int),
      Ground q loose [] XP w s₀ mg mb s₁.heap → YP w s₁.heap →
      s₁.heap.get? fa = some o → o.data = .func (docDef d.name d.params d.body d.scope pm cd doc) → s₁.heap.CodeRec cd d.name → mg d.name = some (.ref fa) →
      s₁.heap.get? a = some { cls := .type "list", data := .seq vs.toArray } → IntsAre vs ns → ns.length ≤ n →
      s.gens = #[] → s.os = s₁.os →
      Fr s₁.heap s₁.heap.objs.size s.heap (bindL (envOfC d.name d.scope s₁.heap.objs.size fa cd).kindOf [(x, .ref a)] fun _ => none) →
      Cl s₁.heap.objs.size (cellsFrom (s₁.heap.objs.size + 1) d.scope.names []) s.heap (bindC (envOfC d.name d.scope s₁.heap.objs.size fa cd).kindOf [(x, .ref a)] fun _ => none) →
      wpAny (model l.prog w) (callerA.deeper (envOfC d.name d.scope s₁.heap.objs.size fa cd)) (execs d.body (envOfC d.name d.scope s₁.heap.objs.size fa cd))
        (fun f s' => f = .ret (.bool true) ∧ OldK s₁.heap s'.heap ∧ s'.os = s₁.os ∧ AllBare s'.gens) (fun _ _ => False) s) :
    WalkO q loose XP YP l.row.toRowW d [] (fun f vs => PySem.call f vs) := by
  intro w s₀ s₁ mg mb G Y fa o pm cd doc dV kV ho hd hcd hD hmg hg args vals as hpre hlay hrd hwl hlo
  obtain rfl : dV = .none := Dflts.none hD hdf
  obtain rfl : kV = .none := Dflts.noKw hD
  obtain ⟨a, vs, ns, rfl, rfl, hobj, hints, hlen⟩ := script_of hn hpre hwl
  refine enter_call ?_
  refine call_cells_ret (o := o) (by rw [depth_caller]; decide) ho (fd_plain hd) G.T.nolimit hcd (hbind pm cd doc (.ref a)) (fun y hy => ?_) (fun h₁ tk F X => ?_) hco hgen hk
  · obtain rfl : y = (x, Value.ref a) := List.mem_singleton.mp hy
    rcases hx with e | e
    · exact .inl e
    · exact .inr ⟨e, cellsFrom_some _ _ _ (.inl e)⟩
  · refine wpAny_mono (body w s₀ s₁ { s₁ with heap := h₁, toks := tk } mg mb fa o pm cd doc a vs ns G Y ho (fd_plain hd) hcd hmg hobj hints hlen hg rfl F X) (fun f s' hq => ?_) (fun _ _ hq => hq)
    obtain ⟨rfl, h2, h3, h4⟩ := hq
    exact ⟨.inl ⟨.bool true, .bool true, [], rfl, fun _ => rfl, .bool true, post_true l _, fun _ => ⟨List.Pairwise.nil, fun _ hm => (nomatch hm)⟩⟩, h2, h3, h4⟩

/-- the same from a codeAny of the CALL (for a layer whose function contracts speak of calls) -/
theorem attach_call {l : OpenLaw} {n : Nat} {q : Program} {loose : List Str} {XP : (Str → Option Value) → Heap → Prop} {YP : World → Heap → Prop} {d : DefRec}
    (hn : l.most = some n) (hdf : d.params.defaults = [])
    (call : ∀ (w : World) (s₀ s₁ : Shared) (mg mb : Str → Option Value) (fa : Addr) (o : Obj) (pm cd doc : Value) (a : Addr) (vs : List Value) (ns : List Int),
      Ground q loose [] XP w s₀ mg mb s₁.heap → YP w s₁.heap →
      s₁.heap.get? fa = some o → o.data = .func (docDef d.name d.params d.body d.scope pm cd doc) → s₁.heap.CodeRec cd d.name → mg d.name = some (.ref fa) →
      s₁.heap.get? a = some { cls := .type "list", data := .seq vs.toArray } → IntsAre vs ns → ns.length ≤ n → s₁.gens = #[] →
      codeAny (model l.prog w) callerA (.call (.ref fa) ⟨[.ref a], []⟩) (fun r s' => r = .ok (.ret (.bool true)) ∧ OldK s₁.heap s'.heap ∧ s'.os = s₁.os ∧ AllBare s'.gens) s₁) :
    WalkO q loose XP YP l.row.toRowW d [] (fun f vs => PySem.call f vs) := by
  intro w s₀ s₁ mg mb G Y fa o pm cd doc dV kV ho hd hcd hD hmg hg args vals as hpre hlay hrd hwl hlo
  obtain rfl : dV = .none := Dflts.none hD hdf
  obtain rfl : kV = .none := Dflts.noKw hD
  obtain ⟨a, vs, ns, rfl, rfl, hobj, hints, hlen⟩ := script_of hn hpre hwl
  refine enter_call (codeAny_mono (call w s₀ s₁ mg mb fa o pm cd doc a vs ns G Y ho (fd_plain hd) hcd hmg hobj hints hlen hg) fun r s' hq => ?_)
  obtain ⟨rfl, h2, h3, h4⟩ := hq
  exact ⟨.inl ⟨.bool true, .bool true, [], rfl, fun _ => rfl, .bool true, post_true l _, fun _ => ⟨List.Pairwise.nil, fun _ hm => (nomatch hm)⟩⟩, h2, h3, h4⟩

/-- the same where the top left finished generators (o_head chose holds_openN): nothing may have changed at all and no generator may be left -/
theorem attachN {l : OpenLaw} {n : Nat} {q : Program} {loose : List Str} {XP : (Str → Option Value) → Heap → Prop} {YP : World → Heap → Prop} {d : DefRec} {x : Str}
    (hn : l.most = some n) (hdf : d.params.defaults = [])
    (hbind : ∀ pm cd doc v : Value, bindArgs (docDef d.name d.params d.body d.scope pm cd doc) ⟨[v], []⟩ = pure [(x, v)])
    (hx : d.scope.names.lookup x = some .local ∨ d.scope.names.lookup x = some .cell)
    (hk : d.scope.kind = .function) (hco : d.scope.isCoroutine = false) (hgen : d.scope.isGenerator = false)
    (body : ∀ (w : World) (s₀ s₁ s : Shared) (mg mb : Str → Option Value) (fa : Addr) (o : Obj) (pm cd doc : Value) (a : Addr) (vs : List Value) (ns : List Int),
      Ground q loose [] XP w s₀ mg mb s₁.heap → YP w s₁.heap →
      s₁.heap.get? fa = some o → o.data = .func (docDef d.name d.params d.body d.scope pm cd doc) → s₁.heap.CodeRec cd d.name → mg d.name = some (.ref fa) →
      s₁.heap.get? a = some { cls := .type "list", data := .seq vs.toArray } → IntsAre vs ns → ns.length ≤ n →
      s.gens = #[] → s.os = s₁.os →
      Fr s₁.heap s₁.heap.objs.size s.heap (bindL (envOfC d.name d.scope s₁.heap.objs.size fa cd).kindOf [(x, .ref a)] fun _ => none) →
      Cl s₁.heap.objs.size (cellsFrom (s₁.heap.objs.size + 1) d.scope.names []) s.heap (bindC (envOfC d.name d.scope s₁.heap.objs.size fa cd).kindOf [(x, .ref a)] fun _ => none) →
      wpAny (model l.prog w) (callerA.deeper (envOfC d.name d.scope s₁.heap.objs.size fa cd)) (execs d.body (envOfC d.name d.scope s₁.heap.objs.size fa cd))
        (fun f s' => f = .ret (.bool true) ∧ (∀ b o, s₁.heap.get? b = some o → s'.heap.get? b = some o) ∧ s'.os = s₁.os ∧ s'.gens = #[]) (fun _ _ => False) s) :
    WalkN q loose XP YP l.row.toRowW d [] (fun f vs => PySem.call f vs) := by
  intro w s₀ s₁ mg mb G Y fa o pm cd doc dV kV ho hd hcd hD hmg hg args vals as hpre hlay hrd hwl hlo
  obtain rfl : dV = .none := Dflts.none hD hdf
  obtain rfl : kV = .none := Dflts.noKw hD
  obtain ⟨a, vs, ns, rfl, rfl, hobj, hints, hlen⟩ := script_of hn hpre hwl
  refine enter_callW ?_
  refine call_cells_ret (o := o) (by rw [depth_caller]; decide) ho (fd_plain hd) G.T.nolimit hcd (hbind pm cd doc (.ref a)) (fun y hy => ?_) (fun h₁ tk F X => ?_) hco hgen hk
  · obtain rfl : y = (x, Value.ref a) := List.mem_singleton.mp hy
    rcases hx with e | e
    · exact .inl e
    · exact .inr ⟨e, cellsFrom_some _ _ _ (.inl e)⟩
  · refine wpAny_mono (body w s₀ s₁ { s₁ with heap := h₁, toks := tk } mg mb fa o pm cd doc a vs ns G Y ho (fd_plain hd) hcd hmg hobj hints hlen hg rfl F X) (fun f s' hq => ?_) (fun _ _ hq => hq)
    obtain ⟨rfl, h2, h3, h4⟩ := hq
    exact ⟨.inl ⟨.bool true, .bool true, [], rfl, fun _ => rfl, .bool true, post_true l _, fun _ => ⟨List.Pairwise.nil, fun _ hm => (nomatch hm)⟩⟩, h2, h3, h4⟩

/-! ### rules over ANY heap (no ledger) from facts about the written part K: the library's own take a ledger (News) for what they write -/
section
variable {prog : Program} {w : World} {A : Around} {E : Value → Shared → Prop} {s : Shared} {K : Frag}

/-- a def of the module, or a method (qual 'C.m'), entered: the frame is the next address; cells behind it -/
theorem call_fn {R : Result → Shared → Prop} {name qual : Str} {params : Arguments} {body : List Stmt} {scope : Scope} {dV kV doc pm cdv ct oc : Value} {an od : Option Addr} {osl : Array (Option Value)} {f : Addr} {args : Args} {binds : List (Str × Value)}
    (X : K.In s.heap) (hlim : s.heap.NoLimit) (ho : K.lookup f = some ⟨oc, od, .func (fnOf name qual params body scope dV kV doc pm an cdv ct), osl⟩) (hcd : codeIn K cdv qual = true) (hroom : A.depth < recursionLimit)
    (hbind : BindsTo s (fnOf name qual params body scope dV kV doc pm an cdv ct) args binds)
    (hkind : (binds.all fun y => scope.names.lookup y.1 == some .local || scope.names.lookup y.1 == some .cell) = true)
    (h : ∀ s₁, InCallC s s.heap.objs.size (bindL (envOfC qual scope s.heap.objs.size f cdv).kindOf binds fun _ => none) (cellsFrom (s.heap.objs.size + 1) scope.names [])
        (bindC (envOfC qual scope s.heap.objs.size f cdv).kindOf binds fun _ => none) s₁ →
      wpAny (model prog w) (A.deeper (envOfC qual scope s.heap.objs.size f cdv)) (execs body (envOfC qual scope s.heap.objs.size f cdv))
        (fun fl s' => R (.ok (.ret (match fl with | .ret v => v | _ => .none))) s')
        (fun e s' => wpAny (model prog w) (A.deeper (envOfC qual scope s.heap.objs.size f cdv)) (leaving (envOfC qual scope s.heap.objs.size f cdv) e) (fun _ s'' => R (.error e) s'') (fun e' s'' => R (.error e') s'') s') s₁)
    (hco : scope.isCoroutine = false) (hgen : scope.isGenerator = false) (hk : scope.kind = .function) : codeAny (model prog w) A (.call (.ref f) args) R s := by
  refine codeAny_call_function hroom (X _ _ ho) rfl hco hgen rfl (codeRec_of X hcd) (hbind _ _ _ _ ?_)
  refine wpAny_newFunctionEnv_cells hk (kindsX hkind _) fun env he s₁ x => ?_
  subst he
  exact ⟨hlim.keeps x.toInCall.keep, codeAny_func (h s₁ x)⟩

/-- C(..): dict at size, instance at size + 1, then __init__ -/
theorem make_obj {R : Result → Shared → Prop} {C fI : Addr} {rest : List Value} {kw : List (Str × Value)}
    (X : K.In s.heap) (hm : makesIn K C = true) (hi : findIn K (.ref C) "__init__" = some (some (.ref fI))) (hf : isFn K (.ref fI) = true)
    (h : codeAny (model prog w) (A.under (.builtin "type.__call__" ⟨.ref C :: rest, kw⟩)) (.call (.ref fI) ⟨.ref (s.heap.objs.size + 1) :: rest, kw⟩) (InitBack (s.heap.objs.size + 1) R)
      { s with heap := (s.heap.push emptyDict).push (instObj C s.heap.objs.size) }) : codeAny (model prog w) A (.call (.ref C) ⟨rest, kw⟩) R s := by
  obtain ⟨hh, g, d, t, os⟩ := s
  exact make_core (makes_of X hm) (looks_findIn X hi) (fun self => bind_fn X self (beq_iff_eq.mp hf)) (.inl rfl) h

/-- x.name where the instance's dict holds the name and the class does not -/
theorem get_field {x C : Addr} {ox : Obj} {es : List DictEntry} {n : Nat} {name : Str} {expr : Bool} {v : Value} {Q : Value → Shared → Prop}
    (X : K.In s.heap) (I : PySem.W.InstAt s.heap x ox C (some (dictOf es n))) (hg : plainGet K C name = true) (hh : hasDictIn K C = true) (ha : findIn K (.ref C) name = some none)
    (hl : getL name es = some (some v)) (hv : handedIn v = true) (h : Q v { s with toks := s.toks + 1 }) : wpAny (model prog w) A (getAttr (.ref x) name expr) Q E s :=
  get_value X I (plainGet_of hg).1 (findObj_own hh ha rfl hl) hv h

/-- x.m(..): the method found in the class -/
theorem get_method {x C f : Addr} {ox : Obj} {es : List DictEntry} {n : Nat} {name : Str} {pl : Sem Bool} {Q : Value × List Value → Shared → Prop}
    (X : K.In s.heap) (I : PySem.W.InstAt s.heap x ox C (some (dictOf es n))) (hg : plainGet K C name = true) (hf : findIn K (.ref C) name = some (some (.ref f))) (ht : isFn K (.ref f) = true)
    (hl : getL name es = some none) (h : Q (.ref f, [.ref x]) s) : wpAny (model prog w) A (getMethod (.ref x) name pl) Q E s :=
  method_fn X I (plainGet_of hg).1 (plainGet_of hg).2 hf (beq_iff_eq.mp ht) (by show (lookIn name (dictOf es n)).map _ = _; rw [lookIn_dict, hl]; rfl) h

/-! the whole heap as the ledger: makes every rule that writes through a ledger a rule over any heap -/
def noObjs (h : Heap) : Heap := { h with objs := #[] }
theorem noObjs_get (h : Heap) (b : Addr) : (noObjs h).get? b = none := by
  cases e : (noObjs h).get? b with
  | none => rfl
  | some o => exact absurd (Heap.lt_size e) (Nat.not_lt_zero _)
def ledger (h : Heap) (L d : Addr) : List (Addr × Obj) := (List.range h.objs.size).filterMap fun a => if a = L ∨ a = d then none else (h.get? a).map fun o => (a, o)
theorem mem_ledger {h : Heap} {L d a : Addr} {o : Obj} : (a, o) ∈ ledger h L d ↔ a ≠ L ∧ a ≠ d ∧ h.get? a = some o := by
  unfold ledger
  rw [List.mem_filterMap]
  constructor
  · rintro ⟨b, _, e⟩
    split at e
    · cases e
    · rename_i hb
      obtain ⟨o', ho, e'⟩ := Option.map_eq_some_iff.mp e
      cases e'
      exact ⟨fun q => hb (.inl q), fun q => hb (.inr q), ho⟩
  · rintro ⟨n1, n2, ho⟩
    refine ⟨a, List.mem_range.mpr (Heap.lt_size ho), ?_⟩
    rw [if_neg (show ¬ (a = L ∨ a = d) from fun q => q.elim n1 n2), ho] <;> rfl
theorem news_ledger {h : Heap} {L d : Addr} {od : Obj} (hne : d ≠ L) (ho : h.get? d = some od) : News (noObjs h) L h ([] ++ (d, od) :: ledger h L d) := by
  rintro ⟨a, o⟩ hp
  rcases List.mem_cons.mp hp with e | hp
  · cases e
    exact ⟨ho, hne, noObjs_get _ _⟩
  · obtain ⟨n1, n2, e⟩ := mem_ledger.mp hp
    exact ⟨e, n1, noObjs_get _ _⟩
theorem fr_all {h : Heap} {L : Addr} {m : Str → Option Value} (n : h.Ns L m) : Fr (noObjs h) L h m :=
  ⟨n, fun b o e => (by rw [noObjs_get] at e; cases e), Nat.zero_le _⟩
/-- Upd of the head entry (for append_K, setItem_K ..) -/
theorem upd_ledger {h : Heap} {L d : Addr} {o o' : Obj} : Upd d o o' ((d, o) :: ledger h L d) ((d, o') :: ledger h L d) :=
  .head fun ⟨_, _⟩ hp => (mem_ledger.mp hp).2.1

/-- x.name = v over any heap: L is any namespace of the heap (the frame's, say): its map stays, its object is not told; all else but the dict stays -/
theorem set_field {x C dx L : Addr} {ox : Obj} {m : Str → Option Value} {es es' : List DictEntry} {n n' : Nat} {name : Str} {v : Value} {Q : Unit → Shared → Prop}
    (X : K.In s.heap) (I : PySem.W.InstAt s.heap x ox C (some (dictOf es n))) (hd : ox.dict = some dx) (hL : s.heap.Ns L m) (hne : dx ≠ L)
    (hs : findIn K (.ref C) "__setattr__" = some (some (.builtin "object.__setattr__"))) (hp : plainOver K C = true) (ht : takerIn K C name = some none) (hh : hasDictIn K C = true) (hl : (getL name es).isSome = true)
    (e : (putL name (PyData.keyHash w.params name) (.str name (s.toks + 1)) v es, putN name es n) = (es', n')) (hz : es'.length ≤ 1000)
    (h : ∀ h' : Heap, h'.Ns L m → h'.get? dx = some (dictOf es' n') → (∀ b o, b ≠ dx → b ≠ L → s.heap.get? b = some o → h'.get? b = some o) → Q () { s with heap := h', toks := s.toks + 2 }) :
    wpAny (model prog w) A (setAttr (.ref x) name v) Q E s := by
  obtain ⟨e1, e2⟩ := Prod.mk.inj e
  have hdx : s.heap.get? dx = some (dictOf es n) := by
    have := I.dict
    rw [hd] at this
    exact this
  refine set_plain X I hs (osa_dict (s := { s with toks := s.toks + 1 }) (h₀ := noObjs s.heap) (L := L) (m := m) (od := dictOf es n) (od' := dictOf es' n') (es := es') (n := n') (pre := []) (post := ledger s.heap L dx)
    (fr_all hL) (news_ledger hne hdx) X I hd hp ht hh hl (fun _ q => nomatch q) (fun ⟨_, _⟩ q => (mem_ledger.mp q).2.1) (by rw [putName_dict, e1, e2]) rfl hz fun h' F' N' => ?_)
  exact h h' F'.ns (N'.get (List.Mem.head _)) fun b o n1 n2 ho => N'.get (List.Mem.tail _ (mem_ledger.mpr ⟨n2, n1, ho⟩))
end
end Att

namespace L2
open PySem PySem.Spec PyProof.Rows

theorem vals_ints : ∀ {vs : List Value} {ns : List Int}, IntsAre vs ns → Vals (ns.map V.int) vs
  | _, _, .nil => .nil
  | _, _, .cons n t h => .cons ⟨t, rfl⟩ (vals_ints h)

/-- nothing is tracked but the script, known to the object (or it is an object of the module) -/
def Only (H : Hp) : Prop := ∀ b, H b = none ∨ ∃ o xs, H b = some (.frz o (.lst xs))

/-- THE HEAD: the law's promise, at the heap behind the top. F, the promise of the law's def, may use that base is part of the heap (so K.In base, base.Ns mainGlobals mg stand in Mod) -/
theorem law_call {P : Program} {w : World} {K : PySem.W.Frag} {mg mb : Str → Option Value} {CX : CXT} {k : Nat} {fa a : Addr} {fd : FuncData} {x : Str} {sp : Sp} {s₁ : Shared} {vs : List Value} {ns : List Int}
    (KX : K.In s₁.heap) (hns : s₁.heap.Ns mainGlobals mg) (hb : s₁.heap.Ns builtinsNs mb) (hbb : ∀ x : Str, x ≠ "__name__" → mb x = bootBuiltins x) (hlim : s₁.heap.NoLimit) (hg : s₁.gens = #[])
    (ha : s₁.heap.get? a = some { cls := .type "list", data := .seq vs.toArray }) (hi : IntsAre vs ns) (hl : ns.length ≤ sizeLine) (hr : Room k callerA)
    (F : ∀ base : Heap, K.In base → base.Ns mainGlobals mg → FnOk P w K mg base CX k fa fd [x] sp) (hbind : ∀ (s : Shared) (u : Value), BindsTo s fd ⟨[u], []⟩ [(x, u)])
    (hsp : ∀ H : Hp, Only H → SqL K H a (ns.map V.int) → sp [.ref a] H (fun v _ => v = .bl true) fun _ _ _ => False)
    (hCX : ∀ H e s', CX [] H s₁ (fun _ _ _ => False) e s' → False) :
    codeAny (model P w) callerA (.call (.ref fa) ⟨[.ref a], []⟩) (fun r s' => r = .ok (.ret (.bool true)) ∧ OldK s₁.heap s'.heap ∧ s'.os = s₁.os ∧ AllBare s'.gens) s₁ := by
  have rv := vals_ints hi
  have lenV := hi.length
  -- from an abstract heap in which nothing but the script may be tracked
  have core : ∀ H : Hp, Only H → SqL K H a (ns.map V.int) → HOk P w H s₁.heap → (∀ b, H b ≠ none → b = a) → (H a ≠ none → K.lookup a = none) →
      codeAny (model P w) callerA (.call (.ref fa) ⟨[.ref a], []⟩) (fun r s' => r = .ok (.ret (.bool true)) ∧ OldK s₁.heap s'.heap ∧ s'.os = s₁.os ∧ AllBare s'.gens) s₁ := by
    intro H hO hS hok hA hK
    have base_of : ∀ {b : Addr} {o : Obj}, s₁.heap.get? b = some o → H b = none → (hidT s₁.heap H).get? b = some o := fun e n => hidT_get e n
    have noA : ∀ {b : Addr} {o : Obj} {es : Array DictEntry} {ep : Nat}, s₁.heap.get? b = some o → o.data = .dict es ep → H b = none := fun {b o es ep} e d => by
      cases q : H b with
      | none => rfl
      | some u =>
        have e' : b = a := hA b (by rw [q]; simp)
        subst e'
        rw [ha] at e; cases e
        have d' : Data.seq vs.toArray _ = Data.dict es ep := d
        cases d'
    have nsK : ∀ {b : Addr} {m : Str → Option Value}, s₁.heap.Ns b m → (hidT s₁.heap H).Ns b m := fun {b m} ⟨o, es, ep, e, d, r⟩ => ⟨o, es, ep, base_of e (noA e d), d, r⟩
    have hKb : K.In (hidT s₁.heap H) := fun b o e => base_of (KX b o e) (by
      cases q : H b with
      | none => rfl
      | some u =>
        have e' : b = a := hA b (by rw [q]; simp)
        subst e'
        rw [hK (by rw [q]; simp)] at e; cases e)
    have hM : Mod K mg (hidT s₁.heap H) := ⟨hKb, nsK hns, ⟨mb, nsK hb, hbb⟩, let ⟨mc, h1, h2⟩ := hlim; ⟨mc, nsK h1, h2⟩⟩
    have e0 : Env0 P w K mg (hidT s₁.heap H) callerA [] s₁ H := ⟨rfl, hM, fun b o e => of_hidT e, Nat.le_of_eq (hidT_size _ _), trivial, fun b hb => absurd (show b ∈ ([] : List Addr) from hb) (by simp), hok, .of_eq hg⟩
    refine codeAny_mono ((F _ hKb (nsK hns)).run callerA [] s₁ H ⟨[.ref a], []⟩ [.ref a] [.ref a] _ _ hr e0 (hbind s₁ (.ref a)) (.cons rfl .nil) (hsp H hO hS)) fun r s' h => ?_
    cases r with
    | error e => exact (hCX H e s' h).elim
    | ok fl =>
      cases fl with
      | next => exact False.elim h
      | brk => exact False.elim h
      | cont => exact False.elim h
      | ret u =>
        obtain ⟨v, H', os, bare, un, hok', r', q⟩ := h
        have q' : v = .bl true := q
        subst q'
        obtain rfl : u = Value.bool true := r'
        refine ⟨rfl, OldK.of_keep fun b o e => ?_, os, bare⟩
        cases q : H b with
        | none => exact un.keep b o e q (by intro z; exact absurd (show b ∈ ([] : List Addr) from z) (by simp)) (by simp)
        | some u =>
          rcases hO b with z | ⟨ob, xs, z⟩
          · rw [q] at z; cases z
          · have z2 := un.frzs b ob _ z
            obtain ⟨e1, _⟩ := hok b _ z
            obtain ⟨e2, _⟩ := hok' b _ z2
            rw [e] at e1; cases e1
            exact e2
  cases hk : K.lookup a with
  | some o =>
    -- the script is one of the module's own objects
    have e := KX a o hk
    rw [ha] at e
    cases e
    refine core (fun _ => none) (fun _ => .inl rfl) (.inr ⟨_, vs.toArray, _, hk, rfl, rfl, rfl, by rw [List.size_toArray, lenV]; exact hl, by simpa using rv⟩) (fun b u z => by have z' : (none : Option HO) = some u := z; cases z') (fun b z => absurd rfl z) fun z => absurd rfl z
  | none =>
    refine core (fun b => if b = a then some (.frz { cls := .type "list", data := .seq vs.toArray } (.lst (ns.map V.int))) else none) (fun b => ?_) (.inl (.inr ⟨{ cls := .type "list", data := .seq vs.toArray }, if_pos rfl⟩)) (fun b u z => ?_) (fun b z => ?_) fun _ => hk
    · by_cases hb : b = a
      · exact .inr ⟨_, _, if_pos hb⟩
      · exact .inl (if_neg hb)
    · by_cases hb : b = a
      · have z' := (if_pos hb).symm.trans z
        cases z'
        subst hb
        exact ⟨ha, by rw [List.length_map]; exact hl, vs, _, rv, ha⟩
      · have z' := (if_neg hb).symm.trans z
        cases z'
    · by_cases hb : b = a
      · exact hb
      · exact absurd (if_neg hb) z
end L2

namespace L2
open PySem PySem.Spec PyProof.Rows

abbrev KOf {K : PySem.W.Frag} {h : Heap} (_ : K.In h) : PySem.W.Frag := K

/-- the goal that k_head leaves (case hc), from the law's promise. F gives the function object fd (K's own) once, then the promise over every base -/
theorem walk_of {l : PySem.W.OpenLaw} {n k : Nat} {q : Program} {loose : List Str} {XP : (Str → Option Value) → Heap → Prop} {YP : World → Heap → Prop} {d : DefRec} {K : Params → PySem.W.Frag} {CX : World → CXT} {sp : World → Sp} {x : Str}
    (hn : l.most = some n) (hn2 : n ≤ sizeLine) (hdf : d.params.defaults = []) (hr : Room k callerA)
    (hY : ∀ (w : World) (h : Heap), YP w h → (K w.params).In h)
    (F : ∀ (w : World) (mg : Str → Option Value) (fa : Addr) (h : Heap), (K w.params).In h → h.Ns mainGlobals mg → mg d.name = some (.ref fa) →
      ∃ fd : FuncData, (∀ (s : Shared) (u : Value), BindsTo s fd ⟨[u], []⟩ [(x, u)]) ∧
        ∀ base : Heap, (K w.params).In base → base.Ns mainGlobals mg → FnOk l.prog w (K w.params) mg base (CX w) k fa fd [x] (sp w))
    (hsp : ∀ (w : World) (H : Hp) (a : Addr) (ns : List Int), ns.length ≤ n → Only H → SqL (K w.params) H a (ns.map V.int) → sp w [.ref a] H (fun v _ => v = .bl true) fun _ _ _ => False)
    (hCX : ∀ (w : World) (H : Hp) (s : Shared) (e : Value) (s' : Shared), CX w [] H s (fun _ _ _ => False) e s' → False) :
    PySem.W.WalkO q loose XP YP l.row.toRowW d [] (fun f vs => PySem.call f vs) := by
  refine Att.attach_call hn hdf fun w s₀ s₁ mg mb fa o pm cd doc a vs ns G Y ho hd hcd hmg hobj hints hlen hg => ?_
  have KX := hY w _ Y
  obtain ⟨fd, hb, hF⟩ := F w mg fa _ KX G.T.g hmg
  exact law_call KX G.T.g G.T.b G.T.builtins G.T.nolimit hg hobj hints (Nat.le_trans hlen hn2) hr hF hb (fun H hO hS => hsp w H a ns hlen hO hS) fun H e s' => hCX w H s₁ e s'
/-- the same where the promise hangs on the written part alone: (sp := My.sp_law), no hole under a binder -/
theorem walk_ofK {l : PySem.W.OpenLaw} {n k : Nat} {q : Program} {loose : List Str} {XP : (Str → Option Value) → Heap → Prop} {YP : World → Heap → Prop} {d : DefRec} {K : Params → PySem.W.Frag} {CX : CXT} {sp : PySem.W.Frag → Sp} {x : Str}
    (hn : l.most = some n) (hn2 : n ≤ sizeLine) (hdf : d.params.defaults = []) (hr : Room k callerA)
    (hY : ∀ (w : World) (h : Heap), YP w h → (K w.params).In h)
    (F : ∀ (w : World) (mg : Str → Option Value) (fa : Addr) (h : Heap), (K w.params).In h → h.Ns mainGlobals mg → mg d.name = some (.ref fa) →
      ∃ fd : FuncData, (∀ (s : Shared) (u : Value), BindsTo s fd ⟨[u], []⟩ [(x, u)]) ∧
        ∀ base : Heap, (K w.params).In base → base.Ns mainGlobals mg → FnOk l.prog w (K w.params) mg base CX k fa fd [x] (sp (K w.params)))
    (hsp : ∀ (K : PySem.W.Frag) (H : Hp) (a : Addr) (ns : List Int), ns.length ≤ n → Only H → SqL K H a (ns.map V.int) → sp K [.ref a] H (fun v _ => v = .bl true) fun _ _ _ => False)
    (hCX : ∀ (H : Hp) (s : Shared) (e : Value) (s' : Shared), CX [] H s (fun _ _ _ => False) e s' → False) :
    PySem.W.WalkO q loose XP YP l.row.toRowW d [] (fun f vs => PySem.call f vs) :=
  walk_of (K := K) (CX := fun _ => CX) (sp := fun w => sp (K w.params)) hn hn2 hdf hr hY F (fun w H a ns h1 h2 h3 => hsp (K w.params) H a ns h1 h2 h3) fun _ H s e s' => hCX H s e s'
end L2

/- THE LAST THEOREM (shape; LID, My.* are yours):
   My.Adr: a structure of the addresses that your layer names (classes, functions); My.Txt K t: a structure (Prop) of the equations over K;
   My.txt_mk : {K} {implicit addresses ..} (e1 : nsIn K mainGlobals "law" = some (some (.ref f))) (e2 : K.lookup f = some ⟨oc, od, .func (fnOf "law" "law" params body scope dV kV doc pm an cdv ct), sl⟩) (e3 : codeIn K cdv "law" = true) .. : ∃ t, My.Txt K t

set_option maxRecDepth 100000 in
set_option maxHeartbeats 0 in
theorem PySem.Challenge.cw_LID_holds : PySem.Challenge.rw_LID.Holds := by
  w_on; o_law; k_head; (case hw => w_witness2)
  k_fill
  refine L2.walk_of (l := PySem.Challenge.rw_LID) (n := 63) (k := 40) (x := "script") (CX := fun w => ..) (sp := fun _ => My.sp_law) rfl (by decide) rfl ⟨rfl, by decide, by decide⟩ (fun w h Y => PySem.W.kIn_of Y) ?F ?S ?C
  case F =>
    intro w mg fa h KX G hmg
    have T : ∃ t, My.Txt (L2.KOf KX) t := by
      dsimp only [L2.KOf]                          -- K must stand as «<heap const> w.params» for k_is
      refine' My.txt_mk ?e1 ?e2 ?e3 ..
      (case e1 => PySem.W.k_is)                    -- in the order: a name -> its address -> its object -> its parts
      (case e2 => PySem.W.k_is)
      ..
    obtain ⟨t, T⟩ := T
    have e0 := hmg.symm.trans (PySem.W.mg_of KX G T.law)
    cases e0                                       -- fa is the law's own address
    exact ⟨_, fun s u => .of_eq rfl, fun base kb nb => My.law_fn T kb nb⟩     -- if «.of_eq rfl» comes too early: refine' ⟨_, ?b, fun base kb nb => My.law_fn T kb nb⟩; exact fun s u => .of_eq rfl
  case S => exact fun w H a ns hl hO hS => ..
  case C => exact ..
(the tactic k_is has no namespace: write k_is) -/

/-! SHORT WORDS over the layer: a def of the text, its body, what a loop and a test want. -/
namespace L2
open PySem PySem.Spec PyProof.Rows

/-! ### the text by places -/
/-- the j-th statement of a class's body -/
def inClass (s : Stmt) (j : Nat) : Stmt := match s with
  | .ClassDef _ _ _ body _ _ _ _ _ _ _ => body.getD j (.Pass ⟨0, 0, 0, 0⟩)
  | _ => .Pass ⟨0, 0, 0, 0⟩
def defArgs (s : Stmt) : Arguments := match s with
  | .FunctionDef _ a _ _ _ _ _ _ _ _ => a
  | _ => { posonlyargs := [], args := [], vararg := none, kwonlyargs := [], kw_defaults := [], kwarg := none, defaults := [] }
def defBody (s : Stmt) : List Stmt := match s with
  | .FunctionDef _ _ b _ _ _ _ _ _ _ => b
  | _ => []
def defScope (s : Stmt) : Scope := match s with
  | .FunctionDef _ _ _ _ _ _ sc _ _ _ => sc
  | _ => { kind := .function, names := [], isGenerator := false, isCoroutine := false }

/-! ### no exception leaves a def -/
abbrev CX0 : CXT := fun _ _ _ _ _ _ => False
abbrev E0 : XK := fun _ _ _ => False
theorem pass0 {X : Cx} : Passes CX0 X E0 := fun _ _ _ _ _ _ _ h => h.elim

/-! ### a def (or method) of the text as it stands behind the top -/
structure Fun (K : PySem.W.Frag) (x qual : Str) (st : Stmt) (f : Addr) (fd : FuncData) : Prop where
  ex : ∃ (oc : Value) (od : Option Addr) (kV doc pm : Value) (an : Option Addr) (cdv ct : Value) (osl : Array (Option Value)),
    fd = PySem.W.fnOf x qual (defArgs st) (defBody st) (defScope st) .none kV doc pm an cdv ct ∧ K.lookup f = some ⟨oc, od, .func fd, osl⟩ ∧ PySem.W.codeIn K cdv qual = true
  kp : PySem.W.keepIn K (.ref f) = true
section
variable {P : Program} {w : World} {K : PySem.W.Frag} {mg : Str → Option Value} {base : Heap}
/-- THE RULE for a def: its body as a term of rules, and the reading of that term -/
theorem Fun.ok {x qual : Str} {st : Stmt} {f : Addr} {fd : FuncData} {N ps : List Str} {k : Nat} {sp : Sp} (F : Fun K x qual st f fd) (S : FnScope N ps (defScope st)) (len : ∀ vs H Q E, sp vs H Q E → vs.length = ps.length)
    (hbody : ∀ (cdv : Value) (A : Around) (outer : List Env) (s : Shared) (H : Hp) (vs : List V) (Q : VK) (E : XK), Room k (A.deeper (envOfC qual (defScope st) s.heap.objs.size f cdv)) → sp vs H Q E →
      ∃ t, PSs (cxOf CX0 P w K mg base N qual (defScope st) f cdv A outer s H E).nox (defBody st) t ∧ t { nx := fun _ H' => Q .non H', rt := Q } (start N vs) H) : FnOk P w K mg base CX0 (k + 1) f fd ps sp := by
  obtain ⟨oc, od, kV, doc, pm, an, cdv, ct, osl, rfl, lk, hcd⟩ := F.ex
  refine fn_of lk hcd S len fun A outer s H vs Q E hr hsp => ?_
  obtain ⟨t, h, q⟩ := hbody cdv A outer s H vs Q E hr hsp
  exact ⟨t, h.nox, q⟩
/-- how its arguments bind (no defaults): h is «fun _ _ _ _ _ _ us hl => match us, hl with | [_, _], _ => rfl», one _ a parameter -/
theorem Fun.binds {x qual : Str} {st : Stmt} {f : Addr} {fd : FuncData} {ps : List Str} (F : Fun K x qual st f fd)
    (h : ∀ (kV doc pm : Value) (an : Option Addr) (cdv ct : Value) (us : List Value), us.length = ps.length → bindArgs (PySem.W.fnOf x qual (defArgs st) (defBody st) (defScope st) .none kV doc pm an cdv ct) ⟨us, []⟩ = pure (ps.zip us)) : Binds K fd ps [] := by
  obtain ⟨oc, od, kV, doc, pm, an, cdv, ct, osl, rfl, lk, hcd⟩ := F.ex
  exact .all (h kV doc pm an cdv ct)
theorem fun_mk {x qual : Str} {st : Stmt} {f : Addr} {oc : Value} {od an : Option Addr} {osl : Array (Option Value)} {kV doc pm cdv ct : Value} (l : K.lookup f = some ⟨oc, od, .func (PySem.W.fnOf x qual (defArgs st) (defBody st) (defScope st) .none kV doc pm an cdv ct), osl⟩)
    (c : PySem.W.codeIn K cdv qual = true) (k : PySem.W.keepIn K (.ref f) = true) : Fun K x qual st f (PySem.W.fnOf x qual (defArgs st) (defBody st) (defScope st) .none kV doc pm an cdv ct) := ⟨⟨oc, od, kV, doc, pm, an, cdv, ct, osl, rfl, l, c⟩, k⟩
end
theorem hu_of {A : Around} {k : Nat} (hr : Room k A) : A.units + 1 < cLine := Nat.lt_of_le_of_lt (Nat.add_le_add_left (by decide : 1 ≤ 64) _) hr.units
theorem small1000 {n : Nat} (h : n ≤ 1000) : n < sizeLine := Nat.lt_of_le_of_lt h (by decide)

/-! ### expressions in short: the name that stands in the i-th slot -/
section
variable {X : Cx}
theorem pv (i : Nat) {x : Str} {pos : Pos} (hN : X.N[i]? = some x := by rfl) (hv : Vis X.env.scope x := by first | exact Or.inl rfl | exact Or.inr (Or.inl rfl) | exact Or.inr (Or.inr rfl)) (hd : (x == ("__debug__" : Str)) = false := by decide)
    (hcd : (x == ("__classdict__" : Str)) = false := by decide) : PE X (.Name x pos) (tVar i) := pe_var hN hv hd hcd
end

/-! ### tests -/
theorem iteF {A B : Prop} (h : B) : if false = true then A else B := by
  rw [if_neg Bool.false_ne_true]
  exact h
theorem iteT {A B : Prop} (h : A) : if true = true then A else B := by
  rw [if_pos rfl]
  exact h
theorem ite2 {c A B : Prop} [Decidable c] (h1 : c → A) (h2 : ¬ c → B) : if c then A else B := by
  by_cases h : c
  · rw [if_pos h]
    exact h1 h
  · rw [if_neg h]
    exact h2 h
theorem iteNS {c A B : Prop} [Decidable c] (hc : c) (h : B) : if (!decide c) = true then A else B := by
  rw [decide_eq_true hc]
  exact iteF h

/-! ### heaps -/
/-- all that was tracked is as it was -/
def Same (H H' : Hp) : Prop := ∀ b o, H b = some o → H' b = some o
theorem Same.refl (H : Hp) : Same H H := fun _ _ h => h
theorem Same.trans {H H1 H2 : Hp} (a : Same H H1) (b : Same H1 H2) : Same H H2 := fun c o h => b c o (a c o h)
theorem Same.free {H H' : Hp} (e : Same H H') {l : Addr} (h : H' l = Option.none) : H l = Option.none := by
  cases q : H l with
  | none => rfl
  | some o =>
    rw [e l o q] at h
    cases h
theorem Same.seq {K : PySem.W.Frag} {H H' : Hp} {a : Addr} {xs : List V} (e : Same H H') (h : SqL K H a xs) : SqL K H' a xs := by
  rcases h with (h | ⟨o, h⟩) | h
  · exact .inl (.inl (e _ _ h))
  · exact .inl (.inr ⟨o, e _ _ h⟩)
  · exact .inr h

end L2

set_option Elab.async false
set_option linter.all false
set_option maxRecDepth 100000
set_option maxHeartbeats 4000000
/-! what the small layer lacks: sums, texts times ints, tuples compared, isinstance, comprehensions -/
namespace L2
open PySem PySem.Spec PyProof.Rows
section
variable {X : Cx}
theorem ck_sum (hc : X.calm = true) : CallR X (.builtin "sum") (fun xs H Q => ∃ (p : Addr) (ns : List Int), xs = [.ref p] ∧ SqL X.K H p (ns.map V.int) ∧ Q (.int ns.sum) H) := by
  intro pins s σ H xs us Q I r h
  obtain ⟨p, ns, rfl, hp, q⟩ := h
  obtain ⟨u, rfl, ru⟩ := vals1 r
  cases ru
  obtain ⟨its, rv, pl, hz⟩ := I.list hp
  have hi : IntsAre its ns := intsAre_of rv
  obtain ⟨ys, e⟩ := hi.allInts.items
  have hl : s.heap.IsList p (intItems ys) := by rw [← e]; exact pl.isList
  have e2 : preSum (numAt ys) ys.size = ns.sum := by
    rw [preSum_eq, List.take_of_length_le (by simp), ← nums_intItems, ← e, show its.toArray.toList = its from rfl, hi.numsOf]
  refine sum_intListG (I.ok.hd hc) hl fun h' tk t' hk => ?_
  rw [e2]
  exact ⟨.int ns.sum, H, I.kept hk, ⟨t', rfl⟩, q⟩
theorem ck_mulS : OpR X (binaryOp .Mult) (fun x y H Q => ∃ (z : Str) (n : Int), x = .str z ∧ y = .int n ∧ MulOk z n ∧ Q (.str (Txt.mul z n)) H) := by
  intro pins s σ H x y v u Q I rx ry h
  obtain ⟨z, n, rfl, rfl, hok, q⟩ := h
  obtain ⟨t, rfl⟩ := rx
  obtain ⟨t', rfl⟩ := ry
  exact SB.mul hok fun t' k => ⟨.str (Txt.mul z n), H, I.tok k, ⟨t', rfl⟩, q⟩
/-- ints and texts -/
def plnV : V → Bool
  | .int _ => true
  | .str _ => true
  | _ => false
theorem plnV.flat {x : V} (h : plnV x = true) : flatV x = true := by cases x <;> first | rfl | cases h
theorem plnV.eq {x y : V} (hx : plnV x = true) (hy : plnV y = true) : eqV x y = decide (x = y) := by
  cases x with
  | int a =>
    cases y with
    | int b => exact dec_int.symm
    | str b => exact (decide_eq_false (fun z => nomatch z)).symm
    | _ => cases hy
  | str a =>
    cases y with
    | str b => exact dec_str.symm
    | int b => exact (decide_eq_false (fun z => nomatch z)).symm
    | _ => cases hy
  | _ => cases hx
theorem all_pl {xs ys : List V} : ((List.range (min xs.length ys.length)).all (fun j => decide (xs[j]? = ys[j]?)) && xs.length == ys.length) = decide (xs = ys) := by
  by_cases h : xs = ys
  · subst h
    rw [decide_eq_true rfl]
    simp
  · rw [decide_eq_false h]
    rw [Bool.and_eq_false_iff]
    by_cases hl : xs.length = ys.length
    · left
      rw [Bool.eq_false_iff]
      intro ha
      apply h
      rw [List.all_eq_true] at ha
      apply List.ext_getElem?
      intro i
      by_cases hi : i < xs.length
      · exact of_decide_eq_true (ha i (List.mem_range.mpr (by omega)))
      · rw [List.getElem?_eq_none (by omega), List.getElem?_eq_none (by omega)]
    · right
      exact beq_eq_false_iff_ne.mpr hl
theorem tup_items {s : Shared} {xs ys : List V} {us ws : List Value} (r : Vals xs us) (r' : Vals ys ws) (hx : xs.all plnV = true) (hy : ys.all plnV = true) (A : Around) :
    ∀ j (h1 : j < us.toArray.size) (h2 : j < ws.toArray.size), SeqAt.EqAt A s us.toArray[j] ws.toArray[j] (decide (xs[j]? = ys[j]?)) := by
  intro j h1 h2
  have l1 := r.length
  have l2 := r'.length
  have k1 : j < xs.length := by rw [List.size_toArray] at h1; omega
  have k2 : j < ys.length := by rw [List.size_toArray] at h2; omega
  have e1 : xs[j]? = some xs[j] := List.getElem?_eq_getElem k1
  have e2 : ys[j]? = some ys[j] := List.getElem?_eq_getElem k2
  obtain ⟨u, hu, ru⟩ := r.get e1
  obtain ⟨v, hv, rv⟩ := r'.get e2
  have p1 : plnV xs[j] = true := List.all_eq_true.mp hx _ (List.getElem_mem k1)
  have p2 : plnV ys[j] = true := List.all_eq_true.mp hy _ (List.getElem_mem k2)
  have q := eqAt_V (A := A) (s := s) ru rv (plnV.flat p1) (plnV.flat p2)
  rw [plnV.eq p1 p2] at q
  have f1 : us.toArray[j] = u := by
    have : us[j]? = some u := hu
    rw [List.getElem?_eq_some_iff] at this
    obtain ⟨_, e⟩ := this
    simpa using e
  have f2 : ws.toArray[j] = v := by
    have : ws[j]? = some v := hv
    rw [List.getElem?_eq_some_iff] at this
    obtain ⟨_, e⟩ := this
    simpa using e
  rw [f1, f2, e1, e2]
  have e3 : decide (some xs[j] = some ys[j]) = decide (xs[j] = ys[j]) := by
    by_cases z : xs[j] = ys[j]
    · rw [z]; simp
    · rw [decide_eq_false z, decide_eq_false (fun w => z (Option.some.inj w))]
  rw [e3]
  exact q
/-- t != u of tuples of ints and texts -/
def rkNeT (K : PySem.W.Frag) : R2 := fun x y H Q => ∃ (a b : Addr) (xs ys : List V), x = .ref a ∧ y = .ref b ∧ SqT K H a xs ∧ SqT K H b ys ∧ xs.all plnV = true ∧ ys.all plnV = true ∧ Q (.bl (!decide (xs = ys))) H
def rkEqT (K : PySem.W.Frag) : R2 := fun x y H Q => ∃ (a b : Addr) (xs ys : List V), x = .ref a ∧ y = .ref b ∧ SqT K H a xs ∧ SqT K H b ys ∧ xs.all plnV = true ∧ ys.all plnV = true ∧ Q (.bl (decide (xs = ys))) H
theorem ok_neT (hu : X.A.units < cLine) : OpR X (compareOp .NotEq) (rkNeT X.K) := by
  intro pins s σ H x y v u Q I rx ry h
  obtain ⟨a, b, xs, ys, rfl, rfl, ha, hb, hx, hy, q⟩ := h
  cases rx
  cases ry
  obtain ⟨its, rv, pa, _⟩ := I.tuple ha
  obtain ⟨jts, rw', pb, _⟩ := I.tuple hb
  have key := SeqAt.RcNeAt.tuples (A := X.A) (s := s) (l := a) (b := b) (items := its.toArray) (items2 := jts.toArray) (e := fun j => decide (xs[j]? = ys[j]?)) pa pb hu (tup_items rv rw' hx hy X.A.in1)
  have ez : (!((List.range (min its.toArray.size jts.toArray.size)).all (fun j => decide (xs[j]? = ys[j]?)) && its.toArray.size == jts.toArray.size)) = !decide (xs = ys) := by
    rw [List.size_toArray, List.size_toArray, ← rv.length, ← rw'.length, all_pl]
  rw [ez] at key
  exact key X.prog X.w _ _ ⟨.bl (!decide (xs = ys)), H, I, rfl, q⟩
theorem ok_eqT (hu : X.A.units < cLine) : OpR X (compareOp .Eq) (rkEqT X.K) := by
  intro pins s σ H x y v u Q I rx ry h
  obtain ⟨a, b, xs, ys, rfl, rfl, ha, hb, hx, hy, q⟩ := h
  cases rx
  cases ry
  obtain ⟨its, rv, pa, _⟩ := I.tuple ha
  obtain ⟨jts, rw', pb, _⟩ := I.tuple hb
  have key := SeqAt.RcAt.tuples (A := X.A) (s := s) (l := a) (b := b) (items := its.toArray) (items2 := jts.toArray) (e := fun j => decide (xs[j]? = ys[j]?)) pa pb hu (tup_items rv rw' hx hy X.A.in1)
  have ez : ((List.range (min its.toArray.size jts.toArray.size)).all (fun j => decide (xs[j]? = ys[j]?)) && its.toArray.size == jts.toArray.size) = decide (xs = ys) := by
    rw [List.size_toArray, List.size_toArray, ← rv.length, ← rw'.length, all_pl]
  rw [ez] at key
  exact key X.prog X.w _ _ ⟨.bl (decide (xs = ys)), H, I, rfl, q⟩
/-- isinstance(x, T), T a built-in type -/
theorem ck_isinst : CallR X (.builtin "isinstance") (fun xs H Q => ∃ (x : V) (T : String) (t : Value) (b : Bool), xs = [x, .ty T] ∧ TyOf X.K H x t ∧ PySem.W.kitOne X.K t (.type T) = some b ∧ Q (.bl b) H) := by
  intro pins s σ H xs us Q I r h
  obtain ⟨x, T, t, b, rfl, ty, e, q⟩ := h
  obtain ⟨u, w', rfl, ru, rw'⟩ := vals2 r
  cases rw'
  exact isinst_ok I ru ty e fun tk => ⟨.bl b, H, I.tok tk, rfl, q⟩
end

/-! ### a list comprehension -/
def cxC (X : Cx) (scope : Scope) (cl : List (Str × Addr)) (C : Addr) (N : List Str) (s : Shared) (H : Hp) (fp : List Addr) : Cx where
  prog := X.prog
  w := X.w
  K := X.K
  mg := X.mg
  base := X.base
  A := X.A
  N := N
  s₀ := s
  H₀ := H
  env := compEnvC scope cl C X.env
  outer := X.stack
  stack := X.stack
  ex := fp
  fn := fun _ => false
  calm := X.calm
  pn := []
  xe := fun _ _ => False

def clOf (env : Env) : List (Str × NameKind) → List (Str × Addr) → List (Str × Addr)
  | [], acc => acc
  | (n, k) :: r, acc => if k == .free then (match env.cells.lookup n with | some c => clOf env r ((n, c) :: acc) | none => clOf env r acc) else clOf env r acc

theorem clos_go {env : Env} : ∀ (names : List (Str × NameKind)) (acc : List (Str × Addr)), (∀ y ∈ names, y.2 = .free → ∃ c, env.cells.lookup y.1 = some c) →
    (forIn (m := Sem) names acc fun (x : Str × NameKind) (r : List (Str × Addr)) => (if (x.2 == NameKind.free) = true then do
        let a ← cellOf env x.1
        pure (ForInStep.yield ((x.1, a) :: r))
      else pure (ForInStep.yield r))) = pure (clOf env names acc)
  | [], acc, _ => by simp [clOf]
  | (n, k) :: r, acc, h => by
    have ih := fun acc => clos_go (env := env) r acc fun y hy => h y (List.mem_cons_of_mem _ hy)
    rw [List.forIn_cons]
    by_cases hk : k = .free
    · subst hk
      obtain ⟨c, hc⟩ := h (n, .free) List.mem_cons_self rfl
      have hc' : env.cells.lookup n = some c := hc
      have e1 : cellOf env n = pure c := by unfold cellOf; rw [hc']
      simp only [beq_self_eq_true, if_true, e1, pure_bind]
      rw [ih]
      simp [clOf, hc']
    · have hb : (k == NameKind.free) = false := by simpa using hk
      simp only [hb, Bool.false_eq_true, if_false, pure_bind]
      rw [ih]
      simp [clOf, hb]
theorem clos_ok {scope : Scope} {env : Env} (h : ∀ y ∈ scope.names, y.2 = .free → ∃ c, env.cells.lookup y.1 = some c) : closureFor scope env = pure (clOf env scope.names []) := by
  have q := clos_go (env := env) scope.names [] h
  unfold closureFor
  simp only
  first
    | exact (by rw [q]; simp)
    | (simp only [bind_pure_comp, map_pure, Functor.map_map] at q ⊢; rw [q]; simp)
theorem clOf_sub {env : Env} {x : Str} {c : Addr} : ∀ (names : List (Str × NameKind)) (acc : List (Str × Addr)), (∀ y a, acc.lookup y = some a → env.cells.lookup y = some a) → (clOf env names acc).lookup x = some c → env.cells.lookup x = some c
  | [], acc, h, e => h x c e
  | (n, k) :: r, acc, h, e => by
    unfold clOf at e
    split at e
    · split at e
      · rename_i c' hc
        refine clOf_sub r _ (fun y a q => ?_) e
        rw [List.lookup_cons] at q
        split at q
        · rename_i hb
          have : y = n := eq_of_beq hb
          subst this
          rw [hc]; exact q
        · exact h y a q
      · exact clOf_sub r acc h e
    · exact clOf_sub r acc h e
theorem clOf_has {env : Env} {x : Str} : ∀ (names : List (Str × NameKind)) (acc : List (Str × Addr)), ((∃ c, acc.lookup x = some c) ∨ (x, NameKind.free) ∈ names) → (∃ c, env.cells.lookup x = some c) → ∃ c, (clOf env names acc).lookup x = some c
  | [], acc, h, _ => h.elim id fun z => absurd z (by simp)
  | (n, k) :: r, acc, h, hx => by
    unfold clOf
    split
    · split
      · rename_i c' hc
        refine clOf_has r _ ?_ hx
        by_cases hb : x = n
        · subst hb
          exact .inl ⟨c', by simp [List.lookup_cons]⟩
        · have hb' : (x == n) = false := beq_eq_false_iff_ne.mpr hb
          rcases h with ⟨c, hc2⟩ | h
          · exact .inl ⟨c, by simp [List.lookup_cons, hb', hc2]⟩
          · rcases List.mem_cons.mp h with z | z
            · exact absurd (Prod.mk.inj z).1 hb
            · exact .inr z
      · rename_i hc
        refine clOf_has r _ ?_ hx
        rcases h with h | h
        · exact .inl h
        · rcases List.mem_cons.mp h with z | z
          · have := (Prod.mk.inj z).1
            subst this
            obtain ⟨c, q⟩ := hx
            rw [hc] at q; cases q
          · exact .inr z
    · rename_i hk
      refine clOf_has r _ ?_ hx
      rcases h with h | h
      · exact .inl h
      · rcases List.mem_cons.mp h with z | z
        · have := (Prod.mk.inj z).2
          subst this
          exact absurd rfl hk
        · exact .inr z
theorem mem_of_relabel {env : Env} {x : Str} {k : NameKind} : ∀ (names : List (Str × NameKind)),
    (names.map fun (n, k) => if (k == NameKind.free && env.scope.kind == .function && env.kindOf n == some .cell) then (n, NameKind.cell) else (n, k)).lookup x = some k →
    (x, k) ∈ names ∨ (k = .cell ∧ (x, NameKind.free) ∈ names)
  | [], h => by simp at h
  | (n, k') :: r, h => by
    have ih := mem_of_relabel (env := env) (x := x) (k := k) r
    rw [List.map_cons] at h
    by_cases hc : (k' == NameKind.free && env.scope.kind == .function && env.kindOf n == some .cell) = true
    · dsimp only at h
      rw [if_pos hc, List.lookup_cons] at h
      split at h
      · rename_i hb
        have e : x = n := eq_of_beq hb
        subst e
        cases h
        have hk : k' = .free := by
          rw [Bool.and_eq_true, Bool.and_eq_true] at hc
          exact eq_of_beq hc.1.1
        subst hk
        exact .inr ⟨rfl, List.mem_cons_self⟩
      · rcases ih h with z | z
        · exact .inl (List.mem_cons_of_mem _ z)
        · exact .inr ⟨z.1, List.mem_cons_of_mem _ z.2⟩
    · dsimp only at h
      rw [if_neg hc, List.lookup_cons] at h
      split at h
      · rename_i hb
        have e : x = n := eq_of_beq hb
        subst e
        cases h
        exact .inl List.mem_cons_self
      · rcases ih h with z | z
        · exact .inl (List.mem_cons_of_mem _ z)
        · exact .inr ⟨z.1, List.mem_cons_of_mem _ z.2⟩

/-- what the block's scope must have: its free names are cells of the frame -/
structure ScC (X : Cx) (scope : Scope) (x : Str) : Prop where
  kind : scope.kind = .function
  cell : ∀ y ∈ scope.names, y.2 ≠ .cell
  names : ∀ y ∈ scope.names, y.2 = .local → scope.names.lookup y.1 = some .local
  tgt : scope.names.lookup x = some .local
  free : ∀ y ∈ scope.names, y.2 = .free → X.env.kindOf y.1 = some .cell ∨ X.env.kindOf y.1 = some .free
/-- the names that the block takes from the frame, with their slots there -/
def FrOk (X : Cx) (scope : Scope) : List (Nat × Str) → Prop
  | [] => True
  | p :: r => (X.N[p.1]? = some p.2 ∧ (X.env.scope.names.lookup p.2 = some .cell ∨ X.env.scope.names.lookup p.2 = some .free) ∧
      ((relabel scope X.env).names.lookup p.2 = some .cell ∨ (relabel scope X.env).names.lookup p.2 = some .free)) ∧ FrOk X scope r
theorem FrOk.mem {X : Cx} {scope : Scope} : ∀ {fr : List (Nat × Str)}, FrOk X scope fr → ∀ p ∈ fr, X.N[p.1]? = some p.2 ∧ (X.env.scope.names.lookup p.2 = some .cell ∨ X.env.scope.names.lookup p.2 = some .free) ∧
      ((relabel scope X.env).names.lookup p.2 = some .cell ∨ (relabel scope X.env).names.lookup p.2 = some .free)
  | [], _, p, hp => absurd hp (by simp)
  | q :: r, h, p, hp => by
    rcases List.mem_cons.mp hp with z | z
    · subst z; exact h.1
    · exact FrOk.mem h.2 p z
def frS (σ : St) (fr : List (Nat × Str)) : St := fr.map fun p => (σ[p.1]?).join
abbrev frN (x : Str) (fr : List (Nat × Str)) : List Str := x :: fr.map (·.2)

section
variable {X : Cx} {pins : List (Addr × Obj)} {σ : St} {H : Hp} {s : Shared} {scope : Scope} {x : Str} {C : Addr} {N : List Str} {fp : List Addr}
theorem ScC.cells (S : ScC X scope x) (I : Inv X pins σ H s) : ∀ y ∈ scope.names, y.2 = .free → ∃ c, X.env.cells.lookup y.1 = some c := fun y hy hf => I.ok.has y.1 (S.free y hy hf)
theorem ScC.sub {y : Str} {c : Addr} (h : (clOf X.env scope.names []).lookup y = some c) : X.env.cells.lookup y = some c := clOf_sub scope.names [] (fun _ _ q => by simp at q) h
theorem ScC.has (S : ScC X scope x) (I : Inv X pins σ H s) {y : Str} (h : (relabel scope X.env).names.lookup y = some .cell ∨ (relabel scope X.env).names.lookup y = some .free) : ∃ c, (clOf X.env scope.names []).lookup y = some c := by
  have hm : (y, NameKind.free) ∈ scope.names := by
    rcases h with h | h
    · rcases mem_of_relabel scope.names h with z | z
      · exact absurd rfl (S.cell _ z)
      · exact z.2
    · rcases mem_of_relabel scope.names h with z | z
      · exact z
      · exact z.2
  exact clOf_has scope.names [] (.inr hm) (S.cells I _ hm rfl)
theorem ok_cxC (I : Inv X pins σ H s) (S : ScC X scope x) (hC : s.heap.objs.size ≤ C) (hf : ∀ b ∈ fp, FpOk X pins H b) (hlt : ∀ b ∈ fp, b < s.heap.objs.size) : (cxC X scope (clOf X.env scope.names []) C N s H fp).Ok where
  mod := I.ok.mod
  kind := S.kind
  glob := I.ok.glob
  blt := I.ok.blt
  above := hC
  inj := fun y z c h1 h2 => I.ok.inj y z c (ScC.sub h1) (ScC.sub h2)
  has := fun y h => S.has I h
  cab := fun y c h => absurd (show false = true from h) Bool.false_ne_true
  hd := I.ok.hd
  frames := I.ok.frames
  stk := .inl rfl
  exf := fun b hb => ⟨Nat.ne_of_lt (Nat.lt_of_lt_of_le (hlt b hb) hC), fun y c e => (hf b hb).2.2.2.2.1 y c (ScC.sub e)⟩
  bs := I.bs
  bsz := Nat.le_trans I.ok.bsz I.sz
  noex := fun b o e hb => by
    rcases (hf b hb).2.2.2.1 with z | z
    · exact I.ok.noex b o e z
    · exact absurd (Nat.lt_of_lt_of_le (Heap.lt_size e) (Nat.le_trans I.ok.bsz z)) (Nat.lt_irrefl _)
  exfs := fun b hb hs => by
    rcases List.mem_cons.mp (I.stkSub b hs) with e | h
    · exact (hf b hb).2.1 e
    · exact (hf b hb).2.2.1 h
  funs := I.stack
  frf := I.stkFree
theorem inv_cxC {fr : List (Nat × Str)} {D : Addr} {h' : Heap} {tk k : Nat} {m : Str → Option Value} (I : Inv X pins σ H s) (S : ScC X scope x) (hC : s.heap.objs.size ≤ C) (hf : ∀ b ∈ fp, FpOk X pins H b) (hlt : ∀ b ∈ fp, b < s.heap.objs.size)
    (F : FrOk X scope fr) (hD : s.heap.objs.size ≤ D) (hDC : D ≠ C) (hn : h'.Ns C m) (old : ∀ b o, s.heap.get? b = some o → h'.get? b = some o) (hacc : h'.get? D = some { cls := .type "list", data := .seq #[] k }) :
    Inv (cxC X scope (clOf X.env scope.names []) C (frN x fr) s H fp) [] (none :: frS σ fr) (upd H D (.lst [])) { s with heap := h', toks := tk } := by
  have ok := ok_cxC (N := frN x fr) I S hC hf hlt
  have fresh : ∀ {b : Addr}, s.heap.objs.size ≤ b → H b = none := fun hb => I.hok.fresh hb
  have cellL : ∀ {y : Str} {c : Addr}, (clOf X.env scope.names []).lookup y = some c → ∃ v, s.heap.IsCell c v := fun e => I.cell _ _ (ScC.sub e)
  refine ⟨ok, rfl, I.bare, Un.laid old hD (fresh hD), ⟨m, hn, fun i y v e1 e2 e3 => ?_⟩, fun y c e => ?_, ?_, fun y c e => ?_, fun p hp => absurd (show p ∈ ([] : List (Addr × Obj)) from hp) (by simp), ?_, ?_⟩
  · cases i with
    | zero => simp at e2
    | succ i =>
      have e1' : (x :: fr.map (·.2))[i + 1]? = some y := e1
      have e2' : (none :: frS σ fr)[i + 1]? = some (some v) := e2
      rw [List.getElem?_cons_succ] at e1' e2'
      rw [List.getElem?_map] at e1'
      unfold frS at e2'
      rw [List.getElem?_map] at e2'
      cases hp : fr[i]? with
      | none => rw [hp] at e1'; cases e1'
      | some p =>
        rw [hp] at e1' e2'
        have hy : p.2 = y := by simpa using e1'
        have hv : (σ[p.1]?).join = some v := by simpa using e2'
        have hv' : σ[p.1]? = some (some v) := by
          cases q : σ[p.1]? with
          | none => rw [q] at hv; cases hv
          | some w => rw [q] at hv; simpa using hv
        obtain ⟨g1, g2, g3⟩ := F.mem p (List.mem_of_getElem? hp)
        rw [hy] at g1 g2 g3
        obtain ⟨m0, _, hl⟩ := I.loc
        obtain ⟨u, ru, lk⟩ := hl p.1 y v g1 hv' (g2.elim (fun z => .inr (.inl z)) fun z => .inr (.inr z))
        refine ⟨u, ru, .inr ⟨g3, ?_⟩⟩
        rcases lk with ⟨kl, _⟩ | ⟨_, c, hc, hcell⟩
        · exfalso
          have kl' : X.env.scope.names.lookup y = some .local := kl
          rcases g2 with z | z <;> (rw [z] at kl'; cases kl')
        · obtain ⟨c', hc'⟩ := S.has I g3
          have e := ScC.sub hc'
          rw [hc] at e
          cases e
          exact ⟨c, hc', hcell.keeps old⟩
  · obtain ⟨v, z⟩ := cellL e
    exact ⟨v, z.keeps old⟩
  · show upd H D (.lst []) C = none
    rw [upd_ne (Ne.symm hDC)]
    exact fresh hC
  · obtain ⟨v, z⟩ := cellL e
    rw [upd_ne (Nat.ne_of_lt (Nat.lt_of_lt_of_le z.lt hD))]
    exact I.freeC y c (ScC.sub e)
  · exact I.hok.laid old hD ⟨Nat.zero_le _, [], k, .nil, by simpa using hacc⟩
  · show (none :: frS σ fr).length = (x :: fr.map (·.2)).length
    simp [frS]
end

/-- the tests of a comprehension -/
def PIfs (X : Cx) (ifs : List Expr) (t : TT) : Prop :=
  ∀ (pins : List (Addr × Obj)) (s : Shared) (σ : St) (H : Hp) (Q : Bool → Hp → Prop), Inv X pins σ H s → t σ H Q →
    wpAny (model X.prog X.w) X.A (forIn ifs true fun c r => if r = true then do let ok ← isTrue c X.env (eval c X.env); pure (ForInStep.yield ok) else pure (ForInStep.yield r)) (TP X pins σ Q) X.xe s
def tYes : TT := fun _ H Q => Q true H
theorem pif_nil {X : Cx} : PIfs X [] tYes := fun pins s σ H Q I h => by
  rw [List.forIn_nil]
  exact wpAny_pure ⟨H, I, h⟩
theorem pif_one {X : Cx} {c : Expr} {t : TT} (h : PT X c t) : PIfs X [c] t := fun pins s σ H Q I hw => by
  rw [List.forIn_cons]
  simp only [if_true]
  refine wpAny_bind (wpAny_bind (thn (h pins s σ H Q I hw) fun ok s' q => wpAny_pure ?_))
  dsimp only
  rw [List.forIn_nil]
  exact wpAny_pure q

def LCW (J : It) (fs : St) (tt : TT) (te : TE) (H1 : Hp) (Q : VK) : Prop := ∀ D, H1 D = none → ∃ W : Nat → Nat → List V → Hp → Prop, (∃ m, W 0 m [] (upd H1 D (.lst []))) ∧
  ∀ i m ys H2, W i m ys H2 → H2 D = some (.lst ys) ∧ ((J.stop i H2 ∧ Q (.ref D) H2) ∨ (J.go i H2 ∧ ∀ x H3, J.yld i H2 x H3 →
    tt (some x :: fs) H3 fun b H4 => if b = true then te (some x :: fs) H4 fun y H5 => H5 D = some (.lst ys) ∧ ys.length < sizeLine ∧ ∃ m', m' < m ∧ W (i + 1) m' (ys ++ [y]) (upd H5 D (.lst (ys ++ [y])))
      else ∃ m', m' < m ∧ W (i + 1) m' ys H4))
def tLC (wi : TI) (fr : List (Nat × Str)) (tt : TT) (te : TE) : TE := fun σ H Q => wi σ H fun J H1 => LCW J (frS σ fr) tt te H1 Q

section
variable {X : Cx} {elt iter : Expr} {x : Str} {px : Pos} {ifs : List Expr} {scope : Scope} {pos : Pos} {wi : TI} {fr : List (Nat × Str)} {tt : TT} {te : TE}
/-- the block, from the iterator on -/
theorem comp_block {pins : List (Addr × Obj)} {σ : St} {H : Hp} {s2 : Shared} {Q : VK} {it : Addr} {fp : List Addr} {tn : Nat → Heap → Prop} {J : It} {RR : Value → Addr → Result → Shared → Prop} {E : Value → Shared → Prop}
    (hc : X.calm = true) (S : ScC X scope x) (F : FrOk X scope fr) (nd : (frN x fr).Nodup)
    (hi : ∀ (cl : List (Str × Addr)) (C : Addr) (s : Shared) (H : Hp) (fp : List Addr), PIfs (cxC X scope cl C (frN x fr) s H fp) ifs tt)
    (he : ∀ (cl : List (Str × Addr)) (C : Addr) (s : Shared) (H : Hp) (fp : List Addr), PE (cxC X scope cl C (frN x fr) s H fp) elt te)
    (I : Inv X pins σ H s2) (T : Turn X.prog X.w X.K (.Name x px) J fp it tn) (st : tn 0 s2.heap) (hf : ∀ b ∈ fp, FpOk X pins H b)
    (hw : LCW J (frS σ fr) tt te H Q)
    (hRR : ∀ (D C : Addr) (H' : Hp) (s' : Shared) (m : Str → Option Value), Inv X pins σ H' s' → FpOk X pins H' C → s'.heap.Ns C m → s2.heap.objs.size ≤ C → Q (.ref D) H' → RR (.ref D) C (.ok .next) s') :
    wpAny (model X.prog X.w) X.A (newList []) (fun acc s₃ => wpAny (model X.prog X.w) X.A (newFunctionEnv scope X.env.globals (clOf X.env scope.names []) [] X.env.qual none .none (some X.env)) (fun cenv s₄ =>
      codeAny (model X.prog X.w) X.A (.compStart (.ListComp elt [⟨.Name x px, iter, ifs, 0⟩] scope pos) 0 (.ref it) acc { cenv with scope := relabel scope X.env }) (RR acc cenv.locals) s₄) E s₃) E s2 := by
  have hlt : ∀ b ∈ fp, b < s2.heap.objs.size := fun b hb => by
    obtain ⟨o, ho, _⟩ := T.obj _ _ st b hb
    exact Heap.lt_size ho
  refine wpAny_newObj_type (wpAny_newFunctionEnv S.cell (by intro y hy; simp at hy) (fun h₁ hns₁ hsb₁ => ?_) S.kind)
  dsimp only at hns₁ hsb₁ ⊢
  generalize hH2 : s2.heap.push { cls := .type "list", dict := none, data := .seq ([] : List Value).toArray } = G2 at hns₁ hsb₁ ⊢
  have hC : G2.objs.size = s2.heap.objs.size + 1 := by rw [← hH2, Heap.size_push]
  have hDC : s2.heap.objs.size ≠ G2.objs.size := by rw [hC]; exact Nat.ne_of_lt (Nat.lt_succ_self _)
  have hCle : s2.heap.objs.size ≤ G2.objs.size := by rw [hC]; exact Nat.le_succ _
  have below : ∀ b, b < s2.heap.objs.size → b ≠ G2.objs.size := fun b hb => by rw [hC]; exact Nat.ne_of_lt (Nat.lt_succ_of_lt hb)
  have old : ∀ b o, s2.heap.get? b = some o → h₁.get? b = some o := fun b o e => hsb₁.extBut b o (below b (Heap.lt_size e)) (Heap.get?_push_of_some _ (hH2 ▸ Heap.get?_push_of_some _ e))
  have hacc : h₁.get? s2.heap.objs.size = some { cls := .type "list", dict := none, data := .seq ([] : List Value).toArray } := hsb₁.extBut _ _ hDC (Heap.get?_push_of_some _ (hH2 ▸ Heap.get?_push_size _ rfl))
  obtain ⟨W, ⟨m0, w0⟩, turn⟩ := hw s2.heap.objs.size (I.hok.fresh (Nat.le_refl _))
  have I0 := fun tk => inv_cxC (fr := fr) (tk := tk) (k := 0) I S hCle hf hlt F (Nat.le_refl _) hDC hns₁ old hacc
  have st1 : tn 0 h₁ := T.keep _ _ _ st fun b _ o e => old b o e
  have yPG : PG (cxC X scope (clOf X.env scope.names []) G2.objs.size (frN x fr) s2 H fp) (.Name x px) (gName 0) :=
    pg_name (i := 0) nd rfl (.inl (lookup_relabel_local S.tgt)) (.inr (lookup_relabel_local S.tgt))
  have yap : MtM (cxC X scope (clOf X.env scope.names []) G2.objs.size (frN x fr) s2 H fp) "list.append" rAppend := mt_append
  have yPE := he (clOf X.env scope.names []) G2.objs.size s2 H fp
  have yPI := hi (clOf X.env scope.names []) G2.objs.size s2 H fp
  have yfp : ∀ {H' : Hp}, (∀ b ∈ fp, H' b = none) → ∀ b ∈ fp, FpOk (cxC X scope (clOf X.env scope.names []) G2.objs.size (frN x fr) s2 H fp) [] H' b := fun {H'} hn b hb => by
    refine ⟨hn b hb, Nat.ne_of_lt (Nat.lt_of_lt_of_le (hlt b hb) hCle), fun hs => ?_, .inl hb, fun y c e => (hf b hb).2.2.2.2.1 y c (ScC.sub e), fun p hp => absurd (show p ∈ ([] : List (Addr × Obj)) from hp) (by simp)⟩
    rcases List.mem_cons.mp (I.stkSub b hs) with e | h
    · exact (hf b hb).2.1 e
    · exact (hf b hb).2.2.1 h
  have yun : ∀ {pl : List (Addr × Obj)} {σ' : St} {H' : Hp} {s' : Shared}, Inv (cxC X scope (clOf X.env scope.names []) G2.objs.size (frN x fr) s2 H fp) pl σ' H' s' →
      Inv X pins σ H' s' ∧ (∃ m, s'.heap.Ns G2.objs.size m) ∧ H' G2.objs.size = none := fun {pl σ' H' s'} J => by
    refine ⟨I.call' (ch := fp) J.os J.base J.hok J.bare fun b hb => ?_, ?_, J.free⟩
    · obtain ⟨f0, f1, f2, f3, f4, f5⟩ := hf b hb
      exact ⟨f3, f1, f4, f5⟩
    · obtain ⟨m, hm, _⟩ := J.loc
      exact ⟨m, hm⟩
  have loop : ∀ s₃ : Shared, s₃ = { s2 with heap := h₁, toks := s2.toks + ([] : List (Str × Value)).length } →
      codeAny (model X.prog X.w) X.A (.compLoop (.ListComp elt [⟨.Name x px, iter, ifs, 0⟩] scope pos) 0 (.ref it) (.ref s2.heap.objs.size) (compEnvC scope (clOf X.env scope.names []) G2.objs.size X.env))
        (RR (.ref s2.heap.objs.size) G2.objs.size) s₃ := by
    rintro s₃ rfl
    refine codeAny_compLoop_tests (fun n s' => ∃ i ys σ' H', Inv (cxC X scope (clOf X.env scope.names []) G2.objs.size (frN x fr) s2 H fp) [] σ' H' s' ∧ (∃ v, σ' = v :: frS σ fr) ∧ tn i s'.heap ∧ (∀ b ∈ fp, H' b = none) ∧ W i n ys H') ?_ m0
      ⟨0, [], _, _, I0 _, ⟨none, rfl⟩, st1, fun b hb => (upd_ne (Nat.ne_of_lt (hlt b hb))).trans (hf b hb).1, w0⟩
    rintro n s3 ⟨i, ys, σ3, H3, I3, ⟨v3, rfl⟩, st3, fr3, w3⟩
    obtain ⟨hD3, alt⟩ := turn i n ys H3 w3
    rcases alt with ⟨stop, qn⟩ | ⟨go, step⟩
    · refine thn (T.done (cxC X scope (clOf X.env scope.names []) G2.objs.size (frN x fr) s2 H fp) rfl rfl rfl hc i [] s3 _ H3 _ I3 (yfp fr3) st3 stop) fun r s4 ⟨hr, I4⟩ => ?_
      subst hr
      obtain ⟨J4, ⟨m4, n4⟩, c4⟩ := yun I4
      exact hRR _ _ H3 s4 m4 J4 (I.fpOk hCle c4) n4 hCle qn
    · refine thn (T.item (cxC X scope (clOf X.env scope.names []) G2.objs.size (frN x fr) s2 H fp) rfl rfl rfl hc i [] s3 _ H3 _ I3 (yfp fr3) st3 go) fun r s4 ⟨u, hr, h4⟩ => ?_
      subst hr
      show wpAny (model X.prog X.w) X.A (letOwnedTupleGo (.Name x px) (.ref it) u >>= fun _ => assign (.Name x px) (compEnvC scope (clOf X.env scope.names []) G2.objs.size X.env) u) _ _ s4
      refine wpAny_bind (thn h4 fun _ s5 ⟨x5, H5, I5, r5, y5, st5, fr5⟩ => ?_)
      have I5' := I5.pinned (yfp fr5) (T.obj _ _ st5)
      have back : ∀ {σ7 : St} {H7 : Hp} {s7 : Shared}, Inv (cxC X scope (clOf X.env scope.names []) G2.objs.size (frN x fr) s2 H fp) ([] ++ pinsAt fp s5.heap) σ7 H7 s7 → tn (i + 1) s7.heap ∧ ∀ b ∈ fp, H7 b = none := fun {σ7 H7 s7} I7 => by
        refine ⟨T.keep _ _ _ st5 fun b hb o e => (I7.pin (b, o) (List.mem_append_right _ (List.mem_append_right _ (mem_pinsAt hb e)))).1, fun b hb => ?_⟩
        obtain ⟨o, e, d⟩ := T.obj _ _ st5 b hb
        exact (I7.pin (b, o) (List.mem_append_right _ (List.mem_append_right _ (mem_pinsAt hb e)))).2.1
      refine wpAny_mono (yPG _ s5 _ H5 x5 u (fun σ' H' => σ' = (some x5 :: frS σ fr) ∧ H' = H5) I5' r5 ⟨rfl, rfl⟩) (fun _ s6 ⟨σ6, H6, I6, e6, e6'⟩ => ?_) fun _ _ z => (show False from z).elim
      subst e6 e6'
      refine wpAny_mono (yPI _ s6 _ H6 _ I6 (step x5 H6 y5)) (fun ok s7 ⟨H7, I7, q7⟩ => ?_) fun _ _ z => (show False from z).elim
      cases ok with
      | true =>
        rw [if_pos rfl] at q7 ⊢
        refine wpAny_mono (yPE _ s7 _ H7 _ I7 q7) (fun y s8 ⟨yv, H8, I8, r8, hD8, hl8, m', hm', w8⟩ => ?_) fun _ _ z => (show False from z).elim
        refine wpAny_mono (yap _ s8 _ H8 (.ref s2.heap.objs.size) [yv] (.ref s2.heap.objs.size) [y] (fun _ H' => H' = upd H8 s2.heap.objs.size (.lst (ys ++ [yv]))) I8 rfl (.cons r8 .nil) ⟨_, ys, yv, rfl, rfl, hD8, hl8, rfl⟩) (fun _ s9 ⟨v9, H9, I9, _, e9⟩ => ?_) fun _ _ z => (show False from z).elim
        subst e9
        obtain ⟨st9, fr9⟩ := back I9
        exact ⟨m', hm', i + 1, ys ++ [yv], _, _, I9.unpinned, ⟨_, rfl⟩, st9, fr9, w8⟩
      | false =>
        rw [if_neg Bool.false_ne_true] at q7 ⊢
        obtain ⟨m', hm', w8⟩ := q7
        obtain ⟨st9, fr9⟩ := back I7
        exact ⟨m', hm', i + 1, ys, _, _, I7.unpinned, ⟨_, rfl⟩, st9, fr9, w8⟩
  exact codeAny_compStart_list (loop _ rfl) (T.self X.A 0 _ _ _ st1 (loop _ rfl))

theorem pe_lc (hc : X.calm = true) (S : ScC X scope x) (F : FrOk X scope fr) (nd : (frN x fr).Nodup) (hI : PI X (.Name x px) iter wi)
    (hi : ∀ (cl : List (Str × Addr)) (C : Addr) (s : Shared) (H : Hp) (fp : List Addr), PIfs (cxC X scope cl C (frN x fr) s H fp) ifs tt)
    (he : ∀ (cl : List (Str × Addr)) (C : Addr) (s : Shared) (H : Hp) (fp : List Addr), PE (cxC X scope cl C (frN x fr) s H fp) elt te)
    (hs : ∀ x, foldedSetIterable iter X.env x = pure x := by intro _; rfl) : PE X (.ListComp elt [⟨.Name x px, iter, ifs, 0⟩] scope pos) (tLC wi fr tt te) := by
  intro pins s σ H Q I h
  rw [eval_ListComp]
  refine wpAny_comprehension_free (use := none) rfl hs (clos_ok (S.cells I)) S.kind S.names (thn (hI pins s σ H _ I h) fun v s1 h1 => thn h1 fun itv s2 h2 => ?_)
  obtain ⟨it, fp, tn, J, H2, rfl, I2, T, st2, f2, hw⟩ := h2
  refine comp_block (RR := fun acc C => compPost (model X.prog X.w) X.A X.xe none (EP X pins σ Q) acc C) hc S F nd hi he I2 T st2 f2 hw ?_
  intro D C H' s' m J' fC hn hCle q
  refine ⟨m, hn, fun h' sb => ?_⟩
  have I3 : Inv X pins σ H' { s' with heap := h' } := J'.turned (t' := s'.toks) (fun b o hb e => (sb.2 b hb).trans e) fC.1 fC.2.1 fC.2.2.2.1 fC.2.2.2.2.1 fC.2.2.2.2.2
  exact ⟨.ref D, H', I3, rfl, q⟩
/-- y = [..], y a plain local name on the same row -/
theorem ps_lc {y : Str} {py spos : Pos} {j : Nat} (hc : X.calm = true) (S : ScC X scope x) (F : FrOk X scope fr) (nd : (frN x fr).Nodup) (hN : X.N.Nodup) (hj : X.N[j]? = some y) (hy : X.env.scope.names.lookup y = some .local) (hI : PI X (.Name x px) iter wi)
    (hi : ∀ (cl : List (Str × Addr)) (C : Addr) (s : Shared) (H : Hp) (fp : List Addr), PIfs (cxC X scope cl C (frN x fr) s H fp) ifs tt)
    (he : ∀ (cl : List (Str × Addr)) (C : Addr) (s : Shared) (H : Hp) (fp : List Addr), PE (cxC X scope cl C (frN x fr) s H fp) elt te)
    (hsw : swapsWith (.ListComp elt [⟨.Name x px, iter, ifs, 0⟩] scope pos) (some (.Name y py)) spos.line X.env = pure true := by rfl)
    (hs : ∀ x, foldedSetIterable iter X.env x = pure x := by intro _; rfl) : PS X (.Assign [.Name y py] (.ListComp elt [⟨.Name x px, iter, ifs, 0⟩] scope pos) spos) (tAsg (tLC wi fr tt te) (gName j)) := by
  intro pins s σ H D I h
  rw [exec_Assign_Name_used _ _ _ _ hsw]
  refine wpAny_bind (wpAny_standAt (wpAny_bind ?_))
  show wpAny _ X.A (do let _ ← comprehension (.ListComp elt [⟨.Name x px, iter, ifs, 0⟩] scope pos) scope X.env _ (newList []) false (eval iter X.env) (some (assign (.Name y py) X.env))) _ _ s
  refine wpAny_bind (wpAny_mono (wpAny_comprehension_free (use := some (assign (.Name y py) X.env)) (Q := fun _ s' => SP X pins D .next s') rfl hs (clos_ok (S.cells I)) S.kind S.names
    (thn (hI pins s σ H _ I h) fun v s1 h1 => thn h1 fun itv s2 h2 => ?_)) (fun _ s' hq => wpAny_pure (wpAny_pure hq)) fun _ _ e => e)
  obtain ⟨it, fp, tn, J, H2, rfl, I2, T, st2, f2, hw⟩ := h2
  refine comp_block (Q := fun v H1 => gName j v σ H1 D.nx) (RR := fun acc C => compPost (model X.prog X.w) X.A X.xe (some (assign (.Name y py) X.env)) (fun _ s' => SP X pins D .next s') acc C) hc S F nd hi he I2 T st2 f2 hw ?_
  intro Da C H' s' m J' fC hn hCle q
  show wpAny _ X.A (assign (.Name y py) X.env (.ref Da)) _ _ _
  refine wpAny_assign_Name (store_ok2 (v := .ref Da) J' hN hj (.inl hy) rfl (fun s'' I'' ⟨a, sb, ha⟩ => ?_) (.inr hy))
  have hCa : C ≠ a := by
    rcases ha with z | z
    · rw [z]; exact fC.2.1
    · exact Ne.symm (fC.2.2.2.2.1 y a z)
  refine ⟨m, hn.sameBut sb hCa, fun h' sb' => ?_⟩
  have I3 : Inv X pins (σ.set j (some (.ref Da))) H' { s'' with heap := h' } := I''.turned (t' := s''.toks) (fun b o hb e => (sb'.2 b hb).trans e) fC.1 fC.2.1 fC.2.2.2.1 fC.2.2.2.2.1 fC.2.2.2.2.2
  exact ⟨_, H', I3, q⟩
end

theorem Same.put {H H' : Hp} (e : Same H H') {l : Addr} {o : HO} (h : H l = none) : Same H (upd H' l o) := fun b u q => by
  rw [upd_ne (ne_of_none q h)]; exact e b u q
/-- over a list, test and element pure -/
theorem lc_list {K : PySem.W.Frag} {a : Addr} {xs : List V} {fs : St} {tt : TT} {te : TE} {H1 : Hp} {Q : VK} (p : V → Bool) (f : V → V) (hq : SqL K H1 a xs) (hz : xs.length < sizeLine)
    (ht : ∀ x ∈ xs, ∀ (H3 : Hp) (R : Bool → Hp → Prop), Same H1 H3 → R (p x) H3 → tt (some x :: fs) H3 R)
    (he : ∀ x ∈ xs, p x = true → ∀ (H3 : Hp) (R : VK), Same H1 H3 → R (f x) H3 → te (some x :: fs) H3 R)
    (q : ∀ D, H1 D = none → Q (.ref D) (upd H1 D (.lst ((xs.filter p).map f)))) :
    LCW (Itl K a) fs tt te H1 Q := by
  intro D hD
  refine ⟨fun i m ys H2 => m = xs.length - i ∧ i ≤ xs.length ∧ ys = ((xs.take i).filter p).map f ∧ H2 = upd H1 D (.lst ys), ⟨xs.length, by simp, Nat.zero_le _, by simp, rfl⟩, ?_⟩
  rintro i m ys H2 ⟨rfl, hi, hy, rfl⟩
  have sm : Same H1 (upd H1 D (.lst ys)) := (Same.refl H1).put hD
  have hq2 := sm.seq hq
  refine ⟨upd_same, ?_⟩
  by_cases hlt : i < xs.length
  · refine .inr ⟨⟨xs, xs[i], hq2, List.getElem?_eq_getElem hlt⟩, fun x H3 y => ?_⟩
    obtain ⟨rfl, hy2⟩ := y
    have hx : xs[i]? = some x := hy2 xs hq2
    have hm : x ∈ xs := List.mem_of_getElem? hx
    have htk : xs.take (i + 1) = xs.take i ++ [x] := by
      rw [List.take_add_one, hx]; rfl
    refine ht x hm _ _ sm ?_
    cases hp : p x with
    | true =>
      rw [if_pos rfl]
      refine he x hm hp _ _ sm ⟨upd_same, ?_, xs.length - (i + 1), by omega, rfl, hlt, ?_, upd_upd⟩
      · rw [hy, List.length_map]
        have := List.length_filter_le p (xs.take i)
        rw [List.length_take] at this
        omega
      · rw [htk, List.filter_append, List.map_append, hy]
        simp [hp]
    | false =>
      rw [if_neg Bool.false_ne_true]
      refine ⟨xs.length - (i + 1), by omega, rfl, hlt, ?_, rfl⟩
      rw [htk, List.filter_append, List.map_append, hy]
      simp [hp]
  · have e : i = xs.length := by omega
    subst e
    refine .inl ⟨⟨xs, hq2, Nat.le_refl _⟩, ?_⟩
    rw [hy, List.take_length]
    exact q D hD
/-- over a range, element pure, no test -/
theorem lc_range {lo : Int} {n : Nat} {fs : St} {tt : TT} {te : TE} {H1 : Hp} {Q : VK} (p : Nat → Bool) (f : Nat → V) (hz : n < sizeLine)
    (ht : ∀ i, i < n → ∀ (H3 : Hp) (R : Bool → Hp → Prop), Same H1 H3 → R (p i) H3 → tt (some (.int (lo + (i : Nat))) :: fs) H3 R)
    (he : ∀ i, i < n → p i = true → ∀ (H3 : Hp) (R : VK), Same H1 H3 → R (f i) H3 → te (some (.int (lo + (i : Nat))) :: fs) H3 R)
    (q : ∀ D, H1 D = none → Q (.ref D) (upd H1 D (.lst (((List.range n).filter p).map f)))) :
    LCW (Itr lo n) fs tt te H1 Q := by
  intro D hD
  refine ⟨fun i m ys H2 => m = n - i ∧ i ≤ n ∧ ys = ((List.range i).filter p).map f ∧ H2 = upd H1 D (.lst ys), ⟨n, by simp, Nat.zero_le _, by simp, rfl⟩, ?_⟩
  rintro i m ys H2 ⟨rfl, hi, hy, rfl⟩
  have sm : Same H1 (upd H1 D (.lst ys)) := (Same.refl H1).put hD
  refine ⟨upd_same, ?_⟩
  by_cases hlt : i < n
  · refine .inr ⟨hlt, fun x H3 y => ?_⟩
    obtain ⟨rfl, rfl⟩ := y
    refine ht i hlt _ _ sm ?_
    cases hp : p i with
    | true =>
      rw [if_pos rfl]
      refine he i hlt hp _ _ sm ⟨upd_same, ?_, n - (i + 1), by omega, rfl, hlt, ?_, upd_upd⟩
      · rw [hy, List.length_map]
        have := List.length_filter_le p (List.range i)
        rw [List.length_range] at this
        omega
      · rw [List.range_succ, List.filter_append, List.map_append, hy]
        simp [hp]
    | false =>
      rw [if_neg Bool.false_ne_true]
      refine ⟨n - (i + 1), by omega, rfl, hlt, ?_, rfl⟩
      rw [List.range_succ, List.filter_append, List.map_append, hy]
      simp [hp]
  · have e : i = n := by omega
    subst e
    refine .inl ⟨Nat.le_refl _, ?_⟩
    rw [hy]
    exact q D hD
end L2
namespace L2
open PySem PySem.Spec PyProof.Rows
/-- a comprehension's scope within the frame's, to be decided -/
def ScOk (fs cs : Scope) (x : Str) : Bool :=
  decide (cs.kind = .function) && cs.names.all (fun y => decide (y.2 ≠ .cell)) && cs.names.all (fun y => decide (y.2 = .local → cs.names.lookup y.1 = some .local)) && decide (cs.names.lookup x = some .local) &&
  cs.names.all (fun y => decide (y.2 = .free → fs.names.lookup y.1 = some .cell ∨ fs.names.lookup y.1 = some .free))
theorem ScC.of {X : Cx} {scope : Scope} {x : Str} (h : ScOk X.env.scope scope x = true) : ScC X scope x := by
  unfold ScOk at h
  rw [Bool.and_eq_true, Bool.and_eq_true, Bool.and_eq_true, Bool.and_eq_true] at h
  obtain ⟨⟨⟨⟨h1, h2⟩, h3⟩, h4⟩, h5⟩ := h
  rw [List.all_eq_true] at h2 h3 h5
  exact ⟨of_decide_eq_true h1, fun y hy => of_decide_eq_true (h2 y hy), fun y hy => of_decide_eq_true (h3 y hy), of_decide_eq_true h4, fun y hy => of_decide_eq_true (h5 y hy)⟩
/-- xs.append(e) -/
theorem pe_app {X : Cx} {o e : Expr} {to : TE} {t : TA} {apos cpos : Pos} (ho : PE X o to) (ha : PA X [e] t)
    (hbase : attributeBase o "append" X.env (eval o X.env) = eval o X.env := by rfl)
    (hfew : ((backTo cpos (starEach [e] X.env)).all (fun x => !x.1) && (backToKw cpos (keywordEach [] X.env)).all (fun x => x.1.isSome)
      && decide ([e].length + ([] : List Keyword).length + (if ([] : List Keyword).isEmpty then 0 else 1) < 30)) = true := by rfl)
    (hline : (apos.endLine == cpos.line) = true := by rfl) (hs : starEach [e] X.env = (false, eval e X.env) :: starEach [] X.env := by rfl) (hplain : (backTo cpos (starEach [] X.env)).any (·.1) = false := by rfl) :
    PE X (.Call (.Attribute o "append" apos) [e] [] cpos) (tBM X.K "list" rAppend to t) :=
  pe_bm F.plainAttrs_list F.slot_list_append (by rfl) mt_append ho ha hbase hfew hline hs hplain
end L2
namespace L2
open PySem PySem.Spec PyProof.Rows
theorem ix_tupC {X : Cx} {scope : Scope} {cl : List (Str × Addr)} {C : Addr} {N : List Str} {s : Shared} {H : Hp} {fp : List Addr} : IxR (cxC X scope cl C N s H fp) (rIxT X.K) := ix_tup
theorem ix_listC {X : Cx} {scope : Scope} {cl : List (Str × Addr)} {C : Addr} {N : List Str} {s : Shared} {H : Hp} {fp : List Addr} : IxR (cxC X scope cl C N s H fp) (rIxL X.K) := ix_list
end L2

set_option Elab.async false
set_option linter.all false
set_option maxRecDepth 100000
set_option maxHeartbeats 4000000
/-! exceptions over the small layer: a raise of an own class, a call that may raise, try with one clause -/
namespace L2
open PySem PySem.Spec PyProof.Rows

theorem ObjOk.there {P : Program} {w : World} {H : Hp} {h : Heap} {a : Addr} {o : HO} (x : ObjOk P w H h a o) : ∃ ob, h.get? a = some ob := by
  cases o with
  | lst xs => obtain ⟨_, _, _, _, e⟩ := x; exact ⟨_, e⟩
  | tup xs => obtain ⟨_, _, _, ob, e, _⟩ := x; exact ⟨_, e⟩
  | dK kvs => obtain ⟨_, _, _, _, o, _, _, e, _⟩ := x; exact ⟨_, e⟩
  | dT kvs => obtain ⟨_, _, _, _, o, _, _, e, _⟩ := x; exact ⟨_, e⟩
  | set S n => obtain ⟨o, _, _, _, e, _⟩ := x; exact ⟨_, e⟩
  | ins C dx fs => obtain ⟨_, _, _, e, _⟩ := x; exact ⟨_, e⟩
  | own y => obtain ⟨_, e⟩ := x; exact ⟨_, e⟩
  | xd fs => obtain ⟨_, ⟨_, _, _, e, _⟩, _⟩ := x; exact ⟨_, e⟩
  | rng lo hi => obtain ⟨_, _, _, e⟩ := x; exact ⟨_, e⟩
  | frz ob u => obtain ⟨e, _⟩ := x; exact ⟨_, e⟩
  | tbl ps => exact ⟨_, (show h.get? a = some _ from x)⟩
  | met f y => exact ⟨_, (show h.get? a = some _ from x)⟩
  | ext φ => obtain ⟨_, ⟨_, e⟩, _⟩ := x; exact ⟨_, e⟩
theorem HOk.none_of {P : Program} {w : World} {H : Hp} {h : Heap} {a : Addr} (x : HOk P w H h) (e : h.get? a = none) : H a = none := by
  cases q : H a with
  | none => rfl
  | some u => obtain ⟨ob, z⟩ := (x a u q).there; rw [e] at z; cases z

/-- an exception behind a call: it flies over a heap B that holds all but the callers' frames and the exception's own records -/
def CXr (P : Program) (w : World) : CXT := fun outer H s E e s' => ∃ (ea : Addr) (cls a0 : Value) (H' : Hp) (B : Heap), e = .ref ea ∧ s'.os = s.os ∧ AllBare s'.gens ∧
  Un (frs outer) [] H H' s.heap s'.heap ∧ HOk P w H' B ∧ Heap.FlyingW B outer ea cls a0 s'.heap ∧
  (∀ b o, s.heap.get? b = some o → b ∉ frs outer → ∃ o', B.get? b = some o') ∧
  (∀ b o, s.heap.get? b = some o → H b = none → b ∉ frs outer → B.get? b = some o) ∧ H' ea = none ∧ E cls none H'

/-- a new exception of the class at C may leave the body -/
def Throws (X : Cx) (E : XK) : Prop := ∀ (pins : List (Addr × Obj)) (σ : St) (H : Hp) (s : Shared) (ea C : Addr) (args : List Value) (h' : Heap), Inv X pins σ H s → Heap.MadeExcOf s.heap h' ea (.ref C) args →
  E (.ref C) none H → X.xe (.ref ea) { s with heap := h' }

theorem funFrames_base {h base base' : Heap} : ∀ {l : List Env}, (∀ b ∈ frs l, base'.get? b = none) → h.FunFrames base l → h.FunFrames base' l
  | [], _, _ => trivial
  | env :: r, hn, ⟨hk, ⟨L, o, hf, _, ho, hd⟩, hr⟩ =>
    ⟨hk, ⟨L, o, hf, hn L (by unfold frs; rw [List.filterMap_cons, hf]; exact List.mem_cons_self), ho, hd⟩,
      funFrames_base (fun b hb => hn b (by unfold frs; rw [List.filterMap_cons, hf]; exact List.mem_cons_of_mem _ hb)) hr⟩

theorem throws_cxOf {P : Program} {w : World} {K : PySem.W.Frag} {mg : Str → Option Value} {base : Heap} {N : List Str} {qual : Str} {scope : Scope} {f : Addr} {cd : Value} {A : Around} {outer : List Env} {s0 : Shared} {H0 : Hp} {E : XK} :
    Throws (cxOf (CXr P w) P w K mg base N qual scope f cd A outer s0 H0 E) E := by
  intro pins σ H s ea C args h' I hx hE
  have hstk := I.stack
  have hsub := I.stkSub
  have hsf := I.stkFree
  have hfr := I.ok.frames
  have hfs : ∀ b, b ∈ frs outer → b ∈ frs (envOfC qual scope s0.heap.objs.size f cd :: outer) := fun b hb => by
    unfold frs; rw [List.filterMap_cons]; exact List.mem_cons_of_mem _ hb
  have hmem : ∀ b, b ∈ frs (envOfC qual scope s0.heap.objs.size f cd :: outer) → b = s0.heap.objs.size ∨ b ∈ frs outer := fun b hb => List.mem_cons.mp (hsub b hb)
  have old : ∀ b o, s0.heap.get? b = some o → b ∉ frs outer → b ∉ frs (envOfC qual scope s0.heap.objs.size f cd :: outer) := fun b o e hb hm => by
    rcases hmem b hm with z | z
    · exact absurd (Heap.lt_size e) (by rw [z]; exact Nat.lt_irrefl _)
    · exact hb z
  refine wpAny_leaves_madeW (base := PySem.W.hideAll s.heap (frs (envOfC qual scope s0.heap.objs.size f cd :: outer))) (h := s.heap) (L := s0.heap.objs.size) hfr rfl (fun b o e => PySem.W.of_hideAll _ e)
    (funFrames_base (fun b hb => PySem.W.hideAll_none _ hb) hstk) hx fun h'' t hfl htup hnt hup => ?_
  have hb1 : Un (frs outer) [] H0 H s0.heap s.heap := I.base
  have frm : ∀ b ∈ frs (envOfC qual scope s0.heap.objs.size f cd :: outer), ∃ o, s.heap.get? b = some o ∧ ∀ vs, o.data ≠ .fields vs := fun b hb => (hstk.mem hb).2
  refine ⟨ea, .ref C, .ref t, H, _, rfl, I.os, I.bare, ⟨fun b o e n hb hx => ?_, fun b o e n hb hx' => ?_, hb1.free, fun b o e hx' => ?_, hb1.tups, hb1.frzs, hb1.tbls⟩, ?_, hfl, fun b o e hb => ?_, fun b o e n hb => ?_, I.hok.none_of hx.new, hE⟩
  · exact hfl.1 b o (PySem.W.hideAll_get _ (hb1.keep b o e n hb hx) (old b o e hb))
  · obtain ⟨sl, e1⟩ := hb1.slot b o e n hb hx'
    obtain ⟨o2, e2, d2⟩ := frm b (hfs b hb)
    rw [e1] at e2; cases e2
    obtain ⟨sl', e3⟩ := hup b _ (hx.keeps b _ e1) d2
    exact ⟨sl', e3⟩
  · obtain ⟨o1, e1⟩ := hb1.there b o e hx'
    by_cases hb : b ∈ frs outer
    · obtain ⟨o2, e2, d2⟩ := frm b (hfs b hb)
      obtain ⟨sl', e3⟩ := hup b _ (hx.keeps b _ e2) d2
      exact ⟨_, e3⟩
    · exact ⟨o1, hfl.1 b o1 (PySem.W.hideAll_get _ e1 (old b o e hb))⟩
  · intro a u e
    have free : ∀ b u', H b = some u' → b ∉ frs (envOfC qual scope s0.heap.objs.size f cd :: outer) := fun b u' q hm => by
      have := hsf b hm
      rw [q] at this; cases this
    refine (I.hok a u e).stay (fun b v hb q => PySem.W.hideAll_get _ q ?_) (fun _ q => q) fun _ _ q => q
    rcases hb with rfl | hb
    · exact free _ _ e
    · exact free _ _ hb
  · obtain ⟨o1, e1⟩ := hb1.there b o e (by simp)
    exact ⟨o1, PySem.W.hideAll_get _ e1 (old b o e hb)⟩
  · exact PySem.W.hideAll_get _ (hb1.keep b o e n hb (by simp)) (old b o e hb)

/-! ### raise C(e, ..), C an own class of exceptions -/
theorem exc_obj {K : PySem.W.Frag} {h : Heap} {C : Addr} {tl : List Value} {nid : String} (X : K.In h) (q : PySem.W.excIn K C tl nid = true) :
    ∃ bm N nm qn bs hd sn sb ab cl dd a0 a1 a2 a3 a5 mN, h.get? C = some (excClassObj nm qn C N bs bm hd sn sb ab cl dd a0 a1 a2 a3 a5 nid) ∧ h.Ns N mN ∧ mN "__init__" = none ∧ OwnTail h tl bm := by
  unfold PySem.W.excIn at q
  split at q
  case h_2 => cases q
  case h_1 dd cd sl look =>
    split at q
    case h_2 => cases q
    case h_1 c1 bm a0 a1 a2 a3 nn a5 em es =>
      simp only [Bool.and_eq_true, beq_iff_eq, Bool.not_eq_true'] at q
      obtain ⟨⟨⟨⟨⟨ec, en⟩, ed⟩, et⟩, eo⟩, ei⟩ := q
      cases ec
      cases en
      rcases sl with ⟨sll⟩
      rcases cd with ⟨nm, bs, mro, ns, qn, hd, sn, sb, ab, cl, del⟩
      dsimp only at em es ed eo ei
      cases em
      cases es
      cases ed
      exact ⟨bm, ns, nm, qn, bs, hd, sn, sb, ab, cl, dd, a0, a1, a2, a3, a5, _, X C _ look, .of_isNs (PySem.W.isNs_of_in X eo), PySem.W.nsMap_none_of_in X eo ei, PySem.W.tail_of_in X et⟩

def tRaise (E : XK) (C : Addr) (t : TA) : TS := fun _ σ H => t σ H fun vs H1 => vs.length ≤ sizeLine ∧ E (.ref C) none H1
section
variable {X : Cx} {E : XK} {x : Str} {C : Addr} {e : Expr} {es : List Expr} {t : TA} {np cpos pos : Pos} {tl : List Value} {Bn nid ini : String}
theorem ps_raise (hT : Throws X E) (F : ExcBaseFacts Bn nid ini tl) (q : PySem.W.excIn X.K C tl nid = true) (hc : X.calm = true) (hg : Gl X x) (hm : X.mg x = some (.ref C)) (ha : PA X (e :: es) t)
    (hdb : (x == ("__debug__" : Str)) = false := by decide) (he : starEach (e :: es) X.env = (false, eval e X.env) :: starEach es X.env := by rfl) (hpl : (backTo cpos (starEach es X.env)).any (·.1) = false := by rfl) :
    PS X (.Raise (some (.Call (.Name x np) (e :: es) [] cpos)) none pos) (tRaise E C t) := by
  intro pins s σ H D I h
  obtain ⟨bm, N, nm, qn, bs, hd, sn, sb, ab, cl, dd, a0, a1, a2, a3, a5, mN, hC, hN, hni, T⟩ := exc_obj I.mod.kin q
  refine wpAny_Raise_call_subT (C := C) (nm := nm) (q := qn) (N := N) (bs := bs) (bm := bm) (hdct := hd) (sn := sn) (sub := sb) (ab := ab) (col := cl) (dd := dd) (k0 := a0) (k1 := a1) (k2 := a2) (k3 := a3) (k5 := a5)
    (mN := mN) F (T.hasType F.hasBase) (I.ok.hd hc) ?_ hni (ld_glob I hg hm ⟨rfl, ?_⟩ hdb)
  · rw [he]
    show (false || (backTo cpos (starEach es X.env)).any (·.1)) = false
    rw [hpl]
    rfl
  · have ha' := ha cpos pins s σ H _ I h
    rw [he] at ha' ⊢
    refine Calls.evalArgs_plain (thn ha' fun us s2 ⟨vs, H2, I2, r, hl, hE⟩ => ?_)
    exact ⟨rfl, by rw [← r.length]; exact hl, I2.bk _ _ hC, hN.keeps I2.bk, T.keeps I2.bk, fun h' ea hx => hT pins σ H2 s2 ea C us h' I2 hx hE⟩
end

/-! ### f'..{x}..' of texts -/
def tFs : TA → TE := fun t σ H Q => t σ H fun vs H1 => ∃ xs : List Str, vs = xs.map V.str ∧ (xs.foldl (· ++ ·) Str.empty).length ≤ sizeLine ∧ (∀ k, ((xs.take k).foldl (· ++ ·) Str.empty).length ≤ sizeLine) ∧ Q (.str (xs.foldl (· ++ ·) Str.empty)) H1
def tFmt (t : TE) : TE := fun σ H Q => t σ H fun v H1 => ∃ x : Str, v = .str x ∧ x.length ≤ sizeLine ∧ Q (.str x) H1
section
variable {X : Cx} {e a b c : Expr} {te ta tb tc : TE} {pos : Pos}
theorem pe_fmt (he : PE X e te) : PE X (.FormattedValue e (-1) none pos) (tFmt te) := by
  intro pins s σ H Q I h
  refine FormattedValue_plain (thn (he pins s σ H _ I h) fun v s1 ⟨y, H1, I1, r1, x, ex, hl, q1⟩ => ?_)
  subst ex
  obtain ⟨t, rfl⟩ := r1
  exact formatField_str (fun t' tk => ⟨.str x, H1, I1.tok tk, ⟨_, rfl⟩, q1⟩) hl
def tF3 (ta tb tc : TE) : TE := fun σ H Q => ta σ H fun u H1 => ∃ x, u = .str x ∧ (Str.empty ++ x).length ≤ sizeLine ∧ tb σ H1 fun v H2 => ∃ y, v = .str y ∧ (Str.empty ++ x ++ y).length ≤ sizeLine ∧
  tc σ H2 fun w H3 => ∃ z, w = .str z ∧ (Str.empty ++ x ++ y ++ z).length ≤ sizeLine ∧ Q (.str (Str.empty ++ x ++ y ++ z)) H3
theorem pe_fs3 (ha : PE X a ta) (hb : PE X b tb) (hc : PE X c tc) : PE X (.JoinedStr [a, b, c] pos) (tF3 ta tb tc) := by
  intro pins s σ H Q I h
  refine JoinedStr_many (joinParts_cons (thn (ha pins s σ H _ I h) fun u s1 ⟨y1, H1, I1, r1, x, e1, l1, h1⟩ => ?_))
  subst e1
  obtain ⟨t1, rfl⟩ := r1
  refine ⟨l1, joinParts_cons (thn (hb pins s1 σ H1 _ I1 h1) fun v s2 ⟨y2, H2, I2, r2, y, e2, l2, h2⟩ => ?_)⟩
  subst e2
  obtain ⟨t2, rfl⟩ := r2
  refine ⟨l2, joinParts_cons (thn (hc pins s2 σ H2 _ I2 h2) fun w s3 ⟨y3, H3, I3, r3, z, e3, l3, h3⟩ => ?_)⟩
  subst e3
  obtain ⟨t3, rfl⟩ := r3
  exact ⟨l3, joinParts_nil ⟨.str _, H3, I3.tok _, ⟨_, rfl⟩, h3⟩ l3⟩
end

/-! ### try -/
abbrev Cx.tried (X : Cx) (pins : List (Addr × Obj)) (EX : St → XK) : Cx := { X with pn := X.pn ++ pins, xe := fun e s' => ∃ σ' H0 s0, Inv X pins σ' H0 s0 ∧ CXr X.prog X.w X.stack H0 s0 (EX σ') e s' }
abbrev Cx.caught (X : Cx) (pins : List (Addr × Obj)) (ea : Addr) (oe : Obj) : Cx := { X with A := X.A.mark (some (.ref ea)), calm := false, pn := (ea, oe) :: (X.pn ++ pins), xe := fun _ _ => False }
section
variable {X : Cx} {pins pins' : List (Addr × Obj)} {σ : St} {H : Hp} {s : Shared} {EX : St → XK} {ea : Addr} {oe : Obj}
theorem Inv.tried (I : Inv X pins σ H s) (EX : St → XK) : Inv (X.tried pins EX) [] σ H s :=
  ⟨⟨I.ok.mod, I.ok.kind, I.ok.glob, I.ok.blt, I.ok.above, I.ok.inj, I.ok.has, I.ok.cab, I.ok.hd, I.ok.frames, I.ok.stk, I.ok.exf, I.ok.bs, I.ok.bsz, I.ok.noex, I.ok.exfs, I.ok.funs, I.ok.frf⟩,
    I.os, I.bare, I.base, I.loc, I.cell, I.free, I.freeC, fun p hp => I.pin p (by simpa using hp), I.hok, I.len⟩
theorem Inv.untried (I : Inv (X.tried pins EX) pins' σ H s) : Inv X pins σ H s :=
  ⟨⟨I.ok.mod, I.ok.kind, I.ok.glob, I.ok.blt, I.ok.above, I.ok.inj, I.ok.has, I.ok.cab, I.ok.hd, I.ok.frames, I.ok.stk, I.ok.exf, I.ok.bs, I.ok.bsz, I.ok.noex, I.ok.exfs, I.ok.funs, I.ok.frf⟩,
    I.os, I.bare, I.base, I.loc, I.cell, I.free, I.freeC, fun p hp => I.pin p (List.mem_append_left _ hp), I.hok, I.len⟩
theorem SP.untried {D : Ends} {f : Flow} {s' : Shared} (h : SP (X.tried pins EX) pins' D f s') : SP X pins D f s' := by
  cases f with
  | next => obtain ⟨σ', H', I, q⟩ := h; exact ⟨σ', H', I.untried, q⟩
  | brk => obtain ⟨σ', H', I, q⟩ := h; exact ⟨σ', H', I.untried, q⟩
  | cont => obtain ⟨σ', H', I, q⟩ := h; exact ⟨σ', H', I.untried, q⟩
  | ret u => obtain ⟨v, σ', H', I, r, q⟩ := h; exact ⟨v, σ', H', I.untried, r, q⟩
theorem Inv.caught (I : Inv X pins σ H s) (h1 : s.heap.get? ea = some oe) (h2 : H ea = none) (h3 : ea ≠ X.env.locals) (h4 : ea ∉ X.fs) (h5 : ∀ v, oe.data ≠ .cell v) : Inv (X.caught pins ea oe) [] σ H s :=
  ⟨⟨I.ok.mod, I.ok.kind, I.ok.glob, I.ok.blt, I.ok.above, I.ok.inj, I.ok.has, I.ok.cab, (fun z => by cases z), I.ok.frames, I.ok.stk, I.ok.exf, I.ok.bs, I.ok.bsz, I.ok.noex, I.ok.exfs, I.ok.funs, I.ok.frf⟩,
    I.os, I.bare, I.base, I.loc, I.cell, I.free, I.freeC, fun p hp => by
      rcases List.mem_cons.mp (show p ∈ (ea, oe) :: (X.pn ++ pins) by simpa using hp) with z | z
      · subst z; exact ⟨h1, h2, h3, h4, h5⟩
      · exact I.pin p z, I.hok, I.len⟩
theorem Inv.uncaught (hd : X.calm = true → X.A.handled = none) (hc : ∀ p ∈ X.pn ++ pins, True) (I : Inv (X.caught pins ea oe) pins' σ H s) : Inv X pins σ H s :=
  ⟨⟨I.ok.mod, I.ok.kind, I.ok.glob, I.ok.blt, I.ok.above, I.ok.inj, I.ok.has, I.ok.cab, hd, I.ok.frames, I.ok.stk, I.ok.exf, I.ok.bs, I.ok.bsz, I.ok.noex, I.ok.exfs, I.ok.funs, I.ok.frf⟩,
    I.os, I.bare, I.base, I.loc, I.cell, I.free, I.freeC, fun p hp => I.pin p (List.mem_append_left _ (List.mem_cons_of_mem _ hp)), I.hok, I.len⟩
end
section
variable {X : Cx} {pins : List (Addr × Obj)} {EX : St → XK} {k : Nat} {f : Addr} {fd : FuncData} {ps : List Str} {sp : Sp} {x : Str} {p pos : Pos} {e : Expr} {es : List Expr} {t : TA}
/-- a call of a def that may raise, within try -/
def tCallX (sp : Sp) (EX : St → XK) (t : TA) : TE := fun σ H Q => t σ H fun vs H1 => sp vs H1 Q (EX σ)
theorem pe_callx (F : FnOk X.prog X.w X.K X.mg X.base (CXr X.prog X.w) k f fd ps sp) (hr : Room k X.A) (hg : Gl X x) (hm : X.mg x = some (.ref f)) (hk : PySem.W.keepIn X.K (.ref f) = true) (hb : Binds X.K fd ps [])
    (ha : PA (X.tried pins EX) (e :: es) t) (hdb : (x == ("__debug__" : Str)) = false := by decide) (he : starEach (e :: es) X.env = (false, eval e X.env) :: starEach es X.env := by rfl) (hpl : (backTo pos (starEach es X.env)).any (·.1) = false := by rfl) :
    PE (X.tried pins EX) (.Call (.Name x p) (e :: es) [] pos) (tCallX sp EX t) := by
  intro pins' s σ H Q I h
  refine wpAny_Call_Name_kw (ld_glob I hg hm ?_ hdb)
  refine PySem.W.callWith_K (h₀ := X.base) I.ok.mod.kin hk (thn (ha pos pins' s σ H _ I h) fun us s1 ⟨vs, H1, I1, r, q⟩ => ⟨I1.kIn, ?_⟩) he hpl
  have hl : us.length = ps.length := by rw [← r.length]; exact F.len _ _ _ _ q
  have hb' := hb s1 us I1.kIn (by rw [List.append_nil]; exact hl)
  rw [List.append_nil] at hb'
  refine wpAny_call (codeAny_mono (F.run X.A X.stack s1 H1 ⟨us, []⟩ us vs Q (EX σ) hr I1.env0 hb' r q) fun res s' hq => ?_)
  cases res with
  | error er => exact ⟨σ, H1, s1, I1.untried, hq⟩
  | ok fl =>
    cases fl with
    | ret u => exact I1.after hq
    | next => exact False.elim hq
    | brk => exact False.elim hq
    | cont => exact False.elim hq
end

section
variable {X : Cx} {pins : List (Addr × Obj)} {σ : St} {H H' : Hp} {s s' : Shared} {B h' : Heap} {ea : Addr} {cls a0 : Value}
/-- behind an exception that has landed in this body -/
theorem Inv.landed (I : Inv X pins σ H s) (os : s'.os = s.os) (bare : AllBare s'.gens) (un : Un (frs X.stack) [] H H' s.heap s'.heap) (hok : HOk X.prog X.w H' B) (hB : B.StaysIn h') (hup : s'.heap.UpToSlots h')
    (th : ∀ b o, s.heap.get? b = some o → b ∉ frs X.stack → ∃ o', B.get? b = some o') (kp : ∀ b o, s.heap.get? b = some o → H b = none → b ∉ frs X.stack → B.get? b = some o) : Inv X pins σ H' { s' with heap := h' } := by
  have frm : ∀ b ∈ frs X.stack, ∃ o, s.heap.get? b = some o ∧ ∀ vs, o.data ≠ .fields vs := fun b hb => (I.stack.mem hb).2
  refine I.call' (ch := []) (s' := { s' with heap := h' }) os ⟨fun b o e n hb _ => hB b o (kp b o e n hb), fun b o e n hb hx => ?_, un.free, fun b o e hx => ?_, un.tups, un.frzs, un.tbls⟩ (hok.kept hB) bare (fun b z => absurd z (by simp))
  · obtain ⟨sl, e1⟩ := un.slot b o e n hb hx
    obtain ⟨o2, e2, d2⟩ := frm b hb
    rw [e] at e2; cases e2
    obtain ⟨sl', e3⟩ := hup b _ e1 d2
    exact ⟨sl', e3⟩
  · by_cases hb : b ∈ frs X.stack
    · obtain ⟨o2, e2, d2⟩ := frm b hb
      obtain ⟨sl, e1⟩ := un.slot b o2 e2 (I.stkFree b hb) hb hx
      obtain ⟨sl', e3⟩ := hup b _ e1 d2
      exact ⟨_, e3⟩
    · obtain ⟨o1, e1⟩ := th b o e hb
      exact ⟨o1, hB b o1 e1⟩
/-- a name is forgotten -/
theorem Inv.forget {j : Nat} {n : Str} {m : Str → Option Value} {v : Option Value} {t' : Nat} (I : Inv X pins σ H s) (hN : X.N.Nodup) (hj : X.N[j]? = some n)
    (hm : s.heap.Ns X.env.locals m) (hn' : h'.Ns X.env.locals (fun y => if y = n then v else m y)) (hs : Heap.SameBut X.env.locals s.heap h') : Inv X pins (σ.set j none) H { s with heap := h', toks := t' } := by
  obtain ⟨m0, hm0, hl⟩ := I.loc
  have em : m0 = m := by
    obtain ⟨o, es, ep, ho, hd, hk, hf⟩ := hm0
    obtain ⟨o', es', ep', ho', hd', hk', hf'⟩ := hm
    rw [ho] at ho'; cases ho'
    rw [hd] at hd'; cases hd'
    funext y
    rw [← hf y, ← hf' y]
  subst em
  have neL : ∀ b o, X.s₀.heap.get? b = some o → b ≠ X.env.locals := fun b o e => Nat.ne_of_lt (Nat.lt_of_lt_of_le (Heap.lt_size e) I.ok.above)
  refine ⟨I.ok, I.os, I.bare, ⟨fun b o e nn hb hx => (hs.2 b (neL b o e)).trans (I.base.keep b o e nn hb hx), fun b o e nn hb hx => ?_, I.base.free, fun b o e hx => ?_, I.base.tups, I.base.frzs, I.base.tbls⟩, ⟨_, hn', fun i y u e1 e2 e3 => ?_⟩,
    fun y c e => ?_, I.free, I.freeC, fun p hp => ?_, fun b ob e => ?_, by rw [List.length_set]; exact I.len⟩
  · obtain ⟨sl, e1⟩ := I.base.slot b o e nn hb hx
    exact ⟨sl, (hs.2 b (neL b o e)).trans e1⟩
  · obtain ⟨o', e1⟩ := I.base.there b o e hx
    exact ⟨o', (hs.2 b (neL b o e)).trans e1⟩
  · have hij : i ≠ j := fun z => by
      subst z
      rw [List.getElem?_set] at e2
      rw [if_pos rfl] at e2
      split at e2 <;> cases e2
    rw [List.getElem?_set_ne (Ne.symm hij)] at e2
    obtain ⟨u', r', q⟩ := hl i y u e1 e2 e3
    refine ⟨u', r', ?_⟩
    rcases q with ⟨kk, e⟩ | ⟨kk, c, e, z⟩
    · refine .inl ⟨kk, ?_⟩
      have hne : y ≠ n := fun z => hij (nodup_ix hN e1 (z ▸ hj))
      show (if y = n then v else m0 y) = _
      rw [if_neg hne]
      exact e
    · exact .inr ⟨kk, c, e, z.sameBut hs (I.cne y c e)⟩
  · obtain ⟨w', z⟩ := I.cell y c e
    exact ⟨w', z.sameBut hs (I.cne y c e)⟩
  · obtain ⟨e, nn, ne, nf, d⟩ := I.pin p hp
    exact ⟨(hs.2 p.1 ne).trans e, nn, ne, nf, d⟩
  · refine (I.hok b ob e).stay (fun c w' hc q => (hs.2 c ?_).trans q) (fun _ q => q) fun _ _ q => q
    rintro rfl
    rcases hc with z | hc
    · rw [← z, I.free] at e; cases e
    · rw [I.free] at hc; cases hc
end

/-- behind the suite the name is gone -/
def Ends.less (D : Ends) (j : Nat) : Ends := ⟨fun σ H => D.nx (σ.set j none) H, D.rt, fun σ H => D.bk (σ.set j none) H, fun σ H => D.ct (σ.set j none) H⟩
/-- try: body; except C as n: suite -- every exception that reaches it is caught -/
def tTry (K : PySem.W.Frag) (c : Value) (j : Nat) (tb : (St → XK) → TS) (ts : Addr → Value → TS) : TS := fun D σ H =>
  tb (fun σ' cls _ H' => PySem.W.exmOne K cls c = some true ∧ ∀ ea, H' ea = none → ts ea cls (D.less j) (σ'.set j (some (.ref ea))) H') D σ H
section
variable {X : Cx} {body suite : List Stmt} {b₀ : Stmt} {cx n : Str} {c : Value} {np hpos pos : Pos} {j : Nat} {tb : (St → XK) → TS} {ts : Addr → Value → TS}
theorem ps_try (hst : X.stack = X.env :: X.outer) (hf : X.env.frame = some X.env.locals) (hN : X.N.Nodup) (hj : X.N[j]? = some n) (hloc : X.env.scope.names.lookup n = some .local) (hg : Gl X cx) (hm : X.mg cx = some c)
    (hb : ∀ pins EX, PSs (X.tried pins EX) body (tb EX)) (hh : ∀ pins ea oe cls, oe.cls = cls → PSs (X.caught pins ea oe) (b₀ :: suite) (ts ea cls)) (hdb : (cx == ("__debug__" : Str)) = false := by decide) :
    PS X (.Try body [.ExceptHandler (some (.Name cx np)) (some n) (b₀ :: suite) hpos] [] [] pos) (tTry X.K c j tb ts) := by
  intro pins s σ H D I h
  have hcl : (X.env.scope.kind == .class || (X.env.scope.kind == .module && X.env.locals != X.env.globals)) = false := by rw [I.ok.kind]; rfl
  refine wpAny_Try_except (wpAny_mono (hb pins _ [] s σ H D (I.tried _) h) (fun fl s1 hs => ?_) (fun er s1 he => ?_))
  · have hs := hs.untried
    cases fl with
    | next => exact wpAny_execs_nil hs
    | brk => exact hs
    | cont => exact hs
    | ret u => exact hs
  · obtain ⟨σ', H0, s0, I0, ea, cls, a0, H', B, rfl, os, bare, un, hokB, hfl, thB, kpB, fea, hx, hts⟩ := he
    rw [hst] at hfl
    refine wpAny_looks_onW (by rw [I0.ok.frames, hst]) hf hfl fun h4 hheld hup4 => ?_
    refine wpAny_landsW hheld fun h5 hfl5 hup5 => ?_
    have I5 : Inv X pins σ' H' { s1 with heap := h5 } := I0.landed os bare un hokB hfl5.1 (hup4.trans hup5) thB kpB
    obtain ⟨ob, hob, hobc⟩ := hfl5.there
    have LT : PySem.W.Looks (model X.prog X.w) h5 (typeOf (.ref ea)) cls := hobc ▸ (PySem.W.Looks.ld hob).andThen .now
    refine wpAny_handleBy_cons (codeAny_handlers_test (Calls.Name_function_global I5.ok.kind hg (Calls.loadGlobal_global (by rw [I5.ok.glob]; exact I5.mod.glob.keeps I5.bk) hm ?_) hdb)) (by intro q; cases q)
    refine (PySem.W.exm_one I5.kIn LT hx).here ?_
    show codeAny _ _ _ _ _
    refine codeAny_handlers_suite_as (lands_againW hfl5 fun h6 hfl6 hup6 => ?_)
    have I6 : Inv X pins σ' H' { s1 with heap := h6 } := I0.landed os bare un hokB hfl6.1 ((hup4.trans hup5).trans hup6) thB kpB
    obtain ⟨oe, ws, hoe, hoec, hoed, _⟩ := hfl6.first
    have ne1 : ea ≠ X.env.locals := fun z => by
      obtain ⟨m, ⟨o, es, ep, ho, hd, _⟩, _⟩ := I6.loc
      have ho' : h6.get? X.env.locals = some o := ho
      rw [← z, hoe] at ho'; cases ho'
      rw [hoed] at hd; cases hd
    have ne2 : ea ∉ X.fs := fun z => by
      obtain ⟨_, o, ho, hd⟩ := I6.funs.mem z
      have ho' : h6.get? ea = some o := ho
      rw [hoe] at ho'; cases ho'
      exact hd _ hoed
    have IY := I6.caught (oe := oe) hoe fea ne1 ne2 (fun v q => by rw [hoed] at q; cases q)
    have hts' := hts ea fea
    refine store_ok (X := X.caught pins ea oe) IY hN hj (Or.inl hloc) (v := .ref ea) rfl (fun s7 I7 => ?_) (.inr hloc)
    refine wpAny_mono (hh pins ea oe cls hoec [] s7 _ _ _ I7 hts') (fun fl s8 hs => ?_) fun _ _ z => False.elim z
    have go : ∀ {σ2 : St} {H2 : Hp} {Q : Unit → Shared → Prop}, Inv (X.caught pins ea oe) [] σ2 H2 s8 → (∀ s9, Inv X pins (σ2.set j none) H2 s9 → Q () s9) →
        wpAny (model X.prog X.w) X.A (do bindName X.env n .none; unbindBehindTheSuite X.env n hpos) Q X.xe s8 := fun {σ2 H2 Q} J q => by
      have J' := Inv.uncaught I.ok.hd (fun _ _ => trivial) J
      obtain ⟨m, hm', _⟩ := id J'.loc
      exact wpAny_nameGoes_keeps hloc hm' hcl fun h9 v hn9 hs9 => q _ (J'.forget hN hj hm' hn9 hs9)
    cases fl with
    | next => obtain ⟨σ2, H2, J, q⟩ := hs; exact go J fun s9 I9 => ⟨_, _, I9, q⟩
    | brk => obtain ⟨σ2, H2, J, q⟩ := hs; exact go J fun s9 I9 => ⟨_, _, I9, q⟩
    | cont => obtain ⟨σ2, H2, J, q⟩ := hs; exact go J fun s9 I9 => ⟨_, _, I9, q⟩
    | ret u => obtain ⟨v, σ2, H2, J, r, q⟩ := hs; exact go J fun s9 I9 => ⟨v, _, _, I9, r, q⟩
end

/-! ### isinstance(e, C) of a caught exception whose class is C itself -/
theorem isx_same {x c : Value} {P : Heap → Prop} (ty : ∀ (M : Model) (h : Heap), P h → PySem.W.Looks M h (typeOf x) c) : Answers (fun s => P s.heap) x c true := by
  intro dep tk prog w A R s hs
  obtain ⟨h0, g, d, tt, os⟩ := s
  obtain ⟨p, hq⟩ := hs
  unfold Builtin.«isinstance.nested»
  refine wpAny_bind ((ty _ h0 p).at ?_)
  rw [if_pos (beq_self_eq_true c)]
  first
    | exact wpAny_bind (wpAny_rule (wpAny_pure (hq tt)))
    | exact wpAny_bind (wpAny_rule (hq tt))
section
variable {X : Cx} {ea : Addr} {oe : Obj}
def rIsx (ea : Addr) (cls : Value) : List V → Hp → VK → Prop := fun xs H Q => ∃ C, xs = [.ref ea, .ref C] ∧ cls = .ref C ∧ Q (.bl true) H
theorem ck_isx {cls : Value} (hp : (ea, oe) ∈ X.pn) (hc : oe.cls = cls) : CallR X (.builtin "isinstance") (rIsx ea cls) := by
  subst hc
  intro pins s σ H xs us Q I r h
  obtain ⟨C, rfl, ec, q⟩ := h
  obtain ⟨u, w', rfl, ru, rw'⟩ := vals2 r
  cases ru
  cases rw'
  obtain ⟨hg, _⟩ := I.pin (ea, oe) (List.mem_append_left _ hp)
  refine call_isinstance (S := fun _ R s => (∃ o, s.heap.get? ea = some o ∧ o.cls = .ref C) ∧ ∀ tk, R (.ok (.ret (.bool true))) { s with toks := tk })
    (fun prog w A R s hs => isinstance_outer (isx_same (P := fun h => ∃ o, h.get? ea = some o ∧ o.cls = .ref C) (fun M h p => ?_) 0 _ prog w A R s hs) (fun z => nomatch z)) ⟨⟨oe, hg, ec⟩, fun tk => ⟨.bl true, H, I.tok tk, rfl, q⟩⟩
  obtain ⟨o, h1, h2⟩ := p
  exact h2 ▸ (PySem.W.Looks.ld h1).andThen .now
end
/-- a def that may raise -/
theorem Fun.okx {P : Program} {w : World} {K : PySem.W.Frag} {mg : Str → Option Value} {base : Heap} {x qual : Str} {st : Stmt} {f : Addr} {fd : FuncData} {N ps : List Str} {k : Nat} {sp : Sp} (F : Fun K x qual st f fd) (S : FnScope N ps (defScope st)) (len : ∀ vs H Q E, sp vs H Q E → vs.length = ps.length)
    (hbody : ∀ (cdv : Value) (A : Around) (outer : List Env) (s : Shared) (H : Hp) (vs : List V) (Q : VK) (E : XK), Room k (A.deeper (envOfC qual (defScope st) s.heap.objs.size f cdv)) → sp vs H Q E →
      ∃ t, PSs (cxOf (CXr P w) P w K mg base N qual (defScope st) f cdv A outer s H E) (defBody st) t ∧ t { nx := fun _ H' => Q .non H', rt := Q } (start N vs) H) : FnOk P w K mg base (CXr P w) (k + 1) f fd ps sp := by
  obtain ⟨oc, od, kV, doc, pm, an, cdv, ct, osl, rfl, lk, hcd⟩ := F.ex
  exact fn_of lk hcd S len fun A outer s H vs Q E hr hsp => hbody cdv A outer s H vs Q E hr hsp
theorem PS.nox {X : Cx} {st : Stmt} {t : TS} (h : PS X.nox st t) : PS X st t := fun pins s σ H D I hw =>
  wpAny_mono (h pins s σ H D (I.wish _) hw) (fun _ _ q => q.unwish) fun _ _ z => False.elim z
end L2

set_option Elab.async false
set_option linter.all false
set_option maxRecDepth 100000
set_option maxHeartbeats 4000000
set_option autoImplicit false
/-! try: body; except C: suite -- without a name -/
namespace L2
open PySem PySem.Spec PyProof.Rows
def tTry0 (K : PySem.W.Frag) (c : Value) (tb : (St → XK) → TS) (ts : TS) : TS := fun D σ H => tb (fun σ' cls _ H' => PySem.W.exmOne K cls c = some true ∧ ts D σ' H') D σ H
section
variable {X : Cx} {body suite : List Stmt} {b₀ : Stmt} {cx : Str} {c : Value} {np hpos pos : Pos} {tb : (St → XK) → TS} {ts : TS}
theorem ps_try0 (hst : X.stack = X.env :: X.outer) (hf : X.env.frame = some X.env.locals) (hg : Gl X cx) (hm : X.mg cx = some c)
    (hb : ∀ pins EX, PSs (X.tried pins EX) body (tb EX)) (hh : ∀ pins ea oe, PSs (X.caught pins ea oe) (b₀ :: suite) ts) (hdb : (cx == ("__debug__" : Str)) = false := by decide) :
    PS X (.Try body [.ExceptHandler (some (.Name cx np)) none (b₀ :: suite) hpos] [] [] pos) (tTry0 X.K c tb ts) := by
  intro pins s σ H D I h
  refine wpAny_Try_except (wpAny_mono (hb pins _ [] s σ H D (I.tried _) h) (fun fl s1 hs => ?_) (fun er s1 he => ?_))
  · have hs := hs.untried
    cases fl with
    | next => exact wpAny_execs_nil hs
    | brk => exact hs
    | cont => exact hs
    | ret u => exact hs
  · obtain ⟨σ', H0, s0, I0, ea, cls, a0, H', B, rfl, os, bare, un, hokB, hfl, thB, kpB, fea, hx, hts⟩ := he
    rw [hst] at hfl
    refine wpAny_looks_onW (by rw [I0.ok.frames, hst]) hf hfl fun h4 hheld hup4 => ?_
    refine wpAny_landsW hheld fun h5 hfl5 hup5 => ?_
    have I5 : Inv X pins σ' H' { s1 with heap := h5 } := I0.landed os bare un hokB hfl5.1 (hup4.trans hup5) thB kpB
    obtain ⟨ob, hob, hobc⟩ := hfl5.there
    have LT : PySem.W.Looks (model X.prog X.w) h5 (typeOf (.ref ea)) cls := hobc ▸ (PySem.W.Looks.ld hob).andThen .now
    refine wpAny_handleBy_cons (codeAny_handlers_test (Calls.Name_function_global I5.ok.kind hg (Calls.loadGlobal_global (by rw [I5.ok.glob]; exact I5.mod.glob.keeps I5.bk) hm ?_) hdb)) (by intro q; cases q)
    refine (PySem.W.exm_one I5.kIn LT hx).here ?_
    show codeAny _ _ _ _ _
    refine codeAny_handlers_suite (lands_againW hfl5 fun h6 hfl6 hup6 => ?_)
    have I6 : Inv X pins σ' H' { s1 with heap := h6 } := I0.landed os bare un hokB hfl6.1 ((hup4.trans hup5).trans hup6) thB kpB
    obtain ⟨oe, ws, hoe, hoec, hoed, _⟩ := hfl6.first
    have ne1 : ea ≠ X.env.locals := fun z => by
      obtain ⟨m, ⟨o, es, ep, ho, hd, _⟩, _⟩ := I6.loc
      have ho' : h6.get? X.env.locals = some o := ho
      rw [← z, hoe] at ho'; cases ho'
      rw [hoed] at hd; cases hd
    have ne2 : ea ∉ X.fs := fun z => by
      obtain ⟨_, o, ho, hd⟩ := I6.funs.mem z
      have ho' : h6.get? ea = some o := ho
      rw [hoe] at ho'; cases ho'
      exact hd _ hoed
    have IY := I6.caught (oe := oe) hoe fea ne1 ne2 (fun v q => by rw [hoed] at q; cases q)
    refine wpAny_mono (hh pins ea oe [] _ _ _ D IY hts) (fun fl s8 hs => ?_) fun _ _ z => False.elim z
    have back : ∀ {σ2 : St} {H2 : Hp}, Inv (X.caught pins ea oe) [] σ2 H2 s8 → Inv X pins σ2 H2 s8 := fun J => Inv.uncaught I.ok.hd (fun _ _ => trivial) J
    cases fl with
    | next => obtain ⟨σ2, H2, J, q⟩ := hs; exact ⟨_, _, back J, q⟩
    | brk => obtain ⟨σ2, H2, J, q⟩ := hs; exact ⟨_, _, back J, q⟩
    | cont => obtain ⟨σ2, H2, J, q⟩ := hs; exact ⟨_, _, back J, q⟩
    | ret u => obtain ⟨v, σ2, H2, J, r, q⟩ := hs; exact ⟨v, _, _, back J, r, q⟩
end
end L2

set_option Elab.async false
set_option linter.all false
set_option maxRecDepth 100000
set_option maxHeartbeats 4000000
set_option autoImplicit false
/-! max of a list of ints; a tuple in a list of tuples -/
namespace L2
open PySem PySem.Spec PyProof.Rows
section
variable {X : Cx}
theorem ck_maxL (hc : X.calm = true) : CallR X (.builtin "max") (fun xs H Q => ∃ (p : Addr) (ns : List Int), xs = [.ref p] ∧ SqL X.K H p (ns.map V.int) ∧ 0 < ns.length ∧ ∀ M : Int, M ∈ ns → (∀ a ∈ ns, a ≤ M) → Q (.int M) H) := by
  intro pins s σ H xs us Q I r h
  obtain ⟨p, ns, rfl, hp, hpos, q⟩ := h
  obtain ⟨u, rfl, ru⟩ := vals1 r
  cases ru
  obtain ⟨its, rv, pl, hz⟩ := I.list hp
  have hi : IntsAre its ns := intsAre_of rv
  obtain ⟨ys, e⟩ := hi.allInts.items
  have hl : s.heap.IsList p (intItems ys) := by rw [← e]; exact pl.isList
  have ens : ns = ys.toList.map (·.1) := by rw [← hi.numsOf, ← nums_intItems, ← e]
  have hsz : 0 < ys.size := by
    have z := hpos
    rw [ens, List.length_map, Array.length_toList] at z
    exact z
  refine max_intList (I.ok.hd hc) hl hsz fun v h' tk hv hk => ?_
  obtain ⟨t, rfl⟩ := intItems_at hv
  obtain ⟨m1, m2⟩ := argBest_gt (numAt ys) (ys.size - 1)
  refine ⟨.int _, H, I.kept hk, ⟨t, rfl⟩, q _ ?_ fun a ha => ?_⟩
  · rw [ens, numAt_eq]
    exact getD_mem (by rw [List.length_map, Array.length_toList]; omega)
  · rw [ens] at ha
    obtain ⟨j, hj, rfl⟩ := mem_getD ha
    rw [List.length_map, Array.length_toList] at hj
    rw [← numAt_eq]
    exact m2 j (by omega)
/-- what is in a tuple's place -/
def tupIs (K : PySem.W.Frag) (H : Hp) (f : Addr → List V) (v : V) : Prop := ∃ b, v = .ref b ∧ SqT K H b (f b) ∧ (f b).all plnV = true
def hitT (f : Addr → List V) (ts : List V) (v : V) : Bool := match v with
  | .ref b => decide (f b = ts)
  | _ => false
def rInT (K : PySem.W.Frag) (neg : Bool) : R2 := fun x y H Q => ∃ (t p : Addr) (ts xs : List V) (f : Addr → List V), x = .ref t ∧ y = .ref p ∧ SqT K H t ts ∧ ts.all plnV = true ∧ SqL K H p xs ∧ (∀ v ∈ xs, tupIs K H f v) ∧
  Q (.bl (if neg then !xs.any (hitT f ts) else xs.any (hitT f ts))) H
def hitU (f : Addr → List V) (ts : List V) (u : Value) : Bool := match u with
  | .ref b => decide (f b = ts)
  | _ => false
theorem any_hit {K : PySem.W.Frag} {H : Hp} {f : Addr → List V} {ts : List V} : ∀ {xs : List V} {us : List Value}, Vals xs us → (∀ v ∈ xs, tupIs K H f v) → us.any (hitU f ts) = xs.any (hitT f ts)
  | _, _, .nil, _ => rfl
  | x :: xs, u :: us, .cons r t, h => by
    obtain ⟨b, rfl, _⟩ := h x List.mem_cons_self
    cases r
    rw [List.any_cons, List.any_cons, any_hit t fun v hv => h v (List.mem_cons_of_mem _ hv)]
    rfl
theorem mem_hit {K : PySem.W.Frag} {H : Hp} {f : Addr → List V} : ∀ {xs : List V} {us : List Value}, Vals xs us → (∀ v ∈ xs, tupIs K H f v) → ∀ u ∈ us, ∃ b, u = .ref b ∧ SqT K H b (f b) ∧ (f b).all plnV = true
  | _, _, .nil, _, u, hu => by cases hu
  | x :: xs, u :: us, .cons r t, h, u', hu => by
    rcases List.mem_cons.mp hu with rfl | hu
    · obtain ⟨b, rfl, h1, h2⟩ := h x List.mem_cons_self
      cases r
      exact ⟨b, rfl, h1, h2⟩
    · exact mem_hit t (fun v hv => h v (List.mem_cons_of_mem _ hv)) u' hu
theorem eq_tups {pins : List (Addr × Obj)} {σ : St} {H : Hp} {s : Shared} {A : Around} {b t : Addr} {bs ts : List V} (I : Inv X pins σ H s) (hu : A.units < cLine) (hb : SqT X.K H b bs) (ht : SqT X.K H t ts) (pb : bs.all plnV = true) (pt : ts.all plnV = true) :
    SeqAt.EqAt A s (.ref b) (.ref t) (decide (bs = ts)) := by
  obtain ⟨its, rv, pa, _⟩ := I.tuple hb
  obtain ⟨jts, rw', pc, _⟩ := I.tuple ht
  by_cases e : b = t
  · subst e
    have eu : bs = ts := I.tuple_inj hb ht
    rw [decide_eq_true eu]
    exact SeqAt.EqAt.same _
  · have key := SeqAt.RcAt.tuples (A := A) (s := s) (l := b) (b := t) (items := its.toArray) (items2 := jts.toArray) (e := fun j => decide (bs[j]? = ts[j]?)) pa pc hu (tup_items rv rw' pb pt A.in1)
    have ez : ((List.range (min its.toArray.size jts.toArray.size)).all (fun j => decide (bs[j]? = ts[j]?)) && its.toArray.size == jts.toArray.size) = decide (bs = ts) := by
      rw [List.size_toArray, List.size_toArray, ← rv.length, ← rw'.length, all_pl]
    rw [ez] at key
    exact SeqAt.EqAt.of_refs e key
theorem op_in_tups (hu : X.A.units + 1 < cLine) : OpR X (compareOp .In) (rInT X.K false) := by
  intro pins s σ H x y v u Q I rx ry h
  obtain ⟨t, p, ts, xs, f, rfl, rfl, ht, pt, hp, hx, q⟩ := h
  cases rx
  cases ry
  obtain ⟨its, r, pl, hz⟩ := I.list hp
  refine SeqAt.in_listAt (hitU f ts) pl.isList (fun w hw => ?_) ⟨.bl _, H, I, rfl, ?_⟩
  · obtain ⟨b, rfl, h1, h2⟩ := mem_hit r hx w (by simpa using hw)
    exact eq_tups I hu h1 ht h2 pt
  · rw [show its.toArray.any (hitU f ts) = its.any (hitU f ts) by simp, any_hit r hx]
    exact q
theorem op_notIn_tups (hu : X.A.units + 1 < cLine) : OpR X (compareOp .NotIn) (rInT X.K true) := by
  intro pins s σ H x y v u Q I rx ry h
  obtain ⟨t, p, ts, xs, f, rfl, rfl, ht, pt, hp, hx, q⟩ := h
  cases rx
  cases ry
  obtain ⟨its, r, pl, hz⟩ := I.list hp
  refine SeqAt.notIn_listAt (hitU f ts) pl.isList (fun w hw => ?_) ⟨.bl _, H, I, rfl, ?_⟩
  · obtain ⟨b, rfl, h1, h2⟩ := mem_hit r hx w (by simpa using hw)
    exact eq_tups I hu h1 ht h2 pt
  · rw [show its.toArray.any (hitU f ts) = its.any (hitU f ts) by simp, any_hit r hx]
    exact q
end
end L2

set_option Elab.async false
set_option linter.all false
set_option maxRecDepth 100000
set_option maxHeartbeats 4000000
set_option autoImplicit false
/-! sorted(xs), xs a list of tuples that begin with two ints, no two alike in these */ -/
namespace L2
open PySem PySem.Spec PySem.W PyProof.Rows
/-! sorting by a strict order -/
structure StrictOn (n : Nat) (lt : Nat → Nat → Bool) : Prop where
  asym : ∀ i j, i < n → j < n → lt i j = true → lt j i = false
  tr : ∀ i j k, i < n → j < n → k < n → lt i j = true → lt j k = true → lt i k = true
  tot : ∀ i j, i < n → j < n → i ≠ j → lt i j = true ∨ lt j i = true
abbrev pAt (p : Array Nat) (i : Nat) : Nat := p.getD i 0
structure Good (n : Nat) (p : Array Nat) : Prop where
  size : p.size = n
  perm : p.toList.Perm (List.range n)
def Up (lt : Nat → Nat → Bool) (p : Array Nat) (m : Nat) : Prop := ∀ i j, i < j → j < m → lt (pAt p i) (pAt p j) = true
def Dn (lt : Nat → Nat → Bool) (p : Array Nat) (m : Nat) : Prop := ∀ i j, i < j → j < m → lt (pAt p j) (pAt p i) = true
theorem pAt_eq {p : Array Nat} {i : Nat} (h : i < p.size) : pAt p i = p[i] := by simp [pAt, h]
theorem pAt_of {p q : Array Nat} {i j : Nat} (h : p[i]? = q[j]?) : pAt p i = pAt q j := by
  unfold pAt
  rw [Array.getD_eq_getD_getElem?, Array.getD_eq_getD_getElem?, h]
section
variable {n : Nat} {lt : Nat → Nat → Bool} {p : Array Nat}
theorem Good.bnd (g : Good n p) {i : Nat} (hi : i < n) : pAt p i < n := by
  have hs : i < p.size := by rw [g.size]; exact hi
  rw [pAt_eq hs]
  exact List.mem_range.mp (g.perm.mem_iff.mp (by simp))
theorem Good.ne (g : Good n p) {i j : Nat} (hi : i < n) (hj : j < n) (h : i ≠ j) : pAt p i ≠ pAt p j := by
  have nd : p.toList.Nodup := g.perm.nodup_iff.mpr List.nodup_range
  have key : ∀ a b, a < b → b < n → pAt p a ≠ pAt p b := fun a b hab hb => by
    have h1 : b < p.size := by rw [g.size]; exact hb
    have h0 : a < p.size := by omega
    rw [pAt_eq h0, pAt_eq h1]
    have := List.pairwise_iff_getElem.mp nd a b (by simpa using h0) (by simpa using h1) hab
    simpa using this
  rcases Nat.lt_or_gt_of_ne h with z | z
  · exact key i j z hj
  · exact (key j i z hi).symm
theorem Good.of (g : Good n p) {q : Array Nat} (h : q.Perm p) : Good n q := ⟨by rw [h.size_eq]; exact g.size, (Array.perm_iff_toList_perm.mp h).trans g.perm⟩
theorem Up.succ (O : StrictOn n lt) (g : Good n p) {m : Nat} (u : Up lt p m) (h1 : 1 ≤ m) (hm : m < n) (h : lt (pAt p (m - 1)) (pAt p m) = true) : Up lt p (m + 1) := fun i j hij hj => by
  by_cases q : j < m
  · exact u i j hij q
  · have e : j = m := by omega
    subst e
    by_cases z : i = j - 1
    · rw [z]; exact h
    · exact O.tr _ _ _ (g.bnd (by omega)) (g.bnd (by omega)) (g.bnd hm) (u i (j - 1) (by omega) (by omega)) h
theorem Dn.succ (O : StrictOn n lt) (g : Good n p) {m : Nat} (u : Dn lt p m) (h1 : 1 ≤ m) (hm : m < n) (h : lt (pAt p m) (pAt p (m - 1)) = true) : Dn lt p (m + 1) := fun i j hij hj => by
  by_cases q : j < m
  · exact u i j hij q
  · have e : j = m := by omega
    subst e
    by_cases z : i = j - 1
    · rw [z]; exact h
    · exact O.tr _ _ _ (g.bnd hm) (g.bnd (by omega)) (g.bnd (by omega)) h (u i (j - 1) (by omega) (by omega))
theorem rev_at {m k : Nat} (hm : m ≤ p.size) : pAt (kas_rev p 0 m) k = if k < m then pAt p (m - 1 - k) else pAt p k := by
  have e := getElem?_mirror_all (xs := p) (i := 0) hm k
  by_cases h : k < m
  · rw [if_pos ⟨Nat.zero_le _, h⟩, Nat.zero_add] at e
    rw [if_pos h]
    exact pAt_of e
  · rw [if_neg (fun z => h z.2)] at e
    rw [if_neg h]
    exact pAt_of e
theorem Dn.rev (g : Good n p) {m : Nat} (u : Dn lt p m) (hm : m ≤ n) : Up lt (kas_rev p 0 m) m := fun i j hij hj => by
  have hs : m ≤ p.size := by rw [g.size]; exact hm
  rw [rev_at hs, rev_at hs, if_pos (by omega), if_pos hj]
  exact u (m - 1 - j) (m - 1 - i) (by omega) (by omega)
theorem bub_at {k l x : Nat} (hk : k < p.size) (hl : l ≤ k) : pAt (bubble p k (k - l)) x = if x = l then pAt p k else if l < x ∧ x ≤ k then pAt p (x - 1) else pAt p x := by
  have e := getElem?_bubble hk (k - l) (by omega) x
  rw [show k - (k - l) = l by omega] at e
  by_cases h1 : x = l
  · rw [if_pos h1] at e ⊢; exact pAt_of e
  · rw [if_neg h1] at e ⊢
    by_cases h2 : l < x ∧ x ≤ k
    · rw [if_pos h2] at e ⊢; exact pAt_of e
    · rw [if_neg h2] at e ⊢; exact pAt_of e
theorem Up.bub (g : Good n p) {k l : Nat} (u : Up lt p k) (hk : k < n) (hl : l ≤ k) (h1 : ∀ i, i < l → lt (pAt p i) (pAt p k) = true) (h2 : ∀ i, l ≤ i → i < k → lt (pAt p k) (pAt p i) = true) : Up lt (bubble p k (k - l)) (k + 1) := fun i j hij hj => by
  have hs : k < p.size := by rw [g.size]; exact hk
  rw [bub_at hs hl, bub_at hs hl]
  by_cases a : i = l
  · rw [if_pos a, if_neg (by omega), if_pos ⟨by omega, by omega⟩]
    exact h2 (j - 1) (by omega) (by omega)
  · rw [if_neg a]
    by_cases b : j = l
    · rw [if_pos b, if_neg (by omega)]
      exact h1 i (by omega)
    · rw [if_neg b]
      by_cases c : l < i
      · rw [if_pos ⟨c, by omega⟩, if_pos ⟨by omega, by omega⟩]
        exact u (i - 1) (j - 1) (by omega) (by omega)
      · rw [if_neg (by omega)]
        by_cases d : l < j
        · rw [if_pos ⟨d, by omega⟩]
          exact u i (j - 1) (by omega) (by omega)
        · rw [if_neg (by omega)]
          exact u i j hij (by omega)
end
section
variable {n : Nat} {lt : Nat → Nat → Bool} {cmp : Nat → Nat → (Bool → Shared → Prop) → Shared → Prop} {s : Shared}
theorem asc_ok (O : StrictOn n lt) (hc : ∀ i j C, i < n → j < n → i ≠ j → C (lt i j) s → cmp i j C s) {p : Array Nat} (g : Good n p) {Q : Nat → Shared → Prop} : ∀ (f m : Nat), 1 ≤ m → m + f = n → Up lt p m →
    (∀ m', m ≤ m' → m' ≤ n → Up lt p m' → (m' < n → lt (pAt p m') (pAt p (m' - 1)) = true) → Q m' s) → (kas_asc p f m).kasWp cmp Q s
  | 0, m, h1, hn, u, q => q m (Nat.le_refl _) (by omega) u (fun z => absurd z (by omega))
  | f + 1, m, h1, hn, u, q => by
    show cmp (pAt p m) (pAt p (m - 1)) _ s
    refine hc _ _ _ (g.bnd (by omega)) (g.bnd (by omega)) (g.ne (by omega) (by omega) (show m ≠ m - 1 by omega)) ?_
    cases h : lt (pAt p m) (pAt p (m - 1)) with
    | true => exact q m (Nat.le_refl _) (by omega) u fun _ => h
    | false =>
      have h' : lt (pAt p (m - 1)) (pAt p m) = true := (O.tot _ _ (g.bnd (by omega)) (g.bnd (by omega)) (g.ne (by omega) (by omega) (show m - 1 ≠ m by omega))).resolve_right (by rw [h]; exact Bool.false_ne_true)
      exact asc_ok O hc g f (m + 1) (by omega) (by omega) (u.succ O g h1 (by omega) h') fun m' a b => q m' (by omega) b
theorem desc_ok (O : StrictOn n lt) (hc : ∀ i j C, i < n → j < n → i ≠ j → C (lt i j) s → cmp i j C s) {p : Array Nat} (g : Good n p) {Q : Array Nat × Nat × Nat → Shared → Prop} : ∀ (f m : Nat), 1 ≤ m → m + f = n → Dn lt p m →
    (∀ m', m ≤ m' → m' ≤ n → Dn lt p m' → Q (p, m', 0) s) → (kas_desc f p m 0).kasWp cmp Q s
  | 0, m, h1, hn, u, q => q m (Nat.le_refl _) (by omega) u
  | f + 1, m, h1, hn, u, q => by
    show cmp (pAt p m) (pAt p (m - 1)) _ s
    refine hc _ _ _ (g.bnd (by omega)) (g.bnd (by omega)) (g.ne (by omega) (by omega) (show m ≠ m - 1 by omega)) ?_
    cases h : lt (pAt p m) (pAt p (m - 1)) with
    | true => exact desc_ok O hc g f (m + 1) (by omega) (by omega) (u.succ O g h1 (by omega) h) fun m' a b => q m' (by omega) b
    | false =>
      have h' : lt (pAt p (m - 1)) (pAt p m) = true := (O.tot _ _ (g.bnd (by omega)) (g.bnd (by omega)) (g.ne (by omega) (by omega) (show m - 1 ≠ m by omega))).resolve_right (by rw [h]; exact Bool.false_ne_true)
      show cmp (pAt p (m - 1)) (pAt p m) _ s
      refine hc _ _ _ (g.bnd (by omega)) (g.bnd (by omega)) (g.ne (by omega) (by omega) (show m - 1 ≠ m by omega)) ?_
      rw [h']
      exact q m (Nat.le_refl _) (by omega) u
theorem tail_ok (O : StrictOn n lt) (hc : ∀ i j C, i < n → j < n → i ≠ j → C (lt i j) s → cmp i j C s) {p : Array Nat} (g : Good n p) {m : Nat} {Q : Nat × Array Nat → Shared → Prop} (h1 : 1 ≤ m) (hm : m ≤ n) (u : Dn lt p m)
    (q : ∀ m' p', 1 ≤ m' → m' ≤ n → Good n p' → Up lt p' m' → Q (m', p') s) : (kas_tail3 m n p).kasWp cmp Q s := by
  unfold kas_tail3
  rw [KasT.kasWp_bind]
  have g' : Good n (kas_rev p 0 m) := g.of (mirror_perm _ _ _ _)
  exact asc_ok O hc g' (n - m) m h1 (by omega) (u.rev g hm) fun m' a b u' _ => q m' _ (by omega) b g' u'
theorem count_run (O : StrictOn n lt) (hc : ∀ i j C, i < n → j < n → i ≠ j → C (lt i j) s → cmp i j C s) (hn : 1 ≤ n) {p : Array Nat} (g : Good n p) {Q : Nat × Array Nat → Shared → Prop}
    (q : ∀ m' p', 1 ≤ m' → m' ≤ n → Good n p' → Up lt p' m' → Q (m', p') s) : (kas_count n p).kasWp cmp Q s := by
  unfold kas_count
  rw [KasT.kasWp_bind]
  refine asc_ok O hc g (n - 1) 1 (Nat.le_refl _) (by omega) (fun i j a b => absurd a (by omega)) fun m a b u last => ?_
  by_cases e : m = n
  · rw [if_pos (by simp [e])]
    exact q m p a b g u
  · rw [if_neg (by simp [e])]
    by_cases c : m > 1
    · rw [if_pos c]
      show cmp (pAt p 0) (pAt p (m - 1)) _ s
      refine hc _ _ _ (g.bnd (by omega)) (g.bnd (by omega)) (g.ne (by omega) (by omega) (show 0 ≠ m - 1 by omega)) ?_
      rw [u 0 (m - 1) (by omega) (by omega)]
      exact q m p a b g u
    · rw [if_neg c]
      have e1 : m = 1 := by omega
      subst e1
      unfold kas_descPart
      rw [KasT.kasWp_bind]
      have d2 : Dn lt p (1 + 1) := fun i j hij hj => by
        have : i = 0 ∧ j = 1 := by omega
        rw [this.1, this.2]
        exact last (by omega)
      refine desc_ok O hc g (n - (1 + 1)) (1 + 1) (by omega) (by omega) d2 fun m' a' b' d' => ?_
      exact tail_ok (m := m') O hc g (Nat.le_trans (by decide) a') b' d' q
theorem place_ok (O : StrictOn n lt) (hc : ∀ i j C, i < n → j < n → i ≠ j → C (lt i j) s → cmp i j C s) {p : Array Nat} (g : Good n p) {k : Nat} (hk : k < n) (u : Up lt p k) {Q : Nat → Shared → Prop} : ∀ (f l r : Nat), l ≤ r → r ≤ k → r - l ≤ f →
    (∀ i, i < l → lt (pAt p i) (pAt p k) = true) → (∀ i, r ≤ i → i < k → lt (pAt p k) (pAt p i) = true) →
    (∀ l', l' ≤ k → (∀ i, i < l' → lt (pAt p i) (pAt p k) = true) → (∀ i, l' ≤ i → i < k → lt (pAt p k) (pAt p i) = true) → Q l' s) → (kas_place p k f l r).kasWp cmp Q s
  | 0, l, r, hl, hr, hf, h1, h2, q => q l (by omega) h1 fun i a b => h2 i (by omega) b
  | f + 1, l, r, hl, hr, hf, h1, h2, q => by
    unfold kas_place
    by_cases e : l ≥ r
    · rw [if_pos e]
      exact q l (by omega) h1 fun i a b => h2 i (by omega) b
    · rw [if_neg e]
      show cmp (pAt p k) (pAt p ((l + r) / 2)) _ s
      refine hc _ _ _ (g.bnd hk) (g.bnd (by omega)) (g.ne hk (by omega) (show k ≠ (l + r) / 2 by omega)) ?_
      cases h : lt (pAt p k) (pAt p ((l + r) / 2)) with
      | true =>
        refine place_ok O hc g hk u f l ((l + r) / 2) (by omega) (by omega) (by omega) h1 (fun i a b => ?_) q
        by_cases z : i = (l + r) / 2
        · rw [z]; exact h
        · exact O.tr _ _ _ (g.bnd hk) (g.bnd (by omega)) (g.bnd (by omega)) h (u _ i (by omega) b)
      | false =>
        have h' : lt (pAt p ((l + r) / 2)) (pAt p k) = true := (O.tot _ _ (g.bnd (by omega)) (g.bnd hk) (g.ne (by omega) hk (by omega))).resolve_right (by rw [h]; exact Bool.false_ne_true)
        refine place_ok O hc g hk u f ((l + r) / 2 + 1) r (by omega) hr (by omega) (fun i a => ?_) h2 q
        by_cases z : i = (l + r) / 2
        · rw [z]; exact h'
        · exact O.tr _ _ _ (g.bnd (by omega)) (g.bnd (by omega)) (g.bnd hk) (u i _ (by omega) (by omega)) h'
theorem bin_ok (O : StrictOn n lt) (hc : ∀ i j C, i < n → j < n → i ≠ j → C (lt i j) s → cmp i j C s) {Q : Array Nat → Shared → Prop} (q : ∀ p', Good n p' → Up lt p' n → Q p' s) : ∀ (f k : Nat) (p : Array Nat), Good n p → k + f = n → Up lt p k → (kas_bin f p k).kasWp cmp Q s
  | 0, k, p, g, hn, u => q p g (by rw [← show k = n by omega]; exact u)
  | f + 1, k, p, g, hn, u => by
    show ((kas_place p k k 0 k).bind fun l => kas_bin f (bubble p k (k - l)) (k + 1)).kasWp cmp Q s
    rw [KasT.kasWp_bind]
    refine place_ok O hc g (by omega) u k 0 k (Nat.zero_le _) (Nat.le_refl _) (by omega) (fun i z => absurd z (by omega)) (fun i a b => absurd b (by omega)) fun l a h1 h2 => ?_
    exact bin_ok O hc q f (k + 1) _ (g.of (bubble_perm _ _ _)) (by omega) (u.bub g (by omega) a h1 h2)
theorem sort_ok (O : StrictOn n lt) (hc : ∀ i j C, i < n → j < n → i ≠ j → C (lt i j) s → cmp i j C s) (hn : 1 ≤ n) {Q : Array Nat → Shared → Prop} (q : ∀ p', Good n p' → Up lt p' n → Q p' s) : (kas_sort n).kasWp cmp Q s := by
  unfold kas_sort
  rw [KasT.kasWp_bind]
  have g0 : Good n (List.toArray (List.range n)) := ⟨by simp, by simp⟩
  refine count_run O hc hn g0 fun m p h1 hm g u => ?_
  by_cases e : m < n
  · rw [if_pos e]
    have e1 : max m 1 = m := by omega
    show (kas_bin (n - max m 1) p (max m 1)).kasWp cmp Q s
    rw [e1]
    exact bin_ok O hc q (n - m) m p g (by omega) u
  · rw [if_neg e]
    exact q p g (by rw [← show m = n by omega]; exact u)
end
section
variable {prog : Program} {w : World} {A : Around} {E : Value → Shared → Prop} {s : Shared}
/-- the list's own sort, of tuples told apart by a strict order of their places -/
theorem sort_items {a : Addr} {us : List Value} {c : Nat} {lt : Nat → Nat → Bool} {R : PySem.Fin → Shared → Prop} (ho : s.heap.get? a = some (seqObj "list" us.toArray c)) (h64 : us.length < 64) (O : StrictOn us.length lt)
    (hk : 2 ≤ us.length → ∀ h' : Heap, (∀ b o, b ≠ a → s.heap.get? b = some o → h'.get? b = some o) → ∃ fs, KatTups h' us fs ∧ fs.length = us.length ∧ ∀ v ∈ fs, ∃ n t, v = Value.int n t)
    (hl : ∀ h' : Heap, (∀ b o, b ≠ a → s.heap.get? b = some o → h'.get? b = some o) → ∀ i j C, i < us.length → j < us.length → i ≠ j → C (lt i j) { s with heap := h' } → kas_ask prog w A (tuples' true) us i j C { s with heap := h' })
    (hR : ∀ p, Good us.length p → Up lt p us.length → R (.done (.ret .none)) { s with heap := sortedHeap s.heap a us (p.toList.map fun i => us.getD i Value.none).toArray }) :
    wpAny (model prog w) A (Builtin.«list.sort» ⟨[.ref a], []⟩) R E s := by
  rw [list_sort_plain]
  have alt : a < s.heap.objs.size := Heap.lt_size ho
  refine wpAny_bind (m := Builtin.List.listItems (.ref a)) (listItems_at ho rfl ?_)
  refine wpAny_bind (m := Builtin.List.listUpdate (.ref a) _) (listUpdate_at ho rfl ?_)
  obtain ⟨e1, o1⟩ : ∃ e1, (s.heap.update a (Obj.mapSeq fun _ => #[])).get? a = some (seqObj "list" #[] e1) := ⟨_, get?_update_seq ho fun _ => #[]⟩
  refine wpAny_bind (m := seqEpoch a) (seqEpoch_at o1 rfl ?_)
  refine wpAny_bind (m := newTuple _) (wpAny_newTuple ?_)
  refine wpAny_bind (m := newList []) (wpAny_newList ?_)
  refine wpAny_holding ?_
  have o2 : (((s.heap.update a (Obj.mapSeq fun _ => #[])).push (seqObj "tuple" us.toArray 0)).push (seqObj "list" #[] 0)).get? a = some (seqObj "list" #[] e1) :=
    Heap.get?_push_of_some _ (Heap.get?_push_of_some _ o1)
  have kept : ∀ b o, b ≠ a → s.heap.get? b = some o → (((s.heap.update a (Obj.mapSeq fun _ => #[])).push (seqObj "tuple" us.toArray 0)).push (seqObj "list" #[] 0)).get? b = some o :=
    fun b o hb e => Heap.get?_push_of_some _ (Heap.get?_push_of_some _ ((Heap.get?_update_ne _ _ _ _ hb).trans e))
  show wpAny (model prog w) A _ R E { s with heap := ((s.heap.update a (Obj.mapSeq fun _ => #[])).push (seqObj "tuple" us.toArray 0)).push (seqObj "list" #[] 0) }
  dsimp only
  have hsz : us.toArray.size = us.length := by simp
  by_cases h2 : us.toArray.size < 2
  · rw [if_pos h2, if_pos h2]
    refine wpAny_bind (m := pure _) (wpAny_pure ?_)
    rw [StateT.run_pure]
    refine wpAny_bind (m := pure _) (wpAny_pure ?_)
    dsimp only
    refine wpAny_bind (m := seqEpoch a) (seqEpoch_at o2 rfl ?_)
    refine wpAny_bind (m := Builtin.List.listUpdate (.ref a) _) (listUpdate_at o2 rfl ?_ (hsz2 := by rw [Array.size_map]; show (pairsOf us).size ≤ _; rw [pairsOf_size, sizeLine_eq]; omega))
    simp only [bne_self_eq_false, Bool.false_eq_true, if_false]
    have q := hR (List.toArray (List.range us.length)) ⟨by simp, by simp⟩ (fun i j a b => absurd b (by omega))
    have e2 : (List.map (fun i => us.getD i Value.none) (List.toArray (List.range us.length)).toList).toArray = (us.toArray.zip us.toArray).map (·.2) := by
      apply Array.toList_inj.mp
      rw [Array.toList_map, Array.toList_zip]
      show List.map _ (List.range us.length) = List.map _ (us.zip us)
      rw [List.map_snd_zip (Nat.le_refl _)]
      apply List.ext_getElem?
      intro i
      rw [List.getElem?_map]
      by_cases hi : i < us.length
      · rw [List.getElem?_range hi, List.getElem?_eq_getElem hi]
        simp [hi]
      · rw [List.getElem?_eq_none (by simpa using hi), List.getElem?_eq_none (by omega)]
        rfl
    rw [e2] at q
    exact wpAny_pure q
  · rw [if_neg h2, if_neg h2]
    have two : 2 ≤ us.length := by omega
    obtain ⟨fs, kt, kl, ki⟩ := hk two _ kept
    refine wpAny_bind (m := keyKind' us.toArray) (kat_kind (T := .type "int") kt (by omega) (fun v hv => ?_) rfl ?_)
    · obtain ⟨n, t, rfl⟩ := ki v hv
      exact .now
    refine wpAny_bind (wpAny_mono (kat_run (κ := tuples' true) (ks := us) (vs := us)
      (Q := fun st' s' => ∃ p, Good us.length p ∧ Up lt p us.length ∧ (arrOf st').map (·.2) = List.toArray (p.toList.map fun i => us.getD i Value.none) ∧ failedOf st' = none ∧
        s' = { s with heap := ((s.heap.update a (Obj.mapSeq fun _ => #[])).push (seqObj "tuple" us.toArray 0)).push (seqObj "list" #[] 0) })
      (G := fun p s' => Good us.length p ∧ Up lt p us.length ∧ s' = { s with heap := ((s.heap.update a (Obj.mapSeq fun _ => #[])).push (seqObj "tuple" us.toArray 0)).push (seqObj "list" #[] 0) })
      rfl two h64 (fun p st' s' _ a2 a3 a4 => ⟨p, a4.1, a4.2.1, kat_snds rfl a2, a3, a4.2.2⟩) (sort_ok O (hl _ kept) (by omega) fun p g u => ⟨g, u, rfl⟩)) ?_ fun _ _ e => e)
    rintro ⟨⟨⟩, st'⟩ s' ⟨p, g, u, ep, hf, rfl⟩
    dsimp only
    refine wpAny_bind (m := seqEpoch a) (seqEpoch_at o2 rfl ?_)
    refine wpAny_bind (m := Builtin.List.listUpdate (.ref a) _) (listUpdate_at o2 rfl ?_ (hsz2 := by rw [ep, List.size_toArray, List.length_map, Array.length_toList, g.size, sizeLine_eq]; omega))
    rw [hf]
    simp only [bne_self_eq_false, Bool.false_eq_true, if_false]
    have q := hR p g u
    rw [← ep] at q
    exact wpAny_pure q
theorem sorted_items {l : Addr} {us : List Value} {lt : Nat → Nat → Bool} {Q : Value → Shared → Prop} (hl : s.heap.IsList l us.toArray) (h64 : us.length < 64) (O : StrictOn us.length lt)
    (hk : 2 ≤ us.length → ∀ h' : Heap, (∀ b o, s.heap.get? b = some o → h'.get? b = some o) → ∃ fs, KatTups h' us fs ∧ fs.length = us.length ∧ ∀ v ∈ fs, ∃ n t, v = Value.int n t)
    (hc : ∀ (A' : Around) (h' : Heap), (∀ b o, s.heap.get? b = some o → h'.get? b = some o) → ∀ i j C, i < us.length → j < us.length → i ≠ j → C (lt i j) { s with heap := h' } → kas_ask prog w A' (tuples' true) us i j C { s with heap := h' })
    (hQ : ∀ p, Good us.length p → Up lt p us.length → Q (.ref (s.heap.objs.size + 1)) { s with heap := sortedAll s.heap us (p.toList.map fun i => us.getD i Value.none).toArray }) :
    wpAny (model prog w) A (call (.builtin "sorted") [.ref l]) Q E s := by
  refine Calls.call_function_entry (id := "sorted") kind_sorted plain_sorted entry_sorted (args_sorted1 _) ?_
  unfold Builtin.«sorted»
  refine wpAny_bind (m := checkCount "sorted" 1 1 _) (wpAny_pure (wpAny_bind (m := collect _) (collect_list hl ?_)))
  refine wpAny_bind (m := newList _) (wpAny_newList ?_)
  have z1 : ((s.heap.push (seqObj "list" #[] 0)).update s.heap.objs.size (Obj.mapSeq (· ++ us.toArray))).objs.size = s.heap.objs.size + 1 := (Heap.size_update ..).trans (size_push' ..)
  have oL : (((s.heap.push (seqObj "list" #[] 0)).update s.heap.objs.size (Obj.mapSeq (· ++ us.toArray))).push (seqObj "list" us.toArray 0)).get? (s.heap.objs.size + 1) = some (seqObj "list" us.toArray 0) := by
    have z := Heap.get?_push_size (o := seqObj "list" us.toArray 0) ((s.heap.push (seqObj "list" #[] 0)).update s.heap.objs.size (Obj.mapSeq (· ++ us.toArray))) rfl
    rw [z1] at z
    exact z
  have old : ∀ b o, s.heap.get? b = some o → (((s.heap.push (seqObj "list" #[] 0)).update s.heap.objs.size (Obj.mapSeq (· ++ us.toArray))).push (seqObj "list" us.toArray 0)).get? b = some o := fun b o e =>
    Heap.get?_push_of_some _ ((Heap.get?_update_ne _ _ _ _ (Nat.ne_of_lt (Heap.lt_size e))).trans (Heap.get?_push_of_some _ e))
  have nb : ∀ b o, s.heap.get? b = some o → b ≠ s.heap.objs.size + 1 := fun b o e => Nat.ne_of_lt (Nat.lt_succ_of_lt (Heap.lt_size e))
  show wpAny (model prog w) _ _ _ _ { s with heap := ((s.heap.push (seqObj "list" #[] 0)).update s.heap.objs.size (Obj.mapSeq (· ++ us.toArray))).push (seqObj "list" us.toArray 0) }
  rw [z1]
  refine wpAny_bind (wpAny_holding (wpAny_call_entry slot_list_sort ⟨_, oL, rfl⟩ entry_list_sort (sort_items oL h64 O (fun two h' k => hk two h' fun b o e => k b o (nb b o e) (old b o e)) (fun h' k => hc _ h' fun b o e => k b o (nb b o e) (old b o e))
    fun p g u => ⟨_, rfl, ?_⟩) (args_list_sort _)))
  exact wpAny_pure ⟨_, rfl, hQ p g u⟩
end
theorem refs_of {bs : List Addr} : ∀ {us : List Value}, Vals (bs.map V.ref) us → us = bs.map Value.ref := by
  induction bs with
  | nil => intro us r; cases r; rfl
  | cons b bs ih =>
    intro us r
    cases r with
    | cons r1 r2 =>
      cases r1
      rw [ih r2]
      rfl
theorem three_of {i j : Int} {z : V} {us : List Value} (r : Vals [.int i, .int j, z] us) : ∃ t t' u, us = [.int i t, .int j t', u] := by
  cases r with
  | cons r1 r =>
    cases r with
    | cons r2 r =>
      cases r with
      | cons r3 r =>
        cases r
        obtain ⟨t, rfl⟩ := r1
        obtain ⟨t', rfl⟩ := r2
        exact ⟨t, t', _, rfl⟩
section
variable {X : Cx}
abbrev ltK (k1 k2 : Addr → Int) (a b : Addr) : Prop := k1 a < k1 b ∨ (k1 a = k1 b ∧ k2 a < k2 b)
def ltB (k1 k2 : Addr → Int) (bs : List Addr) (i j : Nat) : Bool := decide (ltK k1 k2 (bs.getD i 0) (bs.getD j 0))
theorem strict_ltB {k1 k2 : Addr → Int} {bs : List Addr} (h : bs.Pairwise fun a b => k1 a ≠ k1 b ∨ k2 a ≠ k2 b) : StrictOn bs.length (ltB k1 k2 bs) where
  asym := fun i j _ _ h => by
    have h := of_decide_eq_true h
    refine decide_eq_false ?_
    unfold ltK at h ⊢
    omega
  tr := fun i j k _ _ _ h g => by
    have h := of_decide_eq_true h
    have g := of_decide_eq_true g
    refine decide_eq_true ?_
    unfold ltK at h g ⊢
    omega
  tot := fun i j hi hj hne => by
    have key : ∀ a b, a < b → b < bs.length → k1 (bs.getD a 0) ≠ k1 (bs.getD b 0) ∨ k2 (bs.getD a 0) ≠ k2 (bs.getD b 0) := fun a b hab hb => by
      have q := List.pairwise_iff_getElem.mp h a b (by omega) hb hab
      rw [List.getD_eq_getElem?_getD, List.getD_eq_getElem?_getD, List.getElem?_eq_getElem hb, List.getElem?_eq_getElem (show a < bs.length by omega)]
      exact q
    have d : k1 (bs.getD i 0) ≠ k1 (bs.getD j 0) ∨ k2 (bs.getD i 0) ≠ k2 (bs.getD j 0) := by
      rcases Nat.lt_or_gt_of_ne hne with z | z
      · exact key i j z hj
      · have := key j i z hi
        omega
    by_cases c : ltK k1 k2 (bs.getD i 0) (bs.getD j 0)
    · exact .inl (decide_eq_true c)
    · refine .inr (decide_eq_true ?_)
      unfold ltK at c ⊢
      omega
theorem kat_refs {h : Heap} {k1 : Addr → Int} : ∀ {bs : List Addr}, (∀ b ∈ bs, ∃ o xs n t, h.get? b = some o ∧ o.cls = .type "tuple" ∧ o.data = .seq xs n ∧ xs[0]? = some (Value.int (k1 b) t)) → ∃ fs, KatTups h (bs.map Value.ref) fs ∧ fs.length = (bs.map Value.ref).length ∧ ∀ v ∈ fs, ∃ n t, v = Value.int n t
  | [], _ => ⟨[], .nil, rfl, fun v hv => absurd hv (by simp)⟩
  | b :: bs, hb => by
    obtain ⟨fs, h1, h2, h3⟩ := kat_refs (bs := bs) fun c hc => hb c (List.mem_cons_of_mem _ hc)
    obtain ⟨o, xs, n, t, g1, g2, g3, g4⟩ := hb b List.mem_cons_self
    refine ⟨.int (k1 b) t :: fs, KatTups.cons g1 g2 g3 g4 h1, by simp [h2], fun v hv => ?_⟩
    rcases List.mem_cons.mp hv with z | z
    · exact ⟨_, _, z⟩
    · exact h3 v z
theorem ck_sortedT : CallR X (.builtin "sorted") (fun xs H Q => ∃ (p : Addr) (bs : List Addr) (k1 k2 : Addr → Int) (z : Addr → V), xs = [.ref p] ∧ SqL X.K H p (bs.map V.ref) ∧ bs.length < 64 ∧ (∀ b ∈ bs, SqT X.K H b [.int (k1 b), .int (k2 b), z b]) ∧
    bs.Pairwise (fun a b => k1 a ≠ k1 b ∨ k2 a ≠ k2 b) ∧ ∀ (r : Addr) (cs : List Addr), H r = none → cs.Perm bs → cs.Pairwise (ltK k1 k2) → Q (.ref r) (upd H r (.lst (cs.map V.ref)))) := by
  intro pins s σ H xs us Q I r h
  obtain ⟨p, bs, k1, k2, z, rfl, hp, h64, hT, hd, q⟩ := h
  obtain ⟨u, rfl, ru⟩ := vals1 r
  cases ru
  obtain ⟨its, rv, pl, hz⟩ := I.list hp
  obtain rfl : its = bs.map Value.ref := refs_of rv
  have hlen : (bs.map Value.ref).length = bs.length := List.length_map _
  have O := strict_ltB hd
  have at_ : ∀ i, i < bs.length → (bs.map Value.ref).getD i Value.none = .ref (bs.getD i 0) ∧ bs.getD i 0 ∈ bs := fun i hi => by
    rw [List.getD_eq_getElem?_getD, List.getD_eq_getElem?_getD, List.getElem?_map, List.getElem?_eq_getElem hi]
    exact ⟨rfl, List.getElem_mem hi⟩
  have tup : ∀ (h' : Heap), (∀ b o, s.heap.get? b = some o → h'.get? b = some o) → ∀ b ∈ bs, ∃ t t' v o n, h'.get? b = some o ∧ o.cls = .type "tuple" ∧ o.data = .seq #[.int (k1 b) t, .int (k2 b) t', v] n := fun h' k b hb => by
    obtain ⟨jts, rj, pt, _⟩ := I.tuple (hT b hb)
    obtain ⟨t, t', v, rfl⟩ := three_of rj
    obtain ⟨o, g1, g2, n, g3⟩ := (show s.heap.IsTuple b _ from pt)
    exact ⟨t, t', v, o, n, k b o g1, g2, g3⟩
  refine sorted_items (lt := ltB k1 k2 bs) pl.isList (by rw [hlen]; exact h64) (by rw [hlen]; exact O) (fun _ h' k => kat_refs (k1 := k1) fun b hb => ?_) (fun A' h' k i j C hi hj hij hC => ?_) fun pm g up => ?_
  · obtain ⟨t, t', v, o, n, g1, g2, g3⟩ := tup h' k b hb
    exact ⟨o, _, n, t, g1, g2, g3, rfl⟩
  · rw [hlen] at hi hj
    unfold kas_ask
    rw [(at_ i hi).1, (at_ j hj).1]
    obtain ⟨t, t', v, o, n, g1, g2, g3⟩ := tup h' k _ (at_ i hi).2
    obtain ⟨e, e', v', o', n', f1, f2, f3⟩ := tup h' k _ (at_ j hj).2
    refine kat_lt (s := { s with heap := h' }) g1 g3 f1 f3 (kat_cons (wpAny_eqBool_int ?_))
    have dist : k1 (bs.getD i 0) ≠ k1 (bs.getD j 0) ∨ k2 (bs.getD i 0) ≠ k2 (bs.getD j 0) := by
      rcases O.tot i j hi hj hij with w1 | w1
      · have w1 := of_decide_eq_true w1
        unfold ltK at w1
        omega
      · have w1 := of_decide_eq_true w1
        unfold ltK at w1
        omega
    unfold ltB at hC
    by_cases c : k1 (bs.getD i 0) = k1 (bs.getD j 0)
    · rw [show (k1 (bs.getD i 0) == k1 (bs.getD j 0)) = true from beq_iff_eq.mpr c]
      refine kat_yes (kat_cons (wpAny_eqBool_int ?_))
      rw [show (k2 (bs.getD i 0) == k2 (bs.getD j 0)) = false from beq_eq_false_iff_ne.mpr (by omega)]
      refine kat_no ?_
      show wpAny _ _ (oneLt' false _ _) _ _ _
      refine kat_one _ _ (lt_int ?_)
      have e0 : decide (ltK k1 k2 (bs.getD i 0) (bs.getD j 0)) = decide (k2 (bs.getD i 0) < k2 (bs.getD j 0)) := decide_eq_decide.mpr (by unfold ltK; omega)
      rw [e0] at hC
      exact hC
    · rw [show (k1 (bs.getD i 0) == k1 (bs.getD j 0)) = false from beq_eq_false_iff_ne.mpr c]
      refine kat_no ?_
      show wpAny _ _ (oneLt' true _ _) _ _ _
      refine oneLt_int ?_
      have e0 : decide (ltK k1 k2 (bs.getD i 0) (bs.getD j 0)) = decide (k1 (bs.getD i 0) < k1 (bs.getD j 0)) := decide_eq_decide.mpr (by unfold ltK; omega)
      rw [e0] at hC
      exact hC
  · rw [hlen] at g up
    obtain ⟨ep, hat⟩ := sortedAll_at s.heap (bs.map Value.ref) (pm.toList.map fun i => (bs.map Value.ref).getD i Value.none).toArray
    have eo : (pm.toList.map fun i => (bs.map Value.ref).getD i Value.none) = (pm.toList.map fun i => bs.getD i 0).map Value.ref := by
      rw [List.map_map]
      exact List.map_congr_left fun i hi => (at_ i (List.mem_range.mp (g.perm.mem_iff.mp hi))).1
    have hn : H (s.heap.objs.size + 1) = none := I.hok.fresh (Nat.le_succ _)
    have perm : (pm.toList.map fun i => bs.getD i 0).Perm bs := by
      refine (g.perm.map _).trans ?_
      have e : (List.range bs.length).map (fun i => bs.getD i 0) = bs := by
        apply List.ext_getElem?
        intro i
        rw [List.getElem?_map]
        by_cases hi : i < bs.length
        · rw [List.getElem?_range hi, List.getElem?_eq_getElem hi]
          show some (bs.getD i 0) = some bs[i]
          rw [List.getD_eq_getElem?_getD, List.getElem?_eq_getElem hi]
          rfl
        · rw [List.getElem?_eq_none (by simpa using hi), List.getElem?_eq_none (by omega)]
          rfl
      rw [e]
    refine ⟨.ref (s.heap.objs.size + 1), _, I.laid (o := .lst ((pm.toList.map fun i => bs.getD i 0).map V.ref)) (t' := s.toks) (fun b o e => sortedAll_old e) (Nat.le_succ _) ?_, rfl, q _ _ hn perm ?_⟩
    · refine ⟨by rw [List.length_map, perm.length_eq]; exact Nat.le_trans (Nat.le_of_lt h64) (by decide), (pm.toList.map fun i => bs.getD i 0).map Value.ref, ep, ?_, by rw [← eo]; exact hat⟩
      generalize pm.toList.map (fun i => bs.getD i 0) = cs
      induction cs with
      | nil => exact .nil
      | cons c cs ih => exact .cons rfl ih
    · rw [List.pairwise_map, List.pairwise_iff_getElem]
      intro i j hi hj hij
      have q := up i j hij (by rw [← g.size, ← Array.length_toList]; exact hj)
      rw [pAt_eq (by rw [← Array.length_toList]; exact hi), pAt_eq (by rw [← Array.length_toList]; exact hj)] at q
      exact of_decide_eq_true q
end
end L2

set_option Elab.async false
set_option linter.all false
set_option maxRecDepth 100000
set_option maxHeartbeats 4000000
set_option autoImplicit false
/-! [e for x in zip(xs, ys)] of two lists of one length; max of a pair -/
namespace L2
open PySem PySem.Spec PyProof.Rows
abbrev ZipO (h : Heap) (z TI TO : Addr) (f0 : Value) (f1 : Bool) : Prop := h.get? z = some { cls := .type "zip", dict := none, data := .fields #[f0, .bool f1, .bool false, .ref TI, .ref TO], slots := #[] }
/-- what the zip remembers of the tuple it gave out -/
def OutOk (f0 : Value) : Prop := f0 = .none ∨ ∃ T : Addr, f0 = rawInt T
section
variable {prog : Program} {w : World} {A : Around} {E : Value → Shared → Prop} {s : Shared}
theorem ld_alive {a : Addr} {Q : Option Obj → Shared → Prop} (h : Q (s.heap.get? a) s) : wpAny (model prog w) A (loadIfAlive a) Q E s := fun _ _ _ => h
theorem zp_free {z TI TO : Addr} {f0 : Value} {f1 : Bool} {Q : Bool → Shared → Prop} (hz : ZipO s.heap z TI TO f0 f1) (hf : OutOk f0) (h1 : Q true s) (h2 : ∀ h' g1, ZipO h' z TI TO f0 g1 → Heap.SameBut z s.heap h' → Q false { s with heap := h' }) :
    wpAny (model prog w) A (Builtin.SmallTypes.ownedTupleIsFree (.ref z)) Q E s := by
  unfold Builtin.SmallTypes.ownedTupleIsFree
  refine wpAny_bind (m := field (.ref z) 0) (wpAny_field hz rfl (x := f0) rfl ?_)
  rcases hf with rfl | ⟨T, rfl⟩
  · exact wpAny_pure h1
  · show wpAny _ _ (loadIfAlive ((T : Int).toNat) >>= _) _ _ _
    rw [Int.toNat_natCast]
    refine wpAny_bind (ld_alive ?_)
    cases hT : s.heap.get? T with
    | none => exact wpAny_pure h1
    | some o =>
      simp only [Option.isNone_some, Bool.false_eq_true, if_false]
      refine wpAny_bind (m := field (.ref z) 1) (wpAny_field hz rfl (x := .bool f1) rfl ?_)
      cases f1 with
      | true =>
        rw [if_neg (show ¬ ((Value.bool true != Value.bool true) = true) by decide)]
        exact wpAny_pure (h2 s.heap true hz (Heap.SameBut.refl _ _))
      | false =>
        rw [if_pos (show (Value.bool false != Value.bool true) = true by decide)]
        exact wpAny_bind (wpAny_setField_rec hz (by simp) fun h3 hz3 hs3 => wpAny_pure (h2 h3 true hz3 hs3))
theorem zp_item {z TI TO i1 i2 l1 l2 : Addr} {k1 k2 : Nat} {xs ys : Array Value} {x y a b f0 : Value} {f1 : Bool} {Q : Value → Shared → Prop} (D : ZipApart z TI TO i1 i2 l1 l2)
    (hz : ZipO s.heap z TI TO f0 f1) (hf : OutOk f0) (hTI : IsPair s.heap TI (.ref i1) (.ref i2)) (hTO : IsPair s.heap TO a b)
    (h1 : s.heap.IsListIter i1 l1 k1) (h2 : s.heap.IsListIter i2 l2 k2) (hl1 : s.heap.IsList l1 xs) (hl2 : s.heap.IsList l2 ys) (hx : xs[k1]? = some x) (hy : ys[k2]? = some y)
    (hQ : ∀ h' g0 g1 c d, ZipO h' z TI TO g0 g1 → OutOk g0 → IsPair h' TO c d → h'.IsListIter i1 l1 (k1 + 1) → h'.IsListIter i2 l2 (k2 + 1) → IsPair h' s.heap.objs.size x y →
      (∀ c o, c ≠ z → c ≠ TO → c ≠ i1 → c ≠ i2 → s.heap.get? c = some o → h'.get? c = some o) → Q (.ref s.heap.objs.size) { s with heap := h' }) :
    wpAny (model prog w) A (Builtin.«zip.__next__» ⟨[.ref z], []⟩) (fun fin s' => ∃ v, fin = .done (.ret v) ∧ Q v s') E s := by
  refine wpAny_bind (m := field (.ref z) 2) (wpAny_field hz rfl (x := .bool false) rfl ?_)
  refine wpAny_bind (m := field (.ref z) 3) (wpAny_field hz rfl (x := .ref TI) rfl ?_)
  refine wpAny_bind (m := seqItems? _) (wpAny_seqItems hTI rfl ?_)
  refine wpAny_bind (m := Builtin.SmallTypes.ownedTupleIsFree (.ref z)) (zp_free hz hf ?_ fun h₀ g1 hz₀ hs₀ => ?_)
  · simp only [if_true]
    refine wpAny_bind (m := rule _) (wpAny_rule ?_)
    refine wpAny_bind (m := field (.ref z) 4) (wpAny_field hz rfl (x := .ref TO) rfl ?_)
    refine wpAny_bind (m := setField (.ref z) 0 _) (wpAny_setField_rec hz (by simp) fun h₁ hz₁ hs₁ => ?_)
    have hz₁ : ZipO h₁ z TI TO .ellipsis f1 := hz₁
    refine wpAny_bind ?_
    simp only [List.zipIdx_cons, List.zipIdx_nil, List.forIn_cons, List.forIn_nil]
    refine wpAny_bind (wpAny_bind (wpAny_onRaise (wpAny_bind (m := Builtin.SmallTypes.nextOf (.ref i1)) (wpAny_nextOf_list_item (h1.extBut hs₁.extBut D.i1z) (hl1.extBut hs₁.extBut D.l1z) hx fun h₂ g₂ hs₂ => wpAny_pure ?_))))
    have t₂ : IsPair h₂ TO a b := hs₂.extBut _ _ D.TOi1 (hs₁.extBut _ _ D.TOz hTO)
    refine wpAny_bind (m := seqItems? _) (wpAny_seqItems t₂ rfl ?_)
    refine wpAny_bind (m := updateSeq _ _) (wpAny_updateSeq_pair t₂ fun h₃ t₃ hs₃ => ?_)
    have t₃ : IsPair h₃ TO x b := t₃
    refine wpAny_bind (m := letGo _) (wpAny_letGo (wpAny_pure ?_))
    refine wpAny_bind (wpAny_bind (wpAny_onRaise (wpAny_bind (m := Builtin.SmallTypes.nextOf (.ref i2)) (wpAny_nextOf_list_item (((h2.extBut hs₁.extBut D.i2z).extBut hs₂.extBut D.i12.symm).extBut hs₃.extBut D.TOi2.symm)
      (((hl2.extBut hs₁.extBut D.l2z).extBut hs₂.extBut D.l2i1).extBut hs₃.extBut D.l2TO) hy fun h₄ g₄ hs₄ => wpAny_pure ?_))))
    have t₄ : IsPair h₄ TO x b := hs₄.extBut _ _ D.TOi2 t₃
    refine wpAny_bind (m := seqItems? _) (wpAny_seqItems t₄ rfl ?_)
    refine wpAny_bind (m := updateSeq _ _) (wpAny_updateSeq_pair t₄ fun h₅ t₅ hs₅ => ?_)
    have t₅ : IsPair h₅ TO x y := t₅
    refine wpAny_bind (m := letGo _) (wpAny_letGo (wpAny_pure (wpAny_pure ?_)))
    refine wpAny_bind (m := seqItems? _) (wpAny_seqItems t₅ rfl ?_)
    refine wpAny_bind (m := newTuple _) (wpAny_newTuple ?_)
    have sz : h₅.objs.size = s.heap.objs.size := by rw [hs₅.1, hs₄.1, hs₃.1, hs₂.1, hs₁.1]
    have z₅ : ZipO h₅ z TI TO .ellipsis f1 := hs₅.extBut _ _ D.TOz.symm (hs₄.extBut _ _ D.i2z.symm (hs₃.extBut _ _ D.TOz.symm (hs₂.extBut _ _ D.i1z.symm hz₁)))
    have k₅ : ∀ c o, c ≠ z → c ≠ TO → c ≠ i1 → c ≠ i2 → s.heap.get? c = some o → h₅.get? c = some o := fun c o c1 c2 c3 c4 e =>
      hs₅.extBut _ _ c2 (hs₄.extBut _ _ c4 (hs₃.extBut _ _ c2 (hs₂.extBut _ _ c3 (hs₁.extBut _ _ c1 e))))
    have a₅ : h₅.IsListIter i1 l1 (k1 + 1) := ((g₂.extBut hs₃.extBut D.TOi1.symm).extBut hs₄.extBut D.i12).extBut hs₅.extBut D.TOi1.symm
    have b₅ : h₅.IsListIter i2 l2 (k2 + 1) := g₄.extBut hs₅.extBut D.TOi2.symm
    have zlt : z < h₅.objs.size := Heap.lt_size z₅
    show wpAny _ _ (Builtin.SmallTypes.ownedTupleHandOut (.ref z) (.ref h₅.objs.size) >>= _) _ _ _
    refine wpAny_bind ?_
    unfold Builtin.SmallTypes.ownedTupleHandOut
    have z₆ : ZipO (h₅.push { cls := .type "tuple", data := .seq #[x, y] }) z TI TO .ellipsis f1 := Heap.get?_push_of_some _ z₅
    refine wpAny_bind (m := setField (.ref z) 0 _) (wpAny_setField_rec z₆ (by simp) fun h₇ z₇ hs₇ => ?_)
    have z₇ : ZipO h₇ z TI TO (rawInt h₅.objs.size) f1 := z₇
    refine wpAny_setField_rec z₇ (by simp) fun h₈ z₈ hs₈ => ?_
    have z₈ : ZipO h₈ z TI TO (rawInt h₅.objs.size) false := z₈
    have up : ∀ c o, c ≠ z → h₅.get? c = some o → h₈.get? c = some o := fun c o c1 e => hs₈.extBut _ _ c1 (hs₇.extBut _ _ c1 (Heap.get?_push_of_some _ e))
    have n₈ : IsPair h₈ h₅.objs.size x y := hs₈.extBut _ _ (Nat.ne_of_gt zlt) (hs₇.extBut _ _ (Nat.ne_of_gt zlt) (Heap.get?_push_size _ rfl))
    have q := hQ h₈ _ false x y z₈ (.inr ⟨_, rfl⟩) (up _ _ D.TOz t₅) (a₅.at fun o e => up _ o D.i1z e) (b₅.at fun o e => up _ o D.i2z e) (by rw [← sz]; exact n₈) fun c o c1 c2 c3 c4 e => up c o c1 (k₅ c o c1 c2 c3 c4 e)
    refine wpAny_pure ⟨_, rfl, ?_⟩
    show Q (.ref h₅.objs.size) _
    rw [sz]
    exact q
  · simp only [Bool.false_eq_true, if_false]
    refine wpAny_bind ?_
    simp only [List.forIn_toArray, List.forIn_cons, List.forIn_nil]
    refine wpAny_bind (wpAny_bind (wpAny_holding (wpAny_bind (m := Builtin.SmallTypes.nextOf (.ref i1)) (wpAny_nextOf_list_item (h1.extBut hs₀.extBut D.i1z) (hl1.extBut hs₀.extBut D.l1z) hx fun h₂ g₂ hs₂ => wpAny_pure (wpAny_pure ?_)))))
    refine wpAny_bind (wpAny_bind (wpAny_holding (wpAny_bind (m := Builtin.SmallTypes.nextOf (.ref i2)) (wpAny_nextOf_list_item ((h2.extBut hs₀.extBut D.i2z).extBut hs₂.extBut D.i12.symm) ((hl2.extBut hs₀.extBut D.l2z).extBut hs₂.extBut D.l2i1) hy fun h₄ g₄ hs₄ => wpAny_pure (wpAny_pure (wpAny_pure ?_))))))
    refine wpAny_bind (m := newTuple _) (wpAny_newTuple ?_ (by show 2 ≤ sizeLine; decide))
    have sz : h₄.objs.size = s.heap.objs.size := by rw [hs₄.1, hs₂.1, hs₀.1]
    have z₄ : ZipO h₄ z TI TO f0 g1 := hs₄.extBut _ _ D.i2z.symm (hs₂.extBut _ _ D.i1z.symm hz₀)
    have k₄ : ∀ c o, c ≠ z → c ≠ i1 → c ≠ i2 → s.heap.get? c = some o → h₄.get? c = some o := fun c o c1 c3 c4 e => hs₄.extBut _ _ c4 (hs₂.extBut _ _ c3 (hs₀.extBut _ _ c1 e))
    have up : ∀ c o, h₄.get? c = some o → (h₄.push { cls := .type "tuple", data := .seq #[x, y] }).get? c = some o := fun c o e => Heap.get?_push_of_some _ e
    have n₄ : IsPair (h₄.push { cls := .type "tuple", data := .seq #[x, y] }) h₄.objs.size x y := Heap.get?_push_size _ rfl
    have q := hQ (h₄.push { cls := .type "tuple", data := .seq #[x, y] }) f0 g1 a b (up _ _ z₄) hf (up _ _ (k₄ _ _ D.TOz D.TOi1 D.TOi2 hTO)) ((g₂.extBut hs₄.extBut D.i12).at fun o e => up _ o e) (g₄.at fun o e => up _ o e)
      (by rw [← sz]; exact n₄) fun c o c1 _ c3 c4 e => up c o (k₄ c o c1 c3 c4 e)
    refine wpAny_pure ⟨_, rfl, ?_⟩
    show Q (.ref h₄.objs.size) _
    rw [sz]
    exact q
theorem zp_end {z TI TO i1 i2 l1 : Addr} {k1 : Nat} {xs : Array Value} {a b f0 : Value} {f1 : Bool} {Q : PySem.Fin → Shared → Prop} (hh : A.handled = none) (n1 : i1 ≠ z) (n2 : l1 ≠ z)
    (hz : ZipO s.heap z TI TO f0 f1) (hf : OutOk f0) (hTI : IsPair s.heap TI (.ref i1) (.ref i2))
    (h1 : s.heap.IsListIter i1 l1 k1) (hl1 : s.heap.IsList l1 xs) (hx : xs[k1]? = none)
    (hE : ∀ h' e, (∀ c o, c ≠ z → c ≠ i1 → s.heap.get? c = some o → h'.get? c = some o) → (∃ o, h'.get? e = some o ∧ o.cls = .type "StopIteration") → E (.ref e) { s with heap := h' }) :
    wpAny (model prog w) A (Builtin.«zip.__next__» ⟨[.ref z], []⟩) Q E s := by
  refine wpAny_bind (m := field (.ref z) 2) (wpAny_field hz rfl (x := .bool false) rfl ?_)
  refine wpAny_bind (m := field (.ref z) 3) (wpAny_field hz rfl (x := .ref TI) rfl ?_)
  refine wpAny_bind (m := seqItems? _) (wpAny_seqItems hTI rfl ?_)
  refine wpAny_bind (m := Builtin.SmallTypes.ownedTupleIsFree (.ref z)) (zp_free hz hf ?_ fun h₀ g1 hz₀ hs₀ => ?_)
  · simp only [if_true]
    refine wpAny_bind (m := rule _) (wpAny_rule ?_)
    refine wpAny_bind (m := field (.ref z) 4) (wpAny_field hz rfl (x := .ref TO) rfl ?_)
    refine wpAny_bind (m := setField (.ref z) 0 _) (wpAny_setField_rec hz (by simp) fun h₁ hz₁ hs₁ => ?_)
    have hz₁ : ZipO h₁ z TI TO .ellipsis f1 := hz₁
    refine wpAny_bind ?_
    simp only [List.zipIdx_cons, List.zipIdx_nil, List.forIn_cons, List.forIn_nil]
    refine wpAny_bind (wpAny_bind (wpAny_onRaise (wpAny_bind (m := Builtin.SmallTypes.nextOf (.ref i1)) (wpAny_nextOf_list_end hh (h1.extBut hs₁.extBut n1) (hl1.extBut hs₁.extBut n2) hx fun h₂ e hs₂ he => ?_))))
    obtain ⟨oe, hoe, hce⟩ := he
    have z₂ : ZipO h₂ z TI TO .ellipsis f1 := hs₂ _ _ n1.symm hz₁
    have ne : e ≠ z := fun q => by
      subst q
      rw [z₂] at hoe
      cases hoe
      simp at hce
    exact wpAny_setField_rec z₂ (by simp) fun h₃ _ hs₃ => hE h₃ e (fun c o c1 c3 q => hs₃.extBut _ _ c1 (hs₂ _ _ c3 (hs₁.extBut _ _ c1 q))) ⟨oe, hs₃.extBut _ _ ne hoe, hce⟩
  · simp only [Bool.false_eq_true, if_false]
    refine wpAny_bind ?_
    simp only [List.forIn_toArray, List.forIn_cons, List.forIn_nil]
    refine wpAny_bind (wpAny_bind (wpAny_holding (wpAny_bind (m := Builtin.SmallTypes.nextOf (.ref i1)) (wpAny_nextOf_list_end hh (h1.extBut hs₀.extBut n1) (hl1.extBut hs₀.extBut n2) hx fun h₂ e hs₂ he => ?_))))
    exact hE h₂ e (fun c o c1 c3 q => hs₂ _ _ c3 (hs₀.extBut _ _ c1 q)) he
/-- the zip's objects at turn i -/
def ZpSt (z TI TO i1 i2 l1 l2 : Addr) (i : Nat) (h : Heap) : Prop := ∃ f0 f1 a b, ZipO h z TI TO f0 f1 ∧ OutOk f0 ∧ IsPair h TI (.ref i1) (.ref i2) ∧ IsPair h TO a b ∧ h.IsListIter i1 l1 i ∧ h.IsListIter i2 l2 i
theorem zp_next {z TI TO i1 i2 l1 l2 : Addr} {i : Nat} {xs ys : Array Value} {x y : Value} {Q : Option Value → Shared → Prop} (D : ZipApart z TI TO i1 i2 l1 l2) (st : ZpSt z TI TO i1 i2 l1 l2 i s.heap)
    (hl1 : s.heap.IsList l1 xs) (hl2 : s.heap.IsList l2 ys) (hx : xs[i]? = some x) (hy : ys[i]? = some y)
    (hQ : ∀ h', ZpSt z TI TO i1 i2 l1 l2 (i + 1) h' → IsPair h' s.heap.objs.size x y → (∀ c o, c ≠ z → c ≠ TO → c ≠ i1 → c ≠ i2 → s.heap.get? c = some o → h'.get? c = some o) → Q (some (.ref s.heap.objs.size)) { s with heap := h' }) :
    wpAny (model prog w) A (pyNext (.ref z)) Q E s := by
  obtain ⟨f0, f1, a, b, hz, hf, hTI, hTO, h1, h2⟩ := st
  have hT : s.TypeIs (.ref z) "zip" := ⟨_, hz, rfl⟩
  unfold pyNext
  exact wpAny_bind (wpAny_attempt (wpAny_callSpecial?_slot (name := Str.ofString "__next__") hT F.slot_zip_next (wpAny_call_entry F.slot_zip_next hT F.entry_zip_next
      (zp_item D hz hf hTI hTO h1 h2 hl1 hl2 hx hy fun h' g0 g1 c d a1 a2 a3 a4 a5 a6 a7 => wpAny_pure (hQ h' ⟨g0, g1, c, d, a1, a2, a7 _ _ D.TIz D.TITO D.TIi1 D.TIi2 hTI, a3, a4, a5⟩ a6 a7)) (F.args_zip_next_1 _))))
theorem zp_stop {z TI TO i1 i2 l1 l2 : Addr} {i : Nat} {xs : Array Value} {Q : Option Value → Shared → Prop} (hh : A.handled = none) (D : ZipApart z TI TO i1 i2 l1 l2) (st : ZpSt z TI TO i1 i2 l1 l2 i s.heap)
    (hl1 : s.heap.IsList l1 xs) (hx : xs[i]? = none) (hQ : ∀ h', (∀ c o, c ≠ z → c ≠ i1 → s.heap.get? c = some o → h'.get? c = some o) → Q none { s with heap := h' }) : wpAny (model prog w) A (pyNext (.ref z)) Q E s := by
  obtain ⟨f0, f1, a, b, hz, hf, hTI, hTO, h1, h2⟩ := st
  have hT : s.TypeIs (.ref z) "zip" := ⟨_, hz, rfl⟩
  unfold pyNext
  refine wpAny_bind (wpAny_attempt (wpAny_callSpecial?_slot (name := Str.ofString "__next__") hT F.slot_zip_next (wpAny_call_entry F.slot_zip_next hT F.entry_zip_next
    (zp_end (a := a) (b := b) (by simpa using hh) D.i1z D.l1z hz hf hTI h1 hl1 hx fun h' e hk he => ?_) (F.args_zip_next_1 _))))
  obtain ⟨o, ho, hc⟩ := he
  exact wpAny_bind (wpAny_isInstance (T := "StopIteration") (b := true) ⟨o, ho, hc⟩ isSubtype_stop (wpAny_pure (hQ _ hk)))
end

def Itz (K : PySem.W.Frag) (l1 l2 : Addr) (xs ys : List V) : It :=
  ⟨fun i H => i < xs.length ∧ SqL K H l1 xs ∧ SqL K H l2 ys, fun i H x H' => ∃ T u v, xs[i]? = some u ∧ ys[i]? = some v ∧ H T = none ∧ x = .ref T ∧ H' = upd H T (.tup [u, v]), fun i H => xs.length ≤ i ∧ SqL K H l1 xs⟩
theorem Inv.turns {X : Cx} {pins : List (Addr × Obj)} {σ : St} {H : Hp} {s : Shared} {fp : List Addr} {h' : Heap} {t' : Nat} (I : Inv X pins σ H s) (hf : ∀ b ∈ fp, FpOk X pins H b) (k : ∀ b o, b ∉ fp → s.heap.get? b = some o → h'.get? b = some o) : Inv X pins σ H { s with heap := h', toks := t' } := by
  have nh : ∀ b u, H b = some u → b ∉ fp := fun b u e hb => by
    have := (hf b hb).1
    rw [e] at this; cases this
  refine I.call' (ch := fp) (s' := { s with heap := h', toks := t' }) rfl ⟨fun b o e n hb hx => k b o hx e, fun b o e n hb hx => ⟨o.slots, k b o hx e⟩, fun b o e n hx => n, fun b o e hx => ⟨o, k b o hx e⟩, fun b xs e => e, fun b o u e => e, fun b ps e => ⟨#[], by rw [e]; simp⟩⟩
    (fun b u e => (I.hok b u e).stay (fun c v hc q => k c v ?_ q) (fun _ q => q) fun _ _ q => q) I.bare (fun b hb => ?_)
  · rcases hc with rfl | hc
    · exact nh _ _ e
    · exact nh _ _ hc
  · obtain ⟨f0, f1, f2, f3, f4, f5⟩ := hf b hb
    exact ⟨f3, f1, f4, f5⟩
theorem turn_zip {P : Program} {w : World} {K : PySem.W.Frag} {px : Pos} {x : Str} {z TI TO i1 i2 l1 l2 : Addr} {xs ys : List V} (D : ZipApart z TI TO i1 i2 l1 l2) (hl : xs.length = ys.length) :
    Turn P w K (.Name x px) (Itz K l1 l2 xs ys) [z, TI, TO, i1, i2] z (ZpSt z TI TO i1 i2 l1 l2) where
  mem := List.mem_cons_self
  obj := fun i h st b hb => by
    obtain ⟨f0, f1, a, b', hz, hf, hTI, hTO, ⟨o1, e1, c1, d1⟩, ⟨o2, e2, c2, d2⟩⟩ := st
    simp only [List.mem_cons, List.not_mem_nil, or_false] at hb
    rcases hb with rfl | rfl | rfl | rfl | rfl
    · exact ⟨_, hz, fun v q => by cases q⟩
    · exact ⟨_, hTI, fun v q => by cases q⟩
    · exact ⟨_, hTO, fun v q => by cases q⟩
    · exact ⟨_, e1, fun v q => by rw [d1] at q; cases q⟩
    · exact ⟨_, e2, fun v q => by rw [d2] at q; cases q⟩
  keep := fun i h h' st k => by
    obtain ⟨f0, f1, a, b', hz, hf, hTI, hTO, h1, h2⟩ := st
    exact ⟨f0, f1, a, b', k z (by simp) _ hz, hf, k TI (by simp) _ hTI, k TO (by simp) _ hTO, h1.at fun o e => k i1 (by simp) o e, h2.at fun o e => k i2 (by simp) o e⟩
  item := by
    intro X e1 e2 e3 hc i pins s σ H E I hf st hg
    subst e1 e2 e3
    obtain ⟨hi, q1, q2⟩ := hg
    obtain ⟨its, rv, p1, _⟩ := I.list q1
    obtain ⟨jts, rw', p2, _⟩ := I.list q2
    obtain ⟨u, hu, ru⟩ := rv.get (List.getElem?_eq_getElem hi)
    obtain ⟨v, hv, rv'⟩ := rw'.get (List.getElem?_eq_getElem (show i < ys.length by omega))
    refine zp_next D st p1.isList p2.isList (x := u) (y := v) (by simpa using hu) (by simpa using hv) fun h' st' pr k => ⟨_, rfl, wpAny_pure ?_⟩
    have I1 : Inv X pins σ H { s with heap := h' } := I.turns (fp := [z, TI, TO, i1, i2]) (t' := s.toks) hf fun b o hb e => k b o (fun q => hb (by simp [q])) (fun q => hb (by simp [q])) (fun q => hb (by simp [q])) (fun q => hb (by simp [q])) e
    have hn : H s.heap.objs.size = none := I.hok.fresh (Nat.le_refl _)
    refine ⟨.ref s.heap.objs.size, upd H s.heap.objs.size (.tup [xs[i], ys[i]]), ?_, rfl, ⟨_, _, _, List.getElem?_eq_getElem hi, List.getElem?_eq_getElem _, hn, rfl, rfl⟩, st', fun b hb => ?_⟩
    · refine I.call' (ch := [z, TI, TO, i1, i2]) (s' := { s with heap := h' }) rfl ⟨fun b o e n hb hx => ?_, fun b o e n hb hx => ⟨o.slots, ?_⟩, fun b o e n hx => ?_, fun b o e hx => ⟨o, ?_⟩, fun b xs e => ?_, fun b o u e => ?_, fun b ps e => ⟨#[], ?_⟩⟩ ?_ I.bare (fun b hb => ?_)
      all_goals first
        | exact k b o (fun q => hx (by simp [q])) (fun q => hx (by simp [q])) (fun q => hx (by simp [q])) (fun q => hx (by simp [q])) e
        | (rw [upd_ne (Nat.ne_of_lt (Heap.lt_size e))]; exact n)
        | (rw [upd_ne (ne_of_none e hn)]; exact e)
        | (rw [upd_ne (ne_of_none e hn), e]; simp)
        | skip
      · intro b o e
        by_cases hb : b = s.heap.objs.size
        · subst hb
          rw [upd_same] at e
          cases e
          exact ⟨by show 2 ≤ sizeLine; decide, [u, v], .cons ru (.cons rv' .nil), ⟨_, pr, rfl, 0, rfl⟩⟩
        · rw [upd_ne hb] at e
          refine (I1.hok b o e).stay (fun c o' hc q => q) (fun c q => ?_) fun c xs q => ?_
          · rw [upd_ne (ne_of_none q hn)]; exact q
          · rw [upd_ne (ne_of_none q hn)]; exact q
      · obtain ⟨f0, f1, f2, f3, f4, f5⟩ := hf b hb
        exact ⟨f3, f1, f4, f5⟩
    · have hbn : b ≠ s.heap.objs.size := fun q => by
        obtain ⟨f0, f1, a, b', hz, hfo, hTI, hTO, ⟨o1, e1, _⟩, ⟨o2, e2, _⟩⟩ := st
        simp only [List.mem_cons, List.not_mem_nil, or_false] at hb
        have lt : b < s.heap.objs.size := by
          rcases hb with rfl | rfl | rfl | rfl | rfl
          · exact Heap.lt_size hz
          · exact Heap.lt_size hTI
          · exact Heap.lt_size hTO
          · exact Heap.lt_size e1
          · exact Heap.lt_size e2
        exact Nat.ne_of_lt lt q
      rw [upd_ne hbn]
      exact (hf b hb).1
  done := by
    intro X e1 e2 e3 hc i pins s σ H E I hf st hg
    subst e1 e2 e3
    obtain ⟨hi, q1⟩ := hg
    obtain ⟨its, rv, p1, _⟩ := I.list q1
    have hlen := rv.length
    refine zp_stop (I.ok.hd hc) D st p1.isList (by simp; omega) fun h' k => ⟨rfl, ?_⟩
    exact I.turns (fp := [z, TI, TO, i1, i2]) (t' := s.toks) hf fun b o hb e => k b o (fun q => hb (by simp [q])) (fun q => hb (by simp [q])) e
  self := fun A i s Q E st q => by
    obtain ⟨f0, f1, a, b', hz, _⟩ := st
    have hT : s.TypeIs (.ref z) "zip" := ⟨_, hz, rfl⟩
    refine wpAny_pyIter_slot hT F.slot_zip_iter (wpAny_call_entry F.slot_zip_iter hT F.entry_zip_iter ?_ (F.args_zip_iter_1 _))
    exact wpAny_pure ⟨_, rfl, "zip", _, hT, F.slot_zip_next.lookup, q⟩
section
variable {X : Cx}
def iZip (K : PySem.W.Frag) (ta : TA) : TI := fun σ H R => ta σ H fun vs H1 => ∃ (l1 l2 : Addr) (xs ys : List V), vs = [.ref l1, .ref l2] ∧ SqL K H1 l1 xs ∧ SqL K H1 l2 ys ∧ xs.length = ys.length ∧ R (Itz K l1 l2 xs ys) H1
theorem pi_zip {x : Str} {px : Pos} {a b : Expr} {ta : TA} {p pos : Pos} (hg : Gl X "zip") (hm : X.mg "zip" = none) (ha : PA X [a, b] ta) (hs : starEach [a, b] X.env = [(false, eval a X.env), (false, eval b X.env)] := by rfl) (hs2 : starEach [b] X.env = [(false, eval b X.env)] := by rfl) :
    PI X (.Name x px) (.Call (.Name "zip" p) [a, b] [] pos) (iZip X.K ta) := by
  intro pins s σ H R I h
  refine Call_ (ld_blt I hg hm boot_zip (PyProof.Rows.callWith_type1 (thn (ha pos pins s σ H _ I h) fun us s1 ⟨vs, H1, I1, r1, l1, l2, xs, ys, e, q1, q2, hl, q⟩ => ?_) (by rw [hs, hs2]) (by rw [hs2]; rfl)))
  subst e
  obtain ⟨u, w', rfl, ru, rw'⟩ := vals2 r1
  cases ru
  cases rw'
  obtain ⟨its, rv, p1, _⟩ := I1.list q1
  obtain ⟨jts, rw', p2, _⟩ := I1.list q2
  have lt1 : l1 < s1.heap.objs.size := by obtain ⟨o, e, _⟩ := p1.isList; exact Heap.lt_size e
  have lt2 : l2 < s1.heap.objs.size := by obtain ⟨o, e, _⟩ := p2.isList; exact Heap.lt_size e
  refine call_zip_2 p1.isList p2.isList fun h' a1 a2 a3 a4 a5 a6 k => wpAny_pyIter_zip a1 ?_
  refine ⟨_, _, _, _, H1, rfl, I1.kept (t' := s1.toks) k, turn_zip (zipApart_new lt1 lt2) hl, ⟨.none, false, .none, .none, a1, .inl rfl, a2, a3, a4, a5⟩, fun b hb => ?_, q⟩
  simp only [List.mem_cons, List.not_mem_nil, or_false] at hb
  have hle : s1.heap.objs.size ≤ b := by rcases hb with rfl | rfl | rfl | rfl | rfl <;> omega
  exact I1.fpOk hle (I1.hok.fresh hle)
/-- over a zip, element pure, no test -/
theorem lc_zip {K : PySem.W.Frag} {l1 l2 : Addr} {xs ys : List V} {fs : St} {tt : TT} {te : TE} {H1 : Hp} {Q : VK} (f : Nat → V) (h1 : SqL K H1 l1 xs) (h2 : SqL K H1 l2 ys) (hl : xs.length = ys.length) (hz : xs.length < sizeLine)
    (ht : ∀ (x : V) (H3 : Hp) (R : Bool → Hp → Prop), R true H3 → tt (some x :: fs) H3 R)
    (he : ∀ (i : Nat) (T : Addr) (u v : V) (H3 : Hp) (R : VK), xs[i]? = some u → ys[i]? = some v → H3 T = some (.tup [u, v]) → R (f i) H3 → te (some (.ref T) :: fs) H3 R)
    (q : ∀ D H', H1 D = none → Same H1 H' → H' D = some (.lst ((List.range xs.length).map f)) → Q (.ref D) H') : LCW (Itz K l1 l2 xs ys) fs tt te H1 Q := by
  intro D hD
  refine ⟨fun i m zs H2 => m = xs.length - i ∧ i ≤ xs.length ∧ zs = (List.range i).map f ∧ Same H1 H2 ∧ H2 D = some (.lst zs), ⟨xs.length, by simp, Nat.zero_le _, rfl, (Same.refl H1).put hD, upd_same⟩, ?_⟩
  rintro i m zs H2 ⟨rfl, hi, hy, sm, hDz⟩
  refine ⟨hDz, ?_⟩
  by_cases hlt : i < xs.length
  · refine .inr ⟨⟨hlt, sm.seq h1, sm.seq h2⟩, fun x H3 y => ?_⟩
    obtain ⟨T, u, v, g1, g2, g3, rfl, rfl⟩ := y
    have nD : D ≠ T := ne_of_none hDz g3
    refine ht _ _ _ ?_
    rw [if_pos rfl]
    refine he i T u v _ _ g1 g2 upd_same ⟨by rw [upd_ne nD]; exact hDz, by rw [hy, List.length_map, List.length_range]; omega, xs.length - (i + 1), by omega, rfl, hlt, by rw [hy, List.range_succ, List.map_append]; rfl, ?_, upd_same⟩
    intro b o e
    have hbD : b ≠ D := ne_of_none e hD
    have hbT : b ≠ T := ne_of_none (sm b o e) g3
    rw [upd_ne hbD, upd_ne hbT]
    exact sm b o e
  · have e : i = xs.length := by omega
    subst e
    exact .inl ⟨⟨Nat.le_refl _, sm.seq h1⟩, q D H2 hD sm (by rw [hDz, hy])⟩
/-- max of a pair of ints -/
theorem ck_maxT (hc : X.calm = true) : CallR X (.builtin "max") (fun xs H Q => ∃ (p : Addr) (i j : Int), xs = [.ref p] ∧ SqT X.K H p [.int i, .int j] ∧ Q (.int (max i j)) H) := by
  intro pins s σ H xs us Q I r h
  obtain ⟨p, i, j, rfl, hp, q⟩ := h
  obtain ⟨u, rfl, ru⟩ := vals1 r
  cases ru
  obtain ⟨its, rv, pl, hz⟩ := I.tuple hp
  obtain ⟨a, b, rfl, ⟨t, rfl⟩, ⟨t', rfl⟩⟩ := vals2 rv
  have hT : s.heap.IsTuple p (intItems #[(i, t), (j, t')]) := by
    have z : s.heap.IsTuple p #[.int i t, .int j t'] := pl
    simpa [intItems] using z
  have plt : p < s.heap.objs.size := by obtain ⟨o, e, _⟩ := pl; exact Heap.lt_size e
  refine call_max_walk (wpAny_pyIter_tuple hT ?_)
  refine ⟨_, [_, p], [_], _, _, _, _, rfl, Walks.tuple (A := X.A.in1) (by simpa using I.ok.hd hc) _ p (Nat.ne_of_lt plt) (intItems #[(i, t), (j, t')]), ⟨⟨_, Heap.get?_push_size _ rfl, rfl, rfl⟩, hT.push _⟩, fun c hm => ?_, by simp [intItems],
    CmpOf.ints_gt (numAt #[(i, t), (j, t')]) (fun _ _ => intItems_at), fun v h' tk hP hk => ?_⟩
  · show c < (s.heap.push _).objs.size
    rw [Heap.size_push]
    simp only [List.mem_cons, List.not_mem_nil, or_false] at hm
    rcases hm with rfl | rfl
    · exact Nat.lt_succ_self _
    · exact Nat.lt_succ_of_lt plt
  · have hold : ∀ c o, s.heap.get? c = some o → h'.get? c = some o := fun c o e => hk c o (by
      intro hm
      simp only [List.mem_cons, List.not_mem_nil, or_false] at hm
      exact absurd (hm ▸ Heap.lt_size e) (Nat.lt_irrefl _)) (Heap.get?_push_of_some _ e)
    obtain ⟨m1, m2⟩ := argBest_gt (numAt #[(i, t), (j, t')]) 1
    have hs1 : (intItems #[(i, t), (j, t')]).size - 1 = 1 := by simp [intItems]
    rw [hs1] at hP
    obtain ⟨t2, rfl⟩ := intItems_at hP
    have a0 : numAt #[(i, t), (j, t')] 0 = i := rfl
    have a1 : numAt #[(i, t), (j, t')] 1 = j := rfl
    have e : numAt #[(i, t), (j, t')] (argBest (fun a b => decide (numAt #[(i, t), (j, t')] a > numAt #[(i, t), (j, t')] b)) 1) = max i j := by
      have b0 := m2 0 (by omega)
      have b1 := m2 1 (by omega)
      generalize hg : argBest (fun a b => decide (numAt #[(i, t), (j, t')] a > numAt #[(i, t), (j, t')] b)) 1 = g at *
      have hg2 : g = 0 ∨ g = 1 := by omega
      rcases hg2 with rfl | rfl <;> omega
    exact ⟨.int (max i j), H, I.kept (t' := tk) hold, ⟨t2, by rw [e]⟩, q⟩
end
end L2

set_option Elab.async false
set_option linter.all false
set_option maxRecDepth 100000
set_option maxHeartbeats 4000000
set_option autoImplicit false
/-! comprehensions whose items are new objects -/
namespace L2
open PySem PySem.Spec PyProof.Rows
/-- over a range -/
theorem lc_rangeN {lo : Int} {n : Nat} {fs : St} {tt : TT} {te : TE} {H1 : Hp} {Q : VK} (Pv : Addr → Nat → List V → Hp → Prop) (hz : n < sizeLine) (hlen : ∀ D i ys H, Pv D i ys H → ys.length = i) (ht : ∀ (x : V) (H3 : Hp) (R : Bool → Hp → Prop), R true H3 → tt (some x :: fs) H3 R)
    (h0 : ∀ D, H1 D = none → Pv D 0 [] (upd H1 D (.lst [])))
    (he : ∀ D i ys H2 (R : VK), i < n → H1 D = none → Same H1 H2 → H2 D = some (.lst ys) → Pv D i ys H2 → (∀ v H5, Same H2 H5 → Pv D (i + 1) (ys ++ [v]) (upd H5 D (.lst (ys ++ [v]))) → R v H5) → te (some (.int (lo + (i : Int))) :: fs) H2 R)
    (q : ∀ D ys H', H1 D = none → Same H1 H' → H' D = some (.lst ys) → Pv D n ys H' → Q (.ref D) H') : LCW (Itr lo n) fs tt te H1 Q := by
  intro D hD
  refine ⟨fun i m zs H2 => m = n - i ∧ i ≤ n ∧ Same H1 H2 ∧ H2 D = some (.lst zs) ∧ Pv D i zs H2, ⟨n, by simp, Nat.zero_le _, (Same.refl H1).put hD, upd_same, h0 D hD⟩, ?_⟩
  rintro i m zs H2 ⟨rfl, hi, sm, hDz, pv⟩
  refine ⟨hDz, ?_⟩
  by_cases hlt : i < n
  · refine .inr ⟨hlt, fun x H3 y => ?_⟩
    obtain ⟨rfl, rfl⟩ := y
    refine ht _ _ _ ?_
    rw [if_pos rfl]
    have ll := hlen _ _ _ _ pv
    exact he D i zs _ _ hlt hD sm hDz pv fun v H5 s5 p5 => ⟨s5 _ _ hDz, by omega, n - (i + 1), by omega, rfl, hlt, (sm.trans s5).put hD, upd_same, p5⟩
  · have e : i = n := by omega
    subst e
    exact .inl ⟨Nat.le_refl _, q D zs H2 hD sm hDz pv⟩
/-- over a list -/
theorem lc_listN {K : PySem.W.Frag} {a : Addr} {xs : List V} {fs : St} {tt : TT} {te : TE} {H1 : Hp} {Q : VK} (Pv : Addr → Nat → List V → Hp → Prop) (hq : SqL K H1 a xs) (hz : xs.length < sizeLine) (hlen : ∀ D i ys H, Pv D i ys H → ys.length = i) (ht : ∀ (x : V) (H3 : Hp) (R : Bool → Hp → Prop), R true H3 → tt (some x :: fs) H3 R)
    (h0 : ∀ D, H1 D = none → Pv D 0 [] (upd H1 D (.lst [])))
    (he : ∀ D i x ys H2 (R : VK), xs[i]? = some x → H1 D = none → Same H1 H2 → H2 D = some (.lst ys) → Pv D i ys H2 → (∀ v H5, Same H2 H5 → Pv D (i + 1) (ys ++ [v]) (upd H5 D (.lst (ys ++ [v]))) → R v H5) → te (some x :: fs) H2 R)
    (q : ∀ D ys H', H1 D = none → Same H1 H' → H' D = some (.lst ys) → Pv D xs.length ys H' → Q (.ref D) H') : LCW (Itl K a) fs tt te H1 Q := by
  intro D hD
  refine ⟨fun i m zs H2 => m = xs.length - i ∧ i ≤ xs.length ∧ Same H1 H2 ∧ H2 D = some (.lst zs) ∧ Pv D i zs H2, ⟨xs.length, by simp, Nat.zero_le _, (Same.refl H1).put hD, upd_same, h0 D hD⟩, ?_⟩
  rintro i m zs H2 ⟨rfl, hi, sm, hDz, pv⟩
  refine ⟨hDz, ?_⟩
  have hq2 := sm.seq hq
  by_cases hlt : i < xs.length
  · refine .inr ⟨⟨xs, xs[i], hq2, List.getElem?_eq_getElem hlt⟩, fun x H3 y => ?_⟩
    obtain ⟨rfl, hy⟩ := y
    refine ht _ _ _ ?_
    rw [if_pos rfl]
    have ll := hlen _ _ _ _ pv
    exact he D i x zs _ _ (hy xs hq2) hD sm hDz pv fun v H5 s5 p5 => ⟨s5 _ _ hDz, by omega, xs.length - (i + 1), by omega, rfl, hlt, (sm.trans s5).put hD, upd_same, p5⟩
  · have e : i = xs.length := by omega
    subst e
    exact .inl ⟨⟨xs, hq2, Nat.le_refl _⟩, q D zs H2 hD sm hDz pv⟩
/-- over a range, element pure, the test may make new objects -/
theorem lc_rangeS {lo : Int} {n : Nat} {fs : St} {tt : TT} {te : TE} {H1 : Hp} {Q : VK} (p : Nat → Bool) (f : Nat → V) (hz : n < sizeLine)
    (ht : ∀ i, i < n → ∀ (H3 : Hp) (R : Bool → Hp → Prop), Same H1 H3 → (∀ H4, Same H3 H4 → R (p i) H4) → tt (some (.int (lo + (i : Nat))) :: fs) H3 R)
    (he : ∀ i, i < n → p i = true → ∀ (H3 : Hp) (R : VK), Same H1 H3 → R (f i) H3 → te (some (.int (lo + (i : Nat))) :: fs) H3 R)
    (q : ∀ D H', H1 D = none → Same H1 H' → H' D = some (.lst (((List.range n).filter p).map f)) → Q (.ref D) H') : LCW (Itr lo n) fs tt te H1 Q := by
  intro D hD
  refine ⟨fun i m zs H2 => m = n - i ∧ i ≤ n ∧ zs = ((List.range i).filter p).map f ∧ Same H1 H2 ∧ H2 D = some (.lst zs), ⟨n, by simp, Nat.zero_le _, rfl, (Same.refl H1).put hD, upd_same⟩, ?_⟩
  rintro i m zs H2 ⟨rfl, hi, hy, sm, hDz⟩
  refine ⟨hDz, ?_⟩
  by_cases hlt : i < n
  · refine .inr ⟨hlt, fun x H3 y => ?_⟩
    obtain ⟨rfl, rfl⟩ := y
    refine ht i hlt _ _ sm fun H4 s4 => ?_
    have ll : zs.length ≤ i := by
      rw [hy, List.length_map]
      have := List.length_filter_le p (List.range i)
      rw [List.length_range] at this
      exact this
    cases hp : p i with
    | true =>
      rw [if_pos rfl]
      refine he i hlt hp _ _ (sm.trans s4) ⟨s4 _ _ hDz, by omega, n - (i + 1), by omega, rfl, hlt, ?_, (sm.trans s4).put hD, upd_same⟩
      rw [List.range_succ, List.filter_append, List.map_append, hy]
      simp [hp]
    | false =>
      rw [if_neg Bool.false_ne_true]
      refine ⟨n - (i + 1), by omega, rfl, hlt, ?_, sm.trans s4, s4 _ _ hDz⟩
      rw [List.range_succ, List.filter_append, List.map_append, hy]
      simp [hp]
  · have e : i = n := by omega
    subst e
    exact .inl ⟨Nat.le_refl _, q D H2 hD sm (by rw [hDz, hy])⟩
section
variable {X : Cx} {scope : Scope} {cl : List (Str × Addr)} {C : Addr} {N : List Str} {s : Shared} {H : Hp} {fp : List Addr}
theorem op_in_tupsC (hu : X.A.units + 1 < cLine) : OpR (cxC X scope cl C N s H fp) (compareOp .In) (rInT X.K false) := op_in_tups hu
theorem ok_eqTC (hu : X.A.units < cLine) : OpR (cxC X scope cl C N s H fp) (compareOp .Eq) (rkEqT X.K) := ok_eqT hu
theorem ck_maxTC (hc : X.calm = true) : CallR (cxC X scope cl C N s H fp) (.builtin "max") (fun xs H Q => ∃ (p : Addr) (i j : Int), xs = [.ref p] ∧ SqT X.K H p [.int i, .int j] ∧ Q (.int (max i j)) H) := ck_maxT hc
theorem sl_tupC : SlR (cxC X scope cl C N s H fp) (rSlT X.K) := sl_tup
end
end L2

set_option Elab.async false
set_option linter.all false
set_option maxRecDepth 100000
set_option maxHeartbeats 4000000
set_option autoImplicit false
/-! isinstance(x, (S, T)); xs != [] -/
namespace L2
open PySem PySem.Spec PyProof.Rows
section
variable {X : Cx}
theorem types_of {Ts : List String} : ∀ {us : List Value}, Vals (Ts.map V.ty) us → us = Ts.map Value.type := by
  induction Ts with
  | nil => intro us r; cases r; rfl
  | cons T Ts ih =>
    intro us r
    cases r with
    | cons r1 r2 =>
      cases r1
      rw [ih r2]
      rfl
theorem ck_isT : CallR X (.builtin "isinstance") (fun xs H Q => ∃ (x : V) (tp : Addr) (Ts : List String) (t : Value) (b : Bool), xs = [x, .ref tp] ∧ SqT X.K H tp (Ts.map V.ty) ∧ TyOf X.K H x t ∧ PySem.W.kitAny X.K t (Ts.map Value.type) = some b ∧ Q (.bl b) H) := by
  intro pins s σ H xs us Q I r h
  obtain ⟨x, tp, Ts, t, b, rfl, hT, ty, e, q⟩ := h
  obtain ⟨u, w', rfl, ru, rw'⟩ := vals2 r
  cases rw'
  obtain ⟨its, rv, ⟨⟨oc, od, oa, os⟩, h1, h2, n, h3⟩, _⟩ := I.tuple hT
  obtain rfl : its = Ts.map Value.type := types_of rv
  simp only at h2 h3
  subst h2 h3
  have fin : ∀ tk, EP X pins σ Q (.bool b) { s with toks := tk } := fun tk => ⟨.bl b, H, I.tok tk, rfl, q⟩
  cases ty with
  | non => cases (show u = Value.none from ru); exact PySem.W.kia_tup PySem.W.kitx_none I.kIn True.intro h1 e (fun z => nomatch z) fin
  | bl y => cases (show u = Value.bool y from ru); exact PySem.W.kia_tup PySem.W.kitx_bool I.kIn True.intro h1 e (fun z => nomatch z) fin
  | int i => obtain ⟨t, z⟩ := (show ∃ t, u = Value.int i t from ru); cases z; exact PySem.W.kia_tup PySem.W.kitx_int I.kIn True.intro h1 e (fun z => nomatch z) fin
  | str y => obtain ⟨t, z⟩ := (show ∃ t, u = Value.str y t from ru); cases z; exact PySem.W.kia_tup PySem.W.kitx_str I.kIn True.intro h1 e (fun z => nomatch z) fin
  | flt y => obtain ⟨t, z⟩ := (show ∃ t, u = Value.float y t from ru); cases z; exact PySem.W.kia_tup PySem.W.kitx_float I.kIn True.intro h1 e (fun z => nomatch z) fin
  | @lst a xs ea =>
    cases (show u = Value.ref a from ru)
    obtain ⟨_, _, n, _, g1⟩ := (show ObjOk X.prog X.w H s.heap a (.lst xs) from I.hok a _ ea)
    exact PySem.W.kia_tup PySem.W.kitx_list I.kIn ⟨_, g1, rfl⟩ h1 e (fun z => nomatch z) fin
  | @frz a ob xs ea =>
    cases (show u = Value.ref a from ru)
    obtain ⟨_, _, _, n, _, g1⟩ := (show ObjOk X.prog X.w H s.heap a (.frz ob (.lst xs)) from I.hok a _ ea)
    exact PySem.W.kia_tup PySem.W.kitx_list I.kIn ⟨_, g1, rfl⟩ h1 e (fun z => nomatch z) fin
  | @tup a xs ea =>
    cases (show u = Value.ref a from ru)
    obtain ⟨_, _, _, p⟩ := (show ObjOk X.prog X.w H s.heap a (.tup xs) from I.hok a _ ea)
    obtain ⟨o, g1, g2, _⟩ := p
    exact PySem.W.kia_tup PySem.W.kitx_tuple I.kIn ⟨o, g1, g2⟩ h1 e (fun z => nomatch z) fin
  | @dK a kvs ea =>
    cases (show u = Value.ref a from ru)
    obtain ⟨_, _, vs, _, p⟩ := (show ObjOk X.prog X.w H s.heap a (.dK kvs) from I.hok a _ ea)
    obtain ⟨o, es, ep, g1, g2, _⟩ := p
    exact PySem.W.kia_tup PySem.W.kitx_dict I.kIn ⟨o, g1, g2.1⟩ h1 e (fun z => nomatch z) fin
  | @dT a kvs ea =>
    cases (show u = Value.ref a from ru)
    obtain ⟨_, _, xs, _, o, es, ep, g1, g2, _⟩ := (show ObjOk X.prog X.w H s.heap a (.dT kvs) from I.hok a _ ea)
    exact PySem.W.kia_tup PySem.W.kitx_dict I.kIn ⟨o, g1, g2.1⟩ h1 e (fun z => nomatch z) fin
  | @ins a C dx fs ea cl ha hn htk hm =>
    cases (show u = Value.ref a from ru)
    obtain ⟨mA, O, _⟩ := ins_get I.hok ea
    obtain ⟨od', J, _⟩ := O.look
    exact PySem.W.kia_tup (PySem.W.kitx_own (cl.get _) cl.hd ha hn htk hm) I.kIn J h1 e (fun z => nomatch z) fin
def rNeE (K : PySem.W.Frag) : R2 := fun x y H Q => ∃ (a b : Addr) (xs : List V), x = .ref a ∧ y = .ref b ∧ SqL K H a xs ∧ SqL K H b [] ∧ Q (.bl (!xs.isEmpty)) H
theorem op_ne_nil (hu : X.A.units < cLine) : OpR X (compareOp .NotEq) (rNeE X.K) := by
  intro pins s σ H x y v u Q I rx ry h
  obtain ⟨a, b, xs, rfl, rfl, ha, hb, q⟩ := h
  cases rx
  cases ry
  obtain ⟨its, rv, pa, _⟩ := I.list ha
  obtain ⟨jts, rw', pb, _⟩ := I.list hb
  obtain rfl : jts = [] := by cases rw'; rfl
  cases xs with
  | nil =>
    obtain rfl : its = [] := by cases rv; rfl
    have key := SeqAt.RcNeAt.lists (A := X.A) (s := s) (e := fun _ => true) pa.isList pb.isList rfl hu (fun j h1 h2 => absurd h1 (by simp))
    exact key X.prog X.w _ _ ⟨.bl false, H, I, rfl, q⟩
  | cons x xs =>
    have hl := rv.length
    have key := SeqAt.RcNeAt.lists_lengths (A := X.A) (s := s) pa.isList pb.isList (by
      rw [List.size_toArray, ← hl]
      simp) hu
    exact key X.prog X.w _ _ ⟨.bl true, H, I, rfl, q⟩
/-- xs.pop() -/
theorem pe_pop {o : Expr} {to : TE} {apos cpos : Pos} (ho : PE X o to) (hbase : attributeBase o "pop" X.env (eval o X.env) = eval o X.env := by rfl) (hline : (apos.endLine == cpos.line) = true := by rfl) :
    PE X (.Call (.Attribute o "pop" apos) [] [] cpos) (tBM0 X.K "list" rPop to) := pe_bm0 F.plainAttrs_list F.slot_list_pop (by rfl) mt_pop ho hbase hline
end
end L2

set_option Elab.async false
set_option linter.all false
set_option maxRecDepth 100000
set_option maxHeartbeats 4000000
set_option autoImplicit false
/-! sets of texts: made from a list, walked in any order, sorted -/
namespace L2
open PySem PySem.Spec PyProof.Rows
theorem lay_led (t : SetTable) (es : Array (Int × Value)) (h : Int) (x : Value) : (layNew t es h x).2.1.led = t.led ∧ (t.plain = false → (layNew t es h x).2.1.plain = false) := by
  unfold layNew
  split
  · dsimp only
    unfold SetTable.orStandIn
    split
    · exact ⟨rfl, fun z => z⟩
    · exact ⟨rfl, fun _ => rfl⟩
  · exact ⟨rfl, fun _ => rfl⟩
theorem laid_led {m fi mo : Nat} {l p : Bool} {hs : Array Int} {t : SetTable} {o : Array Nat} (h : SetTable.laid m fi mo l p hs = some (t, o)) : t.led = l ∧ t.plain = p := by
  unfold SetTable.laid at h
  cases q : SetTable.layClean m hs with
  | none => rw [q] at h; cases h
  | some ow =>
    rw [q] at h
    have h2 := Option.some.inj h
    have h3 := congrArg Prod.fst h2
    exact ⟨(congrArg SetTable.led h3).symm, (congrArg SetTable.plain h3).symm⟩
theorem rely_led (t : SetTable) (es : Array (Int × Value)) (n : Nat) : (relayAll t es n).2.1.led = t.led ∧ (t.plain = false → (relayAll t es n).2.1.plain = false) := by
  unfold relayAll
  split
  · rename_i t' order hq
    dsimp only
    obtain ⟨h1, h2⟩ := laid_led hq
    split
    · exact ⟨h1, fun z => h2.trans z⟩
    · exact ⟨rfl, fun _ => rfl⟩
  · exact ⟨rfl, fun _ => rfl⟩
abbrev setO (es : Array (Int × Value)) (ep : Nat) (t : SetTable) : Obj := { cls := .type "set", dict := none, data := .set es ep t, slots := #[] }
def entS (e : Int × Value) : Str := strOf e.2
/-- at a stands a set of the texts xs (in any order of its table) -/
def SetS (prog : Program) (w : World) (h : Heap) (a : Addr) (xs : List Str) : Prop :=
  ∃ (es : Array (Int × Value)) (ep : Nat) (t : SetTable), h.get? a = some (setO es ep t) ∧ ElemsOf (mixKind prog w) es.toList ∧ (∀ e ∈ es.toList, ∃ x tk, e.2 = Value.str x tk) ∧ (es.toList.map entS).Perm xs ∧
    es.size < scanBound ∧ t.fits es.size = true ∧ t.led = !(w.params.followText "set-order") ∧ (es.size ≠ 0 → t.plain = false)
theorem SetS.keep {prog : Program} {w : World} {h h' : Heap} {a : Addr} {xs : List Str} (S : SetS prog w h a xs) (k : ∀ o, h.get? a = some o → h'.get? a = some o) : SetS prog w h' a xs := by
  obtain ⟨es, ep, t, ho, r⟩ := S
  exact ⟨es, ep, t, k _ ho, r⟩
section
variable {prog : Program} {w : World} {A : Around} {E : Value → Shared → Prop} {s : Shared}
theorem put_set {h : Heap} {a : Addr} {es es' : Array (Int × Value)} {ep : Nat} {t t' : SetTable} (ho : h.get? a = some (setO es ep t)) : (h.update a (Obj.putSet es' t')).get? a = some (setO es' (ep + 1) t') := by
  have q := Heap.get?_update_self (Obj.putSet es' t') ho (by rw [putSet_of es' t' (o := setO es ep t) rfl]; rfl)
  rw [putSet_of es' t' (o := setO es ep t) rfl] at q
  exact q
/-- the tail of an addition: the new table is stored, and laid anew where it is too full -/
theorem add_tail {g : Bool → Sem Unit} (hg : ∀ (b : Bool) (s₁ : Shared) (Q' : Unit → Shared → Prop), Q' () s₁ → wpAny (model prog w) A (g b) Q' E s₁)
    {a : Addr} {es es1 : Array (Int × Value)} {ep : Nat} {t t2 : SetTable} {xs : List Str} (ho : s.heap.get? a = some (setO es ep t))
    (hel : ElemsOf (mixKind prog w) es1.toList) (hst : ∀ e ∈ es1.toList, ∃ x tk, e.2 = Value.str x tk) (hpm : (es1.toList.map entS).Perm xs)
    (hb1 : es1.size < scanBound) (hf2 : t2.fits es1.size = true) (hld : t2.led = !(w.params.followText "set-order")) (hpl : t2.plain = false) {wd : Bool} {R : Option Bool → Shared → Prop}
    (h : ∀ h', Heap.SameBut a s.heap h' → SetS prog w h' a xs → R (some true) { s with heap := h' }) :
    wpAny (model prog w) A (do
        storeSet a es1 t2
        if (!wd && t2.tooFull) = true then do
            g (relayAll t2 es1 (SetTable.grown es1.size)).2.2
            storeSet a (relayAll t2 es1 (SetTable.grown es1.size)).1 (relayAll t2 es1 (SetTable.grown es1.size)).2.1
            pure (some true)
          else pure (some true)) R E s := by
  refine wpAny_bind (wpAny_storeSet_of ho rfl ?_ (fits_of_scanBound hb1))
  have o1 := put_set (es' := es1) (t' := t2) ho
  have sb1 := Heap.SameBut.update s.heap a (Obj.putSet es1 t2)
  split
  · have hp := relayAll_perm t2 es1 (SetTable.grown es1.size)
    have hfr := relayAll_fits t2 es1 (SetTable.grown es1.size)
    have hlr := rely_led t2 es1 (SetTable.grown es1.size)
    generalize relayAll t2 es1 (SetTable.grown es1.size) = Rl at hp hfr hlr ⊢
    obtain ⟨es2, t3, gv⟩ := Rl
    dsimp only at hp hfr hlr ⊢
    have hsz : es2.size = es1.size := by rw [← Array.length_toList, hp.length_eq, Array.length_toList]
    have hb2 : es2.size < scanBound := by rw [hsz]; exact hb1
    refine wpAny_bind (hg _ _ _ (wpAny_bind (wpAny_storeSet_of o1 rfl ?_ (fits_of_scanBound hb2))))
    have o2 := put_set (es' := es2) (t' := t3) o1
    exact wpAny_pure (h _ (sb1.trans (Heap.SameBut.update _ a _)) ⟨es2, _, t3, o2, hel.perm hp, fun e he => hst e (hp.mem_iff.mp he), (hp.map entS).trans hpm, hb2, hfr, hlr.1.trans hld, fun _ => hlr.2 hpl⟩)
  · exact wpAny_pure (h _ sb1 ⟨es1, _, t2, o1, hel, hst, hpm, hb1, hf2, hld, fun _ => hpl⟩)
theorem add_str {a : Addr} {xs : List Str} {x : Str} {tk : Tok} {Q : Bool → Shared → Prop} (S : SetS prog w s.heap a xs) (room : xs.length + 1 < scanBound)
    (h : ∀ h' b, Heap.SameBut a s.heap h' → SetS prog w h' a (if x ∈ xs then xs else xs ++ [x]) → Q b { s with heap := h' }) :
    wpAny (model prog w) A (setAddHashed a (.str x tk) ((mixKind prog w).hash (.inr x))) Q E s := by
  obtain ⟨es, ep, t, ho, hel, hst, hpm, hb, hf, hld, hpl⟩ := id S
  have hlen : es.size = xs.length := by rw [← Array.length_toList, ← List.length_map (f := entS), hpm.length_eq]
  have hkey : (mixKind prog w).is (.inr x) (.str x tk) = true := mixKind_str prog w x tk
  have hsc : (Value.str x tk).scannable = true := rfl
  unfold setAddHashed setAddHashedIn
  refine wpAny_holding (wpAny_bind (wpAny_setState_of ho rfl hf ?_))
  dsimp only
  rw [byScan_of hsc hb hel]
  simp only [↓reduceIte]
  unfold setAddByScan
  refine wpAny_bind (wpAny_bind (wpAny_rule (wpAny_bind (wpAny_setScan_of (knd := mixKind prog w) hkey ho rfl hf hel ?_))))
  have memx : x ∈ xs ↔ ∃ e ∈ es.toList, (mixKind prog w).is (.inr x) e.2 = true := by
    rw [← hpm.mem_iff, List.mem_map]
    constructor
    · rintro ⟨e, he, hx⟩
      obtain ⟨y, k, ey⟩ := hst e he
      refine ⟨e, he, ?_⟩
      unfold entS at hx
      rw [ey] at hx
      have hx' : y = x := hx
      rw [ey, hx']
      exact mixKind_str prog w x k
    · rintro ⟨e, he, hx⟩
      obtain ⟨y, k, ey⟩ := hst e he
      refine ⟨e, he, ?_⟩
      rw [ey] at hx
      have q : (Sum.inr x : Key) = Sum.inr y := (mixKind prog w).inj _ _ _ hx (mixKind_str prog w y k)
      unfold entS
      rw [ey]
      exact (Sum.inr.inj q).symm
  cases hr : List.findIdx? (fun e => (mixKind prog w).is (.inr x) e.2) es.toList with
  | some j =>
    dsimp only
    obtain ⟨hj, hpj, _⟩ := List.findIdx?_eq_some_iff_getElem.mp hr
    have hm : x ∈ xs := memx.mpr ⟨es.toList[j], List.getElem_mem hj, hpj⟩
    refine wpAny_pure (wpAny_pure ?_)
    have q := h s.heap false (Heap.SameBut.refl a s.heap) (by rw [if_pos hm]; exact S)
    exact q
  | none =>
    dsimp only
    have hm : ¬ x ∈ xs := fun z => by
      obtain ⟨e, he, hp⟩ := memx.mp z
      have q := List.findIdx?_eq_none_iff.mp hr e he
      rw [hp] at q; cases q
    have hperm := layNew_perm t es ((mixKind prog w).hash (.inr x)) (.str x tk)
    have hfits := layNew_fits t es ((mixKind prog w).hash (.inr x)) (.str x tk)
    have hled := lay_led t es ((mixKind prog w).hash (.inr x)) (.str x tk)
    generalize layNew t es ((mixKind prog w).hash (.inr x)) (.str x tk) = L at hperm hfits hled ⊢
    obtain ⟨es1, t1, wd, gv⟩ := L
    dsimp only at hperm hfits hled ⊢
    rw [Array.toList_push] at hperm
    have hel1 : ElemsOf (mixKind prog w) es1.toList := (hel.push hkey hsc).perm hperm
    have hst1 : ∀ e ∈ es1.toList, ∃ y k, e.2 = Value.str y k := fun e he => by
      rcases List.mem_append.mp (hperm.mem_iff.mp he) with z | z
      · exact hst e z
      · rw [List.mem_singleton.mp z]; exact ⟨x, tk, rfl⟩
    have hpm1 : (es1.toList.map entS).Perm (xs ++ [x]) := by
      refine (hperm.map entS).trans ?_
      rw [List.map_append]
      exact hpm.append (List.Perm.refl _)
    have hb1 : es1.size < scanBound := by
      rw [← Array.length_toList, hperm.length_eq, List.length_append, Array.length_toList, hlen]
      exact room
    have fin : ∀ h', Heap.SameBut a s.heap h' → SetS prog w h' a (xs ++ [x]) → Q true { s with heap := h' } := fun h' sb S' => h h' true sb (by rw [if_neg hm]; exact S')
    have gw : ∀ (b : Bool) (s₁ : Shared) (Q' : Unit → Shared → Prop), Q' () s₁ → wpAny (model prog w) A (match b with | true => rule "set.scan.the-table-gave-way" | false => pure ()) Q' E s₁ :=
      fun b s₁ Q' hq => by cases b <;> first | exact wpAny_pure hq | exact wpAny_rule hq
    refine wpAny_bind (gw _ _ _ ?_)
    split
    · refine wpAny_bind ?_
      rw [hashByValue_scannable 8 hsc]
      refine wpAny_pure (add_tail gw ho hel1 hst1 hpm1 hb1 ?_ ?_ ?_ fun h' sb S' => ?_)
      · exact SetTable.fits_plain_off hfits
      · exact hled.1.trans hld
      · rfl
      · dsimp only
        exact wpAny_pure (fin h' sb S')
    · rename_i hnp
      refine wpAny_bind (wpAny_pure ?_)
      simp only [↓reduceIte]
      refine add_tail gw ho hel1 hst1 hpm1 hb1 hfits (hled.1.trans hld) (Bool.eq_false_iff.mpr hnp) fun h' sb S' => ?_
      dsimp only
      exact wpAny_pure (fin h' sb S')
end
/-- each once, as they are met -/
def onceS : List Str → List Str → List Str
  | acc, [] => acc
  | acc, x :: r => onceS (if x ∈ acc then acc else acc ++ [x]) r
theorem onceS_snoc (x : Str) : ∀ (l acc : List Str), onceS acc (l ++ [x]) = (if x ∈ onceS acc l then onceS acc l else onceS acc l ++ [x])
  | [], _ => rfl
  | y :: r, acc => onceS_snoc x r _
theorem onceS_mem {x : Str} : ∀ (l acc : List Str), x ∈ onceS acc l ↔ x ∈ acc ∨ x ∈ l
  | [], acc => by simp [onceS]
  | y :: r, acc => by
    show x ∈ onceS (if y ∈ acc then acc else acc ++ [y]) r ↔ _
    rw [onceS_mem r]
    by_cases h : y ∈ acc
    · rw [if_pos h, List.mem_cons]
      constructor
      · rintro (z | z)
        · exact .inl z
        · exact .inr (.inr z)
      · rintro (z | z | z)
        · exact .inl z
        · rw [z]; exact .inl h
        · exact .inr z
    · rw [if_neg h, List.mem_append, List.mem_singleton, List.mem_cons]
      constructor
      · rintro ((z | z) | z)
        · exact .inl z
        · exact .inr (.inl z)
        · exact .inr (.inr z)
      · rintro (z | z | z)
        · exact .inl (.inl z)
        · exact .inl (.inr z)
        · exact .inr z
theorem onceS_nodup : ∀ (l acc : List Str), acc.Nodup → (onceS acc l).Nodup
  | [], _, h => h
  | y :: r, acc, h => by
    refine onceS_nodup r _ ?_
    by_cases hy : y ∈ acc
    · rw [if_pos hy]; exact h
    · rw [if_neg hy, List.nodup_append]
      refine ⟨h, by simp, fun a ha b hb => ?_⟩
      rw [List.mem_singleton.mp hb]
      intro z
      exact hy (z ▸ ha)
theorem onceS_len : ∀ (l acc : List Str), (onceS acc l).length ≤ acc.length + l.length
  | [], acc => Nat.le_refl _
  | y :: r, acc => by
    have q := onceS_len r (if y ∈ acc then acc else acc ++ [y])
    show (onceS (if y ∈ acc then acc else acc ++ [y]) r).length ≤ _
    have q2 : (if y ∈ acc then acc else acc ++ [y]).length ≤ acc.length + 1 := by split <;> simp
    rw [List.length_cons]
    omega
section
variable {prog : Program} {w : World} {A : Around} {R : Result → Shared → Prop} {I : Addr} {fp wr : List Addr} {G : Array GenState → Array GenState → Prop} {n : Nat} {P : Nat → Value → Prop} {St : Nat → Shared → Prop}
theorem fill_set (W : WalksS prog w A.in1 I fp wr G n P St) (S : Addr) (hSf : S ∉ fp) (ts : List Str) (hn : ts.length = n) (hval : ∀ i v, P i v → ∃ x t, ts[i]? = some x ∧ v = .str x t) (hb : n + 1 < scanBound) :
    ∀ (k i : Nat) (s : Shared), n - i = k → i ≤ n → St i s → SetS prog w s.heap S (onceS [] (ts.take i)) →
      (∀ s', Moved (S :: wr) G s s' → SetS prog w s'.heap S (onceS [] ts) → R (.ok (.ret .none)) s') →
      codeAny (model prog w) A (.builtin "set.update.loop" ⟨[.ref S, .ref I], []⟩) R s := by
  have hSw : S ∉ wr := fun h => hSf (W.sub _ h)
  have hsub : ∀ b ∈ wr, b ∈ S :: wr := fun b hb => List.mem_cons_of_mem _ hb
  intro k
  induction k with
  | zero =>
    intro i s hk hi hst hS hR
    have hin : i = n := by omega
    refine codeAny_builtin F.entry_set_update_loop ?_
    rw [Around.under_plainId F.plain_set_update_loop _]
    show wpAny _ A.in1 (pyNext (.ref I) >>= _) _ _ s
    refine wpAny_bind (W.done s _ _ (hin ▸ hst) fun s' hm => ?_)
    show wpAny _ A.in1 (ret Value.none) _ _ s'
    refine wpAny_pure (hR s' (hm.mono hsub) (SetS.keep ?_ fun o e => hm.heap S o hSw e))
    rw [hin, List.take_of_length_le (by omega)] at hS
    exact hS
  | succ k ih =>
    intro i s hk hi hst hS hR
    have hlt : i < n := by omega
    refine codeAny_builtin F.entry_set_update_loop ?_
    rw [Around.under_plainId F.plain_set_update_loop _]
    show wpAny _ A.in1 (pyNext (.ref I) >>= _) _ _ s
    refine wpAny_bind (W.item i s _ _ hlt hst fun v s' hP hst' hm => ?_)
    obtain ⟨x, t, hx, rfl⟩ := hval i v hP
    have hS' : SetS prog w s'.heap S (onceS [] (ts.take i)) := hS.keep fun o e => hm.heap S o hSw e
    show wpAny _ A.in1 (holding [Value.str x t] (setAdd S (.str x t)) >>= _) _ _ s'
    refine wpAny_bind (wpAny_holding ?_)
    unfold setAdd
    refine wpAny_holding (wpAny_bind ((mixKind prog w).pyHash (k := .inr x) (mixKind_str prog w x t) ?_))
    have hroom : (onceS [] (ts.take i)).length + 1 < scanBound := by
      have q := onceS_len (ts.take i) []
      rw [List.length_take, List.length_nil] at q
      omega
    refine add_str (s := { s' with toks := s'.toks + 1 }) hS' hroom fun h' b hsb hS2 => ?_
    have htk : ts.take (i + 1) = ts.take i ++ [x] := by rw [List.take_add_one, hx]; rfl
    rw [← onceS_snoc, ← htk] at hS2
    refine wpAny_pure ⟨plainId_quiet F.plain_set_update_loop _, ih (i + 1) _ (by omega) hlt (W.frame _ s' _ _ hst' (Nat.le_succ _) fun b hb o e => ?_) hS2 fun s'' hm'' hS'' => ?_⟩
    · rw [hsb.2 b (fun h : b = S => hSf (by rw [← h]; exact hb))]; exact e
    · refine hR s'' (Moved.trans W.gtrans ((hm.mono hsub).then_heap (Nat.le_succ _) fun b o hb e => ?_) hm'') hS''
      rw [hsb.2 b (fun h : b = S => hb (by rw [h]; exact List.mem_cons_self))]; exact e
end
end L2

set_option Elab.async false
set_option linter.all false
set_option maxRecDepth 100000
set_option maxHeartbeats 4000000
set_option autoImplicit false
namespace L2
open PySem PySem.Spec PyProof.Rows
section
variable {prog : Program} {w : World} {A : Around} {E : Value → Shared → Prop} {s : Shared}
theorem new_set (a : Value) {Q₁ : Value → Shared → Prop} (h : Q₁ (.ref s.heap.objs.size) { s with heap := s.heap.push (setO #[] 0 (.fresh 0 0 (!(w.params.followText "set-order")))) }) :
    codeAny (model prog w) A (.call (.builtin "set.__new__") ⟨[.type "set", a], []⟩) (wants Q₁ E) s := by
  refine codeAny_of_tree ?_
  show wpAny _ A.in1 (do checkBuiltinCall "set.__new__" ⟨[.type "set", a], []⟩; again (.builtin "set.__new__" ⟨[.type "set", a], []⟩)) _ _ s
  refine wpAny_bind (wpAny_of_eq (F.newCall_set_1 a) (wpAny_pure ⟨plainId_quiet F.plain_set_new _, codeAny_builtin F.entry_set_new ?_⟩)); rw [Around.under_plainId F.plain_set_new _]
  unfold Builtin.«set.__new__» Builtin.Frozenset.newClass; have hsub := sub_set_self
  obtain ⟨hp, g, d, tk, os⟩ := s; dsimp only
  wp_walk
  refine wpAny_askSetting (wpAny_pure ?_); dsimp only
  simp only [newObj]; refine wpAny_bind (wpAny_alloc (wpAny_pure ?_)); exact wpAny_pure h
set_option maxHeartbeats 6400000 in
theorem call_set_strs {l : Addr} {items : Array Value} {ts : List Str} {Q : Value → Shared → Prop} (hh : A.handled = none) (hl : s.heap.IsList l items) (hi : StrsAre items.toList ts) (hb : items.size + 1 < scanBound)
    (h : ∀ (h' : Heap) (tk : Nat), SetS prog w h' s.heap.objs.size (onceS [] ts) → (∀ b o, b < s.heap.objs.size → s.heap.get? b = some o → h'.get? b = some o) → Q (.ref s.heap.objs.size) { s with heap := h', toks := tk }) :
    wpAny (model prog w) A (call (.type "set") [.ref l]) Q E s := by
  obtain ⟨c, tl, hmro⟩ := F.called_set.mro; have hmade := F.called_set.made
  have hsub := F.called_set.sub; refine wpAny_call (codeAny_of_tree ?_)
  show wpAny _ _ (callAny (.type "set") _) _ _ _
  refine wpAny_pure ⟨Code.quiet_builtin _ (by decide +kernel), codeAny_builtin F.entry_type_call ?_⟩; rw [Around.under_plain (weight_type_call_type "set" [.ref l] []) rfl]
  have h1 := F.called_set.notType; have h2 := F.called_set.canCreate
  have hct := F.typeCall_set_1 (.ref l)
  repeat (any_goals (first | assumption | wp_step))
  refine codeAny_mono (new_set (w := w) (.ref l) (E := E) (Q₁ := fun obj s₁ => obj = .ref s.heap.objs.size ∧ s₁ = { s with heap := s.heap.push (setO #[] 0 (.fresh 0 0 (!(w.params.followText "set-order")))) }) ⟨rfl, rfl⟩) fun r s₁ hr => ?_
  cases r with
  | error e => exact hr
  | ok fl =>
    cases fl with
    | ret obj =>
      obtain ⟨rfl, rfl⟩ := hr
      generalize hLd : (!(w.params.followText "set-order")) = led
      have hS : (s.heap.push { cls := .type "set", dict := none, data := .set #[] 0 (.fresh 0 0 led) }).get? s.heap.objs.size = some (setO #[] 0 (.fresh 0 0 led)) := Heap.get?_push_size _ rfl
      have hT : Shared.TypeIs { s with heap := s.heap.push { cls := .type "set", dict := none, data := .set #[] 0 (.fresh 0 0 led) } } (.ref s.heap.objs.size) "set" := ⟨_, hS, rfl⟩
      have hli := F.called_set.init.lookup; have hbi := F.called_set.init.bind (.ref s.heap.objs.size)
      repeat (any_goals (first | assumption | wp_step))
      refine codeAny_mono (codeAny_call_builtin (R := wants (fun r s₂ => r = .none ∧ ∃ h' tk, s₂ = { s with heap := h', toks := tk } ∧ SetS prog w h' s.heap.objs.size (onceS [] ts) ∧
          (∀ b o, b < s.heap.objs.size → s.heap.get? b = some o → h'.get? b = some o)) E) F.called_set.init.plain F.entry_set_init (check_set_init_1 hT ?_)) fun r₂ s₂ hr₂ => ?_
      · obtain ⟨⟨ocls, odict, odata, oslots⟩, hol, hcl2, nl, hdl⟩ := hl
        simp only at hcl2 hdl; subst hcl2; subst hdl
        have hol' : (s.heap.push { cls := .type "set", dict := none, data := .set #[] 0 (.fresh 0 0 led) }).get? l = some { cls := .type "list", dict := odict, data := .seq items nl, slots := oslots } := Heap.get?_push_of_some _ hol
        have hsls := F.sub_list_set; have hslf := F.sub_list_frozenset
        have hne : (Value.type "list" == Value.type "dict") = false := by decide
        have hl1 : (s.heap.push { cls := .type "set", dict := none, data := .set #[] 0 (.fresh 0 0 led) }).IsList l items := ⟨_, hol', rfl, nl, rfl⟩
        unfold Builtin.«set.__init__» noKeywords Builtin.Frozenset.updateFrom; generalize hPI : pyIter = PI
        wp_walk
        subst hPI; refine wpAny_pyIter_list hl1 ?_
        refine wpAny_bind (wpAny_runValue ?_); skip
        have hlS : l < s.heap.objs.size := Heap.lt_size hol
        have hh3 : A.in1.in1.in1.handled = none := by simp [hh]
        have hneI : l ≠ (s.heap.push { cls := .type "set", dict := none, data := .set #[] 0 (.fresh 0 0 led) }).objs.size := by rw [Heap.size_push]; exact Nat.ne_of_lt (Nat.lt_succ_of_lt hlS)
        have hSf : s.heap.objs.size ∉ [(s.heap.push { cls := .type "set", dict := none, data := .set #[] 0 (.fresh 0 0 led) }).objs.size, l] := by
          rw [Heap.size_push]; simp only [List.mem_cons, List.mem_singleton, List.not_mem_nil, or_false, not_or]; exact ⟨Nat.ne_of_lt (Nat.lt_succ_self _), Nat.ne_of_gt hlS⟩
        have lenT : ts.length = items.size := by rw [← Array.length_toList, StrsAre.length hi]
        have hval : ∀ (i : Nat) (v : Value), items[i]? = some v → ∃ x t, ts[i]? = some x ∧ v = .str x t := fun i v hv => by
          have hv' : items.toList[i]? = some v := by rw [Array.getElem?_toList]; exact hv
          obtain ⟨x, t, e⟩ := hi.all v (List.mem_of_getElem? hv')
          refine ⟨x, t, ?_, e⟩
          rw [← hi.strs, List.getElem?_map, hv', e]
          rfl
        refine fill_set ((Walks.list hh3 _ l hneI items).toS) s.heap.objs.size hSf ts lenT hval hb (items.size - 0) 0 _ (by omega) (Nat.zero_le _) ⟨⟨_, Heap.get?_push_size _ rfl, rfl, rfl⟩, (hl1.push _)⟩ ?hS0 ?hR
        case hS0 =>
          refine ⟨#[], 0, .fresh 0 0 (!(w.params.followText "set-order")), ?_, fun e he => absurd he (by simp), fun e he => absurd he (by simp), .refl _, by decide, rfl, rfl, fun z => absurd rfl z⟩
          rw [hLd]; exact Heap.get?_push_of_some _ hS
        case hR =>
          intro s' hm hS'
          obtain ⟨h', g', d', tk', os'⟩ := s'
          have eg : g' = s.gens := hm.gens
          have ed : d' = s.drawn := hm.drawn
          have eo : os' = s.os := hm.os
          subst eg; subst ed; subst eo
          show wpAny _ _ _ _ _ _; refine wpAny_pure ?_
          show wpAny _ _ (ret Value.none) _ _ _
          refine wpAny_pure ⟨rfl, h', tk', rfl, hS', fun b o hb e => ?_⟩
          have hb1 : b ≠ s.heap.objs.size := Nat.ne_of_lt hb
          have hb2 : b ≠ (s.heap.push { cls := .type "set", dict := none, data := .set #[] 0 (.fresh 0 0 led) }).objs.size := by rw [Heap.size_push]; exact Nat.ne_of_lt (Nat.lt_succ_of_lt hb)
          exact hm.heap b o (by simp only [List.mem_cons, List.mem_singleton, List.not_mem_nil, or_false, not_or]; exact ⟨hb1, hb2⟩) (Heap.get?_push_of_some _ (Heap.get?_push_of_some _ e))
      · cases r₂ with
        | error e => exact hr₂
        | ok fl₂ =>
          cases fl₂ with
          | ret r =>
            obtain ⟨rfl, h', tk, rfl, hS', hk'⟩ := hr₂
            repeat (any_goals (first | assumption | wp_step))
            exact h _ _ hS' hk'
          | _ => exact hr₂.elim
    | _ => exact hr.elim
end
end L2

set_option Elab.async false
set_option linter.all false
set_option maxRecDepth 100000
set_option maxHeartbeats 4000000
set_option autoImplicit false
namespace L2
open PySem PySem.Spec PyProof.Rows
/-! ### a set is walked -/
theorem sl_sit_next : Slot "set_iterator" "__next__" "set_iterator.__next__" :=
  .of (owner := "set_iterator") (n := "__next__") (by rw [typeLookup_type, builtinLookup_eq_fast]; kernel_rfl) (by decide +kernel) (by decide +kernel) (by decide +kernel) (by first | exact .inl (by decide +kernel) | exact .inr (by decide +kernel)) (by rw [isSubtype_type]; kernel_rfl)
theorem en_sit_next : entryFor table "set_iterator.__next__" = some Builtin.«set_iterator.__next__» := entryFor_of_fast (by kernel_rfl)
theorem ar_sit_next (a : Value) : argsOk "set_iterator.__next__" ⟨[a], []⟩ := by unfold argsOk; kernel_rfl
theorem en_set_iter : entryFor table "set.__iter__" = some Builtin.«frozenset.__iter__» := entryFor_alias (id' := "frozenset.__iter__") (by kernel_rfl) rfl (by decide +kernel) (by kernel_rfl)
theorem set_len : typeLookup (.type "set") "__len__" = pure (some (.builtin "set.__len__")) := by rw [typeLookup_type, builtinLookup_eq_fast]; kernel_rfl
section
variable {prog : Program} {w : World} {A : Around} {E : Value → Shared → Prop} {s : Shared}
theorem choose_ok {src : Source} {n : Nat} {Q : Nat → Shared → Prop} (h0 : n ≠ 0) (h : ∀ i, i < n → Q i { s with drawn := s.drawn.bump src }) : wpAny (model prog w) A (choose src n) Q E s := fun Γ p hΓ => by
  show Sem.wp _ Γ (.choose src n .pure) _ _ p s
  rw [Sem.wp_choose]
  refine ⟨h0, ?_⟩
  rw [Sem.wp]
  exact h _ (Nat.mod_lt _ (Nat.pos_of_ne_zero h0))
theorem erase_perm {α : Type} : ∀ (xs : List α) (i : Nat) (x : α), xs[i]? = some x → xs.Perm (x :: xs.eraseIdx i)
  | [], _, _, h => by simp at h
  | y :: r, 0, x, h => by simp at h; subst h; exact .refl _
  | y :: r, i + 1, x, h => by
    rw [List.getElem?_cons_succ] at h
    have ih := erase_perm r i x h
    rw [List.eraseIdx_cons_succ]
    exact (ih.cons y).trans (.swap x y _)
/-- an order is drawn -/
theorem draw_ok {α : Type} : ∀ (n : Nat) (xs : List α) (s : Shared) {Q : List α → Shared → Prop}, xs.length = n → (∀ (ys : List α) (d : Drawn), ys.Perm xs → Q ys { s with drawn := d }) → wpAny (model prog w) A (drawOrder n xs) Q E s
  | 0, xs, s, Q, hl, h => by
    have e : xs = [] := List.eq_nil_of_length_eq_zero hl
    subst e
    unfold drawOrder
    exact wpAny_pure (h [] s.drawn (.refl _))
  | n + 1, xs, s, Q, hl, h => by
    cases xs with
    | nil => simp at hl
    | cons a r =>
      unfold drawOrder
      refine wpAny_bind (choose_ok (by simp) fun i hi => ?_)
      have hx : (a :: r)[i]? = some (a :: r)[i] := List.getElem?_eq_getElem hi
      rw [hx]
      dsimp only
      refine wpAny_bind (draw_ok n ((a :: r).eraseIdx i) _ ?_ fun ys d hp => ?_)
      · rw [List.length_eraseIdx_of_lt hi]; omega
      · exact wpAny_pure (h _ d ((hp.cons _).trans (erase_perm _ i _ hx).symm))
theorem pick_go {α : Type} (nx : Nat → Nat) : ∀ (n k : Nat) (left : List α) (out : Array α), left.length = n → (pickOrder.go nx n k left out).toList.Perm (out.toList ++ left)
  | 0, k, left, out, hl => by
    have e : left = [] := List.eq_nil_of_length_eq_zero hl
    subst e
    unfold pickOrder.go
    rw [List.append_nil]
  | n + 1, k, left, out, hl => by
    unfold pickOrder.go
    have hpos : 0 < left.length := by omega
    have hlt : nx k % left.length < left.length := Nat.mod_lt _ hpos
    have hx : left[nx k % left.length]? = some left[nx k % left.length] := List.getElem?_eq_getElem hlt
    rw [hx]
    dsimp only
    have ih := pick_go nx n (k + 1) (left.eraseIdx (nx k % left.length)) (out.push left[nx k % left.length]) (by rw [List.length_eraseIdx_of_lt hlt]; omega)
    refine ih.trans ?_
    rw [Array.toList_push, List.append_assoc]
    exact List.Perm.append_left _ (erase_perm _ _ _ hx).symm
theorem pick_perm {α : Type} (nx : Nat → Nat) (xs : Array α) : (pickOrder nx xs).toList.Perm xs.toList := by
  have q := pick_go nx xs.size 0 xs.toList #[] (by simp)
  simpa [pickOrder] using q
end
end L2

set_option Elab.async false
set_option linter.all false
set_option maxRecDepth 100000
set_option maxHeartbeats 4000000
set_option autoImplicit false
namespace L2
open PySem PySem.Spec PyProof.Rows
abbrev sitO (first : Value) (i : Int) (a : Addr) (n ep : Int) : Obj := { cls := .type "set_iterator", dict := none, data := .fields #[first, .int i 0, .ref a, .int n 0, .int ep 0], slots := #[] }
abbrev tupO (vs : List Value) : Obj := { cls := .type "tuple", dict := none, data := .seq vs.toArray 0, slots := #[] }
section
variable {prog : Program} {w : World} {A : Around} {E : Value → Shared → Prop} {s : Shared}
theorem dr_item {it a tp : Addr} {es : Array (Int × Value)} {ep : Nat} {t : SetTable} {places : List Nat} {i : Nat} {p : Nat} {h0 : Int} {x : Value} {Q : Option Value → Shared → Prop} (hf : t.fits es.size = true)
    (ho : s.heap.get? a = some (setO es ep t)) (ht : s.heap.get? tp = some (tupO (places.map fun (k : Nat) => rawInt k))) (hit : s.heap.get? it = some (sitO (.ref tp) i a es.size ep))
    (hp : places[i]? = some p) (hx : es[p]? = some (h0, x))
    (hQ : ∀ h', h'.get? it = some (sitO (.ref tp) ((i : Int) + 1) a es.size ep) → Heap.SameBut it s.heap h' → Q (some x) { s with heap := h' }) : wpAny (model prog w) A (pyNext (.ref it)) Q E s := by
  have hT : s.TypeIs (.ref it) "set_iterator" := ⟨_, hit, rfl⟩
  unfold pyNext
  refine wpAny_bind (wpAny_attempt (wpAny_callSpecial?_slot (name := Str.ofString "__next__") hT sl_sit_next (wpAny_call_entry sl_sit_next hT en_sit_next ?_ (ar_sit_next _))))
  unfold Builtin.«set_iterator.__next__»
  refine wpAny_bind (m := slotArgs "__next__" 0 _) (wpAny_pure ?_)
  refine wpAny_bind (wpAny_fieldsOf hit rfl ?_)
  dsimp only
  refine wpAny_bind (m := setEntries a) (wpAny_bind (wpAny_setState_of (prog := prog) (w := w) ho rfl hf (wpAny_pure ?_)))
  dsimp only
  rw [if_neg (by simp)]
  refine wpAny_bind (wpAny_seqItems ht rfl ?_)
  have e1 : (places.map fun (k : Nat) => rawInt (k : Int)).toArray[((i : Nat) : Int).toNat]? = some (rawInt (p : Int)) := by
    rw [Int.toNat_natCast, List.getElem?_toArray, List.getElem?_map, hp]; rfl
  dsimp only
  rw [e1]
  show wpAny _ _ (setNextDrawn a ((p : Int)).toNat ((ep : Int)).toNat >>= _) _ _ s
  refine wpAny_bind (m := setNextDrawn a _ _) ?_
  unfold setNextDrawn
  refine wpAny_bind (wpAny_setState_of (prog := prog) (w := w) ho rfl hf ?_)
  dsimp only
  rw [if_neg (by simp), Int.toNat_natCast, hx]
  refine wpAny_pure (wpAny_bind (wpAny_setField hit rfl (by simp) (wpAny_pure ⟨x, rfl, wpAny_pure (hQ _ ?_ (Heap.SameBut.update ..))⟩)))
  exact Heap.get?_update_self _ hit rfl
theorem dr_done {it a tp : Addr} {es : Array (Int × Value)} {ep : Nat} {t : SetTable} {places : List Nat} {i : Nat} {Q : Option Value → Shared → Prop} (hh : A.handled = none) (hf : t.fits es.size = true)
    (ho : s.heap.get? a = some (setO es ep t)) (ht : s.heap.get? tp = some (tupO (places.map fun (k : Nat) => rawInt k))) (hit : s.heap.get? it = some (sitO (.ref tp) i a es.size ep)) (hp : places.length ≤ i)
    (hQ : ∀ h', Heap.ExtBut it s.heap h' → Q none { s with heap := h' }) : wpAny (model prog w) A (pyNext (.ref it)) Q E s := by
  have hT : s.TypeIs (.ref it) "set_iterator" := ⟨_, hit, rfl⟩
  unfold pyNext
  refine wpAny_bind (wpAny_attempt (wpAny_callSpecial?_slot (name := Str.ofString "__next__") hT sl_sit_next (wpAny_call_entry sl_sit_next hT en_sit_next ?_ (ar_sit_next _))))
  unfold Builtin.«set_iterator.__next__»
  refine wpAny_bind (m := slotArgs "__next__" 0 _) (wpAny_pure ?_)
  refine wpAny_bind (wpAny_fieldsOf hit rfl ?_)
  dsimp only
  refine wpAny_bind (m := setEntries a) (wpAny_bind (wpAny_setState_of (prog := prog) (w := w) ho rfl hf (wpAny_pure ?_)))
  dsimp only
  rw [if_neg (by simp)]
  refine wpAny_bind (wpAny_seqItems ht rfl ?_)
  have e1 : (places.map fun (k : Nat) => rawInt (k : Int)).toArray[((i : Nat) : Int).toNat]? = none := by
    rw [Int.toNat_natCast, List.getElem?_toArray, List.getElem?_map, List.getElem?_eq_none hp]; rfl
  dsimp only
  rw [e1]
  refine wpAny_bind (wpAny_setField hit rfl (by simp) ?_)
  have hit2 := Heap.get?_update_self (Obj.mapFields (·.setIfInBounds 0 (rawInt 0))) hit rfl
  refine wpAny_bind (wpAny_setField hit2 rfl (by simp [Obj.mapFields]) ?_)
  dsimp only
  refine wpAny_bind (m := newExc (.type "StopIteration") []) ?_
  simp only [newExc, newTuple]
  refine wpAny_bind (wpAny_newObj_type ?_ (by size_fits))
  refine wpAny_bind (m := firstArgMember _ _) (wpAny_of_eq (a := Value.none) (by first | rfl | (simp only [firstArgMember]; rfl)) ?_)
  refine wpAny_newObj_type ?_ (by size_fits); simp only [raiseNew]
  refine wpAny_bind (wpAny_handled ?_); rw [show A.in1.handled = none from hh]
  refine wpAny_bind (wpAny_pure (wpAny_throw ?_))
  refine wpAny_bind (wpAny_isInstance (T := "StopIteration") (b := true) ⟨_, Heap.get?_push_size _ rfl, rfl⟩ isSubtype_stop ?_)
  exact wpAny_pure (hQ _ ((((Heap.SameBut.update ..).trans (Heap.SameBut.update ..)).extBut.push _).push _))
/-- by the text's own order, or a set of one at most -/
theorem tx_item {it a : Addr} {es : Array (Int × Value)} {ep : Nat} {t : SetTable} {i : Nat} {h0 : Int} {x : Value} {Q : Option Value → Shared → Prop} (hb : w.params.followText "set-order" = true) (hf : t.fits es.size = true)
    (ho : s.heap.get? a = some (setO es ep t)) (hit : s.heap.get? it = some (sitO (rawInt 0) i a es.size ep)) (hx : (pickOrder (w.params.setOrder a ep) es)[i]? = some (h0, x))
    (hQ : ∀ h', h'.get? it = some (sitO (rawInt 0) ((i : Int) + 1) a es.size ep) → Heap.SameBut it s.heap h' → Q (some x) { s with heap := h' }) : wpAny (model prog w) A (pyNext (.ref it)) Q E s := by
  have hT : s.TypeIs (.ref it) "set_iterator" := ⟨_, hit, rfl⟩
  unfold pyNext
  refine wpAny_bind (wpAny_attempt (wpAny_callSpecial?_slot (name := Str.ofString "__next__") hT sl_sit_next (wpAny_call_entry sl_sit_next hT en_sit_next ?_ (ar_sit_next _))))
  unfold Builtin.«set_iterator.__next__»
  refine wpAny_bind (m := slotArgs "__next__" 0 _) (wpAny_pure ?_)
  refine wpAny_bind (wpAny_fieldsOf hit rfl ?_)
  dsimp only
  refine wpAny_bind (m := setEntries a) (wpAny_bind (wpAny_setState_of (prog := prog) (w := w) ho rfl hf (wpAny_pure ?_)))
  dsimp only
  rw [if_neg (by simp)]
  refine wpAny_bind (m := setNext a _ _ _) ?_
  unfold setNext
  refine wpAny_bind (wpAny_setState_of (prog := prog) (w := w) ho rfl hf ?_)
  refine wpAny_bind (m := setsByText) (wpAny_bind (wpAny_askSetting (wpAny_pure ?_)))
  show wpAny _ _ (if w.params.followText "set-order" = true then _ else _) _ _ _
  rw [if_pos hb, if_neg (by simp)]
  refine wpAny_bind (m := setWalk a) ?_
  unfold setWalk
  refine wpAny_bind (wpAny_setState_of (prog := prog) (w := w) ho rfl hf ?_)
  refine wpAny_bind (m := setsByText) (wpAny_bind (wpAny_askSetting (wpAny_pure ?_)))
  show wpAny _ _ (if w.params.followText "set-order" = true then _ else _) _ _ _
  rw [if_pos hb]
  refine wpAny_bind (wpAny_askSetting (wpAny_pure (wpAny_pure ?_)))
  dsimp only [model]
  rw [Int.toNat_natCast, hx]
  dsimp only [Option.map_some]
  refine wpAny_bind (wpAny_setField hit rfl (by simp) ?_)
  have hit2 := Heap.get?_update_self (Obj.mapFields (·.setIfInBounds 0 (rawInt (((0 : Int).toNat : Nat) : Int)))) hit rfl
  refine wpAny_bind (wpAny_setField hit2 rfl (by simp [Obj.mapFields]) (wpAny_pure ⟨x, rfl, wpAny_pure (hQ _ ?_ ((Heap.SameBut.update ..).trans (Heap.SameBut.update ..)))⟩))
  exact Heap.get?_update_self _ hit2 rfl
theorem tx_done {it a : Addr} {es : Array (Int × Value)} {ep : Nat} {t : SetTable} {i : Nat} {Q : Option Value → Shared → Prop} (hh : A.handled = none) (hb : w.params.followText "set-order" = true) (hf : t.fits es.size = true)
    (ho : s.heap.get? a = some (setO es ep t)) (hit : s.heap.get? it = some (sitO (rawInt 0) i a es.size ep)) (hx : (pickOrder (w.params.setOrder a ep) es)[i]? = none)
    (hQ : ∀ h', Heap.ExtBut it s.heap h' → Q none { s with heap := h' }) : wpAny (model prog w) A (pyNext (.ref it)) Q E s := by
  have hT : s.TypeIs (.ref it) "set_iterator" := ⟨_, hit, rfl⟩
  unfold pyNext
  refine wpAny_bind (wpAny_attempt (wpAny_callSpecial?_slot (name := Str.ofString "__next__") hT sl_sit_next (wpAny_call_entry sl_sit_next hT en_sit_next ?_ (ar_sit_next _))))
  unfold Builtin.«set_iterator.__next__»
  refine wpAny_bind (m := slotArgs "__next__" 0 _) (wpAny_pure ?_)
  refine wpAny_bind (wpAny_fieldsOf hit rfl ?_)
  dsimp only
  refine wpAny_bind (m := setEntries a) (wpAny_bind (wpAny_setState_of (prog := prog) (w := w) ho rfl hf (wpAny_pure ?_)))
  dsimp only
  rw [if_neg (by simp)]
  refine wpAny_bind (m := setNext a _ _ _) ?_
  unfold setNext
  refine wpAny_bind (wpAny_setState_of (prog := prog) (w := w) ho rfl hf ?_)
  refine wpAny_bind (m := setsByText) (wpAny_bind (wpAny_askSetting (wpAny_pure ?_)))
  show wpAny _ _ (if w.params.followText "set-order" = true then _ else _) _ _ _
  rw [if_pos hb, if_neg (by simp)]
  refine wpAny_bind (m := setWalk a) ?_
  unfold setWalk
  refine wpAny_bind (wpAny_setState_of (prog := prog) (w := w) ho rfl hf ?_)
  refine wpAny_bind (m := setsByText) (wpAny_bind (wpAny_askSetting (wpAny_pure ?_)))
  show wpAny _ _ (if w.params.followText "set-order" = true then _ else _) _ _ _
  rw [if_pos hb]
  refine wpAny_bind (wpAny_askSetting (wpAny_pure (wpAny_pure ?_)))
  dsimp only [model]
  rw [Int.toNat_natCast, hx]
  rw [Option.map_none]
  refine wpAny_bind (wpAny_setField hit rfl (by simp) ?_)
  try dsimp only
  refine wpAny_bind (m := newExc (.type "StopIteration") []) ?_
  simp only [newExc, newTuple]
  refine wpAny_bind (wpAny_newObj_type ?_ (by size_fits))
  refine wpAny_bind (m := firstArgMember _ _) (wpAny_of_eq (a := Value.none) (by first | rfl | (simp only [firstArgMember]; rfl)) ?_)
  refine wpAny_newObj_type ?_ (by size_fits); simp only [raiseNew]
  refine wpAny_bind (wpAny_handled ?_); rw [show A.in1.handled = none from hh]
  refine wpAny_bind (wpAny_pure (wpAny_throw ?_))
  refine wpAny_bind (wpAny_isInstance (T := "StopIteration") (b := true) ⟨_, Heap.get?_push_size _ rfl, rfl⟩ isSubtype_stop ?_)
  exact wpAny_pure (hQ _ (((Heap.SameBut.update ..).extBut.push _).push _))
/-- a set of one at most -/
theorem on_item {it a : Addr} {es : Array (Int × Value)} {ep : Nat} {t : SetTable} {e0 : Int × Value} {Q : Option Value → Shared → Prop} (hb : w.params.followText "set-order" = false) (hf : t.fits es.size = true) (hld : t.led = true) (he : es = #[e0])
    (ho : s.heap.get? a = some (setO es ep t)) (hit : s.heap.get? it = some (sitO (rawInt 0) 0 a es.size ep))
    (hQ : ∀ h' (j : Nat), h'.get? it = some (sitO (rawInt (j : Int)) 1 a es.size ep) → t.place = #[j - 1] → 1 ≤ j → Heap.SameBut it s.heap h' → Q (some e0.2) { s with heap := h' }) : wpAny (model prog w) A (pyNext (.ref it)) Q E s := by
  have hT : s.TypeIs (.ref it) "set_iterator" := ⟨_, hit, rfl⟩
  unfold pyNext
  refine wpAny_bind (wpAny_attempt (wpAny_callSpecial?_slot (name := Str.ofString "__next__") hT sl_sit_next (wpAny_call_entry sl_sit_next hT en_sit_next ?_ (ar_sit_next _))))
  unfold Builtin.«set_iterator.__next__»
  refine wpAny_bind (m := slotArgs "__next__" 0 _) (wpAny_pure ?_)
  refine wpAny_bind (wpAny_fieldsOf hit rfl ?_)
  dsimp only
  refine wpAny_bind (m := setEntries a) (wpAny_bind (wpAny_setState_of (prog := prog) (w := w) ho rfl hf (wpAny_pure ?_)))
  dsimp only
  rw [if_neg (by simp)]
  refine wpAny_bind (m := setNext a _ _ _) ?_
  unfold setNext
  refine wpAny_bind (wpAny_setState_of (prog := prog) (w := w) ho rfl hf ?_)
  refine wpAny_bind (m := setsByText) (wpAny_bind (wpAny_askSetting (wpAny_pure ?_)))
  show wpAny _ _ (if w.params.followText "set-order" = true then _ else _) _ _ _
  rw [if_neg (by rw [hb]; exact Bool.false_ne_true)]
  have hsz : es.size ≤ 1 := by rw [he]; exact Nat.le_refl _
  obtain ⟨q, hq⟩ : ∃ q, t.place = #[q] := by
    have h1 : (t.place.size == es.size) = true := by
      unfold SetTable.fits at hf
      rw [Bool.and_eq_true] at hf
      exact hf.1
    have h2 : t.place.size = 1 := by rw [eq_of_beq h1, he]; rfl
    match hpl : t.place with
    | ⟨[]⟩ => rw [hpl] at h2; cases h2
    | ⟨[q]⟩ => exact ⟨q, rfl⟩
    | ⟨_ :: _ :: _⟩ => rw [hpl] at h2; simp at h2
  dsimp only
  split
  · rename_i z
    have z' : (!t.plain && decide (es.size > 1)) = true := z
    rw [Bool.and_eq_true] at z'
    have z2 := of_decide_eq_true z'.2
    omega
  refine wpAny_bind ?_
  show wpAny _ _ (if (!t.led && !es.isEmpty) = true then (unsupported "set:maker-not-led" : Sem Unit) else pure ()) _ _ _
  rw [if_neg (by rw [hld]; simp)]
  refine wpAny_pure (wpAny_pure ?_)
  rw [hq]
  have hb0 : SetTable.below #[q] (Int.toNat 0) = 0 := by
    simp [SetTable.below, SetTable.below.go]
  rw [hb0, he]
  try dsimp only
  refine wpAny_bind (wpAny_setField hit (by rfl) (by simp) ?_)
  have hit2 := Heap.get?_update_self (Obj.mapFields (·.setIfInBounds 0 (rawInt ((q + 1 : Nat) : Int)))) hit rfl
  refine wpAny_bind (wpAny_setField hit2 rfl (by simp [Obj.mapFields]) (wpAny_pure ⟨e0.2, rfl, wpAny_pure (hQ _ (q + 1) ?_ hq (by omega) ((Heap.SameBut.update ..).trans (Heap.SameBut.update ..)))⟩))
  exact Heap.get?_update_self _ hit2 rfl
theorem on_done {it a : Addr} {es : Array (Int × Value)} {ep : Nat} {t : SetTable} {sl i : Nat} {Q : Option Value → Shared → Prop} (hh : A.handled = none) (hb : w.params.followText "set-order" = false) (hf : t.fits es.size = true) (hld : t.led = true) (hsz : es.size ≤ 1)
    (ho : s.heap.get? a = some (setO es ep t)) (hit : s.heap.get? it = some (sitO (rawInt (sl : Int)) i a es.size ep)) (hx : es[SetTable.below t.place sl]? = none)
    (hQ : ∀ h', Heap.ExtBut it s.heap h' → Q none { s with heap := h' }) : wpAny (model prog w) A (pyNext (.ref it)) Q E s := by
  have hT : s.TypeIs (.ref it) "set_iterator" := ⟨_, hit, rfl⟩
  unfold pyNext
  refine wpAny_bind (wpAny_attempt (wpAny_callSpecial?_slot (name := Str.ofString "__next__") hT sl_sit_next (wpAny_call_entry sl_sit_next hT en_sit_next ?_ (ar_sit_next _))))
  unfold Builtin.«set_iterator.__next__»
  refine wpAny_bind (m := slotArgs "__next__" 0 _) (wpAny_pure ?_)
  refine wpAny_bind (wpAny_fieldsOf hit rfl ?_)
  dsimp only
  refine wpAny_bind (m := setEntries a) (wpAny_bind (wpAny_setState_of (prog := prog) (w := w) ho rfl hf (wpAny_pure ?_)))
  dsimp only
  rw [if_neg (by simp)]
  refine wpAny_bind (m := setNext a _ _ _) ?_
  unfold setNext
  refine wpAny_bind (wpAny_setState_of (prog := prog) (w := w) ho rfl hf ?_)
  refine wpAny_bind (m := setsByText) (wpAny_bind (wpAny_askSetting (wpAny_pure ?_)))
  show wpAny _ _ (if w.params.followText "set-order" = true then _ else _) _ _ _
  rw [if_neg (by rw [hb]; exact Bool.false_ne_true)]
  dsimp only
  split
  · rename_i z
    have z' : (!t.plain && decide (es.size > 1)) = true := z
    rw [Bool.and_eq_true] at z'
    have z2 := of_decide_eq_true z'.2
    omega
  refine wpAny_bind ?_
  show wpAny _ _ (if (!t.led && !es.isEmpty) = true then (unsupported "set:maker-not-led" : Sem Unit) else pure ()) _ _ _
  rw [if_neg (by rw [hld]; simp)]
  refine wpAny_pure (wpAny_pure ?_)
  rw [Int.toNat_natCast, hx]
  dsimp only
  refine wpAny_bind (wpAny_setField hit (by rfl) (by simp) ?_)
  try dsimp only
  refine wpAny_bind (m := newExc (.type "StopIteration") []) ?_
  simp only [newExc, newTuple]
  refine wpAny_bind (wpAny_newObj_type ?_ (by size_fits))
  refine wpAny_bind (m := firstArgMember _ _) (wpAny_of_eq (a := Value.none) (by first | rfl | (simp only [firstArgMember]; rfl)) ?_)
  refine wpAny_newObj_type ?_ (by size_fits); simp only [raiseNew]
  refine wpAny_bind (wpAny_handled ?_); rw [show A.in1.handled = none from hh]
  refine wpAny_bind (wpAny_pure (wpAny_throw ?_))
  refine wpAny_bind (wpAny_isInstance (T := "StopIteration") (b := true) ⟨_, Heap.get?_push_size _ rfl, rfl⟩ isSubtype_stop ?_)
  exact wpAny_pure (hQ _ (((Heap.SameBut.update ..).extBut.push _).push _))
end
end L2

set_option Elab.async false
set_option linter.all false
set_option maxRecDepth 100000
set_option maxHeartbeats 4000000
set_option autoImplicit false
namespace L2
open PySem PySem.Spec PyProof.Rows
theorem sl_sit_iter : Slot "set_iterator" "__iter__" "set_iterator.__iter__" :=
  .of (owner := "set_iterator") (n := "__iter__") (by rw [typeLookup_type, builtinLookup_eq_fast]; kernel_rfl) (by decide +kernel) (by decide +kernel) (by decide +kernel) (by first | exact .inl (by decide +kernel) | exact .inr (by decide +kernel)) (by rw [isSubtype_type]; kernel_rfl)
theorem en_sit_iter : entryFor table "set_iterator.__iter__" = some Builtin.«dict_keyiterator.__iter__» := entryFor_alias (id' := "dict_keyiterator.__iter__") (by kernel_rfl) rfl (by decide +kernel) (by kernel_rfl)
theorem ar_sit_iter (a : Value) : argsOk "set_iterator.__iter__" ⟨[a], []⟩ := by unfold argsOk; kernel_rfl
section
variable {prog : Program} {w : World}
theorem sit_self {A : Around} {E : Value → Shared → Prop} {s : Shared} {it a : Addr} {f : Value} {i n ep : Int} {Q : Value → Shared → Prop} (hit : s.heap.get? it = some (sitO f i a n ep)) (h : Q (.ref it) s) : wpAny (model prog w) A (pyIter (.ref it)) Q E s := by
  have hT : s.TypeIs (.ref it) "set_iterator" := ⟨_, hit, rfl⟩
  refine wpAny_pyIter_slot hT sl_sit_iter (wpAny_call_entry sl_sit_iter hT en_sit_iter ?_ (ar_sit_iter _))
  show wpAny _ _ (ret (.ref it)) _ _ s
  exact wpAny_pure ⟨_, rfl, "set_iterator", _, hT, sl_sit_next.lookup, h⟩
theorem wk_drawn {A : Around} (hh : A.handled = none) {it a tp : Addr} {es : Array (Int × Value)} {ep : Nat} {t : SetTable} {places : List Nat} (hf : t.fits es.size = true) (n1 : a ≠ it) (n2 : tp ≠ it) (hpl : places.length = es.size) (hin : ∀ p ∈ places, p < es.size) :
    Walks prog w A it [it, a, tp] [it] es.size (fun i v => ∃ p h0, places[i]? = some p ∧ es[p]? = some (h0, v))
      (fun i h => h.get? a = some (setO es ep t) ∧ h.get? tp = some (tupO (places.map fun (k : Nat) => rawInt k)) ∧ h.get? it = some (sitO (.ref tp) i a es.size ep)) where
  sub := fun b hb => by simp at hb; simp [hb]
  frame := fun _ _ _ st hk => ⟨hk a (by simp) _ st.1, hk tp (by simp) _ st.2.1, hk it (by simp) _ st.2.2⟩
  item := fun i s Q E hi st hQ => by
    have hp : places[i]? = some (places[i]'(by omega)) := List.getElem?_eq_getElem (by omega)
    have hlt := hin _ (List.getElem_mem (show i < places.length by omega))
    refine dr_item hf st.1 st.2.1 st.2.2 hp (x := es[places[i]'(by omega)].2) (h0 := es[places[i]'(by omega)].1) (Array.getElem?_eq_getElem hlt) fun h' hit' sb => ?_
    exact hQ _ h' s.toks ⟨_, _, hp, Array.getElem?_eq_getElem hlt⟩ ⟨(sb.2 a n1).trans st.1, (sb.2 tp n2).trans st.2.1, by simpa using hit'⟩ fun b o hb e => (sb.2 b (fun h => hb (by simp [h]))).trans e
  done := fun s Q E st hQ => dr_done hh hf st.1 st.2.1 st.2.2 (by omega) fun h' he' => hQ h' s.toks fun b o hb e => he' b o (fun h => hb (by simp [h])) e
  self := fun _ _ _ _ st hQ => sit_self st.2.2 hQ
theorem wk_text {A : Around} (hh : A.handled = none) (hb : w.params.followText "set-order" = true) {it a : Addr} {es : Array (Int × Value)} {ep : Nat} {t : SetTable} (hf : t.fits es.size = true) (n1 : a ≠ it) :
    Walks prog w A it [it, a] [it] es.size (fun i v => ∃ h0, (pickOrder (w.params.setOrder a ep) es)[i]? = some (h0, v))
      (fun i h => h.get? a = some (setO es ep t) ∧ h.get? it = some (sitO (rawInt 0) i a es.size ep)) where
  sub := fun b hb => by simp at hb; simp [hb]
  frame := fun _ _ _ st hk => ⟨hk a (by simp) _ st.1, hk it (by simp) _ st.2⟩
  item := fun i s Q E hi st hQ => by
    have hl : (pickOrder (w.params.setOrder a ep) es).size = es.size := by rw [← Array.length_toList, (pick_perm _ _).length_eq, Array.length_toList]
    have hx : (pickOrder (w.params.setOrder a ep) es)[i]? = some (pickOrder (w.params.setOrder a ep) es)[i] := Array.getElem?_eq_getElem (by omega)
    refine tx_item hb hf st.1 st.2 hx fun h' hit' sb => ?_
    exact hQ _ h' s.toks ⟨_, hx⟩ ⟨(sb.2 a n1).trans st.1, by simpa using hit'⟩ fun b o hb e => (sb.2 b (fun h => hb (by simp [h]))).trans e
  done := fun s Q E st hQ => by
    have hl : (pickOrder (w.params.setOrder a ep) es).size = es.size := by rw [← Array.length_toList, (pick_perm _ _).length_eq, Array.length_toList]
    exact tx_done hh hb hf st.1 st.2 (Array.getElem?_eq_none (by omega)) fun h' he' => hQ h' s.toks fun b o hb e => he' b o (fun h => hb (by simp [h])) e
  self := fun _ _ _ _ st hQ => sit_self st.2 hQ
theorem below_one (q : Nat) : SetTable.below #[q] (q + 1) = 1 := by simp [SetTable.below, SetTable.below.go]
theorem wk_one {A : Around} (hh : A.handled = none) (hb : w.params.followText "set-order" = false) {it a : Addr} {es : Array (Int × Value)} {ep : Nat} {t : SetTable} (hf : t.fits es.size = true) (hld : t.led = true) (hsz : es.size ≤ 1) (n1 : a ≠ it) :
    Walks prog w A it [it, a] [it] es.size (fun i v => ∃ h0, es[i]? = some (h0, v))
      (fun i h => h.get? a = some (setO es ep t) ∧ ((i = 0 ∧ h.get? it = some (sitO (rawInt 0) 0 a es.size ep)) ∨ ∃ j : Nat, i = 1 ∧ h.get? it = some (sitO (rawInt (j : Int)) 1 a es.size ep) ∧ t.place = #[j - 1] ∧ 1 ≤ j)) where
  sub := fun b hb => by simp at hb; simp [hb]
  frame := fun _ _ _ st hk => ⟨hk a (by simp) _ st.1, st.2.elim (fun z => .inl ⟨z.1, hk it (by simp) _ z.2⟩) fun ⟨j, z1, z2, z3⟩ => .inr ⟨j, z1, hk it (by simp) _ z2, z3⟩⟩
  item := fun i s Q E hi st hQ => by
    have hi0 : i = 0 := by omega
    subst hi0
    have h1 : es.size = 1 := by omega
    obtain ⟨e0, he⟩ : ∃ e0, es = #[e0] := by
      match es, h1 with
      | ⟨[e0]⟩, _ => exact ⟨e0, rfl⟩
    have hit : s.heap.get? it = some (sitO (rawInt 0) 0 a es.size ep) := by
      rcases st.2 with z | ⟨j, z, _⟩
      · exact z.2
      · cases z
    refine on_item hb hf hld he st.1 hit fun h' j hit' hq hj sb => ?_
    exact hQ _ h' s.toks ⟨e0.1, by rw [he]; rfl⟩ ⟨(sb.2 a n1).trans st.1, .inr ⟨j, rfl, hit', hq, hj⟩⟩ fun b o hb e => (sb.2 b (fun h => hb (by simp [h]))).trans e
  done := fun s Q E st hQ => by
    rcases st.2 with ⟨z, hit⟩ | ⟨j, z, hit, hq, hj⟩
    · refine on_done (sl := 0) (i := 0) hh hb hf hld hsz st.1 (by simpa using hit) ?_ fun h' he' => hQ h' s.toks fun b o hb e => he' b o (fun h => hb (by simp [h])) e
      exact Array.getElem?_eq_none (by omega)
    · refine on_done (sl := j) (i := 1) hh hb hf hld hsz st.1 (by simpa using hit) ?_ fun h' he' => hQ h' s.toks fun b o hb e => he' b o (fun h => hb (by simp [h])) e
      rw [hq]
      have e : SetTable.below #[j - 1] j = 1 := by
        have q := below_one (j - 1)
        rwa [show j - 1 + 1 = j by omega] at q
      rw [e]
      exact Array.getElem?_eq_none (by omega)
  self := fun _ _ _ _ st hQ => by
    rcases st.2 with ⟨z, hit⟩ | ⟨j, z, hit, hq, hj⟩
    · exact sit_self hit hQ
    · exact sit_self hit hQ
end
end L2

set_option Elab.async false
set_option linter.all false
set_option maxRecDepth 100000
set_option maxHeartbeats 4000000
set_option autoImplicit false
namespace L2
open PySem PySem.Spec PyProof.Rows
theorem strs_of_pick {es : Array (Int × Value)} {xs : List Str} {vs : List Value} {es' : List (Int × Value)} (hst : ∀ e ∈ es.toList, ∃ x tk, e.2 = Value.str x tk) (hpm : (es.toList.map entS).Perm xs) (hp : es'.Perm es.toList) (hv : vs = es'.map (·.2)) :
    ∃ ys, StrsAre vs ys ∧ ys.Perm xs := by
  refine ⟨vs.map strOf, strsAre_map vs fun v h => ?_, ?_⟩
  · rw [hv] at h
    obtain ⟨e, he, rfl⟩ := List.mem_map.mp h
    exact hst e (hp.mem_iff.mp he)
  · rw [hv, List.map_map]
    exact (hp.map entS).trans hpm
section
variable {prog : Program} {w : World} {A : Around} {E : Value → Shared → Prop} {s : Shared}
theorem iter_set {a : Addr} {xs : List Str} {Q : Value → Shared → Prop} (S : SetS prog w s.heap a xs)
    (h : ∀ (it : Addr) (fp : List Addr) (n : Nat) (P : Nat → Value → Prop) (St : Nat → Heap → Prop) (h' : Heap) (d : Drawn), (∀ A' : Around, A'.handled = none → Walks prog w A' it fp [it] n P St) → St 0 h' → (∀ b ∈ fp, b < h'.objs.size) → (∀ b ∈ fp, b = a ∨ s.heap.objs.size ≤ b) → s.heap.objs.size ≤ it →
      (∀ b o, s.heap.get? b = some o → h'.get? b = some o) → n ≤ sizeLine → (∀ vs : List Value, vs.length = n → (∀ (j : Nat) v, vs[j]? = some v → P j v) → ∃ ys, StrsAre vs ys ∧ ys.Perm xs) → Q (.ref it) { s with heap := h', drawn := d }) :
    wpAny (model prog w) A (pyIter (.ref a)) Q E s := by
  obtain ⟨es, ep, t, ho, hel, hst, hpm, hb, hf, hld, hpl⟩ := id S
  have hT : s.TypeIs (.ref a) "set" := ⟨_, ho, rfl⟩
  have halt : a < s.heap.objs.size := Heap.lt_size ho
  have hsl : es.size ≤ sizeLine := fits_of_scanBound hb
  refine wpAny_pyIter_slot hT F.slot_set_iter (wpAny_call_entry F.slot_set_iter hT en_set_iter ?_ (F.args_set_iter_1 _))
  unfold Builtin.«frozenset.__iter__» Builtin.Frozenset.slot0 Builtin.Frozenset.addrOf Builtin.Frozenset.sizeOf
  refine wpAny_bind (wpAny_bind (m := slotArgs "__iter__" 0 _) (wpAny_pure (wpAny_pure ?_)))
  refine wpAny_bind (wpAny_bind (m := setEntries a) (wpAny_bind (wpAny_setState_of (prog := prog) (w := w) ho rfl hf (wpAny_pure (wpAny_pure ?_)))))
  refine wpAny_bind (m := setDrawn a) ?_
  unfold setDrawn
  refine wpAny_bind (wpAny_setState_of (prog := prog) (w := w) ho rfl hf ?_)
  refine wpAny_bind (m := setsByText) (wpAny_bind (wpAny_askSetting (wpAny_pure (wpAny_pure ?_))))
  show wpAny _ _ (if (!w.params.followText "set-order" && (!t.plain && decide (es.size > 1))) = true then _ else _) _ _ s
  by_cases hd : (!w.params.followText "set-order" && (!t.plain && decide (es.size > 1))) = true
  · rw [if_pos hd]
    refine wpAny_bind (draw_ok es.size (List.range es.size) s (by rw [List.length_range]) fun places d hp => ?_)
    refine wpAny_bind (wpAny_newTuple ?_ (by rw [List.length_map, hp.length_eq, List.length_range]; exact hsl))
    have g1 : (s.heap.push (tupO (places.map fun (k : Nat) => rawInt k))).get? a = some (setO es ep t) := Heap.get?_push_of_some _ ho
    refine wpAny_bind (m := setEpoch a) (wpAny_setEpoch_of (prog := prog) (w := w) (s := { s with heap := s.heap.push (tupO (places.map fun (k : Nat) => rawInt k)), drawn := d }) g1 rfl hf ?_)
    have g2 : ((s.heap.push (tupO (places.map fun (k : Nat) => rawInt k))).push (sitO (.ref s.heap.objs.size) 0 a es.size ep)).get? a = some (setO es ep t) := Heap.get?_push_of_some _ g1
    have g3 : ((s.heap.push (tupO (places.map fun (k : Nat) => rawInt k))).push (sitO (.ref s.heap.objs.size) 0 a es.size ep)).get? s.heap.objs.size = some (tupO (places.map fun (k : Nat) => rawInt k)) := Heap.get?_push_of_some _ (Heap.get?_push_size _ rfl)
    have sz : (s.heap.push (tupO (places.map fun (k : Nat) => rawInt k))).objs.size = s.heap.objs.size + 1 := Heap.size_push _ _
    have n1 : a ≠ (s.heap.push (tupO (places.map fun (k : Nat) => rawInt k))).objs.size := by rw [sz]; exact Nat.ne_of_lt (Nat.lt_succ_of_lt halt)
    have n2 : s.heap.objs.size ≠ (s.heap.push (tupO (places.map fun (k : Nat) => rawInt k))).objs.size := by rw [sz]; exact Nat.ne_of_lt (Nat.lt_succ_self _)
    have hin : ∀ p ∈ places, p < es.size := fun p hm => List.mem_range.mp (hp.mem_iff.mp hm)
    have hplen : places.length = es.size := by rw [hp.length_eq, List.length_range]
    refine wpAny_bind (wpAny_newObj_type ?_)
    refine wpAny_pure ⟨_, rfl, "set_iterator", _, ⟨_, Heap.get?_push_size _ rfl, rfl⟩, sl_sit_next.lookup, ?_⟩
    refine h _ _ _ _ _ _ d (fun A' hh' => wk_drawn hh' hf n1 n2 hplen hin) ⟨g2, g3, Heap.get?_push_size _ rfl⟩ (fun b hb' => ?_) (fun b hb' => ?_) (by rw [sz]; exact Nat.le_succ _) (fun b o e => Heap.get?_push_of_some _ (Heap.get?_push_of_some _ e)) hsl fun vs hl hP => ?_
    · rw [Heap.size_push, sz]
      simp only [List.mem_cons, List.not_mem_nil, or_false] at hb'
      rcases hb' with z | z | z
      · rw [z, sz]; exact Nat.lt_succ_self _
      · rw [z]; exact Nat.lt_succ_of_lt (Nat.lt_succ_of_lt halt)
      · rw [z]; exact Nat.lt_succ_of_lt (Nat.lt_succ_self _)
    · simp only [List.mem_cons, List.not_mem_nil, or_false] at hb'
      rcases hb' with z | z | z
      · rw [z, sz]; exact .inr (Nat.le_succ _)
      · exact .inl z
      · rw [z]; exact .inr (Nat.le_refl _)
    · refine strs_of_pick (es := es) (es' := places.filterMap fun p => es[p]?) hst hpm ?_ ?_
      · exact (hp.filterMap _).trans (by rw [filterMap_getElem?_range])
      · apply List.ext_getElem?
        intro j
        have e2 : (places.filterMap fun p => es[p]?) = places.map fun p => es.getD p (0, .none) := by
          clear hP hl g1 g2 g3 sz n1 n2 hp hplen
          induction places with
          | nil => rfl
          | cons p r ih =>
            have hp := hin p List.mem_cons_self
            rw [List.filterMap_cons_some (b := es[p]) (Array.getElem?_eq_getElem hp), ih fun q hq => hin q (List.mem_cons_of_mem _ hq), List.map_cons]
            congr 1
            rw [Array.getD_eq_getD_getElem?, Array.getElem?_eq_getElem hp]
            rfl
        rw [e2, List.map_map, List.getElem?_map]
        by_cases hj : j < vs.length
        · have hv : vs[j]? = some vs[j] := List.getElem?_eq_getElem hj
          obtain ⟨p, h0, q1, q2⟩ := hP j _ hv
          rw [hv, q1]
          show some vs[j] = some ((es.getD p (0, .none)).2)
          rw [Array.getD_eq_getD_getElem?, q2]
          rfl
        · rw [List.getElem?_eq_none (by omega), List.getElem?_eq_none (by omega)]
          rfl
  · rw [if_neg hd]
    refine wpAny_bind (wpAny_pure ?_)
    refine wpAny_bind (m := setEpoch a) (wpAny_setEpoch_of (prog := prog) (w := w) ho rfl hf ?_)
    have g2 : (s.heap.push (sitO (rawInt 0) 0 a es.size ep)).get? a = some (setO es ep t) := Heap.get?_push_of_some _ ho
    have n1 : a ≠ s.heap.objs.size := Nat.ne_of_lt halt
    have hfp : ∀ b ∈ [s.heap.objs.size, a], b < (s.heap.push (sitO (rawInt 0) 0 a es.size ep)).objs.size := fun b hb' => by
      rw [Heap.size_push]
      simp only [List.mem_cons, List.not_mem_nil, or_false] at hb'
      rcases hb' with z | z
      · rw [z]; exact Nat.lt_succ_self _
      · rw [z]; exact Nat.lt_succ_of_lt halt
    have hfq : ∀ b ∈ [s.heap.objs.size, a], b = a ∨ s.heap.objs.size ≤ b := fun b hb' => by
      simp only [List.mem_cons, List.not_mem_nil, or_false] at hb'
      rcases hb' with z | z
      · rw [z]; exact .inr (Nat.le_refl _)
      · exact .inl z
    refine wpAny_bind (wpAny_newObj_type ?_)
    refine wpAny_pure ⟨_, rfl, "set_iterator", _, ⟨_, Heap.get?_push_size _ rfl, rfl⟩, sl_sit_next.lookup, ?_⟩
    by_cases hbt : w.params.followText "set-order" = true
    · refine h _ _ _ _ _ _ s.drawn (fun A' hh' => wk_text hh' hbt hf n1) ⟨g2, Heap.get?_push_size _ rfl⟩ hfp hfq (Nat.le_refl _) (fun b o e => Heap.get?_push_of_some _ e) hsl fun vs hl hP => ?_
      refine strs_of_pick (es := es) (es' := (pickOrder (w.params.setOrder a ep) es).toList) hst hpm (pick_perm _ _) ?_
      have hl2 : (pickOrder (w.params.setOrder a ep) es).size = es.size := by rw [← Array.length_toList, (pick_perm _ _).length_eq, Array.length_toList]
      apply List.ext_getElem?
      intro j
      rw [List.getElem?_map, Array.getElem?_toList (xs := pickOrder (w.params.setOrder a ep) es)]
      by_cases hj : j < vs.length
      · have hv : vs[j]? = some vs[j] := List.getElem?_eq_getElem hj
        obtain ⟨h0, q1⟩ := hP j _ hv
        rw [hv, q1]
        rfl
      · rw [List.getElem?_eq_none (by omega), Array.getElem?_eq_none (by omega)]
        rfl
    · have hbf : w.params.followText "set-order" = false := Bool.eq_false_iff.mpr hbt
      have hled : t.led = true := by rw [hld, hbf]; rfl
      have hsz : es.size ≤ 1 := by
        rcases Nat.lt_or_ge 1 es.size with z | z
        · exfalso
          apply hd
          rw [hbf, hpl (by omega)]
          simp; omega
        · exact z
      refine h _ _ _ _ _ _ s.drawn (fun A' hh' => wk_one hh' hbf hf hled hsz n1) ⟨g2, .inl ⟨rfl, Heap.get?_push_size _ rfl⟩⟩ hfp hfq (Nat.le_refl _) (fun b o e => Heap.get?_push_of_some _ e) hsl fun vs hl hP => ?_
      refine strs_of_pick (es := es) (es' := es.toList) hst hpm (.refl _) ?_
      apply List.ext_getElem?
      intro j
      rw [List.getElem?_map, Array.getElem?_toList (xs := es)]
      by_cases hj : j < vs.length
      · have hv : vs[j]? = some vs[j] := List.getElem?_eq_getElem hj
        obtain ⟨h0, q1⟩ := hP j _ hv
        rw [hv, q1]
        rfl
      · rw [List.getElem?_eq_none (by omega), Array.getElem?_eq_none (by omega)]
        rfl
end
end L2

set_option Elab.async false
set_option linter.all false
set_option maxRecDepth 100000
set_option maxHeartbeats 4000000
set_option autoImplicit false
namespace L2
open PySem PySem.Spec PyProof.Rows
theorem split_set_len : splitId "set.__len__" = some ("set", "__len__") := by decide +kernel
section
variable {prog : Program} {w : World} {A : Around} {E : Value → Shared → Prop} {s : Shared}
theorem coll_set {a : Addr} {xs : List Str} {Q : List Value → Shared → Prop} (hh : A.handled = none) (S : SetS prog w s.heap a xs)
    (hQ : ∀ (s' : Shared) (vs : List Value) (ys : List Str), s.heap.objs.size < s'.heap.objs.size → (∀ b o, s.heap.get? b = some o → s'.heap.get? b = some o) → s'.gens = s.gens → s'.os = s.os → StrsAre vs ys → ys.Perm xs → Q vs s') : wpAny (model prog w) A (collect (.ref a)) Q E s := by
  have halt : a < s.heap.objs.size := by
    obtain ⟨es, ep, t, ho, _⟩ := S
    exact Heap.lt_size ho
  unfold collect
  refine wpAny_bind (wpAny_runValue (codeAny_builtin F.entry_proto_collect ?_)); rw [Around.under_plainId F.plain_proto_collect _]
  show wpAny _ A.in1 (newList [] >>= fun l => again (.builtin "list.__iadd__" ⟨[l, .ref a], []⟩)) _ _ s
  refine wpAny_bind (wpAny_newObj_type (wpAny_pure ⟨plainId_quiet F.plain_list_iadd _, codeAny_builtin F.entry_list_iadd ?_⟩)); rw [Around.under_plainId F.plain_list_iadd _]
  generalize hO : ({ cls := .type "list", data := .seq ([] : List Value).toArray } : Obj) = lo
  have S1 : SetS prog w (s.heap.push lo) a xs := S.keep fun o e => Heap.get?_push_of_some _ e
  have L1 : (s.heap.push lo).get? s.heap.objs.size = some lo := Heap.get?_push_size _ (by rw [← hO]; rfl)
  have hT : Shared.TypeIs { s with heap := s.heap.push lo } (.ref a) "set" := by
    obtain ⟨es, ep, t, ho, _⟩ := S1
    exact ⟨_, ho, rfl⟩
  have hne : Builtin.List.listSameRef (.ref s.heap.objs.size) (.ref a) = false := by simp [Builtin.List.listSameRef]; exact Nat.ne_of_gt halt
  show wpAny _ A.in1 (Builtin.List.listExtendWith (.ref s.heap.objs.size) (.ref a) (.ref s.heap.objs.size)) _ _ { s with heap := s.heap.push lo }
  unfold Builtin.List.listExtendWith
  refine wpAny_bind (wpAny_typeOf hT ?_)
  rw [if_neg (by rw [hne]; decide)]
  refine wpAny_bind (iter_set (s := { s with heap := s.heap.push lo }) S1 fun it fp n P St h' d W st hfp hfq hit kk hn hv => ?_)
  have hT2 : Shared.TypeIs { s with heap := h', drawn := d } (.ref a) "set" := by
    obtain ⟨o, ho, hc⟩ := hT
    exact ⟨o, kk _ _ ho, hc⟩
  refine wpAny_bind (wpAny_holding ?_)
  unfold Builtin.List.listLengthHint
  refine wpAny_bind (wpAny_specialOf hT2 set_len ?_)
  dsimp only
  rw [split_set_len]
  dsimp only
  refine wpAny_bind (wpAny_isInstance (b := true) hT2 (by rw [isSubtype_type]; kernel_rfl) ?_)
  rw [if_neg (by simp)]
  refine wpAny_ite (Eq.mpr (if_pos (by decide +kernel)) ?_)
  · refine wpAny_bind (wpAny_typeOf hT2 ?_)
    dsimp only
    refine wpAny_pure ?_
    refine wpAny_ite (Eq.mpr (if_pos (by decide +kernel)) ?_)
    · refine wpAny_bind (wpAny_rule ?_)
      have Lh : h'.get? s.heap.objs.size = some { cls := .type "list", data := .seq ([] : List Value).toArray } := by
        have q := kk _ _ L1
        rw [← hO] at q
        exact q
      refine wpAny_bind ?_
      show wpAny _ A.in1 (updateSeq s.heap.objs.size (·.push .none) >>= fun _ => updateSeq s.heap.objs.size (·.pop)) _ _ _
      refine wpAny_bind (wpAny_updateSeq (s := { s with heap := h', drawn := d }) Lh rfl ?_)
      have L2' := Heap.get?_update_self (Obj.mapSeq (·.push Value.none)) Lh rfl
      refine wpAny_updateSeq L2' rfl ?_
      have L3 := Heap.get?_update_self (Obj.mapSeq (·.pop)) L2' rfl
      have hSf : s.heap.objs.size ∉ fp := fun hm => by
        rcases hfq _ hm with z | z
        · rw [← z] at halt; exact Nat.lt_irrefl _ halt
        · have z' : (s.heap.push lo).objs.size ≤ s.heap.objs.size := z
          rw [Heap.size_push] at z'
          exact Nat.not_succ_le_self _ z'
      have oth : ∀ b o, b ≠ s.heap.objs.size → h'.get? b = some o → ((h'.update s.heap.objs.size (Obj.mapSeq (·.push Value.none))).update s.heap.objs.size (Obj.mapSeq (·.pop))).get? b = some o :=
        fun b o hb e => (Heap.get?_update_other _ _ (Ne.symm hb)).trans ((Heap.get?_update_other _ _ (Ne.symm hb)).trans e)
      have W1 : WalksS prog w A.in1 it fp [it] (fun a b => b = a) n P (fun i s => St i s.heap) := (W A.in1 (by simpa using hh)).toS
      have st3 := (W A.in1 (by simpa using hh)).frame 0 _ _ st fun b hb o e => oth b o (fun z => hSf (z ▸ hb)) e
      refine wpAny_pure ⟨plainId_quiet F.plain_extend_loop _, codeAny_extend_loopS W1 hn _ hSf _ n 0 _ _ _ rfl (Nat.zero_le _) st3 L3 (ItemsOf.nil P) fun s' acc' c' hm hS' hacc => ?_⟩
      show wpAny _ A (load s.heap.objs.size >>= _) _ _ s'
      refine wpAny_bind (wpAny_load hS' (wpAny_pure ?_))
      obtain ⟨ys, h1, h2⟩ := hv acc'.toList (by rw [Array.length_toList]; exact hacc.1) fun j v hj => hacc.2 j v (by rw [← Array.getElem?_toList]; exact hj)
      refine hQ s' acc'.toList ys (Heap.lt_size hS') (fun b o e => ?_) hm.gens hm.os h1 h2
      have hb1 : b < s.heap.objs.size := Heap.lt_size e
      refine hm.heap b o (fun z => ?_) (oth b o (Nat.ne_of_lt hb1) (kk b o (Heap.get?_push_of_some _ e)))
      simp only [List.mem_cons, List.not_mem_nil, or_false] at z
      rcases z with z | z
      · rw [z] at hb1; exact Nat.lt_irrefl _ hb1
      · rw [z] at hb1
        exact absurd (Nat.lt_of_lt_of_le hb1 (Nat.le_trans (by rw [Heap.size_push]; exact Nat.le_succ _) hit)) (Nat.lt_irrefl _)
end
end L2

set_option Elab.async false
set_option linter.all false
set_option maxRecDepth 100000
set_option maxHeartbeats 4000000
set_option autoImplicit false
namespace L2
open PySem PySem.Spec PyProof.Rows
abbrev leS (a b : Str) : Prop := ¬ b.cps.toList < a.cps.toList
theorem out_strs {vs : List Value} {ss : List Str} (hS : StrsAre vs ss) {xs : Array Keyed} (hp : xs.Perm (pairsOf vs)) (hs : SortedToK strKind xs (pairsOf vs).size) :
    ∃ ts, StrsAre (xs.map (·.2)).toList ts ∧ ts.Perm ss ∧ ts.Pairwise leS := by
  obtain ⟨ts, h1, h2, _⟩ := sorted_out_str hS hp hs
  refine ⟨ts, h1, h2, ?_⟩
  have hl : xs.toList.Perm (vs.zip vs) := by rw [← pairsOf_toList]; exact Array.perm_iff_toList_perm.mp hp
  have hmem : ∀ p, p ∈ xs.toList → p.1 = p.2 ∧ p.1 ∈ vs := fun p hp' => mem_zip_self (hl.mem_iff.mp hp')
  have e1 : ts = xs.toList.map fun p => strOf p.2 := by
    rw [← h1.strs, Array.toList_map, List.map_map]
    rfl
  rw [e1, List.pairwise_iff_getElem]
  intro i j hi hj hij
  have hi' : i < xs.size := by rw [List.length_map, Array.length_toList] at hi; exact hi
  have hj' : j < xs.size := by rw [List.length_map, Array.length_toList] at hj; exact hj
  have q := hs i j (Nat.le_of_lt hij) (by rw [← hp.size_eq]; exact hj')
  have mi := hmem xs[i] (by simp)
  have mj := hmem xs[j] (by simp)
  obtain ⟨x, t, ex⟩ := hS.all _ mi.2
  obtain ⟨y, u, ey⟩ := hS.all _ mj.2
  rw [KK_str hi' (x := x) (t := t) (q := xs[i].2) (Prod.ext ex rfl), KK_str hj' (x := y) (t := u) (q := xs[j].2) (Prod.ext ey rfl)] at q
  have q' : decide (y.cps.toList < x.cps.toList) = false := q
  have fx : strOf xs[i].2 = x := by rw [← mi.1, ex]; rfl
  have fy : strOf xs[j].2 = y := by rw [← mj.1, ey]; rfl
  rw [List.getElem_map, List.getElem_map, Array.getElem_toList, Array.getElem_toList, fx, fy]
  exact of_decide_eq_false q'
theorem vals_strs : ∀ {vs : List Value} {ss : List Str}, StrsAre vs ss → Vals (ss.map V.str) vs
  | _, _, .nil => .nil
  | _, _, .cons x t h => .cons ⟨t, rfl⟩ (vals_strs h)
theorem strs_vals {ss : List Str} : ∀ {vs : List Value}, Vals (ss.map V.str) vs → StrsAre vs ss := by
  induction ss with
  | nil => intro vs r; cases r; exact .nil
  | cons x r ih =>
    intro vs h
    cases h with
    | cons h1 h2 =>
      obtain ⟨t, rfl⟩ := h1
      exact .cons x t (ih h2)
section
variable {prog : Program} {w : World} {A : Around} {E : Value → Shared → Prop} {s : Shared}
theorem sorted_set {a : Addr} {xs : List Str} {Q : Value → Shared → Prop} (hh : A.handled = none) (S : SetS prog w s.heap a xs) (h64 : xs.length < 64)
    (hQ : ∀ (s' : Shared) (r : Addr) (vs : List Value) (k : Nat) (ts : List Str), s.heap.objs.size ≤ r → s'.heap.get? r = some { cls := .type "list", data := .seq vs.toArray k } → (∀ b o, s.heap.get? b = some o → s'.heap.get? b = some o) → s'.gens = s.gens → s'.os = s.os →
      StrsAre vs ts → ts.Perm xs → ts.Pairwise leS → Q (.ref r) s') : wpAny (model prog w) A (call (.builtin "sorted") [.ref a]) Q E s := by
  refine Calls.call_function_entry kind_sorted plain_sorted entry_sorted (args_sorted1 _) ?_
  unfold Builtin.«sorted»
  refine wpAny_bind (m := checkCount "sorted" 1 1 _) (wpAny_pure (wpAny_bind (coll_set (by simpa using hh) S fun s1 vs ys hsl kk hg hos hst hpm => ?_)))
  have hlv : vs.length < 64 := by rw [StrsAre.length hst, hpm.length_eq]; exact h64
  refine wpAny_bind (wpAny_newList ?_)
  have hoL : (s1.heap.push (seqObj "list" vs.toArray 0)).get? s1.heap.objs.size = some (seqObj "list" vs.toArray 0) := Heap.get?_push_size _ rfl
  show wpAny _ _ _ _ _ { s1 with heap := s1.heap.push (seqObj "list" vs.toArray 0) }
  refine wpAny_bind (wpAny_holding (wpAny_call_entry slot_list_sort ⟨_, hoL, rfl⟩ entry_list_sort (list_sort_treeK strKind_oneLt hoL hst.keysOf (fun v₁ v₂ rest e => keyKind_strs (by rw [← e]; exact hst)) hlv fun st' a1 a2 => ⟨_, rfl, ?_⟩) (args_list_sort _)))
  obtain ⟨ts, h1, h2, h3⟩ := out_strs hst a1 a2
  have hsz : s.heap.objs.size ≤ s1.heap.objs.size := Nat.le_of_lt hsl
  refine wpAny_pure ⟨_, rfl, ?_⟩
  obtain ⟨k, hk⟩ : ∃ k, (sortedHeap (s1.heap.push (seqObj "list" vs.toArray 0)) s1.heap.objs.size vs ((arrOf st').map (·.2))).get? s1.heap.objs.size = some (seqObj "list" ((arrOf st').map (·.2)) k) := sortedHeap_at hoL
  refine hQ _ s1.heap.objs.size ((arrOf st').map (·.2)).toList k ts hsz (by rw [Array.toArray_toList]; exact hk) (fun b o e => ?_) hg hos h1 (h2.trans hpm) h3
  have hb := kk b o e
  have hbl : b < s1.heap.objs.size := Heap.lt_size hb
  show (sortedHeap (s1.heap.push (seqObj "list" vs.toArray 0)) s1.heap.objs.size vs ((arrOf st').map (·.2))).get? b = some o
  rw [sortedHeap_old (Nat.ne_of_lt hbl) (by rw [Heap.size_push]; exact Nat.lt_succ_of_lt hbl)]
  exact Heap.get?_push_of_some _ hb
end
section
variable {X : Cx}
/-- set(xs) of texts -/
theorem ck_set (hc : X.calm = true) : CallR X (.type "set") (fun xs H Q => ∃ (p : Addr) (ts : List Str), xs = [.ref p] ∧ SqL X.K H p (ts.map V.str) ∧ ts.length + 1 < scanBound ∧
    ∀ a, H a = none → Q (.ref a) (upd H a (.ext fun h => SetS X.prog X.w h a (onceS [] ts)))) := by
  intro pins s σ H xs us Q I r h
  obtain ⟨p, ts, rfl, hp, hb, q⟩ := h
  obtain ⟨u, rfl, ru⟩ := vals1 r
  cases ru
  obtain ⟨its, rv, pl, hz⟩ := I.list hp
  have hi := strs_vals rv
  have hl : its.toArray.size = ts.length := by rw [List.size_toArray, StrsAre.length hi]
  refine call_set_strs (I.ok.hd hc) pl.isList (by simpa using hi) (by rw [hl]; exact hb) fun h' tk S' kk => ?_
  refine ⟨.ref s.heap.objs.size, _, I.laid (o := .ext fun h => SetS X.prog X.w h s.heap.objs.size (onceS [] ts)) (t' := tk) (fun b o e => kk b o (Heap.lt_size e) e) (Nat.le_refl _) ⟨S', ?_, fun h1 h2 z k => z.keep k⟩, rfl, q _ I.fresh⟩
  obtain ⟨es, ep, t, ho, _⟩ := S'
  exact ⟨_, ho⟩
/-- sorted(a set of texts) -/
theorem ck_sorted (hc : X.calm = true) : CallR X (.builtin "sorted") (fun xs H Q => ∃ (a : Addr) (ts : List Str), xs = [.ref a] ∧ H a = some (.ext fun h => SetS X.prog X.w h a ts) ∧ ts.length < 64 ∧
    ∀ (r : Addr) (ss : List Str), H r = none → ss.Perm ts → ss.Pairwise leS → Q (.ref r) (upd H r (.lst (ss.map V.str)))) := by
  intro pins s σ H xs us Q I r h
  obtain ⟨a, ts, rfl, ha, hl, q⟩ := h
  obtain ⟨u, rfl, ru⟩ := vals1 r
  cases ru
  obtain ⟨S, _, _⟩ := I.hok a _ ha
  refine sorted_set (I.ok.hd hc) S hl fun s' r' vs k ss hr hv kk hg hos hst hpm hpw => ?_
  have hn : H r' = none := I.hok.fresh hr
  have hzs : (ss.map V.str).length ≤ sizeLine := by rw [List.length_map, hpm.length_eq]; exact Nat.le_trans (Nat.le_of_lt hl) (by decide)
  have un : Un (frs X.stack) [] H (upd H r' (.lst (ss.map V.str))) s.heap s'.heap := Un.laid kk hr hn
  have ok := I.hok.laid (o := .lst (ss.map V.str)) kk hr ⟨hzs, vs, k, vals_strs hst, hv⟩
  exact ⟨.ref r', _, I.call' hos un ok (by rw [hg]; exact I.bare) (fun b z => absurd z (by simp)), rfl, q r' ss hn hpm hpw⟩
end
end L2


set_option Elab.async false
set_option linter.all false
set_option maxRecDepth 100000
set_option maxHeartbeats 4000000
/-! the mathematics: what the law draws, as plain functions -/
namespace Sd
open PySem
abbrev Slip := Int × Int × Str
def wideZ (ns : List Int) (few bound : Int) : Int := if (ns.take 3).sum % 16 = 5 then (if bound < few + 40 then bound else few + 40) else few
def atZ (ns : List Int) (k : Nat) : Int := ns.getD k 0
def signI (cs : List Int) : Nat := ((cs.take 1).sum / 35 % 26).toNat
def sign (cs : List Int) : Str := ⟨#[97 + signI cs]⟩
def wares (cs : List Int) : List Str := [sign cs, sign cs ++ ("b" : Str), ("b" : Str), Txt.mul (sign cs) 40, ("z" : Str) ++ sign cs]
def baseZ (cs : List Int) : Int := ([0, 0, 10 ^ 9, (cs.take 2).sum % 10 ^ 40] : List Int).getD (((cs.drop 1).take 1).sum % 4).toNat 0
def spotZ (count d n : Int) : Int := (n - 1) * count + d
def tag (cs : List Int) (count d n : Int) : Slip :=
  (d, n + baseZ cs, (wares cs).getD ((cs.getD (spotZ count d n).toNat 0 / 7 + spotZ count d n) % 5).toNat Str.empty)
def many (cs : List Int) (count d : Int) : Int := ((cs.length : Int) - d + count - 1) / count
def lim (cs : List Int) (count seed way d : Int) : Int := many cs count d - (seed * (d + 2) + way * d) % (many cs count d + 1)
def keep (cs : List Int) (count way d n : Int) : Bool :=
  decide (0 < (cs.getD (spotZ count d n).toNat 0 / ([1, 2, 5] : List Int).getD way.toNat 1 + way * spotZ count d n) % 3)
def row (cs : List Int) (count way d : Int) (j : Nat) : List Slip := ((List.range j).filter fun (k : Nat) => keep cs count way d ((k : Int) + 1)).map fun (k : Nat) => tag cs count d ((k : Int) + 1)
def heardL (cs : List Int) (count seed way : Int) : List Int := (List.range count.toNat).map fun (d : Nat) => lim cs count seed way (d : Int) + baseZ cs
def slipsL (cs : List Int) (count seed way : Int) : List Slip := (List.range count.toNat).flatMap fun (d : Nat) => row cs count way (d : Int) (lim cs count seed way (d : Int)).toNat

theorem signI_lt (cs : List Int) : signI cs < 26 := by
  unfold signI
  have h1 := Int.emod_nonneg ((cs.take 1).sum / 35) (show (26 : Int) ≠ 0 by decide)
  have h2 := Int.emod_lt_of_pos ((cs.take 1).sum / 35) (show (0 : Int) < 26 by decide)
  omega
theorem many_nonneg {cs : List Int} {count d : Int} (h0 : 0 ≤ d) (hd : d < count) : 0 ≤ many cs count d := by
  unfold many
  apply Int.ediv_nonneg <;> omega
theorem many_le {cs : List Int} {count d : Int} (h0 : 0 ≤ d) (hd : d < count) : many cs count d ≤ cs.length := by
  unfold many
  have hc : 0 < count := by omega
  have : ((cs.length : Int) - d + count - 1) / count < (cs.length : Int) + 1 := by
    apply Int.ediv_lt_of_lt_mul hc
    have h1 : ((cs.length : Int) + 1) * count = (cs.length : Int) * count + count := by rw [Int.add_mul, Int.one_mul]
    rw [h1]
    have h2 : (cs.length : Int) ≤ (cs.length : Int) * count := by
      have h3 : (cs.length : Int) * 1 ≤ (cs.length : Int) * count := Int.mul_le_mul_of_nonneg_left (by omega) (by omega)
      omega
    omega
  omega
theorem lim_bounds {cs : List Int} {count seed way d : Int} (h0 : 0 ≤ d) (hd : d < count) : 0 ≤ lim cs count seed way d ∧ lim cs count seed way d ≤ many cs count d := by
  have hm := many_nonneg (cs := cs) h0 hd
  unfold lim
  have h1 := Int.emod_nonneg (seed * (d + 2) + way * d) (show many cs count d + 1 ≠ 0 by omega)
  have h2 := Int.emod_lt_of_pos (seed * (d + 2) + way * d) (show 0 < many cs count d + 1 by omega)
  omega
/-- the place of the n-th slip of a desk is one of the cells -/
theorem spot_ok {cs : List Int} {count d n : Int} (h0 : 0 ≤ d) (hd : d < count) (h1 : 1 ≤ n) (hn : n ≤ many cs count d) : 0 ≤ spotZ count d n ∧ spotZ count d n < cs.length := by
  have hc : 0 < count := by omega
  unfold spotZ
  have a1 : 0 ≤ (n - 1) * count := Int.mul_nonneg (by omega) (by omega)
  have a2 : (n - 1) * count ≤ (many cs count d - 1) * count := Int.mul_le_mul_of_nonneg_right (by omega) (by omega)
  have a3 : many cs count d * count ≤ (cs.length : Int) - d + count - 1 := by
    unfold many
    exact Int.ediv_mul_le _ (by omega)
  have a4 : (many cs count d - 1) * count = many cs count d * count - count := by rw [Int.sub_mul, Int.one_mul]
  omega
theorem row_len (cs : List Int) (count way d : Int) (j : Nat) : (row cs count way d j).length ≤ j := by
  unfold row
  rw [List.length_map]
  have := List.length_filter_le (fun k : Nat => keep cs count way d ((k : Int) + 1)) (List.range j)
  rw [List.length_range] at this
  exact this
theorem row_succ (cs : List Int) (count way d : Int) (j : Nat) : row cs count way d (j + 1) = row cs count way d j ++ (if keep cs count way d ((j : Int) + 1) = true then [tag cs count d ((j : Int) + 1)] else []) := by
  unfold row
  rw [List.range_succ, List.filter_append, List.map_append]
  cases h : keep cs count way d ((j : Int) + 1) <;> simp [h]
theorem flat_len {f : Nat → List Slip} {m : Nat} : ∀ n : Nat, (∀ i, i < n → (f i).length ≤ m) → ((List.range n).flatMap f).length ≤ n * m
  | 0, _ => by simp
  | n + 1, h => by
    rw [List.range_succ, List.flatMap_append, List.length_append]
    have ih := flat_len n fun i hi => h i (by omega)
    have h1 := h n (by omega)
    simp only [List.flatMap_cons, List.flatMap_nil, List.append_nil]
    rw [Nat.succ_mul]
    omega
theorem lim_toNat_le {cs : List Int} {count seed way : Int} {d : Nat} (hd : (d : Int) < count) : (lim cs count seed way (d : Int)).toNat ≤ cs.length := by
  have h1 := lim_bounds (cs := cs) (seed := seed) (way := way) (show (0 : Int) ≤ (d : Int) by omega) hd
  have h2 := many_le (cs := cs) (show (0 : Int) ≤ (d : Int) by omega) hd
  omega
theorem part_len {cs : List Int} {count seed way : Int} {i : Nat} (hi : (i : Int) ≤ count) : ((List.range i).flatMap fun (d : Nat) => row cs count way (d : Int) (lim cs count seed way (d : Int)).toNat).length ≤ i * cs.length :=
  flat_len i fun d hd => Nat.le_trans (row_len _ _ _ _ _) (lim_toNat_le (by omega))
theorem slipsL_len {cs : List Int} {count seed way : Int} (hc : 0 ≤ count) : (slipsL cs count seed way).length ≤ count.toNat * cs.length := part_len (by omega)
theorem slipsL_mem {cs : List Int} {count seed way : Int} {s : Slip} (h : s ∈ slipsL cs count seed way) : ∃ d n : Nat, (d : Int) < count ∧ s = tag cs count (d : Int) ((n : Int) + 1) ∧ (n : Int) + 1 ≤ lim cs count seed way (d : Int) := by
  unfold slipsL at h
  obtain ⟨d, hd, hs⟩ := List.mem_flatMap.mp h
  unfold row at hs
  obtain ⟨n, hn, e⟩ := List.mem_map.mp hs
  have hn' := List.mem_range.mp (List.mem_filter.mp hn).1
  have hd' := List.mem_range.mp hd
  exact ⟨d, n, by omega, e.symm, by omega⟩
theorem wares_len (cs : List Int) : (wares cs).length = 5 := rfl
theorem tag_thing {cs : List Int} {count d n : Int} : (tag cs count d n).2.2 ∈ wares cs := by
  unfold tag
  dsimp only
  have h1 := Int.emod_nonneg (cs.getD (spotZ count d n).toNat 0 / 7 + spotZ count d n) (show (5 : Int) ≠ 0 by decide)
  have h2 := Int.emod_lt_of_pos (cs.getD (spotZ count d n).toNat 0 / 7 + spotZ count d n) (show (0 : Int) < 5 by decide)
  have h3 : ((cs.getD (spotZ count d n).toNat 0 / 7 + spotZ count d n) % 5).toNat < (wares cs).length := by rw [wares_len]; omega
  rw [List.getD_eq_getElem?_getD, List.getElem?_eq_getElem h3]
  exact List.getElem_mem h3
theorem slipsL_desk {cs : List Int} {count seed way : Int} {s : Slip} (h : s ∈ slipsL cs count seed way) : 0 ≤ s.1 ∧ s.1 < count := by
  obtain ⟨d, n, hd, e, _⟩ := slipsL_mem h
  subst e
  exact ⟨by show (0 : Int) ≤ (d : Int); omega, hd⟩
theorem slipsL_sorted (cs : List Int) (count seed way : Int) : (slipsL cs count seed way).Pairwise fun a b => a.1 ≤ b.1 := by
  unfold slipsL
  generalize count.toNat = m
  induction m with
  | zero => simp
  | succ m ih =>
    rw [List.range_succ, List.flatMap_append, List.pairwise_append]
    refine ⟨ih, ?_, ?_⟩
    · simp only [List.flatMap_cons, List.flatMap_nil, List.append_nil]
      unfold row
      rw [List.pairwise_map]
      generalize (List.filter _ _) = l
      induction l with
      | nil => exact List.Pairwise.nil
      | cons a r ih => exact List.pairwise_cons.mpr ⟨fun _ _ => Int.le_refl _, ih⟩
    · intro a ha b hb
      simp only [List.flatMap_cons, List.flatMap_nil, List.append_nil] at hb
      obtain ⟨d, hd, hs⟩ := List.mem_flatMap.mp ha
      have hd' := List.mem_range.mp hd
      unfold row at hs hb
      obtain ⟨_, _, e1⟩ := List.mem_map.mp hs
      obtain ⟨_, _, e2⟩ := List.mem_map.mp hb
      rw [← e1, ← e2]
      show (d : Int) ≤ (m : Int)
      omega

/-! what is put in -/
def putS (sl : List Slip) (desk : Int) (new : Slip) : List Slip := sl.filter (fun s => decide (s.1 ≤ desk)) ++ [new] ++ sl.filter (fun s => decide (desk < s.1))
theorem split_at {i : Int} : ∀ {l : List Slip}, l.Pairwise (fun a b => a.1 ≤ b.1) → l.filter (fun s => decide (s.1 < i + 1)) = l.filter (fun s => decide (s.1 < i)) ++ l.filter (fun s => decide (s.1 = i))
  | [], _ => rfl
  | a :: r, h => by
    obtain ⟨h1, h2⟩ := List.pairwise_cons.mp h
    have ih := split_at (i := i) h2
    by_cases ha : a.1 < i
    · rw [List.filter_cons_of_pos (p := fun s : Slip => decide (s.1 < i + 1)) (by simp; omega), List.filter_cons_of_pos (p := fun s : Slip => decide (s.1 < i)) (by simpa using ha), List.filter_cons_of_neg (p := fun s : Slip => decide (s.1 = i)) (by simp; omega), ih]
      rfl
    · have e0 : r.filter (fun s => decide (s.1 < i)) = [] := by
        rw [List.filter_eq_nil_iff]
        intro b hb
        have := h1 b hb
        simp; omega
      rw [List.filter_cons_of_neg (p := fun s : Slip => decide (s.1 < i)) (by simpa using ha)]
      by_cases hb : a.1 = i
      · rw [List.filter_cons_of_pos (p := fun s : Slip => decide (s.1 < i + 1)) (by simp; omega), List.filter_cons_of_pos (p := fun s : Slip => decide (s.1 = i)) (by simpa using hb), ih, e0]
        rfl
      · rw [List.filter_cons_of_neg (p := fun s : Slip => decide (s.1 < i + 1)) (by simp; omega), List.filter_cons_of_neg (p := fun s : Slip => decide (s.1 = i)) (by simpa using hb), ih]
def dueS (sl : List Slip) (desk : Int) (new : Slip) (i : Nat) : List Slip := (List.range i).flatMap fun (k : Nat) => sl.filter (fun s => decide (s.1 = (k : Int))) ++ (if (k : Int) = desk then [new] else [])
theorem dueS_succ (sl : List Slip) (desk : Int) (new : Slip) (i : Nat) : dueS sl desk new (i + 1) = dueS sl desk new i ++ sl.filter (fun s => decide (s.1 = (i : Int))) ++ (if (i : Int) = desk then [new] else []) := by
  unfold dueS
  rw [List.range_succ, List.flatMap_append]
  simp only [List.flatMap_cons, List.flatMap_nil, List.append_nil, List.append_assoc]
theorem due_below {sl : List Slip} {desk : Int} {new : Slip} (hs : sl.Pairwise fun a b => a.1 ≤ b.1) (h0 : ∀ s ∈ sl, 0 ≤ s.1) : ∀ i : Nat, (i : Int) ≤ desk → dueS sl desk new i = sl.filter (fun s => decide (s.1 < (i : Int)))
  | 0, _ => by
    have : sl.filter (fun s => decide (s.1 < ((0 : Nat) : Int))) = [] := by
      rw [List.filter_eq_nil_iff]
      intro s hm
      have := h0 s hm
      simp; omega
    rw [this]; rfl
  | i + 1, h => by
    rw [dueS_succ, due_below hs h0 i (by omega), if_neg (by omega), List.append_nil]
    have := split_at (i := (i : Int)) hs
    rw [← this]
    congr 1
theorem due_above {sl : List Slip} {desk : Int} {new : Slip} (hs : sl.Pairwise fun a b => a.1 ≤ b.1) (h0 : ∀ s ∈ sl, 0 ≤ s.1) (hd : 0 ≤ desk) :
    ∀ k : Nat, dueS sl desk new (desk.toNat + 1 + k) = sl.filter (fun s => decide (s.1 ≤ desk)) ++ [new] ++ (sl.filter (fun s => decide (desk < s.1))).filter (fun s => decide (s.1 < desk + 1 + (k : Int)))
  | 0 => by
    have e1 : desk.toNat + 1 + 0 = desk.toNat + 1 := rfl
    rw [e1, dueS_succ, due_below hs h0 desk.toNat (by omega), if_pos (by omega)]
    have e2 : ((desk.toNat : Nat) : Int) = desk := by omega
    rw [e2]
    have e3 : (sl.filter (fun s => decide (desk < s.1))).filter (fun s => decide (s.1 < desk + 1 + ((0 : Nat) : Int))) = [] := by
      rw [List.filter_eq_nil_iff]
      intro s hm
      have := of_decide_eq_true (List.mem_filter.mp hm).2
      simp; omega
    rw [e3, List.append_nil, ← split_at (i := desk) hs]
    have e4 : (fun s : Slip => decide (s.1 < desk + 1)) = fun s => decide (s.1 ≤ desk) := by
      funext s
      exact decide_eq_decide.mpr (by omega)
    rw [e4]
  | k + 1 => by
    have e1 : desk.toNat + 1 + (k + 1) = (desk.toNat + 1 + k) + 1 := rfl
    rw [e1, dueS_succ, due_above hs h0 hd k, if_neg (by omega), List.append_nil, List.append_assoc]
    have hs' : (sl.filter (fun s => decide (desk < s.1))).Pairwise fun a b => a.1 ≤ b.1 := hs.filter _
    have q := split_at (i := desk + 1 + (k : Int)) hs'
    have e2 : (sl.filter (fun s => decide (desk < s.1))).filter (fun s => decide (s.1 = desk + 1 + (k : Int))) = sl.filter (fun s => decide (s.1 = ((desk.toNat + 1 + k : Nat) : Int))) := by
      rw [List.filter_filter]
      apply List.filter_congr
      intro s _
      rw [← Bool.decide_and]
      exact decide_eq_decide.mpr (by omega)
    rw [← e2, ← q]
    have e3 : (fun s : Slip => decide (s.1 < desk + 1 + (k : Int) + 1)) = fun s => decide (s.1 < desk + 1 + ((k + 1 : Nat) : Int)) := by
      funext s
      exact decide_eq_decide.mpr (by omega)
    rw [e3]
theorem due_all {sl : List Slip} {desk : Int} {new : Slip} {count : Int} (hs : sl.Pairwise fun a b => a.1 ≤ b.1) (h0 : ∀ s ∈ sl, 0 ≤ s.1 ∧ s.1 < count) (hd : 0 ≤ desk) (hc : desk < count) : dueS sl desk new count.toNat = putS sl desk new := by
  obtain ⟨k, hk⟩ : ∃ k : Nat, count.toNat = desk.toNat + 1 + k := ⟨count.toNat - (desk.toNat + 1), by omega⟩
  rw [hk, due_above hs (fun s hm => (h0 s hm).1) hd k]
  unfold putS
  congr 1
  rw [List.filter_eq_self]
  intro s hm
  have := h0 s (List.mem_filter.mp hm).1
  simp; omega
end Sd

set_option Elab.async false
set_option linter.all false
set_option maxRecDepth 100000
set_option maxHeartbeats 4000000
set_option autoImplicit false
namespace Sd
open PySem L2
theorem nat_anti : ∀ (a b : List Nat), ¬ a < b → ¬ b < a → a = b
  | [], [], _, _ => rfl
  | [], y :: r, h, _ => absurd (List.nil_lt_cons y r) h
  | x :: r, [], _, h => absurd (List.nil_lt_cons x r) h
  | x :: r, y :: q, h1, h2 => by
    rw [List.cons_lt_cons_iff] at h1 h2
    have e : x = y := by
      rcases Nat.lt_trichotomy x y with z | z | z
      · exact absurd (.inl z) h1
      · exact z
      · exact absurd (.inl z) h2
    subst e
    rw [nat_anti r q (fun z => h1 (.inr ⟨rfl, z⟩)) (fun z => h2 (.inr ⟨rfl, z⟩))]
theorem str_anti {a b : Str} (h1 : leS a b) (h2 : leS b a) : a = b := by
  have e := nat_anti a.cps.toList b.cps.toList h2 h1
  cases a; cases b
  congr 1
  exact Array.toList_inj.mp e
theorem sort_one : ∀ {l m : List Str}, l.Pairwise leS → m.Pairwise leS → l.Nodup → m.Nodup → (∀ x, x ∈ l ↔ x ∈ m) → l = m
  | [], [], _, _, _, _, _ => rfl
  | [], y :: q, _, _, _, _, h => absurd ((h y).mpr List.mem_cons_self) (by simp)
  | x :: r, [], _, _, _, _, h => absurd ((h x).mp List.mem_cons_self) (by simp)
  | x :: r, y :: q, pl, pm, nl, nm, h => by
    obtain ⟨p1, p2⟩ := List.pairwise_cons.mp pl
    obtain ⟨q1, q2⟩ := List.pairwise_cons.mp pm
    obtain ⟨n1, n2⟩ := List.nodup_cons.mp nl
    obtain ⟨m1, m2⟩ := List.nodup_cons.mp nm
    have e : x = y := by
      rcases List.mem_cons.mp ((h x).mp List.mem_cons_self) with z | z
      · exact z
      · rcases List.mem_cons.mp ((h y).mpr List.mem_cons_self) with z' | z'
        · exact z'.symm
        · exact str_anti (p1 y z') (q1 x z)
    subst e
    rw [sort_one p2 q2 n2 m2 fun z => ⟨fun hz => ?_, fun hz => ?_⟩]
    · rcases List.mem_cons.mp ((h z).mp (List.mem_cons_of_mem _ hz)) with e | e
      · subst e; exact absurd hz n1
      · exact e
    · rcases List.mem_cons.mp ((h z).mpr (List.mem_cons_of_mem _ hz)) with e | e
      · subst e; exact absurd hz m1
      · exact e
theorem nodup_le : ∀ (l m : List Str), l.Nodup → (∀ x ∈ l, x ∈ m) → l.length ≤ m.length
  | [], m, _, _ => Nat.zero_le _
  | x :: r, m, hn, h => by
    obtain ⟨n1, n2⟩ := List.nodup_cons.mp hn
    have hx := h x List.mem_cons_self
    have ih := nodup_le r (m.erase x) n2 fun y hy => (List.mem_erase_of_ne (show y ≠ x from fun e => n1 (by rw [← e]; exact hy))).mpr (h y (List.mem_cons_of_mem _ hy))
    have e := List.length_erase_of_mem hx
    have pos : 0 < m.length := List.length_pos_of_mem hx
    rw [List.length_cons]
    omega
theorem things_due {ss1 ss2 things ws : List Str} (hp1 : ss1.Perm (onceS [] things)) (hw1 : ss1.Pairwise leS) (hp2 : ss2.Perm (onceS [] ws)) (hw2 : ss2.Pairwise leS) (hin : ∀ x ∈ things, x ∈ ws) : ss1 = ss2.filter fun x => decide (x ∈ things) := by
  have n1 : ss1.Nodup := hp1.nodup_iff.mpr (onceS_nodup _ _ List.nodup_nil)
  have n2 : ss2.Nodup := hp2.nodup_iff.mpr (onceS_nodup _ _ List.nodup_nil)
  have m1 : ∀ x, x ∈ ss1 ↔ x ∈ things := fun x => by rw [hp1.mem_iff, onceS_mem]; simp
  have m2 : ∀ x, x ∈ ss2 ↔ x ∈ ws := fun x => by rw [hp2.mem_iff, onceS_mem]; simp
  refine sort_one hw1 (hw2.filter _) n1 (n2.filter _) fun x => ?_
  rw [m1, List.mem_filter, m2, decide_eq_true_eq]
  exact ⟨fun h => ⟨hin x h, h⟩, fun h => h.2⟩
end Sd

set_option Elab.async false
set_option linter.all false
set_option maxRecDepth 100000
set_option maxHeartbeats 4000000
set_option autoImplicit false
/-! the mathematics of books: their order, merging -/
namespace Sd
open PySem
/-- the order of slips in a book -/
def LtS (a b : Slip) : Prop := a.1 < b.1 ∨ (a.1 = b.1 ∧ a.2.1 < b.2.1)
theorem LtS.irrefl (a : Slip) : ¬ LtS a a := by rintro (h | ⟨_, h⟩) <;> omega
theorem LtS.asymm {a b : Slip} (h : LtS a b) : ¬ LtS b a := by
  intro g
  rcases h with h | ⟨h1, h2⟩ <;> rcases g with g | ⟨g1, g2⟩ <;> omega
theorem LtS.trans {a b c : Slip} (h : LtS a b) (g : LtS b c) : LtS a c := by
  rcases h with h | ⟨h1, h2⟩ <;> rcases g with g | ⟨g1, g2⟩
  · exact .inl (by omega)
  · exact .inl (by omega)
  · exact .inl (by omega)
  · exact .inr ⟨by omega, by omega⟩
/-- a sorted list is known by its members -/
theorem sorted_unique : ∀ {l m : List Slip}, l.Pairwise LtS → m.Pairwise LtS → (∀ x, x ∈ l ↔ x ∈ m) → l = m
  | [], [], _, _, _ => rfl
  | [], b :: m, _, _, h => absurd ((h b).mpr List.mem_cons_self) (by simp)
  | a :: l, [], _, _, h => absurd ((h a).mp List.mem_cons_self) (by simp)
  | a :: l, b :: m, hl, hm, h => by
    obtain ⟨hl1, hl2⟩ := List.pairwise_cons.mp hl
    obtain ⟨hm1, hm2⟩ := List.pairwise_cons.mp hm
    have e : a = b := by
      rcases List.mem_cons.mp ((h a).mp List.mem_cons_self) with z | z
      · exact z
      · rcases List.mem_cons.mp ((h b).mpr List.mem_cons_self) with y | y
        · exact y.symm
        · exact absurd (hm1 a z) (LtS.asymm (hl1 b y))
    subst e
    rw [sorted_unique hl2 hm2 fun x => ?_]
    constructor
    · intro hx
      rcases List.mem_cons.mp ((h x).mp (List.mem_cons_of_mem _ hx)) with z | z
      · subst z; exact absurd (hl1 x hx) (LtS.irrefl x)
      · exact z
    · intro hx
      rcases List.mem_cons.mp ((h x).mpr (List.mem_cons_of_mem _ hx)) with z | z
      · subst z; exact absurd (hm1 x hx) (LtS.irrefl x)
      · exact z
theorem sorted_flat {f : Nat → List Slip} (h1 : ∀ d, (f d).Pairwise LtS) (h2 : ∀ d, ∀ x ∈ f d, x.1 = (d : Int)) : ∀ n : Nat, ((List.range n).flatMap f).Pairwise LtS
  | 0 => List.Pairwise.nil
  | n + 1 => by
    rw [List.range_succ, List.flatMap_append, List.pairwise_append]
    refine ⟨sorted_flat h1 h2 n, by simpa using h1 n, fun a ha b hb => ?_⟩
    obtain ⟨d, hd, ha⟩ := List.mem_flatMap.mp ha
    have hb : b ∈ f n := by simpa using hb
    have := List.mem_range.mp hd
    exact .inl (by rw [h2 d a ha, h2 n b hb]; omega)
theorem tags_sorted (cs : List Int) (count : Int) (d : Nat) (q : Nat → Bool) (n : Nat) : (((List.range n).filter q).map fun (k : Nat) => tag cs count (d : Int) ((k : Int) + 1)).Pairwise LtS := by
  rw [List.pairwise_map]
  refine List.Pairwise.imp (fun {a b} (h : a < b) => ?_) (List.Pairwise.filter q List.pairwise_lt_range)
  exact .inr ⟨rfl, by show (a : Int) + 1 + baseZ cs < (b : Int) + 1 + baseZ cs; omega⟩
theorem slipsL_lt (cs : List Int) (count seed way : Int) : (slipsL cs count seed way).Pairwise LtS := by
  refine sorted_flat (fun d => tags_sorted cs count d _ _) (fun d x hx => ?_) _
  obtain ⟨k, _, rfl⟩ := List.mem_map.mp hx
  rfl

/-- a book as two lists -/
abbrev Bk := List Int × List Slip
/-- the book has heard of the slip -/
def Hrd (h : List Int) (x : Slip) : Prop := x.2.1 ≤ h.getD x.1.toNat 0
/-- a book of count desks that keeps to point 3 -/
structure Wf (count : Nat) (b : Bk) : Prop where
  len : b.1.length = count
  lt : b.2.Pairwise LtS
  hrd : ∀ x ∈ b.2, Hrd b.1 x
  desk : ∀ x ∈ b.2, 0 ≤ x.1 ∧ x.1 < (count : Int)
/-- two books merged, as point 8 says -/
structure MergeOf (a b : Bk) (m : Bk) : Prop where
  hd : m.1 = List.zipWith max a.1 b.1
  lt : m.2.Pairwise LtS
  mem : ∀ x, x ∈ m.2 ↔ (x ∈ a.2 ∧ x ∈ b.2) ∨ (x ∈ a.2 ∧ ¬ Hrd b.1 x) ∨ (x ∈ b.2 ∧ ¬ Hrd a.1 x)
theorem zip_get {a b : List Int} {n i : Nat} (ha : a.length = n) (hb : b.length = n) (hi : i < n) : (List.zipWith max a b).getD i 0 = max (a.getD i 0) (b.getD i 0) := by
  rw [List.getD_eq_getElem?_getD, List.getD_eq_getElem?_getD, List.getD_eq_getElem?_getD, List.getElem?_zipWith, List.getElem?_eq_getElem (by omega), List.getElem?_eq_getElem (by omega)]
  rfl
theorem hrd_zip {a b : List Int} {n : Nat} (ha : a.length = n) (hb : b.length = n) {x : Slip} (h0 : 0 ≤ x.1) (hx : x.1 < (n : Int)) : Hrd (List.zipWith max a b) x ↔ Hrd a x ∨ Hrd b x := by
  unfold Hrd
  rw [zip_get ha hb (by omega)]
  omega
theorem MergeOf.wf {count : Nat} {a b m : Bk} (ha : Wf count a) (hb : Wf count b) (h : MergeOf a b m) : Wf count m := by
  have dk : ∀ x ∈ m.2, 0 ≤ x.1 ∧ x.1 < (count : Int) := fun x hx => by
    rcases (h.mem x).mp hx with z | z | z
    · exact ha.desk x z.1
    · exact ha.desk x z.1
    · exact hb.desk x z.1
  refine ⟨by rw [h.hd, List.length_zipWith, ha.len, hb.len]; omega, h.lt, fun x hx => ?_, dk⟩
  rw [h.hd, hrd_zip ha.len hb.len (dk x hx).1 (dk x hx).2]
  rcases (h.mem x).mp hx with z | z | z
  · exact .inl (ha.hrd x z.1)
  · exact .inl (ha.hrd x z.1)
  · exact .inr (hb.hrd x z.1)
theorem MergeOf.unique {a b m n : Bk} (h : MergeOf a b m) (g : MergeOf a b n) : m = n := by
  obtain ⟨m1, m2⟩ := m
  obtain ⟨n1, n2⟩ := n
  have e1 : m1 = n1 := h.hd.trans g.hd.symm
  have e2 : m2 = n2 := sorted_unique h.lt g.lt fun x => (h.mem x).trans (g.mem x).symm
  rw [e1, e2]

/-- what several books come to -/
structure JoinOf (count : Nat) (S : List Bk) (m : Bk) : Prop where
  len : m.1.length = count
  hd : ∀ d, d < count → (∃ b ∈ S, b.1.getD d 0 = m.1.getD d 0) ∧ ∀ b ∈ S, b.1.getD d 0 ≤ m.1.getD d 0
  lt : m.2.Pairwise LtS
  mem : ∀ x, x ∈ m.2 ↔ (∃ b ∈ S, x ∈ b.2) ∧ ∀ b ∈ S, Hrd b.1 x → x ∈ b.2
theorem JoinOf.one {count : Nat} {b : Bk} (h : Wf count b) : JoinOf count [b] b where
  len := h.len
  hd := fun d _ => ⟨⟨b, List.mem_singleton.mpr rfl, rfl⟩, fun c hc => by rw [List.mem_singleton.mp hc]; exact Int.le_refl _⟩
  lt := h.lt
  mem := fun x => ⟨fun hx => ⟨⟨b, List.mem_singleton.mpr rfl, hx⟩, fun c hc _ => by rw [List.mem_singleton.mp hc]; exact hx⟩, fun ⟨⟨c, hc, hx⟩, _⟩ => by rw [List.mem_singleton.mp hc] at hx; exact hx⟩
theorem JoinOf.hrd {count : Nat} {S : List Bk} {m : Bk} (h : JoinOf count S m) {x : Slip} (h0 : 0 ≤ x.1) (hx : x.1 < (count : Int)) : Hrd m.1 x ↔ ∃ b ∈ S, Hrd b.1 x := by
  obtain ⟨⟨b, hb, e⟩, le⟩ := h.hd x.1.toNat (by omega)
  constructor
  · intro z
    exact ⟨b, hb, by unfold Hrd at z ⊢; rw [e]; exact z⟩
  · rintro ⟨c, hc, z⟩
    have := le c hc
    unfold Hrd at z ⊢
    omega
theorem JoinOf.merge {count : Nat} {S T : List Bk} {a b m : Bk} (wS : ∀ c ∈ S, Wf count c) (wT : ∀ c ∈ T, Wf count c) (h : JoinOf count S a) (g : JoinOf count T b) (M : MergeOf a b m) : JoinOf count (S ++ T) m where
  len := by rw [M.hd, List.length_zipWith, h.len, g.len]; omega
  hd := fun d hd => by
    obtain ⟨⟨c1, i1, e1⟩, l1⟩ := h.hd d hd
    obtain ⟨⟨c2, i2, e2⟩, l2⟩ := g.hd d hd
    rw [M.hd, zip_get h.len g.len hd]
    refine ⟨?_, fun c hc => ?_⟩
    · by_cases q : a.1.getD d 0 ≤ b.1.getD d 0
      · exact ⟨c2, List.mem_append_right _ i2, by omega⟩
      · exact ⟨c1, List.mem_append_left _ i1, by omega⟩
    · rcases List.mem_append.mp hc with z | z
      · have := l1 c z; omega
      · have := l2 c z; omega
  lt := M.lt
  mem := fun x => by
    have dS : ∀ c ∈ S, x ∈ c.2 → 0 ≤ x.1 ∧ x.1 < (count : Int) := fun c hc z => (wS c hc).desk x z
    have dT : ∀ c ∈ T, x ∈ c.2 → 0 ≤ x.1 ∧ x.1 < (count : Int) := fun c hc z => (wT c hc).desk x z
    rw [M.mem, h.mem, g.mem]
    constructor
    · rintro (⟨⟨⟨c, hc, z⟩, p1⟩, ⟨_, p2⟩⟩ | ⟨⟨⟨c, hc, z⟩, p1⟩, n2⟩ | ⟨⟨⟨c, hc, z⟩, p2⟩, n1⟩)
      · exact ⟨⟨c, List.mem_append_left _ hc, z⟩, fun e he w => (List.mem_append.mp he).elim (fun k => p1 e k w) fun k => p2 e k w⟩
      · have dd := dS c hc z
        rw [g.hrd dd.1 dd.2] at n2
        exact ⟨⟨c, List.mem_append_left _ hc, z⟩, fun e he w => (List.mem_append.mp he).elim (fun k => p1 e k w) fun k => absurd ⟨e, k, w⟩ n2⟩
      · have dd := dT c hc z
        rw [h.hrd dd.1 dd.2] at n1
        exact ⟨⟨c, List.mem_append_right _ hc, z⟩, fun e he w => (List.mem_append.mp he).elim (fun k => absurd ⟨e, k, w⟩ n1) fun k => p2 e k w⟩
    · rintro ⟨⟨c, hc, z⟩, p⟩
      have dd : 0 ≤ x.1 ∧ x.1 < (count : Int) := (List.mem_append.mp hc).elim (fun k => dS c k z) fun k => dT c k z
      have p1 : ∀ e ∈ S, Hrd e.1 x → x ∈ e.2 := fun e he => p e (List.mem_append_left _ he)
      have p2 : ∀ e ∈ T, Hrd e.1 x → x ∈ e.2 := fun e he => p e (List.mem_append_right _ he)
      by_cases k1 : Hrd a.1 x
      · obtain ⟨c1, i1, z1⟩ := (h.hrd dd.1 dd.2).mp k1
        have q1 : x ∈ c1.2 := p1 c1 i1 z1
        by_cases k2 : Hrd b.1 x
        · obtain ⟨c2, i2, z2⟩ := (g.hrd dd.1 dd.2).mp k2
          exact .inl ⟨⟨⟨c1, i1, q1⟩, p1⟩, ⟨⟨c2, i2, p2 c2 i2 z2⟩, p2⟩⟩
        · exact .inr (.inl ⟨⟨⟨c1, i1, q1⟩, p1⟩, k2⟩)
      · refine .inr (.inr ⟨⟨?_, p2⟩, k1⟩)
        rcases List.mem_append.mp hc with k | k
        · exact absurd ((h.hrd dd.1 dd.2).mpr ⟨c, k, (wS c k).hrd x z⟩) k1
        · exact ⟨c, k, z⟩
theorem JoinOf.same {count : Nat} {S T : List Bk} {m : Bk} (h : JoinOf count S m) (e : ∀ b, b ∈ S ↔ b ∈ T) : JoinOf count T m where
  len := h.len
  hd := fun d hd => by
    obtain ⟨⟨b, hb, q⟩, le⟩ := h.hd d hd
    exact ⟨⟨b, (e b).mp hb, q⟩, fun c hc => le c ((e c).mpr hc)⟩
  lt := h.lt
  mem := fun x => by
    rw [h.mem]
    constructor
    · rintro ⟨⟨b, hb, z⟩, p⟩
      exact ⟨⟨b, (e b).mp hb, z⟩, fun c hc => p c ((e c).mpr hc)⟩
    · rintro ⟨⟨b, hb, z⟩, p⟩
      exact ⟨⟨b, (e b).mpr hb, z⟩, fun c hc => p c ((e c).mp hc)⟩
theorem JoinOf.swap {count : Nat} {S T : List Bk} {m : Bk} (h : JoinOf count (S ++ T) m) : JoinOf count (T ++ S) m := h.same fun b => by simp [or_comm]
theorem JoinOf.unique {count : Nat} {S : List Bk} {m n : Bk} (h : JoinOf count S m) (g : JoinOf count S n) : m = n := by
  obtain ⟨m1, m2⟩ := m
  obtain ⟨n1, n2⟩ := n
  have e1 : m1 = n1 := by
    apply List.ext_getElem?
    intro d
    by_cases hd : d < count
    · obtain ⟨⟨b, hb, q⟩, le⟩ := h.hd d hd
      obtain ⟨⟨c, hc, r⟩, le'⟩ := g.hd d hd
      have a1 := le c hc
      have a2 := le' b hb
      have e : m1.getD d 0 = n1.getD d 0 := by simp only at q r a1 a2; omega
      have lm : d < m1.length := by rw [h.len]; exact hd
      have ln : d < n1.length := by rw [g.len]; exact hd
      rw [List.getD_eq_getElem?_getD, List.getD_eq_getElem?_getD, List.getElem?_eq_getElem lm, List.getElem?_eq_getElem ln] at e
      rw [List.getElem?_eq_getElem lm, List.getElem?_eq_getElem ln]
      exact congrArg some e
    · have lm := h.len
      have ln := g.len
      simp only at lm ln
      rw [List.getElem?_eq_none (by omega), List.getElem?_eq_none (by omega)]
  have e2 : m2 = n2 := sorted_unique h.lt g.lt fun x => (h.mem x).trans (g.mem x).symm
  rw [e1, e2]

/-! ### what the law works out -/
def maxD (S : List Bk) (d : Nat) : Int := (S.map fun b => b.1.getD d 0).foldl max (((S.map fun b => b.1.getD d 0)).headD 0)
def goneIn (S : List Bk) (d : Nat) (m : Int) (x : Slip) : Bool := S.any fun b => decide (m ≤ b.1.getD d 0) && !decide (x ∈ b.2)
def joinRow (S : List Bk) (cs : List Int) (count : Int) (d : Nat) (n : Nat) : List Slip :=
  ((List.range n).filter fun (k : Nat) => !goneIn S d (baseZ cs + 1 + (k : Int)) (tag cs count (d : Int) ((k : Int) + 1))).map fun (k : Nat) => tag cs count (d : Int) ((k : Int) + 1)
def joinedH (S : List Bk) (n : Nat) : List Int := (List.range n).map fun d => maxD S d
def joinedS (S : List Bk) (cs : List Int) (count : Int) (n : Nat) : List Slip := (List.range n).flatMap fun d => joinRow S cs count d (maxD S d - baseZ cs).toNat
theorem foldl_max : ∀ (l : List Int) (a : Int), (a = l.foldl max a ∨ l.foldl max a ∈ l) ∧ a ≤ l.foldl max a ∧ ∀ x ∈ l, x ≤ l.foldl max a
  | [], a => ⟨.inl rfl, Int.le_refl _, fun x hx => absurd hx (by simp)⟩
  | y :: l, a => by
    obtain ⟨h1, h2, h3⟩ := foldl_max l (max a y)
    rw [List.foldl_cons]
    refine ⟨?_, by omega, fun x hx => ?_⟩
    · rcases h1 with h | h
      · by_cases q : y ≤ a
        · left; omega
        · right; rw [← h]; rw [show max a y = y by omega]; exact List.mem_cons_self
      · exact .inr (List.mem_cons_of_mem _ h)
    · rcases List.mem_cons.mp hx with z | z
      · omega
      · exact h3 x z
theorem maxD_ok {S : List Bk} {d : Nat} (hS : S ≠ []) : (∃ b ∈ S, b.1.getD d 0 = maxD S d) ∧ ∀ b ∈ S, b.1.getD d 0 ≤ maxD S d := by
  obtain ⟨c, r, rfl⟩ : ∃ c r, S = c :: r := by
    cases S with
    | nil => exact absurd rfl hS
    | cons c r => exact ⟨c, r, rfl⟩
  unfold maxD
  obtain ⟨h1, h2, h3⟩ := foldl_max ((c :: r).map fun b => b.1.getD d 0) (((c :: r).map fun b => b.1.getD d 0).headD 0)
  refine ⟨?_, fun b hb => h3 _ (List.mem_map.mpr ⟨b, hb, rfl⟩)⟩
  rcases h1 with h | h
  · exact ⟨c, List.mem_cons_self, h⟩
  · obtain ⟨b, hb, e⟩ := List.mem_map.mp h
    exact ⟨b, hb, e⟩
/-- a book whose slips are those that the law draws -/
structure OfCells (cs : List Int) (count : Nat) (b : Bk) : Prop where
  wf : Wf count b
  tag : ∀ x ∈ b.2, ∃ d n : Nat, d < count ∧ x = tag cs (count : Int) (d : Int) ((n : Int) + 1) ∧ (n : Int) + 1 ≤ many cs (count : Int) (d : Int)
theorem joined_join {cs : List Int} {count : Nat} {S : List Bk} (hS : S ≠ []) (h : ∀ b ∈ S, OfCells cs count b) : JoinOf count S (joinedH S count, joinedS S cs (count : Int) count) where
  len := by show (joinedH S count).length = count; unfold joinedH; rw [List.length_map, List.length_range]
  hd := fun d hd => by
    have e : (joinedH S count).getD d 0 = maxD S d := by
      unfold joinedH
      rw [List.getD_eq_getElem?_getD, List.getElem?_map, List.getElem?_range hd]
      rfl
    show (∃ b ∈ S, b.1.getD d 0 = (joinedH S count).getD d 0) ∧ ∀ b ∈ S, b.1.getD d 0 ≤ (joinedH S count).getD d 0
    rw [e]
    exact maxD_ok hS
  lt := by
    refine sorted_flat (fun d => tags_sorted cs _ d _ _) (fun d x hx => ?_) _
    obtain ⟨k, _, rfl⟩ := List.mem_map.mp hx
    rfl
  mem := fun x => by
    show x ∈ joinedS S cs (count : Int) count ↔ _
    unfold joinedS joinRow
    rw [List.mem_flatMap]
    constructor
    · rintro ⟨d, hd, hx⟩
      obtain ⟨k, hk, rfl⟩ := List.mem_map.mp hx
      obtain ⟨hk1, hk2⟩ := List.mem_filter.mp hk
      have hd := List.mem_range.mp hd
      have hk1 := List.mem_range.mp hk1
      have key : ∀ b ∈ S, Hrd b.1 (tag cs (count : Int) (d : Int) ((k : Int) + 1)) → tag cs (count : Int) (d : Int) ((k : Int) + 1) ∈ b.2 := fun b hb hh => by
        by_cases q : tag cs (count : Int) (d : Int) ((k : Int) + 1) ∈ b.2
        · exact q
        · have : goneIn S d (baseZ cs + 1 + (k : Int)) (tag cs (count : Int) (d : Int) ((k : Int) + 1)) = true := by
            unfold goneIn
            rw [List.any_eq_true]
            refine ⟨b, hb, ?_⟩
            have hh : ((k : Int) + 1) + baseZ cs ≤ b.1.getD d 0 := hh
            rw [Bool.and_eq_true]
            exact ⟨decide_eq_true (by omega), by simpa using q⟩
          rw [this] at hk2
          cases hk2
      refine ⟨?_, key⟩
      obtain ⟨b, hb, e⟩ := (maxD_ok (d := d) hS).1
      refine ⟨b, hb, key b hb ?_⟩
      show ((k : Int) + 1) + baseZ cs ≤ b.1.getD d 0
      omega
    · rintro ⟨⟨b, hb, hx⟩, p⟩
      obtain ⟨d, n, hd, rfl, _⟩ := (h b hb).tag x hx
      refine ⟨d, List.mem_range.mpr hd, List.mem_map.mpr ⟨n, List.mem_filter.mpr ⟨List.mem_range.mpr ?_, ?_⟩, rfl⟩⟩
      · have q : ((n : Int) + 1) + baseZ cs ≤ b.1.getD d 0 := (h b hb).wf.hrd _ hx
        have := (maxD_ok (d := d) hS).2 b hb
        omega
      · rw [Bool.not_eq_true']
        cases g : goneIn S d (baseZ cs + 1 + (n : Int)) (tag cs (count : Int) (d : Int) ((n : Int) + 1)) with
        | false => rfl
        | true =>
          unfold goneIn at g
          rw [List.any_eq_true] at g
          obtain ⟨c, hc, z⟩ := g
          rw [Bool.and_eq_true] at z
          have z1 := of_decide_eq_true z.1
          have z2 : tag cs (count : Int) (d : Int) ((n : Int) + 1) ∉ c.2 := by simpa using z.2
          exact absurd (p c hc (by show ((n : Int) + 1) + baseZ cs ≤ c.1.getD d 0; omega)) z2
theorem drawn_cells {cs : List Int} {count seed way : Int} (hc : 0 ≤ count) : OfCells cs count.toNat (heardL cs count seed way, slipsL cs count seed way) where
  wf := by
    refine ⟨by show (heardL cs count seed way).length = _; unfold heardL; rw [List.length_map, List.length_range], slipsL_lt _ _ _ _, fun x hx => ?_, fun x hx => ?_⟩
    · obtain ⟨d, n, hd, rfl, hn⟩ := slipsL_mem hx
      show ((n : Int) + 1) + baseZ cs ≤ (heardL cs count seed way).getD d 0
      have e : (heardL cs count seed way).getD d 0 = lim cs count seed way (d : Int) + baseZ cs := by
        unfold heardL
        rw [List.getD_eq_getElem?_getD, List.getElem?_map, List.getElem?_range (by omega)]
        rfl
      rw [e]
      omega
    · have := slipsL_desk hx
      omega
  tag := fun x hx => by
    obtain ⟨d, n, hd, rfl, hn⟩ := slipsL_mem hx
    have lb := lim_bounds (cs := cs) (seed := seed) (way := way) (d := (d : Int)) (by omega) hd
    exact ⟨d, n, by omega, by rw [Int.toNat_of_nonneg hc], by rw [Int.toNat_of_nonneg hc]; omega⟩
/-- no list of slips of these books, each once, is longer than n -/
def Few (a b : List Slip) (n : Nat) : Prop := ∀ l : List Slip, l.Nodup → (∀ x ∈ l, x ∈ a ∨ x ∈ b) → l.length ≤ n
theorem nodup_range : ∀ (n : Nat) (l : List Nat), l.Nodup → (∀ x ∈ l, x < n) → l.length ≤ n
  | 0, l, _, h => by
    cases l with
    | nil => exact Nat.le_refl _
    | cons x r => exact absurd (h x List.mem_cons_self) (Nat.not_lt_zero _)
  | n + 1, l, hn, h => by
    have a := nodup_range n (l.erase n) (hn.erase n) fun x hx => by
      have h1 := h x (List.mem_of_mem_erase hx)
      have h2 : x ≠ n := fun z => by
        subst z
        exact (List.Nodup.not_mem_erase hn) hx
      omega
    by_cases hm : n ∈ l
    · have := List.length_erase_of_mem hm
      have : 0 < l.length := List.length_pos_of_mem hm
      omega
    · rw [List.erase_of_not_mem hm] at a
      omega
def spotOf (cs : List Int) (count : Nat) (x : Slip) : Nat := (spotZ (count : Int) x.1 (x.2.1 - baseZ cs)).toNat
theorem few_cells {cs : List Int} {count : Nat} {a b : Bk} (h : ∀ x, x ∈ a.2 ∨ x ∈ b.2 → ∃ d n : Nat, d < count ∧ x = tag cs (count : Int) (d : Int) ((n : Int) + 1) ∧ (n : Int) + 1 ≤ many cs (count : Int) (d : Int)) : Few a.2 b.2 cs.length := by
  intro l hn hl
  have key : ∀ x ∈ l, ∃ d n : Nat, d < count ∧ x = tag cs (count : Int) (d : Int) ((n : Int) + 1) ∧ spotOf cs count x = n * count + d ∧ spotOf cs count x < cs.length := fun x hx => by
    obtain ⟨d, n, hd, rfl, hm⟩ := h x (hl x hx)
    have sp := spot_ok (cs := cs) (count := (count : Int)) (d := (d : Int)) (n := (n : Int) + 1) (by omega) (by omega) (by omega) hm
    have e : spotOf cs count (tag cs (count : Int) (d : Int) ((n : Int) + 1)) = n * count + d := by
      show (spotZ (count : Int) (d : Int) ((n : Int) + 1 + baseZ cs - baseZ cs)).toNat = _
      rw [show (n : Int) + 1 + baseZ cs - baseZ cs = (n : Int) + 1 by omega]
      unfold spotZ
      rw [show (n : Int) + 1 - 1 = (n : Int) by omega]
      have : (n : Int) * (count : Int) + (d : Int) = ((n * count + d : Nat) : Int) := by push_cast; rfl
      rw [this, Int.toNat_natCast]
    refine ⟨d, n, hd, rfl, e, ?_⟩
    rw [e]
    have e2 : spotZ (count : Int) (d : Int) ((n : Int) + 1) = ((n * count + d : Nat) : Int) := by
      unfold spotZ
      rw [show (n : Int) + 1 - 1 = (n : Int) by omega]
      push_cast
      rfl
    rw [e2] at sp
    omega
  have nd : (l.map (spotOf cs count)).Nodup := by
    rw [List.nodup_iff_pairwise_ne, List.pairwise_map]
    refine List.Pairwise.imp_of_mem (fun {x y} hx hy hne he => hne ?_) (List.nodup_iff_pairwise_ne.mp hn)
    obtain ⟨d, n, hd, e1, e2, _⟩ := key x hx
    obtain ⟨d', n', hd', f1, f2, _⟩ := key y hy
    rw [e2, f2] at he
    have a1 : d = d' := by
      have := congrArg (· % count) he
      simp only [Nat.mul_add_mod_self_right, Nat.mod_eq_of_lt hd, Nat.mod_eq_of_lt hd'] at this
      exact this
    subst a1
    have a2 : n * count = n' * count := by omega
    have a3 : n = n' := Nat.eq_of_mul_eq_mul_right (by omega) a2
    subst a3
    rw [e1, f1]
  have := nodup_range cs.length _ nd fun x hx => by
    obtain ⟨y, hy, rfl⟩ := List.mem_map.mp hx
    obtain ⟨_, _, _, _, _, z⟩ := key y hy
    exact z
  rwa [List.length_map] at this
end Sd

set_option Elab.async false
set_option linter.all false
set_option maxRecDepth 100000
set_option maxHeartbeats 4000000
set_option autoImplicit false
/-! the mathematics of a day -/
namespace Sd
open PySem
inductive Deed where
  | put (d : Nat) (t : Str)
  | take (d : Nat) (t : Str)
  | hear (d o : Nat)
def Deed.desk : Deed → Nat
  | .put d _ => d
  | .take d _ => d
  | .hear d _ => d
def Deed.isPut (e : Nat) : Deed → Bool
  | .put d _ => decide (d = e)
  | _ => false
/-- what is in b and not yet in a, behind a -/
def joinK (a b : List Nat) : List Nat := b.foldl (fun acc x => if x ∈ acc then acc else acc ++ [x]) a
theorem mem_joinK : ∀ (b a : List Nat) (x : Nat), x ∈ joinK a b ↔ x ∈ a ∨ x ∈ b
  | [], a, x => by simp [joinK]
  | y :: b, a, x => by
    show x ∈ joinK (if y ∈ a then a else a ++ [y]) b ↔ _
    rw [mem_joinK b]
    split
    · rename_i h
      constructor
      · rintro (z | z)
        · exact .inl z
        · exact .inr (List.mem_cons_of_mem _ z)
      · rintro (z | z)
        · exact .inl z
        · rcases List.mem_cons.mp z with z | z
          · subst z; exact .inl h
          · exact .inr z
    · simp [or_assoc]
theorem nodup_joinK : ∀ (b a : List Nat), a.Nodup → (joinK a b).Nodup
  | [], a, h => h
  | y :: b, a, h => by
    show (joinK (if y ∈ a then a else a ++ [y]) b).Nodup
    refine nodup_joinK b _ ?_
    split
    · exact h
    · rename_i n
      rw [List.nodup_append]
      refine ⟨h, by simp, fun a' ha b' hb => ?_⟩
      rw [List.mem_singleton.mp hb]
      exact fun z => n (z ▸ ha)
/-- the deeds that the desk has heard of ahead of deed k -/
def knownL (ds : List Deed) : Nat → Nat → List Nat
  | 0, _ => []
  | k + 1, d => match ds[k]? with
    | some (.put e _) => if d = e then knownL ds k d ++ [k] else knownL ds k d
    | some (.take e _) => if d = e then knownL ds k d ++ [k] else knownL ds k d
    | some (.hear e o) => if d = e then joinK (knownL ds k d) (knownL ds k o) else knownL ds k d
    | none => knownL ds k d
/-- what the desk that did deed j had heard of ahead of it -/
def aheadL (ds : List Deed) (j : Nat) : List Nat := match ds[j]? with
  | some x => knownL ds j x.desk
  | none => []
def putsOn (ds : List Deed) (k e : Nat) : Nat := ((ds.take k).filter (Deed.isPut e)).length
def PutAt (ds : List Deed) (p e : Nat) (t : Str) : Prop := ds[p]? = some (.put e t)
def TakeAt (ds : List Deed) (j e : Nat) (t : Str) : Prop := ds[j]? = some (.take e t)
/-- no take among these counts against the put p of t -/
def Stand (ds : List Deed) (known : List Nat) (p : Nat) (t : Str) : Prop := ∀ j ∈ known, ∀ e, TakeAt ds j e t → p ∉ aheadL ds j
def slipAt (ds : List Deed) (p e : Nat) (t : Str) : Slip := ((e : Int), ((putsOn ds (p + 1) e : Nat) : Int), t)

section
variable {ds : List Deed}
theorem known_lt : ∀ {k d x : Nat}, x ∈ knownL ds k d → x < k
  | 0, _, _, h => absurd h (by simp [knownL])
  | k + 1, d, x, h => by
    unfold knownL at h
    have up : ∀ {d'}, x ∈ knownL ds k d' → x < k + 1 := fun z => Nat.lt_succ_of_lt (known_lt z)
    split at h
    · split at h
      · rcases List.mem_append.mp h with z | z
        · exact up z
        · rw [List.mem_singleton.mp z]; omega
      · exact up h
    · split at h
      · rcases List.mem_append.mp h with z | z
        · exact up z
        · rw [List.mem_singleton.mp z]; omega
      · exact up h
    · split at h
      · rcases (mem_joinK _ _ _).mp h with z | z
        · exact up z
        · exact up z
      · exact up h
    · exact up h
theorem known_nodup : ∀ (k d : Nat), (knownL ds k d).Nodup
  | 0, _ => List.nodup_nil
  | k + 1, d => by
    unfold knownL
    have add : (knownL ds k d ++ [k]).Nodup := by
      rw [List.nodup_append]
      refine ⟨known_nodup k d, by simp, fun a ha b hb => ?_⟩
      rw [List.mem_singleton.mp hb]
      exact Nat.ne_of_lt (known_lt ha)
    split
    · split
      · exact add
      · exact known_nodup k d
    · split
      · exact add
      · exact known_nodup k d
    · split
      · exact nodup_joinK _ _ (known_nodup k d)
      · exact known_nodup k d
    · exact known_nodup k d
theorem known_up {k d x : Nat} (h : x ∈ knownL ds k d) : x ∈ knownL ds (k + 1) d := by
  unfold knownL
  split
  · split
    · exact List.mem_append_left _ h
    · exact h
  · split
    · exact List.mem_append_left _ h
    · exact h
  · split
    · exact (mem_joinK _ _ _).mpr (.inl h)
    · exact h
  · exact h
theorem known_mono {k m d x : Nat} (hm : k ≤ m) (h : x ∈ knownL ds k d) : x ∈ knownL ds m d := by
  induction hm with
  | refl => exact h
  | step _ ih => exact known_up ih
/-- who has heard of a deed has heard of all that its desk had heard of -/
theorem known_closed : ∀ {k d j x : Nat}, j ∈ knownL ds k d → x ∈ aheadL ds j → x ∈ knownL ds k d
  | 0, _, _, _, h, _ => absurd h (by simp [knownL])
  | k + 1, d, j, x, h, hx => by
    have old : ∀ {d'}, j ∈ knownL ds k d' → x ∈ knownL ds k d' := fun z => known_closed z hx
    have new : ∀ {e : Nat} {y : Deed}, ds[k]? = some y → y.desk = e → d = e → j = k → x ∈ knownL ds k d := fun {e y} e1 e2 e3 e4 => by
      subst e4
      unfold aheadL at hx
      rw [e1] at hx
      have hx : x ∈ knownL ds j y.desk := hx
      rw [e2, ← e3] at hx
      exact hx
    have keep : x ∈ knownL ds k d → x ∈ knownL ds (k + 1) d := known_up
    unfold knownL at h
    split at h
    · rename_i e t hk
      split at h
      · rename_i hd
        rcases List.mem_append.mp h with z | z
        · exact keep (old z)
        · exact keep (new hk rfl hd (List.mem_singleton.mp z))
      · exact keep (old h)
    · rename_i e t hk
      split at h
      · rename_i hd
        rcases List.mem_append.mp h with z | z
        · exact keep (old z)
        · exact keep (new hk rfl hd (List.mem_singleton.mp z))
      · exact keep (old h)
    · rename_i e o hk
      split at h
      · rename_i hd
        rcases (mem_joinK _ _ _).mp h with z | z
        · exact keep (old z)
        · unfold knownL
          rw [hk]
          show x ∈ (if d = e then joinK (knownL ds k d) (knownL ds k o) else knownL ds k d)
          rw [if_pos hd]
          exact (mem_joinK _ _ _).mpr (.inr (old z))
      · exact keep (old h)
    · exact keep (old h)
theorem putsOn_succ (ds : List Deed) (k e : Nat) : putsOn ds (k + 1) e = putsOn ds k e + (match ds[k]? with | some (.put d _) => if d = e then 1 else 0 | _ => 0) := by
  unfold putsOn
  rw [List.take_add_one, List.filter_append, List.length_append]
  congr 1
  cases h : ds[k]? with
  | none => rfl
  | some x =>
    cases x with
    | put d t =>
      show (List.filter (Deed.isPut e) [Deed.put d t]).length = if d = e then 1 else 0
      by_cases q : d = e
      · rw [if_pos q]; simp [Deed.isPut, q]
      · rw [if_neg q]; simp [Deed.isPut, q]
    | take d t => rfl
    | hear d o => rfl
theorem putsOn_mono {k m e : Nat} (h : k ≤ m) : putsOn ds k e ≤ putsOn ds m e := by
  induction h with
  | refl => exact Nat.le_refl _
  | step _ ih => rw [putsOn_succ]; omega
theorem putsOn_at {p e : Nat} {t : Str} (h : PutAt ds p e t) : putsOn ds (p + 1) e = putsOn ds p e + 1 := by
  rw [putsOn_succ]
  unfold PutAt at h
  rw [h]
  show putsOn ds p e + (if e = e then 1 else 0) = _
  rw [if_pos rfl]
/-- the puts of a desk are told by their numbers -/
theorem put_inj {p q e : Nat} {t u : Str} (hp : PutAt ds p e t) (hq : PutAt ds q e u) (h : putsOn ds (p + 1) e = putsOn ds (q + 1) e) : p = q := by
  have a1 := putsOn_at hp
  have a2 := putsOn_at hq
  rcases Nat.lt_trichotomy p q with z | z | z
  · have := putsOn_mono (ds := ds) (e := e) (show p + 1 ≤ q by omega); omega
  · exact z
  · have := putsOn_mono (ds := ds) (e := e) (show q + 1 ≤ p by omega); omega
theorem put_nth {e : Nat} : ∀ {k n : Nat}, 1 ≤ n → n ≤ putsOn ds k e → ∃ p t, p < k ∧ PutAt ds p e t ∧ putsOn ds (p + 1) e = n
  | 0, n, h1, h2 => by
    have : putsOn ds 0 e = 0 := rfl
    omega
  | k + 1, n, h1, h2 => by
    by_cases h : n ≤ putsOn ds k e
    · obtain ⟨p, t, hp, h3, h4⟩ := put_nth h1 h
      exact ⟨p, t, by omega, h3, h4⟩
    · have q := putsOn_succ ds k e
      cases hk : ds[k]? with
      | none => rw [hk] at q; simp only at q; omega
      | some x =>
        rw [hk] at q
        cases x with
        | take d t => simp only at q; omega
        | hear d o => simp only at q; omega
        | put d t =>
          simp only at q
          by_cases hd : d = e
          · subst hd
            rw [if_pos rfl] at q
            exact ⟨k, t, by omega, hk, by omega⟩
          · rw [if_neg hd] at q
            omega
end

/-- the books behind the first k deeds -/
structure DayInv (ds : List Deed) (count k : Nat) (bks : List Bk) : Prop where
  len : bks.length = count
  wf : ∀ (d : Nat) (b : Bk), bks[d]? = some b → Wf count b
  hrd : ∀ (d : Nat) (b : Bk), bks[d]? = some b → ∀ (p e : Nat) (t : Str), p < k → PutAt ds p e t → (p ∈ knownL ds k d ↔ ((putsOn ds (p + 1) e : Nat) : Int) ≤ b.1.getD e 0)
  le : ∀ (d : Nat) (b : Bk), bks[d]? = some b → ∀ e : Nat, 0 ≤ b.1.getD e 0 ∧ b.1.getD e 0 ≤ ((putsOn ds k e : Nat) : Int)
  own : ∀ (d : Nat) (b : Bk), bks[d]? = some b → b.1.getD d 0 = ((putsOn ds k d : Nat) : Int)
  mem : ∀ (d : Nat) (b : Bk), bks[d]? = some b → ∀ x : Slip, x ∈ b.2 ↔ ∃ (p e : Nat) (t : Str), p ∈ knownL ds k d ∧ PutAt ds p e t ∧ x = slipAt ds p e t ∧ Stand ds (knownL ds k d) p t
def DesksOk (ds : List Deed) (count : Nat) : Prop := ∀ (i : Nat) (x : Deed), ds[i]? = some x → x.desk < count ∧ ∀ d o, x = .hear d o → o < count
theorem getD_rep (n i : Nat) : (List.replicate n (0 : Int)).getD i 0 = 0 := by
  rw [List.getD_eq_getElem?_getD, List.getElem?_replicate]
  split <;> rfl
theorem DayInv.start (ds : List Deed) (count : Nat) : DayInv ds count 0 (List.replicate count (List.replicate count 0, [])) := by
  have e : ∀ (d : Nat) (b : Bk), (List.replicate count ((List.replicate count 0, []) : Bk))[d]? = some b → b = (List.replicate count 0, []) := fun d b h => by
    rw [List.getElem?_replicate] at h
    split at h
    · exact (Option.some.inj h).symm
    · cases h
  refine ⟨List.length_replicate, fun d b h => ?_, fun d b h p e t hp => absurd hp (Nat.not_lt_zero _), fun d b h e' => ?_, fun d b h => ?_, fun d b h x => ?_⟩
  · rw [e d b h]
    exact ⟨List.length_replicate, List.Pairwise.nil, fun x hx => absurd hx (by simp), fun x hx => absurd hx (by simp)⟩
  · rw [e d b h]
    show 0 ≤ (List.replicate count (0 : Int)).getD e' 0 ∧ (List.replicate count (0 : Int)).getD e' 0 ≤ _
    rw [getD_rep]
    exact ⟨Int.le_refl _, Int.natCast_nonneg _⟩
  · rw [e d b h]
    show (List.replicate count (0 : Int)).getD d 0 = _
    rw [getD_rep]
    rfl
  · rw [e d b h]
    constructor
    · intro z; exact absurd z (by simp)
    · rintro ⟨p, e', t, hp, _⟩
      exact absurd hp (by simp [knownL])
section
variable {ds : List Deed} {count k : Nat} {bks : List Bk}
theorem ahead_lt {j x : Nat} (h : x ∈ aheadL ds j) : x < j := by
  unfold aheadL at h
  split at h
  · exact known_lt h
  · exact absurd h (by simp)
theorem set_get {b : Bk} {e d : Nat} {c : Bk} (h : (bks.set e b)[d]? = some c) (he : e < bks.length) : (d = e ∧ c = b) ∨ (d ≠ e ∧ bks[d]? = some c) := by
  by_cases q : d = e
  · subst q
    rw [List.getElem?_set_self he] at h
    exact .inl ⟨rfl, (Option.some.inj h).symm⟩
  · rw [List.getElem?_set_ne (Ne.symm q)] at h
    exact .inr ⟨q, h⟩
/-- the desks that a deed does not touch -/
theorem DayInv.rest {e : Nat} {x : Deed} {b : Bk} (I : DayInv ds count k bks) (hx : ds[k]? = some x) (hd : x.desk = e) (he : e < count)
    (wf : Wf count b)
    (hrd : ∀ (p e' : Nat) (t : Str), p < k + 1 → PutAt ds p e' t → (p ∈ knownL ds (k + 1) e ↔ ((putsOn ds (p + 1) e' : Nat) : Int) ≤ b.1.getD e' 0))
    (le : ∀ e' : Nat, 0 ≤ b.1.getD e' 0 ∧ b.1.getD e' 0 ≤ ((putsOn ds (k + 1) e' : Nat) : Int))
    (own : b.1.getD e 0 = ((putsOn ds (k + 1) e : Nat) : Int))
    (mem : ∀ y : Slip, y ∈ b.2 ↔ ∃ (p e' : Nat) (t : Str), p ∈ knownL ds (k + 1) e ∧ PutAt ds p e' t ∧ y = slipAt ds p e' t ∧ Stand ds (knownL ds (k + 1) e) p t) :
    DayInv ds count (k + 1) (bks.set e b) := by
  have hel : e < bks.length := by rw [I.len]; exact he
  have kn : ∀ d, d ≠ e → knownL ds (k + 1) d = knownL ds k d := fun d hne => by
    conv => lhs; unfold knownL
    rw [hx]
    cases x with
    | put d' t => exact if_neg (by intro z; exact hne (z.trans hd))
    | take d' t => exact if_neg (by intro z; exact hne (z.trans hd))
    | hear d' o => exact if_neg (by intro z; exact hne (z.trans hd))
  have pn : ∀ d, d ≠ e → putsOn ds (k + 1) d = putsOn ds k d := fun d hne => by
    rw [putsOn_succ, hx]
    cases x with
    | put d' t =>
      show _ + (if d' = d then 1 else 0) = _
      rw [if_neg (by intro z; exact hne (z.symm.trans hd))]
      rfl
    | take d' t => rfl
    | hear d' o => rfl
  refine ⟨by rw [List.length_set]; exact I.len, fun d c h => ?_, fun d c h => ?_, fun d c h => ?_, fun d c h => ?_, fun d c h => ?_⟩
  · rcases set_get h hel with ⟨rfl, rfl⟩ | ⟨_, h⟩
    · exact wf
    · exact I.wf d c h
  · rcases set_get h hel with ⟨rfl, rfl⟩ | ⟨hne, hg⟩
    · exact hrd
    · intro p e' t hp hput
      rw [kn d hne]
      by_cases q : p = k
      · subst q
        have hput' := hput
        unfold PutAt at hput'
        rw [hx] at hput'
        cases hput'
        have hde : e' = e := hd
        subst hde
        have a1 := putsOn_at hput
        have a2 := (I.le d c hg e').2
        constructor
        · intro z; exact absurd (known_lt z) (Nat.lt_irrefl _)
        · intro z; omega
      · exact I.hrd d c hg p e' t (by omega) hput
  · rcases set_get h hel with ⟨rfl, rfl⟩ | ⟨hne, h⟩
    · exact le
    · intro e'
      have a1 := I.le d c h e'
      have a2 := putsOn_mono (ds := ds) (e := e') (show k ≤ k + 1 by omega)
      omega
  · rcases set_get h hel with ⟨rfl, rfl⟩ | ⟨hne, h⟩
    · exact own
    · rw [pn d hne]
      exact I.own d c h
  · rcases set_get h hel with ⟨rfl, rfl⟩ | ⟨hne, h⟩
    · exact mem
    · rw [kn d hne]
      exact I.mem d c h
theorem putS_mem {sl : List Slip} {desk : Int} {new x : Slip} : x ∈ putS sl desk new ↔ x ∈ sl ∨ x = new := by
  unfold putS
  rw [List.mem_append, List.mem_append, List.mem_filter, List.mem_filter, List.mem_singleton]
  constructor
  · rintro ((⟨h, _⟩ | h) | ⟨h, _⟩)
    · exact .inl h
    · exact .inr h
    · exact .inl h
  · rintro (h | h)
    · by_cases q : x.1 ≤ desk
      · exact .inl (.inl ⟨h, decide_eq_true q⟩)
      · exact .inr ⟨h, decide_eq_true (by omega)⟩
    · exact .inl (.inr h)
theorem putS_lt {sl : List Slip} {desk n : Int} {t : Str} (h : sl.Pairwise LtS) (hn : ∀ x ∈ sl, x.1 = desk → x.2.1 < n) : (putS sl desk (desk, n, t)).Pairwise LtS := by
  unfold putS
  rw [List.pairwise_append, List.pairwise_append]
  refine ⟨⟨h.filter _, List.pairwise_singleton _ _, fun a ha b hb => ?_⟩, h.filter _, fun a ha b hb => ?_⟩
  · obtain ⟨h1, h2⟩ := List.mem_filter.mp ha
    have h2 := of_decide_eq_true h2
    rw [List.mem_singleton.mp hb]
    by_cases q : a.1 = desk
    · exact .inr ⟨q, hn a h1 q⟩
    · exact .inl (by show a.1 < desk; omega)
  · obtain ⟨g1, g2⟩ := List.mem_filter.mp hb
    have g2 := of_decide_eq_true g2
    rcases List.mem_append.mp ha with ha | ha
    · obtain ⟨h1, h2⟩ := List.mem_filter.mp ha
      have h2 := of_decide_eq_true h2
      exact .inl (by omega)
    · rw [List.mem_singleton.mp ha]
      exact .inl g2
theorem getD_set {h : List Int} {i j : Nat} {v : Int} (hi : i < h.length) : (h.set i v).getD j 0 = if j = i then v else h.getD j 0 := by
  rw [List.getD_eq_getElem?_getD, List.getElem?_set]
  by_cases q : j = i
  · rw [if_pos q, if_pos q.symm, if_pos hi]
    rfl
  · rw [if_neg q, if_neg (Ne.symm q), List.getD_eq_getElem?_getD]
theorem DayInv.put {e : Nat} {t : Str} {hd : List Int} {sl : List Slip} (I : DayInv ds count k bks) (hk : ds[k]? = some (.put e t)) (he : e < count) (hb : bks[e]? = some (hd, sl)) :
    DayInv ds count (k + 1) (bks.set e (hd.set e (hd.getD e 0 + 1), putS sl (e : Int) ((e : Int), hd.getD e 0 + 1, t))) := by
  have W := I.wf e _ hb
  have hl : e < hd.length := by rw [W.len]; exact he
  have hown : hd.getD e 0 = ((putsOn ds k e : Nat) : Int) := I.own e _ hb
  have hpk : PutAt ds k e t := hk
  have hnew := putsOn_at hpk
  have kn : knownL ds (k + 1) e = knownL ds k e ++ [k] := by
    conv => lhs; unfold knownL
    rw [hk]
    exact if_pos rfl
  have pne : ∀ e', e' ≠ e → putsOn ds (k + 1) e' = putsOn ds k e' := fun e' hne => by
    rw [putsOn_succ, hk]
    show _ + (if e = e' then 1 else 0) = _
    rw [if_neg (Ne.symm hne)]
    rfl
  have tk : ∀ {j e' : Nat} {u : Str}, TakeAt ds j e' u → j ≠ k := fun h z => by
    unfold TakeAt at h
    rw [z, hk] at h
    cases h
  have st : ∀ {p : Nat} {u : Str}, Stand ds (knownL ds k e ++ [k]) p u ↔ Stand ds (knownL ds k e) p u := fun {p u} => by
    constructor
    · exact fun h j hj e' hT => h j (List.mem_append_left _ hj) e' hT
    · intro h j hj e' hT
      rcases List.mem_append.mp hj with z | z
      · exact h j z e' hT
      · exact absurd (List.mem_singleton.mp z) (tk hT)
  refine I.rest hk rfl he ⟨by rw [List.length_set]; exact W.len, putS_lt W.lt fun x hx q => ?_, fun x hx => ?_, fun x hx => ?_⟩ (fun p e' u hp hput => ?_) (fun e' => ?_) ?_ (fun y => ?_)
  · have a := W.hrd x hx
    unfold Hrd at a
    rw [q] at a
    have a : x.2.1 ≤ hd.getD e 0 := a
    omega
  · unfold Hrd
    show x.2.1 ≤ (hd.set e (hd.getD e 0 + 1)).getD x.1.toNat 0
    rw [getD_set hl]
    rcases putS_mem.mp hx with z | z
    · have a : x.2.1 ≤ hd.getD x.1.toNat 0 := W.hrd x z
      split
      · rename_i q; rw [q] at a; omega
      · exact a
    · subst z
      rw [if_pos (by show ((e : Int)).toNat = e; omega)]
      exact Int.le_refl _
  · rcases putS_mem.mp hx with z | z
    · exact W.desk x z
    · subst z
      show 0 ≤ (e : Int) ∧ (e : Int) < (count : Int)
      omega
  · show _ ↔ _ ≤ (hd.set e (hd.getD e 0 + 1)).getD e' 0
    rw [kn, getD_set hl]
    by_cases q : p = k
    · subst q
      have z := hput
      unfold PutAt at z
      rw [hk] at z
      cases z
      rw [if_pos rfl]
      constructor
      · intro _; omega
      · intro _; exact List.mem_append_right _ (List.mem_singleton.mpr rfl)
    · have a := I.hrd e _ hb p e' u (by omega) hput
      have a : p ∈ knownL ds k e ↔ ((putsOn ds (p + 1) e' : Nat) : Int) ≤ hd.getD e' 0 := a
      have b : p ∈ knownL ds k e ++ [k] ↔ p ∈ knownL ds k e := by
        rw [List.mem_append, List.mem_singleton]
        exact ⟨fun z => z.elim id fun z => absurd z q, .inl⟩
      rw [b, a]
      split
      · rename_i z
        subst z
        have m := putsOn_mono (ds := ds) (e := e') (show p + 1 ≤ k by omega)
        constructor <;> intro _ <;> omega
      · exact Iff.rfl
  · show 0 ≤ (hd.set e (hd.getD e 0 + 1)).getD e' 0 ∧ (hd.set e (hd.getD e 0 + 1)).getD e' 0 ≤ _
    rw [getD_set hl]
    have a := I.le e _ hb e'
    have a : 0 ≤ hd.getD e' 0 ∧ hd.getD e' 0 ≤ ((putsOn ds k e' : Nat) : Int) := a
    split
    · rename_i z; subst z; omega
    · rename_i z; rw [pne e' z]; exact a
  · show (hd.set e (hd.getD e 0 + 1)).getD e 0 = _
    rw [getD_set hl, if_pos rfl]
    omega
  · show y ∈ putS sl _ _ ↔ _
    rw [putS_mem, kn]
    have a := I.mem e _ hb y
    have a : y ∈ sl ↔ ∃ (p e' : Nat) (u : Str), p ∈ knownL ds k e ∧ PutAt ds p e' u ∧ y = slipAt ds p e' u ∧ Stand ds (knownL ds k e) p u := a
    rw [a]
    constructor
    · rintro (⟨p, e', u, h1, h2, h3, h4⟩ | z)
      · exact ⟨p, e', u, List.mem_append_left _ h1, h2, h3, st.mpr h4⟩
      · refine ⟨k, e, t, List.mem_append_right _ (List.mem_singleton.mpr rfl), hpk, ?_, fun j hj e' hT hin => ?_⟩
        · rw [z]
          unfold slipAt
          rw [hnew, hown]
          rfl
        · have := ahead_lt hin
          rcases List.mem_append.mp hj with z | z
          · have := known_lt z; omega
          · exact tk hT (List.mem_singleton.mp z)
    · rintro ⟨p, e', u, h1, h2, h3, h4⟩
      rcases List.mem_append.mp h1 with z | z
      · exact .inl ⟨p, e', u, z, h2, h3, st.mp h4⟩
      · right
        have z := List.mem_singleton.mp z
        subst z
        unfold PutAt at h2
        rw [hk] at h2
        cases h2
        rw [h3]
        unfold slipAt
        rw [hnew, hown]
        rfl
theorem DayInv.take {e : Nat} {t : Str} {hd : List Int} {sl : List Slip} (I : DayInv ds count k bks) (hk : ds[k]? = some (.take e t)) (he : e < count) (hb : bks[e]? = some (hd, sl)) :
    DayInv ds count (k + 1) (bks.set e (hd, sl.filter fun s => !decide (s.2.2 = t))) := by
  have W := I.wf e _ hb
  have kn : knownL ds (k + 1) e = knownL ds k e ++ [k] := by
    conv => lhs; unfold knownL
    rw [hk]
    exact if_pos rfl
  have pn : ∀ e', putsOn ds (k + 1) e' = putsOn ds k e' := fun e' => by
    rw [putsOn_succ, hk]
    rfl
  have np : ∀ {p e' : Nat} {u : Str}, PutAt ds p e' u → p ≠ k := fun h z => by
    unfold PutAt at h
    rw [z, hk] at h
    cases h
  have inK : ∀ {p e' : Nat} {u : Str}, PutAt ds p e' u → (p ∈ knownL ds k e ++ [k] ↔ p ∈ knownL ds k e) := fun h => by
    rw [List.mem_append, List.mem_singleton]
    exact ⟨fun z => z.elim id fun z => absurd z (np h), .inl⟩
  refine I.rest hk rfl he ⟨W.len, W.lt.filter _, fun x hx => W.hrd x (List.mem_filter.mp hx).1, fun x hx => W.desk x (List.mem_filter.mp hx).1⟩ (fun p e' u hp hput => ?_) (fun e' => ?_) ?_ (fun y => ?_)
  · rw [kn, inK hput]
    have := np hput
    exact I.hrd e _ hb p e' u (by omega) hput
  · rw [pn]
    exact I.le e _ hb e'
  · rw [pn]
    exact I.own e (hd, sl) hb
  · show y ∈ sl.filter _ ↔ _
    rw [List.mem_filter, kn]
    have a := I.mem e _ hb y
    have a : y ∈ sl ↔ ∃ (p e' : Nat) (u : Str), p ∈ knownL ds k e ∧ PutAt ds p e' u ∧ y = slipAt ds p e' u ∧ Stand ds (knownL ds k e) p u := a
    rw [a]
    have ak : aheadL ds k = knownL ds k e := by
      unfold aheadL
      rw [hk]
      rfl
    constructor
    · rintro ⟨⟨p, e', u, h1, h2, h3, h4⟩, h5⟩
      refine ⟨p, e', u, (inK h2).mpr h1, h2, h3, fun j hj e2 hT => ?_⟩
      rcases List.mem_append.mp hj with z | z
      · exact h4 j z e2 hT
      · have z := List.mem_singleton.mp z
        subst z
        unfold TakeAt at hT
        rw [hk] at hT
        cases hT
        rw [h3] at h5
        simp [slipAt] at h5
    · rintro ⟨p, e', u, h1, h2, h3, h4⟩
      have h1' := (inK h2).mp h1
      refine ⟨⟨p, e', u, h1', h2, h3, fun j hj e2 hT => h4 j (List.mem_append_left _ hj) e2 hT⟩, ?_⟩
      have hu : u ≠ t := fun z => by
        subst z
        exact h4 k (List.mem_append_right _ (List.mem_singleton.mpr rfl)) e hk (by rw [ak]; exact h1')
      rw [h3]
      simp [slipAt, hu]
theorem slip_inj {p q e e' : Nat} {t u : Str} (hp : PutAt ds p e t) (hq : PutAt ds q e' u) (h : slipAt ds p e t = slipAt ds q e' u) : p = q ∧ e = e' ∧ t = u := by
  unfold slipAt at h
  injection h with h1 h2
  injection h2 with h2 h3
  have he : e = e' := by omega
  subst he
  exact ⟨put_inj hp hq (by omega), rfl, h3⟩
theorem DayInv.hear {e o : Nat} {be bo m : Bk} (D : DesksOk ds count) (I : DayInv ds count k bks) (hk : ds[k]? = some (.hear e o)) (hb : bks[e]? = some be) (ho : bks[o]? = some bo) (M : MergeOf be bo m) :
    DayInv ds count (k + 1) (bks.set e m) := by
  have he : e < count := (D k _ hk).1
  have We := I.wf e _ hb
  have Wo := I.wf o _ ho
  have Wm := M.wf We Wo
  have kn : knownL ds (k + 1) e = joinK (knownL ds k e) (knownL ds k o) := by
    conv => lhs; unfold knownL
    rw [hk]
    exact if_pos rfl
  have pn : ∀ e', putsOn ds (k + 1) e' = putsOn ds k e' := fun e' => by
    rw [putsOn_succ, hk]
    rfl
  have np : ∀ {p e' : Nat} {u : Str}, PutAt ds p e' u → p ≠ k := fun h z => by
    unfold PutAt at h
    rw [z, hk] at h
    cases h
  have dk : ∀ {p e' : Nat} {u : Str}, PutAt ds p e' u → e' < count := fun h => (D _ _ h).1
  have gm : ∀ e', e' < count → m.1.getD e' 0 = max (be.1.getD e' 0) (bo.1.getD e' 0) := fun e' h => by rw [M.hd]; exact zip_get We.len Wo.len h
  have hd1 : ∀ {p e' : Nat} {u : Str}, p < k → PutAt ds p e' u → (p ∈ knownL ds k e ↔ Hrd be.1 (slipAt ds p e' u)) := fun {p e' u} hp h => I.hrd e _ hb p e' u hp h
  have hd2 : ∀ {p e' : Nat} {u : Str}, p < k → PutAt ds p e' u → (p ∈ knownL ds k o ↔ Hrd bo.1 (slipAt ds p e' u)) := fun {p e' u} hp h => I.hrd o _ ho p e' u hp h
  have away : ∀ {p : Nat} {u : Str} {d : Nat}, p ∉ knownL ds k d → Stand ds (knownL ds k d) p u := fun hn j hj e2 hT hin => hn (known_closed hj hin)
  have st : ∀ {p : Nat} {u : Str}, Stand ds (joinK (knownL ds k e) (knownL ds k o)) p u ↔ Stand ds (knownL ds k e) p u ∧ Stand ds (knownL ds k o) p u := fun {p u} => by
    constructor
    · exact fun h => ⟨fun j hj => h j ((mem_joinK _ _ _).mpr (.inl hj)), fun j hj => h j ((mem_joinK _ _ _).mpr (.inr hj))⟩
    · rintro ⟨h1, h2⟩ j hj
      rcases (mem_joinK _ _ _).mp hj with z | z
      · exact h1 j z
      · exact h2 j z
  refine I.rest hk rfl he Wm (fun p e' u hp hput => ?_) (fun e' => ?_) ?_ (fun y => ?_)
  · have hpk : p < k := by have := np hput; omega
    rw [kn, mem_joinK, I.hrd e _ hb p e' u hpk hput, I.hrd o _ ho p e' u hpk hput, gm e' (dk hput)]
    omega
  · rw [pn]
    have a1 := I.le e _ hb e'
    have a2 := I.le o _ ho e'
    by_cases h : e' < count
    · rw [gm e' h]; omega
    · have : m.1.getD e' 0 = 0 := by
        rw [List.getD_eq_getElem?_getD, List.getElem?_eq_none (by rw [Wm.len]; omega)]
        rfl
      rw [this]
      omega
  · rw [pn, gm e he]
    have a1 := I.own e _ hb
    have a2 := (I.le o _ ho e).2
    omega
  · rw [M.mem, I.mem e _ hb y, I.mem o _ ho y, kn]
    constructor
    · rintro (⟨⟨p, e1, u, h1, h2, h3, h4⟩, ⟨p', e2, u', g1, g2, g3, g4⟩⟩ | ⟨⟨p, e1, u, h1, h2, h3, h4⟩, hn⟩ | ⟨⟨p, e1, u, h1, h2, h3, h4⟩, hn⟩)
      · obtain ⟨rfl, rfl, rfl⟩ := slip_inj h2 g2 (h3.symm.trans g3)
        exact ⟨p, e1, u, (mem_joinK _ _ _).mpr (.inl h1), h2, h3, st.mpr ⟨h4, g4⟩⟩
      · rw [h3] at hn
        have hno := fun z => hn ((hd2 (known_lt h1) h2).mp z)
        exact ⟨p, e1, u, (mem_joinK _ _ _).mpr (.inl h1), h2, h3, st.mpr ⟨h4, away hno⟩⟩
      · rw [h3] at hn
        have hno := fun z => hn ((hd1 (known_lt h1) h2).mp z)
        exact ⟨p, e1, u, (mem_joinK _ _ _).mpr (.inr h1), h2, h3, st.mpr ⟨away hno, h4⟩⟩
    · rintro ⟨p, e1, u, h1, h2, h3, h4⟩
      obtain ⟨s1, s2⟩ := st.mp h4
      have hpk : p < k := (mem_joinK _ _ _).mp h1 |>.elim known_lt known_lt
      by_cases q1 : p ∈ knownL ds k e
      · by_cases q2 : p ∈ knownL ds k o
        · exact .inl ⟨⟨p, e1, u, q1, h2, h3, s1⟩, ⟨p, e1, u, q2, h2, h3, s2⟩⟩
        · refine .inr (.inl ⟨⟨p, e1, u, q1, h2, h3, s1⟩, fun z => q2 ?_⟩)
          rw [h3] at z
          exact (hd2 hpk h2).mpr z
      · refine .inr (.inr ⟨⟨p, e1, u, ((mem_joinK _ _ _).mp h1).resolve_left q1, h2, h3, s2⟩, fun z => q1 ?_⟩)
        rw [h3] at z
        exact (hd1 hpk h2).mpr z
end
end Sd

set_option Elab.async false
set_option linter.all false
set_option maxRecDepth 100000
set_option maxHeartbeats 4000000
set_option autoImplicit false
/-! the mathematics of a day: what the laws work out -/
namespace Sd
open PySem
section
variable {ds : List Deed} {count k : Nat} {bks : List Bk}
/-- the numbers heard of, put by put -/
def heardStep (ds : List Deed) (h : List Int) (p : Nat) : List Int := match ds[p]? with
  | some (.put e _) => h.set e (max (h.getD e 0) ((putsOn ds (p + 1) e : Nat) : Int))
  | _ => h
theorem heardStep_len (h : List Int) (p : Nat) : (heardStep ds h p).length = h.length := by
  unfold heardStep
  split
  · rw [List.length_set]
  · rfl
theorem heardStep_get {h : List Int} {p e : Nat} (he : e < h.length) : (heardStep ds h p).getD e 0 = h.getD e 0 ∨ ∃ t, PutAt ds p e t ∧ (heardStep ds h p).getD e 0 = max (h.getD e 0) ((putsOn ds (p + 1) e : Nat) : Int) := by
  unfold heardStep
  split
  · rename_i d t hp
    by_cases q : e = d
    · subst q
      right
      exact ⟨t, hp, by rw [getD_set he, if_pos rfl]⟩
    · left
      by_cases hd : d < h.length
      · rw [getD_set hd, if_neg q]
      · rw [List.set_eq_of_length_le (by omega)]
  · exact .inl rfl
theorem heardStep_put {h : List Int} {p e : Nat} {t : Str} (he : e < h.length) (hp : PutAt ds p e t) : (heardStep ds h p).getD e 0 = max (h.getD e 0) ((putsOn ds (p + 1) e : Nat) : Int) := by
  unfold heardStep
  unfold PutAt at hp
  rw [hp]
  show (h.set e _).getD e 0 = _
  rw [getD_set he, if_pos rfl]
theorem heardFold : ∀ (ps : List Nat) (h : List Int), (ps.foldl (heardStep ds) h).length = h.length ∧ ∀ e, e < h.length →
    h.getD e 0 ≤ (ps.foldl (heardStep ds) h).getD e 0 ∧ (∀ p ∈ ps, ∀ t, PutAt ds p e t → ((putsOn ds (p + 1) e : Nat) : Int) ≤ (ps.foldl (heardStep ds) h).getD e 0) ∧
    ((ps.foldl (heardStep ds) h).getD e 0 = h.getD e 0 ∨ ∃ p ∈ ps, ∃ t, PutAt ds p e t ∧ (ps.foldl (heardStep ds) h).getD e 0 = ((putsOn ds (p + 1) e : Nat) : Int))
  | [], h => ⟨rfl, fun e he => ⟨Int.le_refl _, fun p hp => absurd hp (by simp), .inl rfl⟩⟩
  | q :: ps, h => by
    rw [List.foldl_cons]
    obtain ⟨l, ih⟩ := heardFold ps (heardStep ds h q)
    rw [heardStep_len] at l ih
    refine ⟨l, fun e he => ?_⟩
    obtain ⟨i1, i2, i3⟩ := ih e he
    have up : h.getD e 0 ≤ (heardStep ds h q).getD e 0 := by
      rcases heardStep_get (ds := ds) (p := q) he with z | ⟨t, _, z⟩ <;> omega
    refine ⟨by omega, fun p hp t hput => ?_, ?_⟩
    · rcases List.mem_cons.mp hp with z | z
      · subst z
        have := heardStep_put he hput
        omega
      · exact i2 p z t hput
    · rcases i3 with z | ⟨p, hp, t, h1, h2⟩
      · rcases heardStep_get (ds := ds) (p := q) he with y | ⟨t, y1, y2⟩
        · exact .inl (z.trans y)
        · by_cases c : h.getD e 0 ≤ ((putsOn ds (q + 1) e : Nat) : Int)
          · exact .inr ⟨q, List.mem_cons_self, t, y1, by omega⟩
          · exact .inl (by omega)
      · exact .inr ⟨p, List.mem_cons_of_mem _ hp, t, h1, h2⟩
theorem ext_getD {a b : List Int} (hl : a.length = b.length) (h : ∀ i, i < a.length → a.getD i 0 = b.getD i 0) : a = b := by
  apply List.ext_getElem hl
  intro i h1 h2
  have z := h i h1
  rw [List.getD_eq_getElem?_getD, List.getD_eq_getElem?_getD, List.getElem?_eq_getElem h1, List.getElem?_eq_getElem h2] at z
  exact z
/-- the numbers heard of, from the puts heard of -/
theorem DayInv.heard {d : Nat} {b : Bk} {ps : List Nat} (I : DayInv ds count k bks) (hb : bks[d]? = some b) (hps : ∀ p, p ∈ ps ↔ p ∈ knownL ds k d ∧ ∃ e t, PutAt ds p e t) : ps.foldl (heardStep ds) (List.replicate count 0) = b.1 := by
  obtain ⟨l, f⟩ := heardFold (ds := ds) ps (List.replicate count 0)
  rw [List.length_replicate] at l f
  refine ext_getD (l.trans (I.wf d b hb).len.symm) fun e he => ?_
  rw [l] at he
  obtain ⟨f1, f2, f3⟩ := f e he
  rw [getD_rep] at f1 f3
  have le := I.le d b hb e
  have h1 : (ps.foldl (heardStep ds) (List.replicate count 0)).getD e 0 ≤ b.1.getD e 0 := by
    rcases f3 with z | ⟨p, hp, t, h1, h2⟩
    · omega
    · have kn := ((hps p).mp hp).1
      rw [h2]
      exact (I.hrd d b hb p e t (known_lt kn) h1).mp kn
  have h2 : b.1.getD e 0 ≤ (ps.foldl (heardStep ds) (List.replicate count 0)).getD e 0 := by
    by_cases c : b.1.getD e 0 ≤ 0
    · omega
    · obtain ⟨p, t, p1, p2, p3⟩ := put_nth (ds := ds) (e := e) (k := k) (n := (b.1.getD e 0).toNat) (by omega) (by omega)
      have kn := (I.hrd d b hb p e t p1 p2).mpr (by omega)
      have := f2 p ((hps p).mpr ⟨kn, e, t, p2⟩) t p2
      omega
  omega
/-- a list of slips, each once, in an order that never goes back, is a book's list -/
theorem sorted_of {l : List Slip} (hn : l.Nodup) (hi : ∀ x ∈ l, ∀ y ∈ l, x.1 = y.1 → x.2.1 = y.2.1 → x = y) (h : l.Pairwise fun a b => ¬ LtS b a) : l.Pairwise LtS := by
  induction l with
  | nil => exact List.Pairwise.nil
  | cons a l ih =>
    obtain ⟨h1, h2⟩ := List.pairwise_cons.mp h
    obtain ⟨n1, n2⟩ := List.nodup_cons.mp hn
    refine List.pairwise_cons.mpr ⟨fun b hb => ?_, ih n2 (fun x hx y hy => hi x (List.mem_cons_of_mem _ hx) y (List.mem_cons_of_mem _ hy)) h2⟩
    have z := h1 b hb
    unfold LtS at z ⊢
    by_cases e1 : a.1 = b.1
    · by_cases e2 : a.2.1 = b.2.1
      · have := hi a List.mem_cons_self b (List.mem_cons_of_mem _ hb) e1 e2
        exact absurd hb (this ▸ n1)
      · right
        refine ⟨e1, ?_⟩
        have : ¬ (b.1 = a.1 ∧ b.2.1 < a.2.1) := fun q => z (.inr q)
        omega
    · left
      have : ¬ b.1 < a.1 := fun q => z (.inl q)
      omega
/-- the slips that stand, of a list of puts -/
def slipOne (ds : List Deed) (p : Nat) : Option Slip := match ds[p]? with
  | some (Deed.put e t) => some (slipAt ds p e t)
  | _ => none
def slipsOf (ds : List Deed) (ps : List Nat) : List Slip := ps.filterMap (slipOne ds)
theorem slipOne_put {p e : Nat} {t : Str} (h : PutAt ds p e t) : slipOne ds p = some (slipAt ds p e t) := by
  unfold slipOne
  unfold PutAt at h
  rw [h]
theorem slipOne_some {p : Nat} {x : Slip} (h : slipOne ds p = some x) : ∃ e t, PutAt ds p e t ∧ x = slipAt ds p e t := by
  unfold slipOne at h
  split at h
  · rename_i e t hq
    exact ⟨e, t, hq, (Option.some.inj h).symm⟩
  · cases h
theorem mem_slipsOf {ps : List Nat} {x : Slip} : x ∈ slipsOf ds ps ↔ ∃ p e t, p ∈ ps ∧ PutAt ds p e t ∧ x = slipAt ds p e t := by
  unfold slipsOf
  rw [List.mem_filterMap]
  constructor
  · rintro ⟨p, hp, h⟩
    obtain ⟨e, t, h1, h2⟩ := slipOne_some h
    exact ⟨p, e, t, hp, h1, h2⟩
  · rintro ⟨p, e, t, hp, hq, rfl⟩
    exact ⟨p, hp, slipOne_put hq⟩
theorem slipsOf_nodup : ∀ {ps : List Nat}, ps.Nodup → (slipsOf ds ps).Nodup
  | [], _ => List.nodup_nil
  | p :: ps, h => by
    obtain ⟨n1, n2⟩ := List.nodup_cons.mp h
    have ih := slipsOf_nodup n2
    unfold slipsOf
    rw [List.filterMap_cons]
    cases hq : slipOne ds p with
    | none => exact ih
    | some x =>
      refine List.nodup_cons.mpr ⟨fun hx => ?_, ih⟩
      obtain ⟨e', t, hp, h0⟩ := slipOne_some hq
      obtain ⟨q, e2, u, hq, h2, h3⟩ := mem_slipsOf.mp hx
      obtain ⟨rfl, _⟩ := slip_inj hp h2 (h0.symm.trans h3)
      exact n1 hq
theorem slipsOf_inj {ps : List Nat} {x y : Slip} (hx : x ∈ slipsOf ds ps) (hy : y ∈ slipsOf ds ps) (h1 : x.1 = y.1) (h2 : x.2.1 = y.2.1) : x = y := by
  obtain ⟨p, e, t, _, hp, rfl⟩ := mem_slipsOf.mp hx
  obtain ⟨q, e', u, _, hq, rfl⟩ := mem_slipsOf.mp hy
  have he : e = e' := by
    have h1 : (e : Int) = (e' : Int) := h1
    omega
  subst he
  have hn : putsOn ds (p + 1) e = putsOn ds (q + 1) e := by
    have h2 : ((putsOn ds (p + 1) e : Nat) : Int) = ((putsOn ds (q + 1) e : Nat) : Int) := h2
    omega
  have := put_inj hp hq hn
  subst this
  unfold PutAt at hp hq
  rw [hp] at hq
  cases hq
  rfl
/-- the slips of a desk's book, from the puts heard of that stand -/
theorem DayInv.slips {d : Nat} {b : Bk} {ps : List Nat} {l : List Slip} (I : DayInv ds count k bks) (hb : bks[d]? = some b) (hn : ps.Nodup)
    (hps : ∀ p, (∃ e t, p ∈ ps ∧ PutAt ds p e t) ↔ ∃ e t, p ∈ knownL ds k d ∧ PutAt ds p e t ∧ Stand ds (knownL ds k d) p t)
    (hp : l.Perm (slipsOf ds ps)) (hl : l.Pairwise fun a b => ¬ LtS b a) : l = b.2 := by
  refine sorted_unique (sorted_of (hp.nodup_iff.mpr (slipsOf_nodup hn)) (fun x hx y hy => slipsOf_inj (hp.mem_iff.mp hx) (hp.mem_iff.mp hy)) hl) (I.wf d b hb).lt fun x => ?_
  rw [hp.mem_iff, mem_slipsOf, I.mem d b hb]
  constructor
  · rintro ⟨p, e, t, h1, h2, h3⟩
    obtain ⟨e', t', g1, g2, g3⟩ := (hps p).mp ⟨e, t, h1, h2⟩
    have h2' := h2
    unfold PutAt at h2' g2
    rw [h2'] at g2
    cases g2
    exact ⟨p, e, t, g1, h2, h3, g3⟩
  · rintro ⟨p, e, t, h1, h2, h3, h4⟩
    obtain ⟨e', t', g1, g2⟩ := (hps p).mpr ⟨e, t, h1, h2, h4⟩
    exact ⟨p, e, t, g1, h2, h3⟩

/-! ### all have heard of all -/
def Deed.plain : Deed → Bool
  | .hear _ _ => false
  | _ => true
theorem known_own {j : Nat} {x : Deed} (h : ds[j]? = some x) (hp : x.plain = true) : j ∈ knownL ds (j + 1) x.desk := by
  unfold knownL
  rw [h]
  cases x with
  | put d t => show j ∈ (if d = d then _ else _); rw [if_pos rfl]; exact List.mem_append_right _ (List.mem_singleton.mpr rfl)
  | take d t => show j ∈ (if d = d then _ else _); rw [if_pos rfl]; exact List.mem_append_right _ (List.mem_singleton.mpr rfl)
  | hear d o => cases hp
theorem known_all {n : Nat} (D : DesksOk ds count) (hn : ∀ j x, ds[j]? = some x → x.plain = true → j < n) (hc : ∀ d o, d < count → o < count → d ≠ o → ∃ i, n ≤ i ∧ i < k ∧ ds[i]? = some (.hear d o))
    {d j : Nat} {x : Deed} (hd : d < count) (hj : ds[j]? = some x) (hp : x.plain = true) (hk : n ≤ k) : j ∈ knownL ds k d := by
  have h1 := known_own hj hp
  have hjn := hn j x hj hp
  by_cases q : d = x.desk
  · rw [q]
    exact known_mono (by omega) h1
  · obtain ⟨i, i1, i2, i3⟩ := hc d x.desk hd (D j x hj).1 q
    have h2 : j ∈ knownL ds i x.desk := known_mono (by omega) h1
    refine known_mono (k := i + 1) (by omega) ?_
    unfold knownL
    rw [i3]
    show j ∈ (if d = d then _ else _)
    rw [if_pos rfl]
    exact (mem_joinK _ _ _).mpr (.inr h2)
theorem DayInv.all_heard {d e : Nat} {b : Bk} (I : DayInv ds count k bks) (hb : bks[d]? = some b) (ha : ∀ j t, PutAt ds j e t → j ∈ knownL ds k d) : b.1.getD e 0 = ((putsOn ds k e : Nat) : Int) := by
  have le := I.le d b hb e
  by_cases c : putsOn ds k e = 0
  · omega
  · obtain ⟨p, t, p1, p2, p3⟩ := put_nth (ds := ds) (e := e) (k := k) (n := putsOn ds k e) (by omega) (Nat.le_refl _)
    have := (I.hrd d b hb p e t p1 p2).mp (ha p t p2)
    omega
end
end Sd

set_option Elab.async false
set_option linter.all false
set_option maxRecDepth 100000
set_option maxHeartbeats 4000000
set_option autoImplicit false
/-! the mathematics of a day: takes and puts by their places; all alike -/
namespace Sd
open PySem
def takeT (ds : List Deed) (k : Nat) : Str := match ds[k]? with
  | some (.take _ u) => u
  | _ => Str.empty
def standB (ds : List Deed) (ks : List Nat) (p : Nat) (t : Str) : Bool := ks.all fun k => !(decide (takeT ds k = t) && decide (p ∈ aheadL ds k))
theorem standB_iff {ds : List Deed} {ks : List Nat} {p : Nat} {t : Str} (h : ∀ k ∈ ks, ∃ e u, TakeAt ds k e u) : standB ds ks p t = true ↔ Stand ds ks p t := by
  unfold standB Stand
  rw [List.all_eq_true]
  constructor
  · intro a j hj e hT hin
    have z := a j hj
    have et : takeT ds j = t := by
      unfold takeT
      unfold TakeAt at hT
      rw [hT]
    rw [decide_eq_true et, decide_eq_true hin] at z
    cases z
  · intro a j hj
    obtain ⟨e, u, hT⟩ := h j hj
    have et : takeT ds j = u := by
      unfold takeT
      unfold TakeAt at hT
      rw [hT]
    rw [et]
    by_cases q : u = t
    · subst q
      rw [decide_eq_false (a j hj e hT), Bool.and_false]
      rfl
    · rw [decide_eq_false q, Bool.false_and]
      rfl

def isTakeB (ds : List Deed) (k : Nat) : Bool := match ds[k]? with
  | some (.take _ _) => true
  | _ => false
def isPutB (ds : List Deed) (d k : Nat) : Bool := match ds[k]? with
  | some (.put e _) => decide (e = d)
  | _ => false
def putT (ds : List Deed) (k : Nat) : Str := match ds[k]? with
  | some (.put _ u) => u
  | _ => Str.empty
theorem isTakeB_iff {ds : List Deed} {k : Nat} : isTakeB ds k = true ↔ ∃ e t, TakeAt ds k e t := by
  unfold isTakeB TakeAt
  constructor
  · intro h
    split at h
    · rename_i e t q; exact ⟨e, t, q⟩
    · cases h
  · rintro ⟨e, t, q⟩
    rw [q]
theorem isPutB_iff {ds : List Deed} {d k : Nat} : isPutB ds d k = true ↔ ∃ t, PutAt ds k d t := by
  unfold isPutB PutAt
  constructor
  · intro h
    split at h
    · rename_i e t q
      have z := of_decide_eq_true h
      subst z
      exact ⟨t, q⟩
    · cases h
  · rintro ⟨t, q⟩
    rw [q]
    exact decide_eq_true rfl
theorem putT_at {ds : List Deed} {d k : Nat} {t : Str} (h : PutAt ds k d t) : putT ds k = t := by
  unfold putT
  unfold PutAt at h
  rw [h]
def takesL (ds : List Deed) (n : Nat) : List Nat := (List.range n).filter (isTakeB ds)
def putsL (ds : List Deed) (n d : Nat) : List Nat := (List.range n).filter (isPutB ds d)
theorem putsOn_len (ds : List Deed) (d : Nat) : ∀ m : Nat, putsOn ds m d = (putsL ds m d).length
  | 0 => rfl
  | m + 1 => by
    rw [putsOn_succ, putsOn_len ds d m]
    unfold putsL
    rw [List.range_succ, List.filter_append, List.length_append]
    congr 1
    have e : isPutB ds d m = match ds[m]? with | some (.put e _) => decide (e = d) | _ => false := rfl
    cases h : ds[m]? with
    | none =>
      rw [h] at e
      rw [List.filter_cons_of_neg (by rw [e]; exact Bool.false_ne_true)]
      rfl
    | some x =>
      rw [h] at e
      cases x with
      | put f t =>
        show (if f = d then 1 else 0) = _
        by_cases q : f = d
        · rw [if_pos q, List.filter_cons_of_pos (by rw [e]; exact decide_eq_true q)]; rfl
        · rw [if_neg q, List.filter_cons_of_neg (by rw [e]; simp [q])]; rfl
      | take f t => rw [List.filter_cons_of_neg (by rw [e]; exact Bool.false_ne_true)]; rfl
      | hear f o => rw [List.filter_cons_of_neg (by rw [e]; exact Bool.false_ne_true)]; rfl
/-- the place of a number within the chosen ones -/
theorem pick_at (q : Nat → Bool) : ∀ {n k p : Nat}, ((List.range n).filter q)[k]? = some p → ((List.range p).filter q).length = k ∧ p < n ∧ q p = true
  | 0, k, p, h => by simp at h
  | n + 1, k, p, h => by
    rw [List.range_succ, List.filter_append] at h
    by_cases l : k < ((List.range n).filter q).length
    · rw [List.getElem?_append_left l] at h
      obtain ⟨a, b, c⟩ := pick_at q h
      exact ⟨a, by omega, c⟩
    · rw [List.getElem?_append_right (by omega)] at h
      cases hq : q n with
      | false =>
        rw [List.filter_cons_of_neg (by rw [hq]; decide)] at h
        simp at h
      | true =>
        rw [List.filter_cons_of_pos hq] at h
        have l1 := (List.getElem?_eq_some_iff.mp h).1
        have l2 : k - ((List.range n).filter q).length = 0 := by
          simp at l1
          omega
        rw [l2] at h
        have e : n = p := Option.some.inj h
        subst e
        exact ⟨by omega, by omega, hq⟩
theorem puts_num {ds : List Deed} {n d k p : Nat} (h : (putsL ds n d)[k]? = some p) : p < n ∧ ∃ t, PutAt ds p d t ∧ putsOn ds (p + 1) d = k + 1 := by
  obtain ⟨a, b, c⟩ := pick_at (isPutB ds d) h
  obtain ⟨t, ht⟩ := isPutB_iff.mp c
  refine ⟨b, t, ht, ?_⟩
  rw [putsOn_at ht, putsOn_len]
  unfold putsL
  omega
/-- the slips of a desk that stand -/
def deskSlips (ds : List Deed) (n d m : Nat) : List Slip := ((List.range m).filter fun k => standB ds (takesL ds n) ((putsL ds n d).getD k 0) (putT ds ((putsL ds n d).getD k 0))).map fun (k : Nat) => ((d : Int), (k : Int) + 1, putT ds ((putsL ds n d).getD k 0))
def allSlips (ds : List Deed) (n c : Nat) : List Slip := (List.range c).flatMap fun d => deskSlips ds n d (putsL ds n d).length
def allHeard (ds : List Deed) (n c : Nat) : List Int := (List.range c).map fun d => ((putsL ds n d).length : Int)
theorem deskSlips_succ (ds : List Deed) (n d m : Nat) : deskSlips ds n d (m + 1) = deskSlips ds n d m ++ (if standB ds (takesL ds n) ((putsL ds n d).getD m 0) (putT ds ((putsL ds n d).getD m 0)) = true then [((d : Int), (m : Int) + 1, putT ds ((putsL ds n d).getD m 0))] else []) := by
  unfold deskSlips
  rw [List.range_succ, List.filter_append, List.map_append]
  congr 1
  by_cases h : standB ds (takesL ds n) ((putsL ds n d).getD m 0) (putT ds ((putsL ds n d).getD m 0)) = true
  · rw [if_pos h, List.filter_cons, if_pos h]; rfl
  · rw [if_neg h, List.filter_cons, if_neg h]; rfl
theorem allSlips_succ (ds : List Deed) (n c : Nat) : allSlips ds n (c + 1) = allSlips ds n c ++ deskSlips ds n c (putsL ds n c).length := by
  unfold allSlips
  rw [List.range_succ, List.flatMap_append]
  simp only [List.flatMap_cons, List.flatMap_nil, List.append_nil]
theorem allHeard_succ (ds : List Deed) (n c : Nat) : allHeard ds n (c + 1) = allHeard ds n c ++ [((putsL ds n c).length : Int)] := by
  unfold allHeard
  rw [List.range_succ, List.map_append]
  rfl
theorem allSlips_lt (ds : List Deed) (n c : Nat) : (allSlips ds n c).Pairwise LtS := by
  refine sorted_flat (fun d => ?_) (fun d x hx => ?_) _
  · unfold deskSlips
    rw [List.pairwise_map]
    refine List.Pairwise.imp (fun {a b} (h : a < b) => ?_) (List.Pairwise.filter _ List.pairwise_lt_range)
    exact .inr ⟨rfl, by show (a : Int) + 1 < (b : Int) + 1; omega⟩
  · obtain ⟨k, _, rfl⟩ := List.mem_map.mp hx
    rfl
theorem mem_takesL {ds : List Deed} {n j : Nat} : j ∈ takesL ds n ↔ j < n ∧ ∃ e t, TakeAt ds j e t := by
  unfold takesL
  rw [List.mem_filter, List.mem_range, isTakeB_iff]
theorem mem_putsL {ds : List Deed} {n d p : Nat} : p ∈ putsL ds n d ↔ p < n ∧ ∃ t, PutAt ds p d t := by
  unfold putsL
  rw [List.mem_filter, List.mem_range, isPutB_iff]
theorem at_lt {ds : List Deed} {j : Nat} {x : Deed} (h : ds[j]? = some x) : j < ds.length := (List.getElem?_eq_some_iff.mp h).1
theorem mem_allSlips {ds : List Deed} {c : Nat} {x : Slip} : x ∈ allSlips ds ds.length c ↔ ∃ (p e : Nat) (t : Str), e < c ∧ PutAt ds p e t ∧ x = slipAt ds p e t ∧ Stand ds (takesL ds ds.length) p t := by
  have htk : ∀ k ∈ takesL ds ds.length, ∃ e u, TakeAt ds k e u := fun k hk => (mem_takesL.mp hk).2
  unfold allSlips
  rw [List.mem_flatMap]
  constructor
  · rintro ⟨d, hd, hx⟩
    obtain ⟨k, hk, rfl⟩ := List.mem_map.mp hx
    obtain ⟨h1, h2⟩ := List.mem_filter.mp hk
    have h1 := List.mem_range.mp h1
    have hp : (putsL ds ds.length d)[k]? = some ((putsL ds ds.length d).getD k 0) := by rw [List.getD_eq_getElem?_getD, List.getElem?_eq_getElem h1]; rfl
    obtain ⟨_, t, ht, hn⟩ := puts_num hp
    rw [putT_at ht] at h2 ⊢
    refine ⟨_, d, t, List.mem_range.mp hd, ht, ?_, (standB_iff htk).mp h2⟩
    unfold slipAt
    rw [hn]
    push_cast
    rfl
  · rintro ⟨p, e, t, he, ht, rfl, hs⟩
    have hm : p ∈ putsL ds ds.length e := mem_putsL.mpr ⟨at_lt ht, t, ht⟩
    obtain ⟨k, hk⟩ := List.mem_iff_getElem?.mp hm
    have hkl := (List.getElem?_eq_some_iff.mp hk).1
    have hg : (putsL ds ds.length e).getD k 0 = p := by rw [List.getD_eq_getElem?_getD, hk]; rfl
    obtain ⟨_, t', ht', hn⟩ := puts_num hk
    refine ⟨e, List.mem_range.mpr he, List.mem_map.mpr ⟨k, List.mem_filter.mpr ⟨List.mem_range.mpr hkl, ?_⟩, ?_⟩⟩
    · rw [hg, putT_at ht]
      exact (standB_iff htk).mpr hs
    · rw [hg, putT_at ht]
      unfold slipAt
      rw [hn]
      push_cast
      rfl
/-- who has heard of all has this book -/
theorem DayInv.alike {ds : List Deed} {count : Nat} {bks : List Bk} {d : Nat} {b : Bk} (D : DesksOk ds count) (I : DayInv ds count ds.length bks) (hb : bks[d]? = some b) (hall : ∀ (j : Nat) (x : Deed), ds[j]? = some x → x.plain = true → j ∈ knownL ds ds.length d) :
    b = (allHeard ds ds.length count, allSlips ds ds.length count) := by
  have W := I.wf d b hb
  have e1 : b.1 = allHeard ds ds.length count := by
    refine ext_getD (by rw [W.len]; unfold allHeard; rw [List.length_map, List.length_range]) fun e he => ?_
    rw [W.len] at he
    rw [I.all_heard hb fun j t h => hall j _ h rfl, putsOn_len]
    unfold allHeard
    rw [List.getD_eq_getElem?_getD, List.getElem?_map, List.getElem?_range he]
    rfl
  have e2 : b.2 = allSlips ds ds.length count := by
    refine sorted_unique W.lt (allSlips_lt ds _ _) fun x => ?_
    rw [I.mem d b hb x, mem_allSlips]
    have st : ∀ (p : Nat) (t : Str), Stand ds (knownL ds ds.length d) p t ↔ Stand ds (takesL ds ds.length) p t := fun p t => by
      constructor
      · intro h j hj e hT
        exact h j (hall j _ hT rfl) e hT
      · intro h j hj e hT
        exact h j (mem_takesL.mpr ⟨at_lt hT, e, t, hT⟩) e hT
    constructor
    · rintro ⟨p, e, t, h1, h2, h3, h4⟩
      exact ⟨p, e, t, (D p _ h2).1, h2, h3, (st p t).mp h4⟩
    · rintro ⟨p, e, t, h0, h2, h3, h4⟩
      exact ⟨p, e, t, hall p _ h2 rfl, h2, h3, (st p t).mpr h4⟩
  obtain ⟨b1, b2⟩ := b
  simp only at e1 e2
  rw [e1, e2]
/-- slips only from the first ones -/
theorem slips_few {ds : List Deed} {a : Nat} (h : ∀ p, a ≤ p → slipOne ds p = none) : ∀ n : Nat, (slipsOf ds (List.range n)).length ≤ min a n
  | 0 => by simp [slipsOf]
  | n + 1 => by
    have ih := slips_few h n
    unfold slipsOf at ih ⊢
    rw [List.range_succ, List.filterMap_append, List.length_append]
    by_cases q : a ≤ n
    · rw [List.filterMap_cons_none (h n q)]
      simp only [List.filterMap_nil, List.length_nil]
      omega
    · have : (List.filterMap (slipOne ds) [n]).length ≤ 1 := by
        have := List.length_filterMap_le (slipOne ds) [n]
        simpa using this
      omega
end Sd

set_option Elab.async false
set_option linter.all false
set_option maxRecDepth 100000
set_option maxHeartbeats 4000000
set_option autoImplicit false
/-! the mathematics of a day: what one desk has heard of -/
namespace Sd
open PySem
def deskAt (ds : List Deed) (k : Nat) : Nat := match ds[k]? with
  | some x => x.desk
  | none => 0
def numN (ds : List Deed) (k : Nat) : Nat := putsOn ds (k + 1) (deskAt ds k)
theorem deskAt_at {ds : List Deed} {k : Nat} {x : Deed} (h : ds[k]? = some x) : deskAt ds k = x.desk := by
  unfold deskAt
  rw [h]
def isPutAny (ds : List Deed) (k : Nat) : Bool := match ds[k]? with
  | some (.put _ _) => true
  | _ => false
theorem isPutAny_iff {ds : List Deed} {k : Nat} : isPutAny ds k = true ↔ ∃ e t, PutAt ds k e t := by
  unfold isPutAny PutAt
  constructor
  · intro h
    split at h
    · rename_i e t q; exact ⟨e, t, q⟩
    · cases h
  · rintro ⟨e, t, q⟩
    rw [q]
def putsK (ds : List Deed) (n d : Nat) : List Nat := (knownL ds n d).filter (isPutAny ds)
def takesK (ds : List Deed) (n d : Nat) : List Nat := (knownL ds n d).filter (isTakeB ds)
def stB (ds : List Deed) (n d p : Nat) : Bool := standB ds (takesK ds n d) p (putT ds p)
theorem takesK_ok {ds : List Deed} {n d : Nat} : ∀ k ∈ takesK ds n d, ∃ e u, TakeAt ds k e u := fun k hk => isTakeB_iff.mp (List.mem_filter.mp hk).2
theorem stB_iff {ds : List Deed} {n d p e : Nat} {t : Str} (h : PutAt ds p e t) : stB ds n d p = true ↔ Stand ds (knownL ds n d) p t := by
  unfold stB
  rw [putT_at h, standB_iff takesK_ok]
  constructor
  · intro a j hj e' hT
    exact a j (List.mem_filter.mpr ⟨hj, isTakeB_iff.mpr ⟨e', t, hT⟩⟩) e' hT
  · intro a j hj e' hT
    exact a j (List.mem_filter.mp hj).1 e' hT
theorem mem_putsK {ds : List Deed} {n d p : Nat} : p ∈ putsK ds n d ↔ p ∈ knownL ds n d ∧ ∃ e t, PutAt ds p e t := by
  unfold putsK
  rw [List.mem_filter, isPutAny_iff]
theorem putsK_nodup (ds : List Deed) (n d : Nat) : (putsK ds n d).Nodup := (known_nodup n d).filter _
def standK (ds : List Deed) (n d : Nat) : List Nat := (putsK ds n d).filter (stB ds n d)
theorem DayInv.heardK {ds : List Deed} {count k d : Nat} {bks : List Bk} {b : Bk} (I : DayInv ds count k bks) (hb : bks[d]? = some b) : (putsK ds k d).foldl (heardStep ds) (List.replicate count 0) = b.1 :=
  I.heard hb fun p => mem_putsK
theorem mem_standK {ds : List Deed} {n d p : Nat} : p ∈ standK ds n d ↔ ∃ e t, p ∈ knownL ds n d ∧ PutAt ds p e t ∧ Stand ds (knownL ds n d) p t := by
  unfold standK
  rw [List.mem_filter, mem_putsK]
  constructor
  · rintro ⟨⟨h1, e, t, h2⟩, h3⟩
    exact ⟨e, t, h1, h2, (stB_iff h2).mp h3⟩
  · rintro ⟨e, t, h1, h2, h3⟩
    exact ⟨⟨h1, e, t, h2⟩, (stB_iff h2).mpr h3⟩
theorem DayInv.slipsK {ds : List Deed} {count k d : Nat} {bks : List Bk} {b : Bk} {l : List Slip} (I : DayInv ds count k bks) (hb : bks[d]? = some b) (hp : l.Perm (slipsOf ds (standK ds k d))) (hl : l.Pairwise LtS) : l = b.2 := by
  refine I.slips hb ((putsK_nodup ds k d).filter _) (fun p => ?_) hp (hl.imp fun {a b} h g => LtS.asymm h g)
  constructor
  · rintro ⟨e, t, h1, h2⟩
    obtain ⟨e', t', g1, g2, g3⟩ := mem_standK.mp h1
    exact ⟨e', t', g1, g2, g3⟩
  · rintro ⟨e, t, h1, h2, h3⟩
    exact ⟨e, t, mem_standK.mpr ⟨e, t, h1, h2, h3⟩, h2⟩
theorem DayInv.thingsK {ds : List Deed} {count k d : Nat} {bks : List Bk} {b : Bk} (I : DayInv ds count k bks) (hb : bks[d]? = some b) (x : Str) : x ∈ (standK ds k d).map (putT ds) ↔ x ∈ b.2.map fun s => s.2.2 := by
  rw [List.mem_map, List.mem_map]
  constructor
  · rintro ⟨p, hp, rfl⟩
    obtain ⟨e, t, h1, h2, h3⟩ := mem_standK.mp hp
    rw [putT_at h2]
    exact ⟨slipAt ds p e t, (I.mem d b hb _).mpr ⟨p, e, t, h1, h2, rfl, h3⟩, rfl⟩
  · rintro ⟨s, hs, rfl⟩
    obtain ⟨p, e, t, h1, h2, rfl, h3⟩ := (I.mem d b hb s).mp hs
    exact ⟨p, mem_standK.mpr ⟨e, t, h1, h2, h3⟩, putT_at h2⟩
/-- one more put -/
theorem slipsOf_snoc {ds : List Deed} {l : List Nat} {p e : Nat} {t : Str} (h : PutAt ds p e t) : slipsOf ds (l ++ [p]) = slipsOf ds l ++ [slipAt ds p e t] := by
  unfold slipsOf
  rw [List.filterMap_append, List.filterMap_cons_some (slipOne_put h)]
  rfl
theorem heardStep_at {ds : List Deed} {h : List Int} {p e : Nat} {t : Str} (hp : PutAt ds p e t) : heardStep ds h p = h.set e (max (h.getD e 0) ((numN ds p : Nat) : Int)) := by
  unfold heardStep numN
  have z := hp
  unfold PutAt at z
  rw [deskAt_at z, z]
  rfl
theorem slipsOf_ne {ds : List Deed} {ps : List Nat} (h : ps.Nodup) : (slipsOf ds ps).Pairwise fun a b => a.1 ≠ b.1 ∨ a.2.1 ≠ b.2.1 := by
  refine List.Pairwise.imp_of_mem (fun {a b} ha hb n => ?_) (slipsOf_nodup (ds := ds) h)
  apply Classical.byContradiction
  intro z
  have e1 : a.1 = b.1 := Classical.byContradiction fun q => z (.inl q)
  have e2 : a.2.1 = b.2.1 := Classical.byContradiction fun q => z (.inr q)
  exact n (slipsOf_inj ha hb e1 e2)
theorem puts_step {ds : List Deed} {i : Nat} {x : Deed} {c : Nat} (hx : ds[i]? = some x) :
    (List.range c).map (fun e => ((putsOn ds (i + 1) e : Nat) : Int)) = match x with
      | .put d _ => ((List.range c).map fun e => ((putsOn ds i e : Nat) : Int)).set d (((putsOn ds i d : Nat) : Int) + 1)
      | _ => (List.range c).map fun e => ((putsOn ds i e : Nat) : Int) := by
  cases x with
  | put d t =>
    apply List.ext_getElem?
    intro j
    rw [List.getElem?_set]
    by_cases q : d = j
    · subst q
      rw [if_pos rfl, List.length_map, List.length_range]
      by_cases l : d < c
      · rw [if_pos l, List.getElem?_map, List.getElem?_range l, Option.map_some, putsOn_at hx]
        push_cast
        rfl
      · rw [if_neg l, List.getElem?_eq_none (by simpa using l)]
    · rw [if_neg q, List.getElem?_map, List.getElem?_map]
      by_cases l : j < c
      · rw [List.getElem?_range l, Option.map_some, Option.map_some, putsOn_succ, hx]
        show some (((putsOn ds i j + if d = j then 1 else 0 : Nat) : Nat) : Int) = _
        rw [if_neg q]
        rfl
      · rw [List.getElem?_eq_none (by simpa using l)]
        rfl
  | take d t =>
    apply List.map_congr_left
    intro e _
    rw [putsOn_succ, hx]
    rfl
  | hear d o =>
    apply List.map_congr_left
    intro e _
    rw [putsOn_succ, hx]
    rfl
end Sd

namespace Sd
open PySem L2
/-! ### 1. the text by places -/
def top (i : Nat) : Stmt := PySem.Challenge.pw_slipdesk_k07_whole_things_there.main.body.getD i (.Pass ⟨0, 0, 0, 0⟩)
abbrev sEmpty : Stmt := top 4
abbrev sThings : Stmt := top 5
abbrev sPut : Stmt := top 6
abbrev sTaken : Stmt := top 7
abbrev sUnheard : Stmt := top 9
abbrev sMerged : Stmt := top 10
abbrev sBooks : Stmt := top 12
abbrev sBehind : Stmt := top 13
abbrev sBook1 : Stmt := top 14
abbrev sWithout : Stmt := top 15
abbrev sWide : Stmt := top 17
abbrev sUnturned : Stmt := top 18
abbrev sWhole : Stmt := top 19
abbrev sAt : Stmt := top 20
abbrev sTexts : Stmt := top 21
abbrev sWares : Stmt := top 22
abbrev sDeeds : Stmt := top 23
abbrev sPast : Stmt := top 24
abbrev sStands : Stmt := top 25
abbrev sSame : Stmt := top 26
abbrev sAlike : Stmt := top 27
abbrev sNumbered : Stmt := top 28
abbrev sLaw : Stmt := top 29
/-! ### 2. calls of the text's own defs, the built-in names -/
structure Fk (P : Program) (w : World) (K : PySem.W.Frag) (mg : Str → Option Value) (base : Heap) (x : Str) (k : Nat) (ps : List Str) (sp : Sp) : Prop where
  ex : ∃ (f : Addr) (fd : FuncData), FnOk P w K mg base CX0 k f fd ps sp ∧ Binds K fd ps [] ∧ PySem.W.keepIn K (.ref f) = true ∧ mg x = some (.ref f)
theorem pe_fk {X : Cx} {x : Str} {k : Nat} {ps : List Str} {sp : Sp} {e : Expr} {es : List Expr} {t : TA} {p pos : Pos} (F : Fk X.prog X.w X.K X.mg X.base x k ps sp) (hr : Room k X.A) (hg : Gl X x) (ha : PA X (e :: es) t)
    (hdb : (x == ("__debug__" : Str)) = false := by decide) (he : starEach (e :: es) X.env = (false, eval e X.env) :: starEach es X.env := by rfl) (hpl : (backTo pos (starEach es X.env)).any (·.1) = false := by rfl) :
    PE X (.Call (.Name x p) (e :: es) [] pos) (tCall sp [] E0 t) := by
  obtain ⟨f, fd, G, b, kp, mg⟩ := F.ex
  exact pe_call G hr hg mg kp b .nil pass0 ha hdb he hpl
structure Bt (mg : Str → Option Value) : Prop where
  len : mg "len" = none
  sum : mg "sum" = none
  min : mg "min" = none
  int : mg "int" = none
  bool : mg "bool" = none
  str : mg "str" = none
  list : mg "list" = none
  tuple : mg "tuple" = none
  isi : mg "isinstance" = none
  rng : mg "range" = none
theorem small {n : Nat} (h : n ≤ 1000000) : n < sizeLine := Nat.lt_of_le_of_lt h (by decide)
theorem same_new {H : Hp} {p : Addr} (h : H p = none) (o : HO) : Same H (upd H p o) := (Same.refl H).put h
theorem at_int {ns : List Int} {k : Int} (h0 : 0 ≤ k) (h : k < (ns.length : Int)) : atI (ns.map V.int) k = some (.int (ns.getD k.toNat 0)) := by
  have hk : k.toNat < ns.length := by omega
  have ek : k = ((k.toNat : Nat) : Int) := by omega
  have q : atI (ns.map V.int) ((k.toNat : Nat) : Int) = some (.int (ns.getD k.toNat 0)) := atI_nat (by
    rw [List.getElem?_map, List.getElem?_eq_getElem hk, List.getD_eq_getElem?_getD, List.getElem?_eq_getElem hk]
    rfl)
  rw [← ek] at q
  exact q
theorem at_any {α : Type} {xs : List α} {k : Nat} {v : α} (h : xs[k]? = some v) : atI xs (0 + (k : Int)) = some v := by
  rw [Int.zero_add]; exact atI_nat h
/-! ### 3. books in the heap -/
def tupOf (s : Slip) : List V := [.int s.1, .int s.2.1, .str s.2.2]
theorem tupOf_pln (s : Slip) : (tupOf s).all plnV = true := rfl
abbrev refs (as : List (Addr × Slip)) : List V := as.map fun p => V.ref p.1
structure RowsAt (H : Hp) (l : Addr) (as : List (Addr × Slip)) : Prop where
  at_ : H l = some (.lst (refs as))
  tup : ∀ p ∈ as, H p.1 = some (.tup (tupOf p.2))
theorem RowsAt.mono {H H' : Hp} {l : Addr} {as : List (Addr × Slip)} (h : RowsAt H l as) (e : Same H H') : RowsAt H' l as := ⟨e _ _ h.at_, fun p hp => e _ _ (h.tup p hp)⟩
structure BookAt (H : Hp) (b : Addr) (hd : List Int) (sl : List Slip) : Prop where
  ex : ∃ (l1 l2 : Addr) (as : List (Addr × Slip)), H b = some (.tup [.ref l1, .ref l2]) ∧ H l1 = some (.lst (hd.map V.int)) ∧ RowsAt H l2 as ∧ as.map (·.2) = sl
theorem BookAt.mono {H H' : Hp} {b : Addr} {hd : List Int} {sl : List Slip} (h : BookAt H b hd sl) (e : Same H H') : BookAt H' b hd sl := by
  obtain ⟨l1, l2, as, h1, h2, h3, h4⟩ := h.ex
  exact ⟨l1, l2, as, e _ _ h1, e _ _ h2, h3.mono e, h4⟩
def slipOf (H : Hp) (v : V) : Slip := match v with
  | .ref a => (match H a with
    | some (.tup [.int d, .int n, .str t]) => (d, n, t)
    | _ => (0, 0, Str.empty))
  | _ => (0, 0, Str.empty)
theorem slipOf_at {H : Hp} {a : Addr} {s : Slip} (h : H a = some (.tup (tupOf s))) : slipOf H (.ref a) = s := by
  show (match H a with
    | some (.tup [.int d, .int n, .str t]) => (d, n, t)
    | _ => (0, 0, Str.empty)) = s
  rw [h]
  rfl
theorem refs_filter {H : Hp} {q : Slip → Bool} : ∀ {as : List (Addr × Slip)}, (∀ p ∈ as, H p.1 = some (.tup (tupOf p.2))) → (refs as).filter (fun v => q (slipOf H v)) = refs (as.filter fun p => q p.2)
  | [], _ => rfl
  | p :: r, h => by
    have ih := refs_filter (q := q) (as := r) fun p hp => h p (List.mem_cons_of_mem _ hp)
    show List.filter (fun v => q (slipOf H v)) (V.ref p.1 :: refs r) = refs (List.filter (fun p => q p.2) (p :: r))
    have e := slipOf_at (h p List.mem_cons_self)
    rw [List.filter_cons, List.filter_cons, e, ih]
    cases q p.2 <;> rfl
theorem snd_filter {q : Slip → Bool} (as : List (Addr × Slip)) : (as.filter fun p => q p.2).map (·.2) = (as.map (·.2)).filter q := by
  rw [List.filter_map]
  rfl
theorem mem_refs {as : List (Addr × Slip)} {x : V} (h : x ∈ refs as) : ∃ p ∈ as, x = .ref p.1 := by
  obtain ⟨p, hp, e⟩ := List.mem_map.mp h
  exact ⟨p, hp, e.symm⟩
theorem refs_get {as : List (Addr × Slip)} {i : Nat} {p : Addr × Slip} (h : as[i]? = some p) : (refs as)[i]? = some (.ref p.1) := by
  rw [List.getElem?_map, h]; rfl
theorem len_refs (as : List (Addr × Slip)) : (refs as).length = as.length := List.length_map _

section
variable {P : Program} {w : World} {K : PySem.W.Frag} {mg : Str → Option Value} {base : Heap} {f : Addr} {fd : FuncData}
/-! ### _law_at -/
def spAt (K : PySem.W.Frag) : Sp := fun vs H Q _ => ∃ (a : Addr) (ns : List Int) (k : Int), vs = [.ref a, .int k] ∧ SqL K H a (ns.map V.int) ∧ 0 ≤ k ∧ Q (.int (atZ ns k.toNat)) H
theorem scAt : FnScope ["_law_script", "_law_k"] ["_law_script", "_law_k"] (defScope sAt) := ⟨rfl, rfl, rfl, by decide +kernel, rfl, by decide +kernel, by decide +kernel⟩
theorem ok_at (F : Fun K "_law_at" "_law_at" sAt f fd) (B : Bt mg) : FnOk P w K mg base CX0 1 f fd ["_law_script", "_law_k"] (spAt K) := by
  refine F.ok scAt (fun vs H Q E h => ?_) (fun cdv A outer s H vs Q E hr h => ?_)
  · obtain ⟨a, ns, k, rfl, _⟩ := h
    rfl
  obtain ⟨a, ns, k, rfl, hS, h0, q⟩ := h
  refine ⟨_, pss_cons (ps_if (pt_cmpR op_lt (pv 1) (pe_callB call_len_seq rfl B.len PySem.boot_len (pa_cons (pv 0) pa_nil)) (nomark _)) (pss_one (ps_ret (pe_ix ix_list (pv 0) (pv 1) (fun _ _ => rfl)))) pss_nil) (pss_one (ps_ret pe_int)), ?_⟩
  refine ⟨_, rfl, _, rfl, a, _, rfl, .inl hS, _, _, rfl, rfl, _, rfl, ?_⟩
  have hl : (ns.map V.int).length = ns.length := List.length_map _
  refine ite2 (fun c => ?_) (fun c => ?_)
  · have c' : k < (((ns.map V.int).length : Nat) : Int) := of_decide_eq_true c
    rw [hl] at c'
    exact ⟨_, rfl, _, rfl, a, _, _, _, rfl, rfl, hS, at_int h0 c', q⟩
  · have c' : ¬ k < (((ns.map V.int).length : Nat) : Int) := of_decide_eq_false (Bool.eq_false_iff.mpr c)
    rw [hl] at c'
    have e : atZ ns k.toNat = 0 := by
      unfold atZ
      rw [List.getD_eq_getElem?_getD, List.getElem?_eq_none (by omega)]
      rfl
    rw [e] at q
    exact q
/-! ### _law_wide -/
def spWide (K : PySem.W.Frag) : Sp := fun vs H Q _ => ∃ (a : Addr) (ns : List Int) (few bound : Int), vs = [.ref a, .int few, .int bound] ∧ SqL K H a (ns.map V.int) ∧ ns.length ≤ 63 ∧ ∀ H', Same H H' → Q (.int (wideZ ns few bound)) H'
theorem cut_take (ns : List Int) (k : Nat) : cutV (ns.map V.int) none (some (k : Int)) = (ns.take k).map V.int := by
  unfold cutV
  rw [HT.sIx_none, HT.sIx_nat, List.drop_zero, List.length_map, Nat.sub_zero, List.map_take]
  by_cases h : k ≤ ns.length
  · rw [show min k ns.length = k by omega]
  · rw [show min k ns.length = ns.length by omega, List.take_of_length_le (by rw [List.length_map]; omega), List.take_of_length_le (by rw [List.length_map]; omega)]
theorem cut_from (ns : List Int) (k : Nat) (hl : ns.length ≤ 63) : cutV (ns.map V.int) (some (k : Int)) (some ((k + 200 : Nat) : Int)) = (ns.drop k).map V.int := by
  unfold cutV
  rw [HT.sIx_nat, HT.sIx_nat, List.length_map]
  have e1 : min (k + 200) ns.length = ns.length := by omega
  rw [e1]
  by_cases h : k ≤ ns.length
  · rw [show min k ns.length = k by omega, List.map_drop, List.take_of_length_le (by rw [List.length_drop, List.length_map]; omega)]
  · rw [show min k ns.length = ns.length by omega, List.drop_eq_nil_of_le (by rw [List.length_map]; omega), List.drop_eq_nil_of_le (by omega)]
    simp
theorem scWide : FnScope ["_law_script", "_law_few", "_law_bound"] ["_law_script", "_law_few", "_law_bound"] (defScope sWide) := ⟨rfl, rfl, rfl, by decide +kernel, rfl, by decide +kernel, by decide +kernel⟩
theorem ok_wide (F : Fun K "_law_wide" "_law_wide" sWide f fd) (B : Bt mg) : FnOk P w K mg base CX0 1 f fd ["_law_script", "_law_few", "_law_bound"] (spWide K) := by
  refine F.ok scWide (fun vs H Q E h => ?_) (fun cdv A outer s H vs Q E hr h => ?_)
  · obtain ⟨a, ns, few, bound, rfl, _⟩ := h
    rfl
  obtain ⟨a, ns, few, bound, rfl, hS, h63, q⟩ := h
  refine ⟨_, pss_cons (ps_if (pt_cmpR op_gt (pe_callB call_len_seq rfl B.len PySem.boot_len (pa_cons (pv 0) pa_nil)) pe_int (nomark _)) (pss_one (ps_ret (pv 2))) pss_nil)
    (pss_one (ps_ret (pe_ix ix_list (pe_lst (pa_cons (pv 1) (pa_cons (pe_callB (call_min2 rfl) rfl B.min PyProof.Rows.boot_min (pa_cons (pe_op op_add (pv 1) pe_int) (pa_cons (pv 2) pa_nil))) pa_nil)))
      (pe_callTy call_int1 rfl B.int PyProof.Rows.boot_int (pa_cons (pe_cmpR op_eq (pe_op op_mod (pe_callB (ck_sum rfl) rfl B.sum PyProof.Rows.boot_sum (pa_cons (pe_slice sl_list (pv 0) po_none (po_some pe_int)) pa_nil)) pe_int) pe_int (nomark _)) pa_nil)) (fun _ _ => rfl)))), ?_⟩
  have hl : (ns.map V.int).length = ns.length := List.length_map _
  refine ⟨_, rfl, a, _, rfl, .inl hS, _, _, rfl, rfl, _, rfl, ?_⟩
  refine ite2 (fun c => ?_) (fun c => ?_)
  · exfalso
    have c' : (63 : Int) < (((ns.map V.int).length : Nat) : Int) := of_decide_eq_true c
    rw [hl] at c'
    omega
  · refine ⟨_, rfl, _, rfl, _, _, rfl, rfl, _, rfl, _, _, rfl, (by show 2 ≤ sizeLine; decide), fun p hp => ?_⟩
    have g1 := same_new hp (.lst [.int few, .int (if bound < few + 40 then bound else few + 40)])
    refine ⟨_, rfl, _, rfl, a, _, rfl, g1.seq hS, fun p2 hp2 => ?_⟩
    have g2 := same_new hp2 (.lst (cutV (ns.map V.int) none (some 3)))
    refine ⟨p2, ns.take 3, rfl, SqL.of (by rw [upd_same]; exact congrArg (fun z => some (HO.lst z)) (cut_take ns 3)), _, _, rfl, rfl, (by show (0 : Int) < 16; decide), rfl, .inr ⟨_, rfl, ?_⟩⟩
    have e1 : (upd (upd H p (.lst [.int few, .int (if bound < few + 40 then bound else few + 40)])) p2 (.lst (cutV (ns.map V.int) none (some 3)))) p = some (.lst [.int few, .int (if bound < few + 40 then bound else few + 40)]) := g2 _ _ upd_same
    have q' := q _ (g1.trans g2)
    unfold wideZ at q'
    by_cases hz : (ns.take 3).sum % 16 = 5
    · rw [if_pos hz] at q'
      have ed : decide (V.int ((ns.take 3).sum % 16) = V.int 5) = true := decide_eq_true (by rw [hz])
      refine ⟨p, _, _, _, rfl, rfl, SqL.of e1, ?_, q'⟩
      rw [ed]
      rfl
    · rw [if_neg hz] at q'
      have ed : decide (V.int ((ns.take 3).sum % 16) = V.int 5) = false := decide_eq_false (by intro z; injection z with z; exact hz z)
      refine ⟨p, _, _, _, rfl, rfl, SqL.of e1, ?_, q'⟩
      rw [ed]
      rfl
/-! ### _law_whole -/
def spWhole : Sp := fun vs H Q _ => ∃ (i : Int), vs = [.int i] ∧ Q (.bl true) H
theorem scWhole : FnScope ["_law_found"] ["_law_found"] (defScope sWhole) := ⟨rfl, rfl, rfl, by decide +kernel, rfl, by decide +kernel, by decide +kernel⟩
theorem kit_ib (K : PySem.W.Frag) : PySem.W.kitOne K (.type "int") (.type "bool") = some false := by rfl
theorem kit_same (K : PySem.W.Frag) (T : String) : PySem.W.kitOne K (.type T) (.type T) = some true := by
  unfold PySem.W.kitOne
  rw [if_pos (by simp)]
theorem ok_whole (F : Fun K "_law_whole" "_law_whole" sWhole f fd) (B : Bt mg) : FnOk P w K mg base CX0 1 f fd ["_law_found"] spWhole := by
  refine F.ok scWhole (fun vs H Q E h => ?_) (fun cdv A outer s H vs Q E hr h => ?_)
  · obtain ⟨i, rfl, _⟩ := h
    rfl
  obtain ⟨i, rfl, q⟩ := h
  refine ⟨_, pss_one (ps_ret (pe_and (pe_callB ck_isinst rfl B.isi PyProof.Rows.boot_isinstance (pa_cons (pv 0) (pa_cons (pe_bltn (v := .ty "int") rfl B.int PyProof.Rows.boot_int rfl) pa_nil)))
    (pe_one (pe_not (pe_callB ck_isinst rfl B.isi PyProof.Rows.boot_isinstance (pa_cons (pv 0) (pa_cons (pe_bltn (v := .ty "bool") rfl B.bool PyProof.Rows.boot_bool rfl) pa_nil))))))), ?_⟩
  exact ⟨_, rfl, _, _, _, _, rfl, TyOf.int i, kit_same K "int", _, rfl, iteT ⟨_, rfl, _, _, _, _, rfl, TyOf.int i, kit_ib K, _, rfl, q⟩⟩
end
end Sd

namespace Sd
open PySem L2
theorem letters : ∀ i : Nat, i < 26 → (("abcdefghijklmnopqrstuvwxyz" : Str).cps.toList)[i]? = some (97 + i) := by decide +kernel
theorem sign_at (cs : List Int) : atI (("abcdefghijklmnopqrstuvwxyz" : Str).cps.toList) ((cs.take 1).sum / 35 % 26) = some (97 + signI cs) := by
  have h1 := Int.emod_nonneg ((cs.take 1).sum / 35) (show (26 : Int) ≠ 0 by decide)
  have h2 : (cs.take 1).sum / 35 % 26 = ((signI cs : Nat) : Int) := by unfold signI; omega
  rw [h2]
  exact atI_nat (letters _ (signI_lt cs))
theorem sign_len (cs : List Int) : (sign cs).length = 1 := rfl
theorem sign_mul (cs : List Int) : MulOk (sign cs) 40 := by
  refine ⟨by decide, fun _ _ => ?_, fun _ _ => ?_⟩
  · rw [sign_len]; decide
  · rw [sign_len]; decide
theorem b_len : (("b" : Str)).length = 1 := by decide +kernel
theorem z_len : (("z" : Str)).length = 1 := by decide +kernel
theorem abc_len : (("abcdefghijklmnopqrstuvwxyz" : Str)).length ≤ sizeLine := by decide +kernel
section
variable {P : Program} {w : World} {K : PySem.W.Frag} {mg : Str → Option Value} {base : Heap} {f : Addr} {fd : FuncData}
/-! ### _law_wares -/
def spWares (K : PySem.W.Frag) : Sp := fun vs H Q _ => ∃ (a : Addr) (cs : List Int), vs = [.ref a] ∧ SqL K H a (cs.map V.int) ∧ ∀ (r : Addr) (H' : Hp), H r = none → Same H H' → H' r = some (.lst ((wares cs).map V.str)) → Q (.ref r) H'
theorem scWares : FnScope ["_law_cells", "_law_sign"] ["_law_cells"] (defScope sWares) := ⟨rfl, rfl, rfl, by decide +kernel, rfl, by decide +kernel, by decide +kernel⟩
theorem ok_wares (F : Fun K "_law_wares" "_law_wares" sWares f fd) (B : Bt mg) : FnOk P w K mg base CX0 1 f fd ["_law_cells"] (spWares K) := by
  refine F.ok scWares (fun vs H Q E h => ?_) (fun cdv A outer s H vs Q E hr h => ?_)
  · obtain ⟨a, cs, rfl, _⟩ := h
    rfl
  obtain ⟨a, cs, rfl, hS, q⟩ := h
  refine ⟨_, pss_cons (ps_set (i := 1) scWares.nd rfl (Or.inl rfl) (pe_ix ix_str pe_str (pe_op op_mod (pe_op op_fdiv (pe_callB (ck_sum rfl) rfl B.sum PyProof.Rows.boot_sum (pa_cons (pe_slice sl_list (pv 0) po_none (po_some pe_int)) pa_nil)) pe_int) pe_int) (fun _ _ => rfl)))
    (pss_one (ps_ret (pe_lst (pa_cons (pv 1) (pa_cons (pe_op op_add_str (pv 1) pe_str) (pa_cons pe_str (pa_cons (pe_op ck_mulS (pv 1) pe_int) (pa_cons (pe_op op_add_str pe_str (pv 1)) pa_nil)))))))), ?_⟩
  refine ⟨_, rfl, _, rfl, a, _, rfl, hS, fun p hp => ?_⟩
  have g1 := same_new hp (.lst (cutV (cs.map V.int) none (some 1)))
  refine ⟨p, cs.take 1, rfl, SqL.of (by rw [upd_same]; exact congrArg (fun z => some (HO.lst z)) (cut_take cs 1)), _, _, rfl, rfl, ⟨by decide, by decide⟩, _, _, rfl, rfl, (by show (0 : Int) < 26; decide), _, _, _, rfl, rfl, abc_len, sign_at cs, ?_⟩
  refine ⟨_, rfl, _, rfl, _, _, rfl, rfl, (by show (1 : Nat) + _ ≤ sizeLine; rw [b_len]; decide), _, rfl, _, _, rfl, rfl, sign_mul cs, _, rfl, _, _, rfl, rfl, (by rw [z_len]; show 1 + 1 ≤ sizeLine; decide), (by show 5 ≤ sizeLine; decide), fun r hr' => ?_⟩
  exact q r _ (g1.free hr') (g1.trans (same_new hr' _)) (by rw [upd_same]; rfl)
end
end Sd

namespace Sd
open PySem L2
theorem ixN_ok {n : Nat} {k : Int} (h0 : 0 ≤ k) (h : k < (n : Int)) : ixN n k = some k.toNat := by
  unfold ixN
  rw [if_pos h0, if_pos h]
theorem rep_zero (n : Nat) : (List.replicate n [V.int 0]).flatten = (List.replicate n (0 : Int)).map V.int := by
  induction n with
  | zero => rfl
  | succ n ih => rw [List.replicate_succ, List.flatten_cons, ih, List.replicate_succ, List.map_cons]; rfl
theorem set_map (xs : List Int) (j : Nat) (v : Int) : (xs.map V.int).set j (.int v) = (xs.set j v).map V.int := by
  rw [List.map_set]
section
variable {P : Program} {w : World} {K : PySem.W.Frag} {mg : Str → Option Value} {base : Heap} {f : Addr} {fd : FuncData}
/-! ### empty_book -/
def spEmpty : Sp := fun vs H Q _ => ∃ (count : Int), vs = [.int count] ∧ 0 ≤ count ∧ count ≤ 60 ∧ ∀ (r : Addr) (H' : Hp), H r = none → Same H H' → BookAt H' r (List.replicate count.toNat 0) [] → Q (.ref r) H'
theorem scEmpty : FnScope ["count"] ["count"] (defScope sEmpty) := ⟨rfl, rfl, rfl, by decide +kernel, rfl, by decide +kernel, by decide +kernel⟩
theorem ok_empty (F : Fun K "empty_book" "empty_book" sEmpty f fd) : FnOk P w K mg base CX0 1 f fd ["count"] spEmpty := by
  refine F.ok scEmpty (fun vs H Q E h => ?_) (fun cdv A outer s H vs Q E hr h => ?_)
  · obtain ⟨count, rfl, _⟩ := h
    rfl
  obtain ⟨count, rfl, c0, c1, q⟩ := h
  refine ⟨_, pss_one (ps_ret (pe_tup (pa_cons (pe_op op_rep (pe_lst (pa_cons pe_int pa_nil)) (pv 0)) (pa_cons (pe_lst pa_nil) pa_nil)))), ?_⟩
  refine ⟨(by show 1 ≤ sizeLine; decide), fun p hp => ?_⟩
  refine ⟨_, rfl, p, count, _, rfl, rfl, upd_same, by omega, by omega, ?_, fun p2 hp2 => ⟨(by show 0 ≤ sizeLine; decide), fun p3 hp3 => ⟨(by show 2 ≤ sizeLine; decide), fun r hr' => ?_⟩⟩⟩
  · show 1 * count.toNat ≤ sizeLine
    exact Nat.le_of_lt (small (by omega))
  have g1 := same_new hp (.lst [.int 0])
  have g2 := same_new hp2 (.lst (List.replicate count.toNat [V.int 0]).flatten)
  have g3 := same_new hp3 (.lst [])
  have g4 := same_new hr' (.tup [.ref p2, .ref p3])
  refine q r _ (((g1.trans g2).trans g3).free hr') (((g1.trans g2).trans g3).trans g4) ⟨p2, p3, [], upd_same, g4 _ _ (g3 _ _ ?_), ⟨g4 _ _ upd_same, fun z hz => absurd hz (by simp)⟩, rfl⟩
  rw [upd_same, rep_zero]
/-! ### put_in -/
def spPut : Sp := fun vs H Q _ => ∃ (b : Addr) (hd : List Int) (sl : List Slip) (desk : Int) (thing : Str), vs = [.ref b, .int desk, .str thing] ∧ BookAt H b hd sl ∧ 0 ≤ desk ∧ desk < (hd.length : Int) ∧ sl.length ≤ 4000 ∧
  ∀ (r : Addr) (H' : Hp), H r = none → Same H H' → BookAt H' r (hd.set desk.toNat (hd.getD desk.toNat 0 + 1)) (putS sl desk (desk, hd.getD desk.toNat 0 + 1, thing)) → Q (.ref r) H'
theorem scPut : FnScope ["book", "desk", "thing", "heard", "number", "ahead", "behind"] ["book", "desk", "thing"] (defScope sPut) := ⟨rfl, rfl, rfl, by decide +kernel, rfl, by decide +kernel, by decide +kernel⟩
/-- a new list with those of the rows that q takes -/
theorem rows_new {H H1 : Hp} {l D : Addr} {as : List (Addr × Slip)} (q : Slip → Bool) (ha : RowsAt H l as) (e : Same H H1) (hD : H1 D = none) :
    RowsAt (upd H1 D (.lst (((refs as).filter (fun v => q (slipOf H v))).map id))) D (as.filter fun p => q p.2) := by
  refine ⟨?_, fun p hp => ((e.trans (same_new hD _)) _ _ (ha.tup p (List.mem_filter.mp hp).1))⟩
  rw [upd_same, List.map_id, refs_filter ha.tup]
theorem rows_app {H : Hp} {l : Addr} {as bs : List (Addr × Slip)} (h : H l = some (.lst (refs as ++ refs bs))) (ha : ∀ p ∈ as, H p.1 = some (.tup (tupOf p.2))) (hb : ∀ p ∈ bs, H p.1 = some (.tup (tupOf p.2))) : RowsAt H l (as ++ bs) := by
  refine ⟨?_, fun p hp => (List.mem_append.mp hp).elim (ha p) (hb p)⟩
  rw [h]
  rw [show refs (as ++ bs) = refs as ++ refs bs from List.map_append]
theorem ok_put (F : Fun K "put_in" "put_in" sPut f fd) (B : Bt mg) : FnOk P w K mg base CX0 1 f fd ["book", "desk", "thing"] spPut := by
  refine F.ok scPut (fun vs H Q E h => ?_) (fun cdv A outer s H vs Q E hr h => ?_)
  · obtain ⟨b, hd, sl, desk, thing, rfl, _⟩ := h
    rfl
  obtain ⟨b, hd, sl, desk, thing, rfl, hb, d0, d1, hn, q⟩ := h
  obtain ⟨l1, l2, as, h0, h1, h2, h3⟩ := hb.ex
  have hla : as.length ≤ 4000 := by rw [← h3, List.length_map] at hn; exact hn
  refine ⟨_, pss_cons (ps_set (i := 3) scPut.nd rfl (Or.inl rfl) (pe_callTy call_list_of rfl B.list PyProof.Rows.boot_list (pa_cons (pe_ix ix_tup (pv 0) pe_int (fun _ _ => rfl)) pa_nil)))
    (pss_cons (ps_set (i := 4) scPut.nd rfl (Or.inl rfl) (pe_op op_add (pe_ix ix_list (pv 3) (pv 1) (fun _ _ => rfl)) pe_int))
    (pss_cons (ps_asg (pv 4) (pg_sub (pv 3) (pv 1) set_list))
    (pss_cons (ps_lc (j := 5) (fr := [(1, "desk")]) rfl (by exact ScC.of (by show ScOk (defScope sPut) _ _ = true; decide +kernel)) (by exact ⟨⟨rfl, Or.inl rfl, Or.inl rfl⟩, trivial⟩) (by decide +kernel) scPut.nd rfl rfl
      (pi_list (pe_ix ix_tup (pv 0) pe_int (fun _ _ => rfl))) (fun _ _ _ _ _ => pif_one (pt_cmpR op_le (pe_ix ix_tupC (pv 0) pe_int (fun _ _ => rfl)) (pv 1) (nomark _))) (fun _ _ _ _ _ => pv 0))
    (pss_cons (ps_lc (j := 6) (fr := [(1, "desk")]) rfl (by exact ScC.of (by show ScOk (defScope sPut) _ _ = true; decide +kernel)) (by exact ⟨⟨rfl, Or.inl rfl, Or.inl rfl⟩, trivial⟩) (by decide +kernel) scPut.nd rfl rfl
      (pi_list (pe_ix ix_tup (pv 0) pe_int (fun _ _ => rfl))) (fun _ _ _ _ _ => pif_one (pt_cmpR op_gt (pe_ix ix_tupC (pv 0) pe_int (fun _ _ => rfl)) (pv 1) (nomark _))) (fun _ _ _ _ _ => pv 0))
    (pss_one (ps_ret (pe_tup (pa_cons (pv 3) (pa_cons (pe_op op_cat (pe_op op_cat (pv 5) (pe_lst (pa_cons (pe_tup (pa_cons (pv 1) (pa_cons (pv 4) (pa_cons (pv 2) pa_nil)))) pa_nil))) (pv 6)) pa_nil))))))))), ?_⟩
  -- heard, number
  refine ⟨_, rfl, _, _, _, _, rfl, rfl, SqT.of h0, rfl, l1, _, rfl, .inl (SqL.of h1), fun p hp => ?_⟩
  have g1 := same_new hp (.lst (hd.map V.int))
  refine ⟨_, rfl, _, rfl, p, _, _, _, rfl, rfl, SqL.of upd_same, at_int d0 d1, _, _, rfl, rfl, ?_⟩
  -- heard[desk] = number
  refine ⟨_, rfl, _, rfl, _, rfl, p, _, _, desk.toNat, rfl, rfl, upd_same, ixN_ok d0 (by rw [List.length_map]; exact d1), ?_⟩
  rw [upd_upd, set_map]
  have g2 := same_new hp (.lst ((hd.set desk.toNat (hd.getD desk.toNat 0 + 1)).map V.int))
  have z5 : (refs as).length < sizeLine := by rw [len_refs]; exact small (by omega)
  -- ahead
  refine ⟨_, rfl, _, _, _, _, rfl, rfl, SqT.of (g2 _ _ h0), rfl, l2, rfl, ⟨_, SqL.of (g2 _ _ h2.at_)⟩, lc_list (fun v => decide ((slipOf H v).1 ≤ desk)) id (SqL.of (g2 _ _ h2.at_)) z5 ?_ ?_ ?_⟩
  · intro x hx H3 R g3 hR
    obtain ⟨z, hz, rfl⟩ := mem_refs hx
    have t := h2.tup z hz
    rw [slipOf_at t] at hR
    exact ⟨_, rfl, _, _, _, _, rfl, rfl, SqT.of ((g2.trans g3) _ _ t), rfl, _, rfl, _, _, rfl, rfl, _, rfl, hR⟩
  · intro x hx _ H3 R g3 hR
    exact ⟨_, rfl, hR⟩
  intro D5 hD5
  have r5 := rows_new (q := fun s => decide (s.1 ≤ desk)) h2 g2 hD5
  have g5 := same_new hD5 (.lst (((refs as).filter (fun v => decide ((slipOf H v).1 ≤ desk))).map id))
  -- behind
  refine ⟨_, rfl, _, _, _, _, rfl, rfl, SqT.of (g5 _ _ (g2 _ _ h0)), rfl, l2, rfl, ⟨_, SqL.of (g5 _ _ (g2 _ _ h2.at_))⟩, lc_list (fun v => decide (desk < (slipOf H v).1)) id (SqL.of (g5 _ _ (g2 _ _ h2.at_))) z5 ?_ ?_ ?_⟩
  · intro x hx H3 R g3 hR
    obtain ⟨z, hz, rfl⟩ := mem_refs hx
    have t := h2.tup z hz
    rw [slipOf_at t] at hR
    exact ⟨_, rfl, _, _, _, _, rfl, rfl, SqT.of ((g2.trans (g5.trans g3)) _ _ t), rfl, _, rfl, _, _, rfl, rfl, _, rfl, hR⟩
  · intro x hx _ H3 R g3 hR
    exact ⟨_, rfl, hR⟩
  intro D6 hD6
  have r6 := rows_new (q := fun s => decide (desk < s.1)) h2 (g2.trans g5) hD6
  have g6 := same_new hD6 (.lst (((refs as).filter (fun v => decide (desk < (slipOf H v).1))).map id))
  have f5 := List.length_filter_le (fun p : Addr × Slip => decide (p.2.1 ≤ desk)) as
  have f6 := List.length_filter_le (fun p : Addr × Slip => decide (desk < p.2.1)) as
  -- return
  refine ⟨_, rfl, _, rfl, _, rfl, _, rfl, _, rfl, (by show 3 ≤ sizeLine; decide), fun t ht => ⟨(by show 1 ≤ sizeLine; decide), fun p7 hp7 => ?_⟩⟩
  have g7 := same_new ht (.tup (tupOf (desk, hd.getD desk.toNat 0 + 1, thing)))
  have g8 := same_new hp7 (.lst [.ref t])
  refine ⟨D5, p7, _, _, rfl, rfl, g8 _ _ (g7 _ _ (g6 _ _ r5.at_)), upd_same, ?_, fun p8 hp8 => ?_⟩
  · rw [len_refs]
    exact Nat.le_of_lt (small (by show _ + 1 ≤ 1000000; omega))
  have g9 := same_new hp8 (.lst (refs (as.filter fun p => decide (p.2.1 ≤ desk)) ++ [.ref t]))
  refine ⟨_, rfl, p8, D6, _, _, rfl, rfl, upd_same, g9 _ _ (g8 _ _ (g7 _ _ r6.at_)), ?_, fun p9 hp9 => ?_⟩
  · rw [List.length_append, len_refs, len_refs]
    exact Nat.le_of_lt (small (by show _ + 1 + _ ≤ 1000000; omega))
  have g10 := same_new hp9 (.lst ((refs (as.filter fun p => decide (p.2.1 ≤ desk)) ++ [.ref t]) ++ refs (as.filter fun p => decide (desk < p.2.1))))
  refine ⟨(by show 2 ≤ sizeLine; decide), fun r hr' => ?_⟩
  have g11 := same_new hr' (.tup [.ref p, .ref p9])
  have ga := g7.trans (g8.trans (g9.trans (g10.trans g11)))
  have gall := g2.trans (g5.trans (g6.trans ga))
  refine q r _ (Same.free (g2.trans (g5.trans (g6.trans (g7.trans (g8.trans (g9.trans g10)))))) hr') gall ⟨p, p9, ((as.filter fun p => decide (p.2.1 ≤ desk)) ++ [(t, (desk, hd.getD desk.toNat 0 + 1, thing))]) ++ as.filter (fun p => decide (desk < p.2.1)), upd_same, (g5.trans (g6.trans ga)) _ _ upd_same, ?_, ?_⟩
  · refine rows_app (g11 _ _ ?_) (fun z hz => ?_) (fun z hz => gall _ _ (h2.tup z (List.mem_filter.mp hz).1))
    · rw [upd_same]
      rw [show refs ((as.filter fun p => decide (p.2.1 ≤ desk)) ++ [(t, (desk, hd.getD desk.toNat 0 + 1, thing))]) = refs (as.filter fun p => decide (p.2.1 ≤ desk)) ++ [V.ref t] from List.map_append]
    · rcases List.mem_append.mp hz with z1 | z1
      · exact gall _ _ (h2.tup z (List.mem_filter.mp z1).1)
      · rw [List.mem_singleton.mp z1]
        exact (g8.trans (g9.trans (g10.trans g11))) _ _ upd_same
  · unfold putS
    rw [List.map_append, List.map_append, ← h3, snd_filter (q := fun s => decide (s.1 ≤ desk)), snd_filter (q := fun s => decide (desk < s.1))]
    rfl
end
end Sd

namespace Sd
open PySem L2
abbrev mroVE : List Value := [.type "ValueError", .type "Exception", .type "BaseException", .type "object"]
def leftS (sl : List Slip) (t : Str) : List Slip := sl.filter fun s => !decide (V.str s.2.2 = V.str t)
/-- calls of a def that may raise -/
structure Fx (P : Program) (w : World) (K : PySem.W.Frag) (mg : Str → Option Value) (base : Heap) (x : Str) (k : Nat) (ps : List Str) (sp : Sp) : Prop where
  ex : ∃ (f : Addr) (fd : FuncData), FnOk P w K mg base (CXr P w) k f fd ps sp ∧ Binds K fd ps [] ∧ PySem.W.keepIn K (.ref f) = true ∧ mg x = some (.ref f)
theorem pe_fx {X : Cx} {pins : List (Addr × Obj)} {EX : St → XK} {x : Str} {k : Nat} {ps : List Str} {sp : Sp} {e : Expr} {es : List Expr} {t : TA} {p pos : Pos} (F : Fx X.prog X.w X.K X.mg X.base x k ps sp) (hr : Room k X.A) (hg : Gl X x) (ha : PA (X.tried pins EX) (e :: es) t)
    (hdb : (x == ("__debug__" : Str)) = false := by decide) (he : starEach (e :: es) X.env = (false, eval e X.env) :: starEach es X.env := by rfl) (hpl : (backTo pos (starEach es X.env)).any (·.1) = false := by rfl) :
    PE (X.tried pins EX) (.Call (.Name x p) (e :: es) [] pos) (tCallX sp EX t) := by
  obtain ⟨f, fd, G, b, kp, mg⟩ := F.ex
  exact pe_callx G hr hg mg kp b ha hdb he hpl
section
variable {P : Program} {w : World} {K : PySem.W.Frag} {mg : Str → Option Value} {base : Heap} {f C : Addr} {fd : FuncData}
/-! ### taken_out -/
def spTaken (C : Addr) : Sp := fun vs H Q E => ∃ (b : Addr) (hd : List Int) (sl : List Slip) (t : Str), vs = [.ref b, .str t] ∧ BookAt H b hd sl ∧ sl.length ≤ 4000 ∧ t.length ≤ 1000 ∧
  ((leftS sl t).length = sl.length → ∀ H', Same H H' → E (.ref C) none H') ∧
  ((leftS sl t).length ≠ sl.length → ∀ (r : Addr) (H' : Hp), H r = none → Same H H' → BookAt H' r hd (leftS sl t) → Q (.ref r) H')
theorem scTaken : FnScope ["book", "thing", "kept"] ["book", "thing"] (defScope sTaken) := ⟨rfl, rfl, rfl, by decide +kernel, rfl, by decide +kernel, by decide +kernel⟩
theorem ok_taken (F : Fun K "taken_out" "taken_out" sTaken f fd) (B : Bt mg) (hm : mg "NoThing" = some (.ref C)) (hx : PySem.W.excIn K C mroVE "ValueError.__new__" = true) : FnOk P w K mg base (CXr P w) 1 f fd ["book", "thing"] (spTaken C) := by
  refine F.okx scTaken (fun vs H Q E h => ?_) (fun cdv A outer s H vs Q E hr h => ?_)
  · obtain ⟨b, hd, sl, t, rfl, _⟩ := h
    rfl
  obtain ⟨b, hd, sl, t, rfl, hb, hn, ht, q1, q2⟩ := h
  obtain ⟨l1, l2, as, h0, h1, h2, h3⟩ := hb.ex
  have hla : as.length ≤ 4000 := by rw [← h3, List.length_map] at hn; exact hn
  refine ⟨_, pss_cons (PS.nox (ps_lc (j := 2) (fr := [(1, "thing")]) rfl (by exact ScC.of (by show ScOk (defScope sTaken) _ _ = true; decide +kernel)) (by exact ⟨⟨rfl, Or.inl rfl, Or.inl rfl⟩, trivial⟩) (by decide +kernel) scTaken.nd rfl rfl
      (pi_list (pe_ix ix_tup (pv 0) pe_int (fun _ _ => rfl))) (fun _ _ _ _ _ => pif_one (pt_cmpR op_ne (pe_ix ix_tupC (pv 0) pe_int (fun _ _ => rfl)) (pv 1) (nomark _))) (fun _ _ _ _ _ => pv 0)))
    (pss_cons (ps_if (pt_cmpR op_eq (pe_callB call_len_seq rfl B.len PySem.boot_len (pa_cons (pv 2) pa_nil)) (pe_callB call_len_seq rfl B.len PySem.boot_len (pa_cons (pe_ix ix_tup (pv 0) pe_int (fun _ _ => rfl)) pa_nil)) (nomark _))
      (pss_one (ps_raise (E := E) throws_cxOf PySem.F.excBase_ValueError hx rfl rfl hm (pa_cons (pe_fs3 pe_str (pe_fmt (pv 1)) pe_str) pa_nil))) pss_nil)
    (pss_one (ps_ret (pe_tup (pa_cons (pe_callTy call_list_of rfl B.list PyProof.Rows.boot_list (pa_cons (pe_ix ix_tup (pv 0) pe_int (fun _ _ => rfl)) pa_nil)) (pa_cons (pv 2) pa_nil)))))), ?_⟩
  have z5 : (refs as).length < sizeLine := by rw [len_refs]; exact small (by omega)
  -- kept
  refine ⟨_, rfl, _, _, _, _, rfl, rfl, SqT.of h0, rfl, l2, rfl, ⟨_, SqL.of h2.at_⟩, lc_list (fun v => !decide (V.str (slipOf H v).2.2 = V.str t)) id (SqL.of h2.at_) z5 ?_ ?_ ?_⟩
  · intro x hx H3 R g3 hR
    obtain ⟨z, hz, rfl⟩ := mem_refs hx
    have t := h2.tup z hz
    rw [slipOf_at t] at hR
    exact ⟨_, rfl, _, _, _, _, rfl, rfl, SqT.of (g3 _ _ t), rfl, _, rfl, rfl, _, rfl, hR⟩
  · intro x hx _ H3 R g3 hR
    exact ⟨_, rfl, hR⟩
  intro D hD
  have r5 := rows_new (q := fun s => !decide (V.str s.2.2 = V.str t)) h2 (Same.refl H) hD
  have g5 := same_new hD (.lst (((refs as).filter (fun v => !decide (V.str (slipOf H v).2.2 = V.str t))).map id))
  have el : (refs (as.filter fun p => !decide (V.str p.2.2.2 = V.str t))).length = (leftS sl t).length := by
    rw [len_refs]
    unfold leftS
    rw [← h3, ← snd_filter (q := fun s => !decide (V.str s.2.2 = V.str t)), List.length_map]
  have el2 : (refs as).length = sl.length := by rw [len_refs, ← h3, List.length_map]
  -- if
  refine ⟨_, rfl, D, _, rfl, .inl (SqL.of r5.at_), _, rfl, _, _, _, _, rfl, rfl, SqT.of (g5 _ _ h0), rfl, l2, _, rfl, .inl (SqL.of (g5 _ _ h2.at_)), rfl, _, rfl, ?_⟩
  rw [el, el2]
  refine ite2 (fun c => ?_) (fun c => ?_)
  · have c' : (leftS sl t).length = sl.length := by
      have z := of_decide_eq_true c
      injection z with z
      omega
    have s1 : ∀ n, n ≤ 1100 → n ≤ sizeLine := fun n h => Nat.le_of_lt (small (by omega))
    refine ⟨_, rfl, s1 _ (by decide), _, rfl, t, rfl, s1 _ (by omega), _, rfl, s1 _ ?_, _, rfl, s1 _ ?_, (by show 1 ≤ sizeLine; decide), q1 c' _ g5⟩
    · rw [strLen_append]
      have : (Str.empty ++ ("no slip with " : Str)).length = 13 := by decide
      omega
    · rw [strLen_append, strLen_append]
      have a1 : (Str.empty ++ ("no slip with " : Str)).length = 13 := by decide
      have a2 : (" lies in the book" : Str).length = 17 := by decide
      omega
  · have c' : (leftS sl t).length ≠ sl.length := fun z => c (decide_eq_true (by rw [z]))
    refine ⟨_, rfl, _, _, _, _, rfl, rfl, SqT.of (g5 _ _ h0), rfl, l1, _, rfl, .inl (SqL.of (g5 _ _ h1)), fun p hp => ?_⟩
    have g6 := same_new hp (.lst (hd.map V.int))
    refine ⟨_, rfl, (by show 2 ≤ sizeLine; decide), fun r hr' => ?_⟩
    have g7 := same_new hr' (.tup [.ref p, .ref D])
    have g67 := g6.trans g7
    refine q2 c' r _ ((g5.trans g6).free hr') (g5.trans g67) ⟨p, D, as.filter fun p => !decide (V.str p.2.2.2 = V.str t), upd_same, g7 _ _ upd_same, r5.mono g67, ?_⟩
    rw [snd_filter (q := fun s => !decide (V.str s.2.2 = V.str t)), h3]
    rfl
end
end Sd

namespace Sd
open PySem L2
section
variable {P : Program} {w : World} {K : PySem.W.Frag} {mg : Str → Option Value} {base : Heap} {f : Addr} {fd : FuncData}
/-! ### unheard_of -/
def unhS (hd : List Int) (sl : List Slip) : List Slip := sl.filter fun s => decide (hd.getD s.1.toNat 0 < s.2.1)
def spUnheard : Sp := fun vs H Q _ => ∃ (l lh : Addr) (as : List (Addr × Slip)) (hd : List Int), vs = [.ref l, .ref lh] ∧ RowsAt H l as ∧ H lh = some (.lst (hd.map V.int)) ∧ as.length ≤ 4000 ∧ (∀ p ∈ as, 0 ≤ p.2.1 ∧ p.2.1 < (hd.length : Int)) ∧
  ∀ (r : Addr) (H' : Hp) (bs : List (Addr × Slip)), H r = none → Same H H' → RowsAt H' r bs → bs.map (·.2) = unhS hd (as.map (·.2)) → Q (.ref r) H'
theorem scUnheard : FnScope ["slips", "heard"] ["slips", "heard"] (defScope sUnheard) := ⟨rfl, rfl, rfl, by decide +kernel, rfl, by decide +kernel, by decide +kernel⟩
theorem ok_unheard (F : Fun K "unheard_of" "unheard_of" sUnheard f fd) : FnOk P w K mg base CX0 1 f fd ["slips", "heard"] spUnheard := by
  refine F.ok scUnheard (fun vs H Q E h => ?_) (fun cdv A outer s H vs Q E hr h => ?_)
  · obtain ⟨l, lh, as, hd, rfl, _⟩ := h
    rfl
  obtain ⟨l, lh, as, hd, rfl, ha, hh, hn, hdk, q⟩ := h
  refine ⟨_, pss_one (ps_ret (pe_lc (fr := [(1, "heard")]) rfl (by exact ScC.of (by show ScOk (defScope sUnheard) _ _ = true; decide +kernel)) (by exact ⟨⟨rfl, Or.inl rfl, Or.inl rfl⟩, trivial⟩) (by decide +kernel)
      (pi_list (pv 0)) (fun _ _ _ _ _ => pif_one (pt_cmpR op_gt (pe_ix ix_tupC (pv 0) pe_int (fun _ _ => rfl)) (pe_ix ix_listC (pv 1) (pe_ix ix_tupC (pv 0) pe_int (fun _ _ => rfl)) (fun _ _ => rfl)) (nomark _))) (fun _ _ _ _ _ => pv 0))), ?_⟩
  refine ⟨_, rfl, l, rfl, ⟨_, SqL.of ha.at_⟩, lc_list (fun v => decide (hd.getD (slipOf H v).1.toNat 0 < (slipOf H v).2.1)) id (SqL.of ha.at_) (by rw [len_refs]; exact small (by omega)) ?_ ?_ ?_⟩
  · intro x hx H3 R g3 hR
    obtain ⟨z, hz, rfl⟩ := mem_refs hx
    have t := ha.tup z hz
    rw [slipOf_at t] at hR
    exact ⟨_, rfl, _, _, _, _, rfl, rfl, SqT.of (g3 _ _ t), rfl, _, rfl, _, rfl, _, _, _, _, rfl, rfl, SqT.of (g3 _ _ t), rfl, lh, _, _, _, rfl, rfl, SqL.of (g3 _ _ hh), at_int (hdk z hz).1 (hdk z hz).2, _, _, rfl, rfl, _, rfl, hR⟩
  · intro x hx _ H3 R g3 hR
    exact ⟨_, rfl, hR⟩
  intro D hD
  refine q D _ _ hD (same_new hD _) (rows_new (q := fun s => decide (hd.getD s.1.toNat 0 < s.2.1)) ha (Same.refl H) hD) ?_
  rw [snd_filter (q := fun s => decide (hd.getD s.1.toNat 0 < s.2.1))]
  rfl
end
end Sd

namespace Sd
open PySem L2
/-- the promise of merged_of -/
def spMerged : Sp := fun vs H Q _ => ∃ (a b : Addr) (x y : Bk) (count : Nat), vs = [.ref a, .ref b] ∧ BookAt H a x.1 x.2 ∧ BookAt H b y.1 y.2 ∧ Wf count x ∧ Wf count y ∧ 1 ≤ count ∧ count ≤ 60 ∧ Few x.2 y.2 63 ∧
  (∀ p ∈ x.2, ∀ r ∈ y.2, p.1 = r.1 → p.2.1 = r.2.1 → p = r) ∧
  ∀ (r : Addr) (H' : Hp) (m : Bk), H r = none → Same H H' → MergeOf x y m → BookAt H' r m.1 m.2 → Q (.ref r) H'
theorem few_len {a b : List Slip} {n : Nat} (h : Few a b n) : (a.Pairwise LtS → a.length ≤ n) ∧ (b.Pairwise LtS → b.length ≤ n) :=
  ⟨fun p => h a (p.imp fun {x y} z e => by subst e; exact LtS.irrefl _ z) fun x hx => .inl hx, fun p => h b (p.imp fun {x y} z e => by subst e; exact LtS.irrefl _ z) fun x hx => .inr hx⟩
end Sd

namespace Sd
open PySem L2
theorem mem_unhS {h : List Int} {sl : List Slip} {x : Slip} : x ∈ unhS h sl ↔ x ∈ sl ∧ ¬ Hrd h x := by
  unfold unhS
  rw [List.mem_filter]
  unfold Hrd
  simp only [decide_eq_true_eq]
  constructor
  · rintro ⟨a, b⟩; exact ⟨a, by omega⟩
  · rintro ⟨a, b⟩; exact ⟨a, by omega⟩
abbrev NeS (a b : Slip) : Prop := a.1 ≠ b.1 ∨ a.2.1 ≠ b.2.1
theorem NeS.of_lt {a b : Slip} (h : LtS a b) : NeS a b := by
  rcases h with h | ⟨_, h⟩
  · exact .inl (by omega)
  · exact .inr (by omega)
theorem hrd_same {h : List Int} {a b : Slip} (n : ¬ NeS a b) : Hrd h a ↔ Hrd h b := by
  have h1 : a.1 = b.1 := Classical.byContradiction fun z => n (.inl z)
  have h2 : a.2.1 = b.2.1 := Classical.byContradiction fun z => n (.inr z)
  unfold Hrd
  rw [h1, h2]
/-- the slips that merging takes, ahead of sorting -/
def mixS (x y : Bk) : List Slip := (x.2.filter fun p => decide (p ∈ y.2)) ++ (unhS y.1 x.2 ++ unhS x.1 y.2)
theorem mem_mixS {x y : Bk} {p : Slip} : p ∈ mixS x y ↔ (p ∈ x.2 ∧ p ∈ y.2) ∨ (p ∈ x.2 ∧ ¬ Hrd y.1 p) ∨ (p ∈ y.2 ∧ ¬ Hrd x.1 p) := by
  unfold mixS
  rw [List.mem_append, List.mem_append, List.mem_filter, mem_unhS, mem_unhS]
  simp only [decide_eq_true_eq]
theorem mixS_ne {count : Nat} {x y : Bk} (wx : Wf count x) (wy : Wf count y) : (mixS x y).Pairwise NeS := by
  have fx : ∀ q : Slip → Bool, (x.2.filter q).Pairwise NeS := fun q => (wx.lt.filter q).imp NeS.of_lt
  have fy : ∀ q : Slip → Bool, (y.2.filter q).Pairwise NeS := fun q => (wy.lt.filter q).imp NeS.of_lt
  unfold mixS
  rw [List.pairwise_append, List.pairwise_append]
  refine ⟨fx _, ⟨fx _, fy _, fun a ha b hb => ?_⟩, fun a ha b hb => ?_⟩
  · apply Classical.byContradiction
    intro n
    exact (mem_unhS.mp hb).2 ((hrd_same n).mp (wx.hrd a (mem_unhS.mp ha).1))
  · obtain ⟨a1, a2⟩ := List.mem_filter.mp ha
    have a2 := of_decide_eq_true a2
    apply Classical.byContradiction
    intro n
    rcases List.mem_append.mp hb with hb | hb
    · exact (mem_unhS.mp hb).2 ((hrd_same n).mp (wy.hrd a a2))
    · exact (mem_unhS.mp hb).2 ((hrd_same n).mp (wx.hrd a a1))
theorem mixS_len {count : Nat} {x y : Bk} (wx : Wf count x) (wy : Wf count y) (hf : Few x.2 y.2 63) : (mixS x y).length ≤ 63 := by
  refine hf _ ((mixS_ne wx wy).imp fun {a b} n e => ?_) fun p hp => ?_
  · subst e
    rcases n with z | z <;> exact z rfl
  · rcases mem_mixS.mp hp with z | z | z
    · exact .inl z.1
    · exact .inl z.1
    · exact .inr z.1
theorem zip_max {x y : List Int} (h : x.length = y.length) : (List.range x.length).map (fun i => V.int (max (x.getD i 0) (y.getD i 0))) = (List.zipWith max x y).map V.int := by
  apply List.ext_getElem?
  intro i
  rw [List.getElem?_map, List.getElem?_map, List.getElem?_zipWith]
  by_cases hi : i < x.length
  · rw [List.getElem?_range hi, List.getElem?_eq_getElem hi, List.getElem?_eq_getElem (show i < y.length by omega)]
    show some (V.int (max (x.getD i 0) (y.getD i 0))) = some (V.int (max x[i] y[i]))
    rw [List.getD_eq_getElem?_getD, List.getD_eq_getElem?_getD, List.getElem?_eq_getElem hi, List.getElem?_eq_getElem (show i < y.length by omega)]
    rfl
  · rw [List.getElem?_eq_none (by rw [List.length_range]; omega), List.getElem?_eq_none (by omega)]
    rfl
theorem map_int_at {x : List Int} {i : Nat} {u : V} (h : (x.map V.int)[i]? = some u) : u = .int (x.getD i 0) := by
  rw [List.getElem?_map] at h
  rw [List.getD_eq_getElem?_getD]
  cases q : x[i]? with
  | none => rw [q] at h; cases h
  | some v => rw [q] at h; exact (Option.some.inj h).symm
theorem tup3_inj {a b : Slip} (h : tupOf a = tupOf b) : a = b := by
  obtain ⟨a1, a2, a3⟩ := a
  obtain ⟨b1, b2, b3⟩ := b
  unfold tupOf at h
  simp only [List.cons.injEq, V.int.injEq, V.str.injEq, and_true] at h
  obtain ⟨h1, h2, h3⟩ := h
  rw [h1, h2, h3]
theorem hit_rows {H : Hp} {x : Slip} : ∀ {as : List (Addr × Slip)}, (∀ p ∈ as, H p.1 = some (.tup (tupOf p.2))) → (refs as).any (hitT (fun a => tupOf (slipOf H (.ref a))) (tupOf x)) = decide (x ∈ as.map (·.2))
  | [], _ => rfl
  | p :: as, h => by
    have ih := hit_rows (x := x) (as := as) fun q hq => h q (List.mem_cons_of_mem _ hq)
    show (decide (tupOf (slipOf H (.ref p.1)) = tupOf x) || (refs as).any _) = decide (x ∈ (p :: as).map (·.2))
    rw [ih, slipOf_at (h p List.mem_cons_self), List.map_cons]
    by_cases e : p.2 = x
    · subst e; simp
    · rw [decide_eq_false (fun z => e (tup3_inj z)), Bool.false_or]
      refine decide_eq_decide.mpr ?_
      rw [List.mem_cons]
      exact ⟨.inr, fun z => z.elim (fun y => absurd y.symm e) id⟩
section
variable {P : Program} {w : World} {K : PySem.W.Frag} {mg : Str → Option Value} {base : Heap} {f : Addr} {fd : FuncData}
structure Bt5 (mg : Str → Option Value) : Prop where
  zip : mg "zip" = none
  mx : mg "max" = none
  srt : mg "sorted" = none
/-! ### merged_of -/
theorem scMerged : FnScope ["book", "other", "heard", "in_both", "in_one"] ["book", "other"] (defScope sMerged) := ⟨rfl, rfl, rfl, by decide +kernel, rfl, by decide +kernel, by decide +kernel⟩
theorem ok_merged (F : Fun K "merged_of" "merged_of" sMerged f fd) (B5 : Bt5 mg) (GU : Fk P w K mg base "unheard_of" 1 ["slips", "heard"] spUnheard) : FnOk P w K mg base CX0 3 f fd ["book", "other"] spMerged := by
  refine F.ok scMerged (fun vs H Q E h => ?_) (fun cdv A outer s H vs Q E hr h => ?_)
  · obtain ⟨a, b, x, y, count, rfl, _⟩ := h
    rfl
  obtain ⟨a, b, x, y, count, rfl, ha, hb, wx, wy, c1, c2, hfew, _, q⟩ := h
  obtain ⟨l1, l2, as, h0, h1, h2, h3⟩ := ha.ex
  obtain ⟨m1, m2, bs, k0, k1, k2, k3⟩ := hb.ex
  have hr1 : Room 1 _ := hr.mono (by decide)
  have nd := scMerged.nd
  have lx := (few_len hfew).1 wx.lt
  have ly := (few_len hfew).2 wy.lt
  have las : as.length = x.2.length := by rw [← h3, List.length_map]
  have lbs : bs.length = y.2.length := by rw [← k3, List.length_map]
  refine ⟨_, pss_cons (ps_lc (j := 2) (fr := []) rfl (by exact ScC.of (by show ScOk (defScope sMerged) _ _ = true; decide +kernel)) (by exact trivial) (by decide +kernel) nd rfl rfl
      (pi_zip rfl B5.zip (pa_cons (pe_ix ix_tup (pv 0) pe_int (fun _ _ => rfl)) (pa_cons (pe_ix ix_tup (pv 1) pe_int (fun _ _ => rfl)) pa_nil))) (fun _ _ _ _ _ => pif_nil) (fun _ _ _ _ _ => pe_callB (ck_maxTC rfl) rfl B5.mx PyProof.Rows.boot_max (pa_cons (pv 0) pa_nil)))
    (pss_cons (ps_lc (j := 3) (fr := [(1, "other")]) rfl (by exact ScC.of (by show ScOk (defScope sMerged) _ _ = true; decide +kernel)) (by exact ⟨⟨rfl, Or.inl rfl, Or.inl rfl⟩, trivial⟩) (by decide +kernel) nd rfl rfl
      (pi_list (pe_ix ix_tup (pv 0) pe_int (fun _ _ => rfl))) (fun _ _ _ _ _ => pif_one (pt_cmpR (op_in_tupsC (hu_of hr)) (pv 0) (pe_ix ix_tupC (pv 1) pe_int (fun _ _ => rfl)) rfl)) (fun _ _ _ _ _ => pv 0))
    (pss_cons (ps_set (i := 4) nd rfl (Or.inl rfl) (pe_op op_cat (pe_fk GU hr1 rfl (pa_cons (pe_ix ix_tup (pv 0) pe_int (fun _ _ => rfl)) (pa_cons (pe_ix ix_tup (pv 1) pe_int (fun _ _ => rfl)) pa_nil)))
      (pe_fk GU hr1 rfl (pa_cons (pe_ix ix_tup (pv 1) pe_int (fun _ _ => rfl)) (pa_cons (pe_ix ix_tup (pv 0) pe_int (fun _ _ => rfl)) pa_nil)))))
    (pss_one (ps_ret (pe_tup (pa_cons (pv 2) (pa_cons (pe_callB ck_sortedT rfl B5.srt PyProof.Rows.boot_sorted (pa_cons (pe_op op_cat (pv 3) (pv 4)) pa_nil)) pa_nil))))))), ?_⟩
  -- heard
  have lxy : x.1.length = y.1.length := by rw [wx.len, wy.len]
  refine ⟨_, rfl, _, _, _, _, rfl, rfl, SqT.of h0, rfl, _, rfl, _, _, _, _, rfl, rfl, SqT.of k0, rfl, l1, m1, _, _, rfl, SqL.of h1, SqL.of k1, by rw [List.length_map, List.length_map]; exact lxy,
    lc_zip (fun i => V.int (max (x.1.getD i 0) (y.1.getD i 0))) (SqL.of h1) (SqL.of k1) (by rw [List.length_map, List.length_map]; exact lxy) (by rw [List.length_map, wx.len]; exact small (by omega)) (fun _ _ _ hR => hR) ?_ ?_⟩
  · intro i T u v H3 R g1 g2 hT hR
    rw [map_int_at g1, map_int_at g2] at hT
    exact ⟨_, rfl, T, _, _, rfl, SqT.of hT, hR⟩
  intro D2 H2 hD2 e2 hL2
  rw [List.length_map, zip_max lxy] at hL2
  -- in_both
  have z5 : (refs as).length < sizeLine := by rw [len_refs]; exact small (by omega)
  refine ⟨_, rfl, _, _, _, _, rfl, rfl, SqT.of (e2 _ _ h0), rfl, l2, rfl, ⟨_, SqL.of (e2 _ _ h2.at_)⟩, lc_list (fun v => decide (slipOf H v ∈ y.2)) id (SqL.of (e2 _ _ h2.at_)) z5 ?_ ?_ ?_⟩
  · intro z hz H3 R g3 hR
    obtain ⟨p, hp, rfl⟩ := mem_refs hz
    have t := h2.tup p hp
    rw [slipOf_at t] at hR
    have e3 := e2.trans g3
    refine ⟨_, rfl, _, rfl, _, _, _, _, rfl, rfl, SqT.of (e3 _ _ k0), rfl, p.1, m2, tupOf p.2, refs bs, fun c => tupOf (slipOf H (.ref c)), rfl, rfl, SqT.of (e3 _ _ t), tupOf_pln _, SqL.of (e3 _ _ k2.at_), fun v hv => ?_, _, rfl, ?_⟩
    · obtain ⟨r, hr', rfl⟩ := mem_refs hv
      have tz := k2.tup r hr'
      refine ⟨r.1, rfl, ?_, tupOf_pln _⟩
      show SqT _ _ _ (tupOf (slipOf H (.ref r.1)))
      rw [slipOf_at tz]
      exact SqT.of (e3 _ _ tz)
    · show R ((refs bs).any (hitT (fun c => tupOf (slipOf H (.ref c))) (tupOf p.2))) H3
      rw [hit_rows k2.tup, k3]
      exact hR
  · intro z hz _ H3 R g3 hR
    exact ⟨_, rfl, hR⟩
  intro D3 hD3
  have r3 := rows_new (q := fun p => decide (p ∈ y.2)) h2 e2 hD3
  have g3 := same_new hD3 (.lst (((refs as).filter (fun v => decide (slipOf H v ∈ y.2))).map id))
  have e3 := e2.trans g3
  -- in_one
  refine ⟨_, rfl, _, _, _, _, rfl, rfl, SqT.of (e3 _ _ h0), rfl, _, rfl, _, _, _, _, rfl, rfl, SqT.of (e3 _ _ k0), rfl, l2, m1, as, y.1, rfl, h2.mono e3, e3 _ _ k1, by omega, fun p hp => ?_, fun r4 H4 u1 n4 g4 ru1 hu1 => ?_⟩
  · have := wx.desk p.2 (by rw [← h3]; exact List.mem_map.mpr ⟨p, hp, rfl⟩)
    rw [wy.len]
    exact this
  have e4 := e3.trans g4
  refine ⟨_, rfl, _, _, _, _, rfl, rfl, SqT.of (e4 _ _ k0), rfl, _, rfl, _, _, _, _, rfl, rfl, SqT.of (e4 _ _ h0), rfl, m2, l1, bs, x.1, rfl, k2.mono e4, e4 _ _ h1, by omega, fun p hp => ?_, fun r5 H5 u2 n5 g5 ru2 hu2 => ?_⟩
  · have := wy.desk p.2 (by rw [← k3]; exact List.mem_map.mpr ⟨p, hp, rfl⟩)
    rw [wx.len]
    exact this
  have e5 := e4.trans g5
  rw [h3] at hu1
  rw [k3] at hu2
  have lu1 : u1.length ≤ 63 := by
    have := congrArg List.length hu1
    rw [List.length_map] at this
    have l := List.length_filter_le (fun s : Slip => decide (y.1.getD s.1.toNat 0 < s.2.1)) x.2
    unfold unhS at this
    omega
  have lu2 : u2.length ≤ 63 := by
    have := congrArg List.length hu2
    rw [List.length_map] at this
    have l := List.length_filter_le (fun s : Slip => decide (x.1.getD s.1.toNat 0 < s.2.1)) y.2
    unfold unhS at this
    omega
  refine ⟨r4, r5, _, _, rfl, rfl, g5 _ _ ru1.at_, ru2.at_, ?_, fun p6 hp6 => ?_⟩
  · rw [len_refs, len_refs]
    exact Nat.le_of_lt (small (by omega))
  have g6 := same_new hp6 (.lst (refs u1 ++ refs u2))
  -- sorted
  refine ⟨_, rfl, _, rfl, _, rfl, D3, p6, _, _, rfl, rfl, g6 _ _ (g5 _ _ (g4 _ _ r3.at_)), upd_same, ?_, fun p7 hp7 => ?_⟩
  · rw [List.length_append, len_refs, len_refs, len_refs]
    have := List.length_filter_le (fun p : Addr × Slip => decide (p.2 ∈ y.2)) as
    exact Nat.le_of_lt (small (by omega))
  have g7 := same_new hp7 (.lst (refs (as.filter fun p => decide (p.2 ∈ y.2)) ++ (refs u1 ++ refs u2)))
  have e7 := (e5.trans g6).trans g7
  generalize hH7 : upd (upd H5 p6 (.lst (refs u1 ++ refs u2))) p7 (.lst (refs (as.filter fun p => decide (p.2 ∈ y.2)) ++ (refs u1 ++ refs u2))) = H7 at e7
  have hp7' : H7 p7 = some (.lst (refs (as.filter fun p => decide (p.2 ∈ y.2)) ++ (refs u1 ++ refs u2))) := by rw [← hH7]; exact upd_same
  generalize hRd : (as.filter fun p => decide (p.2 ∈ y.2)) ++ (u1 ++ u2) = Rw
  have eR : refs (as.filter fun p => decide (p.2 ∈ y.2)) ++ (refs u1 ++ refs u2) = refs Rw := by rw [← hRd]; simp [refs]
  have sR : Rw.map (·.2) = mixS x y := by
    rw [← hRd, List.map_append, List.map_append, hu1, hu2, snd_filter (q := fun p => decide (p ∈ y.2)), h3]
    rfl
  have tR : ∀ p ∈ Rw, H7 p.1 = some (.tup (tupOf p.2)) := fun p hp => by
    rw [← hRd] at hp
    have g67 : Same H5 H7 := by rw [← hH7]; exact g6.trans g7
    rcases List.mem_append.mp hp with z | z
    · exact e7 _ _ (h2.tup p (List.mem_filter.mp z).1)
    · rcases List.mem_append.mp z with z | z
      · exact g67 _ _ (g5 _ _ (ru1.tup p z))
      · exact g67 _ _ (ru2.tup p z)
  rw [eR] at hp7'
  have key : ∀ p ∈ Rw, slipOf H7 (.ref p.1) = p.2 := fun p hp => slipOf_at (tR p hp)
  have lR : Rw.length ≤ 63 := by
    have := mixS_len wx wy hfew
    rw [← sR, List.length_map] at this
    exact this
  refine ⟨p7, Rw.map (·.1), fun c => (slipOf H7 (.ref c)).1, fun c => (slipOf H7 (.ref c)).2.1, fun c => .str (slipOf H7 (.ref c)).2.2, rfl, SqL.of (by rw [hp7', List.map_map]; rfl), by rw [List.length_map]; omega, fun c hc => ?_, ?_, fun r cs nr pm pw => ?_⟩
  · obtain ⟨p, hp, rfl⟩ := List.mem_map.mp hc
    show SqT _ _ _ (tupOf (slipOf H7 (.ref p.1)))
    rw [key p hp]
    exact SqT.of (tR p hp)
  · rw [List.pairwise_map]
    have hne := mixS_ne wx wy
    rw [← sR, List.pairwise_map] at hne
    refine List.Pairwise.imp_of_mem (fun {p r} hp hr' n => ?_) hne
    show (slipOf H7 (.ref p.1)).1 ≠ (slipOf H7 (.ref r.1)).1 ∨ (slipOf H7 (.ref p.1)).2.1 ≠ (slipOf H7 (.ref r.1)).2.1
    rw [key p hp, key r hr']
    exact n
  -- return
  refine ⟨(by show 2 ≤ sizeLine; decide), fun r8 hr8 => ?_⟩
  have g8 := same_new nr (.lst (cs.map V.ref))
  have g9 := same_new hr8 (.tup [.ref D2, .ref r])
  have e9 := (e7.trans g8).trans g9
  have perm : (cs.map fun c => slipOf H7 (.ref c)).Perm (mixS x y) := by
    refine (pm.map _).trans ?_
    rw [List.map_map, ← sR]
    rw [show List.map ((fun c => slipOf H7 (V.ref c)) ∘ fun p => p.1) Rw = Rw.map (·.2) from List.map_congr_left fun p hp => key p hp]
  have e27 : Same H2 H7 := by
    have z : Same H2 (upd (upd H5 p6 (.lst (refs u1 ++ refs u2))) p7 (.lst (refs (as.filter fun p => decide (p.2 ∈ y.2)) ++ (refs u1 ++ refs u2)))) := (((g3.trans g4).trans g5).trans g6).trans g7
    rw [hH7] at z
    exact z
  refine q r8 _ (List.zipWith max x.1 y.1, cs.map fun c => slipOf H7 (.ref c)) ((e7.trans g8).free hr8) e9 ⟨rfl, ?_, fun p => ?_⟩ ⟨D2, r, cs.map fun c => (c, slipOf H7 (.ref c)), upd_same, ((e27.trans g8).trans g9) _ _ hL2, ⟨?_, fun p hp => ?_⟩, ?_⟩
  · rw [List.pairwise_map]
    exact pw
  · rw [perm.mem_iff, mem_mixS]
  · rw [g9 _ _ upd_same]
    simp [refs, Function.comp_def]
  · obtain ⟨c, hc, rfl⟩ := List.mem_map.mp hp
    have hc' := pm.mem_iff.mp hc
    obtain ⟨p, hp', rfl⟩ := List.mem_map.mp hc'
    show _ = some (HO.tup (tupOf (slipOf H7 (.ref p.1))))
    rw [key p hp']
    exact (g8.trans g9) _ _ (tR p hp')
  · rw [List.map_map]
    rfl
end
end Sd

namespace Sd
open PySem L2
/-! ### a day -/
abbrev bkrefs (bl : List (Addr × Bk)) : List V := bl.map fun p => V.ref p.1
structure BksAt (H : Hp) (lb : Addr) (bl : List (Addr × Bk)) : Prop where
  at_ : H lb = some (.lst (bkrefs bl))
  bk : ∀ p ∈ bl, BookAt H p.1 p.2.1 p.2.2
theorem BksAt.mono {H H' : Hp} {lb : Addr} {bl : List (Addr × Bk)} (h : BksAt H lb bl) (e : Same H H') : BksAt H' lb bl := ⟨e _ _ h.at_, fun p hp => (h.bk p hp).mono e⟩
theorem bkref_at {bl : List (Addr × Bk)} {d : Nat} {p : Addr × Bk} (h : bl[d]? = some p) : atI (bkrefs bl) (d : Int) = some (.ref p.1) := atI_nat (by rw [List.getElem?_map, h]; rfl)
def dtup : Deed → List V
  | .put d t => [.str ("put" : Str), .int (d : Int), .str t]
  | .take d t => [.str ("take" : Str), .int (d : Int), .str t]
  | .hear d o => [.str ("hear" : Str), .int (d : Int), .int (o : Int)]
abbrev drefs (rows : List (Addr × Deed)) : List V := rows.map fun p => V.ref p.1
structure DeedsAt (H : Hp) (l : Addr) (rows : List (Addr × Deed)) : Prop where
  at_ : H l = some (.lst (drefs rows))
  tup : ∀ p ∈ rows, H p.1 = some (.tup (dtup p.2))
theorem DeedsAt.mono {H H' : Hp} {l : Addr} {rows : List (Addr × Deed)} (h : DeedsAt H l rows) (e : Same H H') : DeedsAt H' l rows := ⟨e _ _ h.at_, fun p hp => e _ _ (h.tup p hp)⟩
/-- a list of books is written to: the books stay -/
theorem BookAt.beside {H : Hp} {lb b c x y : Addr} {vs : List V} {hd : List Int} {sl : List Slip} {o : HO} (h : BookAt H b hd sl) (hl : H lb = some (.lst vs)) (hv : vs[0]? = some (.ref c)) (hc : H c = some (.tup [.ref x, .ref y])) (hd0 : hd ≠ []) : BookAt (upd H lb o) b hd sl := by
  obtain ⟨l1, l2, as, h0, h1, h2, h3⟩ := h.ex
  have n1 : l1 ≠ lb := fun z => by
    rw [z, hl] at h1
    injection h1 with h1
    injection h1 with h1
    rw [h1] at hv
    cases hd with
    | nil => exact hd0 rfl
    | cons i r => cases hv
  have n2 : l2 ≠ lb := fun z => by
    have q := h2.at_
    rw [z, hl] at q
    injection q with q
    injection q with q
    rw [q] at hv
    cases as with
    | nil => cases hv
    | cons p r =>
      have e : p.1 = c := by
        have hv : some (V.ref p.1) = some (V.ref c) := hv
        injection hv with hv
        injection hv
      have t := h2.tup p List.mem_cons_self
      rw [e, hc] at t
      cases t
  refine ⟨l1, l2, as, ?_, (upd_ne n1).trans h1, ⟨(upd_ne n2).trans h2.at_, fun p hp => ?_⟩, h3⟩
  · rw [upd_ne (ne_of h0 hl (by intro z; cases z))]
    exact h0
  · have t := h2.tup p hp
    rw [upd_ne (ne_of t hl (by intro z; cases z))]
    exact t
theorem leftS_eq (sl : List Slip) (t : Str) : leftS sl t = sl.filter fun s => !decide (s.2.2 = t) := by
  unfold leftS
  congr 1
  funext s
  congr 1
  by_cases e : s.2.2 = t
  · rw [decide_eq_true e, decide_eq_true (by rw [e])]
  · rw [decide_eq_false e, decide_eq_false (fun z => e (by injection z))]
theorem leftS_all {sl : List Slip} {t : Str} (h : (leftS sl t).length = sl.length) : leftS sl t = sl := List.Sublist.eq_of_length List.filter_sublist h
/-- what a deed makes of the book of its desk -/
def StepOf (bks : List Bk) : Deed → Bk → Prop
  | .put d t, m => ∃ b, bks[d]? = some b ∧ m = (b.1.set d (b.1.getD d 0 + 1), putS b.2 (d : Int) ((d : Int), b.1.getD d 0 + 1, t))
  | .take d t, m => ∃ b, bks[d]? = some b ∧ m = (b.1, b.2.filter fun s => !decide (s.2.2 = t))
  | .hear d o, m => ∃ b c, bks[d]? = some b ∧ bks[o]? = some c ∧ MergeOf b c m
theorem DayInv.step {ds : List Deed} {count k : Nat} {bks : List Bk} {x : Deed} {m : Bk} (D : DesksOk ds count) (I : DayInv ds count k bks) (hk : ds[k]? = some x) (h : StepOf bks x m) : DayInv ds count (k + 1) (bks.set x.desk m) := by
  have hd := (D k x hk).1
  cases x with
  | put d t =>
    obtain ⟨b, hb, rfl⟩ := h
    exact I.put hk hd hb
  | take d t =>
    obtain ⟨b, hb, rfl⟩ := h
    exact I.take hk hd hb
  | hear d o =>
    obtain ⟨b, c, hb, hc, M⟩ := h
    exact I.hear D hk hb hc M
def Deed.short : Deed → Prop
  | .put _ t => t.length ≤ 1000
  | .take _ t => t.length ≤ 1000
  | .hear _ _ => True
theorem map_same {α β : Type} (x : β) : ∀ bs : List α, (bs.map fun b => (b, x)).map (·.2) = List.replicate bs.length x
  | [] => rfl
  | b :: bs => by
    have ih := map_same x bs
    rw [List.map_cons, List.map_cons, ih, List.length_cons, List.replicate_succ]
theorem len_le_of_sub {α : Type} [DecidableEq α] : ∀ {l m : List α}, l.Nodup → (∀ x ∈ l, x ∈ m) → l.length ≤ m.length
  | [], _, _, _ => Nat.zero_le _
  | a :: l, m, nd, h => by
    obtain ⟨n1, n2⟩ := List.nodup_cons.mp nd
    have ha := h a List.mem_cons_self
    have ih := len_le_of_sub (l := l) (m := m.erase a) n2 fun x hx => by
      have hne : x ≠ a := fun z => n1 (z ▸ hx)
      exact (List.mem_erase_of_ne hne).mpr (h x (List.mem_cons_of_mem _ hx))
    have e := List.length_erase_of_mem ha
    have p := List.length_pos_of_mem ha
    rw [List.length_cons]
    omega
theorem DayInv.few {ds : List Deed} {count k n : Nat} {bks : List Bk} (I : DayInv ds count k bks) (hk : k ≤ ds.length) (hn : (slipsOf ds (List.range ds.length)).length ≤ n) {d e : Nat} {b c : Bk} (hb : bks[d]? = some b) (hc : bks[e]? = some c) : Few b.2 c.2 n := by
  intro l nd hl
  refine Nat.le_trans (len_le_of_sub nd fun x hx => ?_) hn
  have key : ∀ (d : Nat) (b : Bk), bks[d]? = some b → x ∈ b.2 → x ∈ slipsOf ds (List.range ds.length) := fun d b hb hx => by
    obtain ⟨p, e, t, h1, h2, h3, _⟩ := (I.mem d b hb x).mp hx
    have := known_lt h1
    exact mem_slipsOf.mpr ⟨p, e, t, List.mem_range.mpr (by omega), h2, h3⟩
  rcases hl x hx with z | z
  · exact key d b hb z
  · exact key e c hc z
theorem DayInv.same {ds : List Deed} {count k : Nat} {bks : List Bk} (I : DayInv ds count k bks) {d e : Nat} {b c : Bk} (hb : bks[d]? = some b) (hc : bks[e]? = some c) : ∀ p ∈ b.2, ∀ r ∈ c.2, p.1 = r.1 → p.2.1 = r.2.1 → p = r := by
  intro p hp r hr e1 e2
  obtain ⟨i, x, t, h1, h2, rfl, _⟩ := (I.mem d b hb p).mp hp
  obtain ⟨j, y, u, g1, g2, rfl, _⟩ := (I.mem e c hc r).mp hr
  exact slipsOf_inj (ds := ds) (ps := [i, j]) (mem_slipsOf.mpr ⟨i, x, t, by simp, h2, rfl⟩) (mem_slipsOf.mpr ⟨j, y, u, by simp, g2, rfl⟩) e1 e2
section
variable {P : Program} {w : World} {K : PySem.W.Frag} {mg : Str → Option Value} {base : Heap} {f C : Addr} {fd : FuncData}
/-! ### empty_book, its lists new -/
def spEmptyN : Sp := fun vs H Q _ => ∃ (count : Int), vs = [.int count] ∧ 0 ≤ count ∧ count ≤ 60 ∧ ∀ (r l1 l2 : Addr) (H' : Hp), H l1 = none → H l2 = none → Same H H' → H' r = some (.tup [.ref l1, .ref l2]) → H' l1 = some (.lst ((List.replicate count.toNat (0 : Int)).map V.int)) → H' l2 = some (.lst []) → Q (.ref r) H'
theorem ok_emptyN (F : Fun K "empty_book" "empty_book" sEmpty f fd) : FnOk P w K mg base CX0 1 f fd ["count"] spEmptyN := by
  refine F.ok scEmpty (fun vs H Q E h => ?_) (fun cdv A outer s H vs Q E hr h => ?_)
  · obtain ⟨count, rfl, _⟩ := h
    rfl
  obtain ⟨count, rfl, c0, c1, q⟩ := h
  refine ⟨_, pss_one (ps_ret (pe_tup (pa_cons (pe_op op_rep (pe_lst (pa_cons pe_int pa_nil)) (pv 0)) (pa_cons (pe_lst pa_nil) pa_nil)))), ?_⟩
  refine ⟨(by show 1 ≤ sizeLine; decide), fun p hp => ?_⟩
  refine ⟨_, rfl, p, count, _, rfl, rfl, upd_same, by omega, by omega, ?_, fun p2 hp2 => ⟨(by show 0 ≤ sizeLine; decide), fun p3 hp3 => ⟨(by show 2 ≤ sizeLine; decide), fun r hr' => ?_⟩⟩⟩
  · show 1 * count.toNat ≤ sizeLine
    exact Nat.le_of_lt (small (by omega))
  have g1 := same_new hp (.lst [.int 0])
  have g2 := same_new hp2 (.lst (List.replicate count.toNat [V.int 0]).flatten)
  have g3 := same_new hp3 (.lst [])
  have g4 := same_new hr' (.tup [.ref p2, .ref p3])
  refine q r p2 p3 _ (g1.free hp2) ((g1.trans g2).free hp3) (((g1.trans g2).trans g3).trans g4) upd_same (g4 _ _ (g3 _ _ ?_)) (g4 _ _ upd_same)
  rw [upd_same, rep_zero]
/-! ### book_without -/
def spWithout : Sp := fun vs H Q _ => ∃ (b : Addr) (hd : List Int) (sl : List Slip) (t : Str), vs = [.ref b, .str t] ∧ BookAt H b hd sl ∧ sl.length ≤ 4000 ∧ t.length ≤ 1000 ∧ ∀ (r : Addr) (H' : Hp), Same H H' → BookAt H' r hd (leftS sl t) → Q (.ref r) H'
theorem scWithout : FnScope ["book", "thing"] ["book", "thing"] (defScope sWithout) := ⟨rfl, rfl, rfl, by decide +kernel, rfl, by decide +kernel, by decide +kernel⟩
theorem ok_without (F : Fun K "book_without" "book_without" sWithout f fd) (GT : Fx P w K mg base "taken_out" 1 ["book", "thing"] (spTaken C)) (hm : mg "NoThing" = some (.ref C)) (hex : PySem.W.exmOne K (.ref C) (.ref C) = some true) :
    FnOk P w K mg base CX0 2 f fd ["book", "thing"] spWithout := by
  refine F.ok scWithout (fun vs H Q E h => ?_) (fun cdv A outer s H vs Q E hr h => ?_)
  · obtain ⟨b, hd, sl, t, rfl, _⟩ := h
    rfl
  obtain ⟨b, hd, sl, t, rfl, hb, hn, ht, q⟩ := h
  refine ⟨_, pss_one (ps_try0 rfl rfl rfl hm (fun pins EX => pss_one (ps_ret (pe_fx GT hr rfl (pa_cons (pv 0) (pa_cons (pv 1) pa_nil))))) (fun pins ea oe => pss_one (ps_ret (pv 0)))), ?_⟩
  exact ⟨_, rfl, _, rfl, b, hd, sl, t, rfl, hb, hn, ht, fun c H' g => ⟨hex, _, rfl, q b H' g (by rw [leftS_all c]; exact hb.mono g)⟩, fun c r H' nr g hb' => q r H' g hb'⟩
/-! ### book_behind -/
def spBook1 : Sp := fun vs H Q _ => ∃ (lb ld : Addr) (bl : List (Addr × Bk)) (x : Deed) (count : Nat), vs = [.ref lb, .ref ld] ∧ BksAt H lb bl ∧ H ld = some (.tup (dtup x)) ∧ bl.length = count ∧ 1 ≤ count ∧ count ≤ 60 ∧ x.desk < count ∧ (∀ d o, x = .hear d o → o < count) ∧ x.short ∧
  (∀ p ∈ bl, Wf count p.2 ∧ p.2.2.length ≤ 4000) ∧ (∀ p ∈ bl, ∀ r ∈ bl, Few p.2.2 r.2.2 63 ∧ ∀ a ∈ p.2.2, ∀ b ∈ r.2.2, a.1 = b.1 → a.2.1 = b.2.1 → a = b) ∧
  ∀ (r : Addr) (H' : Hp) (m : Bk), Same H H' → StepOf (bl.map (·.2)) x m → BookAt H' r m.1 m.2 → Q (.ref r) H'
theorem scBook1 : FnScope ["books", "deed", "desk"] ["books", "deed"] (defScope sBook1) := ⟨rfl, rfl, rfl, by decide +kernel, rfl, by decide +kernel, by decide +kernel⟩
theorem ok_book1 (F : Fun K "book_behind" "book_behind" sBook1 f fd) (GP : Fk P w K mg base "put_in" 1 ["book", "desk", "thing"] spPut) (GW : Fk P w K mg base "book_without" 2 ["book", "thing"] spWithout) (GM : Fk P w K mg base "merged_of" 3 ["book", "other"] spMerged) :
    FnOk P w K mg base CX0 4 f fd ["books", "deed"] spBook1 := by
  refine F.ok scBook1 (fun vs H Q E h => ?_) (fun cdv A outer s H vs Q E hr h => ?_)
  · obtain ⟨lb, ld, bl, x, count, rfl, _⟩ := h
    rfl
  obtain ⟨lb, ld, bl, x, count, rfl, hb, hx, hl, c1, c2, hd, ho, hsh, hw, hpair, q⟩ := h
  have nd := scBook1.nd
  refine ⟨_, pss_cons (ps_set (i := 2) nd rfl (Or.inl rfl) (pe_ix ix_tup (pv 1) pe_int (fun _ _ => rfl)))
    (pss_cons (ps_if (pt_cmpR op_eq (pe_ix ix_tup (pv 1) pe_int (fun _ _ => rfl)) pe_str (nomark _)) (pss_one (ps_ret (pe_fk GP (hr.mono (by decide)) rfl (pa_cons (pe_ix ix_list (pv 0) (pv 2) (fun _ _ => rfl)) (pa_cons (pv 2) (pa_cons (pe_ix ix_tup (pv 1) pe_int (fun _ _ => rfl)) pa_nil)))))) pss_nil)
    (pss_cons (ps_if (pt_cmpR op_eq (pe_ix ix_tup (pv 1) pe_int (fun _ _ => rfl)) pe_str (nomark _)) (pss_one (ps_ret (pe_fk GW (hr.mono (by decide)) rfl (pa_cons (pe_ix ix_list (pv 0) (pv 2) (fun _ _ => rfl)) (pa_cons (pe_ix ix_tup (pv 1) pe_int (fun _ _ => rfl)) pa_nil))))) pss_nil)
    (pss_one (ps_ret (pe_fk GM hr rfl (pa_cons (pe_ix ix_list (pv 0) (pv 2) (fun _ _ => rfl)) (pa_cons (pe_ix ix_list (pv 0) (pe_ix ix_tup (pv 1) pe_int (fun _ _ => rfl)) (fun _ _ => rfl)) pa_nil))))))), ?_⟩
  obtain ⟨p, hp⟩ : ∃ p, bl[x.desk]? = some p := ⟨_, List.getElem?_eq_getElem (by omega)⟩
  have hpm := List.mem_of_getElem? hp
  have hbk : (bl.map (·.2))[x.desk]? = some p.2 := by rw [List.getElem?_map, hp]; rfl
  obtain ⟨W, hlen⟩ := hw p hpm
  have no1 : ¬ (V.str ("take" : Str) = V.str ("put" : Str)) := by intro z; injection z with z; revert z; decide
  have no2 : ¬ (V.str ("hear" : Str) = V.str ("put" : Str)) := by intro z; injection z with z; revert z; decide
  have no3 : ¬ (V.str ("hear" : Str) = V.str ("take" : Str)) := by intro z; injection z with z; revert z; decide
  cases x with
  | put d t =>
    refine ⟨_, rfl, _, _, _, _, rfl, rfl, SqT.of hx, rfl, _, rfl, _, _, _, _, rfl, rfl, SqT.of hx, rfl, rfl, _, rfl, ite2 (fun _ => ?_) (fun c => absurd (decide_eq_true rfl) c)⟩
    refine ⟨_, rfl, _, rfl, lb, _, _, _, rfl, rfl, SqL.of hb.at_, bkref_at hp, _, rfl, _, rfl, _, _, _, _, rfl, rfl, SqT.of hx, rfl, p.1, p.2.1, p.2.2, (d : Int), t, rfl, hb.bk p hpm, by omega, by rw [W.len]; exact Int.ofNat_lt.mpr hd, hlen, fun r H' _ g hb' => ?_⟩
    rw [Int.toNat_natCast] at hb'
    exact q r H' _ g ⟨p.2, hbk, rfl⟩ hb'
  | take d t =>
    refine ⟨_, rfl, _, _, _, _, rfl, rfl, SqT.of hx, rfl, _, rfl, _, _, _, _, rfl, rfl, SqT.of hx, rfl, rfl, _, rfl, ite2 (fun c => absurd (of_decide_eq_true c) no1) (fun _ => ?_)⟩
    refine ⟨_, rfl, _, _, _, _, rfl, rfl, SqT.of hx, rfl, rfl, _, rfl, ite2 (fun _ => ?_) (fun c => absurd (decide_eq_true rfl) c)⟩
    refine ⟨_, rfl, _, rfl, lb, _, _, _, rfl, rfl, SqL.of hb.at_, bkref_at hp, _, rfl, _, _, _, _, rfl, rfl, SqT.of hx, rfl, p.1, p.2.1, p.2.2, t, rfl, hb.bk p hpm, hlen, hsh, fun r H' g hb' => ?_⟩
    rw [leftS_eq] at hb'
    exact q r H' (p.2.1, p.2.2.filter fun s => !decide (s.2.2 = t)) g ⟨p.2, hbk, rfl⟩ hb'
  | hear d o =>
    obtain ⟨r, hr'⟩ : ∃ r, bl[o]? = some r := ⟨_, List.getElem?_eq_getElem (by rw [hl]; exact ho d o rfl)⟩
    have hrm := List.mem_of_getElem? hr'
    have hbo : (bl.map (·.2))[o]? = some r.2 := by rw [List.getElem?_map, hr']; rfl
    refine ⟨_, rfl, _, _, _, _, rfl, rfl, SqT.of hx, rfl, _, rfl, _, _, _, _, rfl, rfl, SqT.of hx, rfl, rfl, _, rfl, ite2 (fun c => absurd (of_decide_eq_true c) no2) (fun _ => ?_)⟩
    refine ⟨_, rfl, _, _, _, _, rfl, rfl, SqT.of hx, rfl, rfl, _, rfl, ite2 (fun c => absurd (of_decide_eq_true c) no3) (fun _ => ?_)⟩
    refine ⟨_, rfl, _, rfl, lb, _, _, _, rfl, rfl, SqL.of hb.at_, bkref_at hp, _, rfl, _, rfl, _, _, _, _, rfl, rfl, SqT.of hx, rfl, lb, _, _, _, rfl, rfl, SqL.of hb.at_, bkref_at hr', p.1, r.1, p.2, r.2, count, rfl, hb.bk p hpm, hb.bk r hrm, W, (hw r hrm).1, c1, c2,
      (hpair p hpm r hrm).1, (hpair p hpm r hrm).2, fun r8 H' m _ g M hb' => ?_⟩
    exact q r8 H' m g ⟨p.2, r.2, hbk, hbo, M⟩ hb'
/-! ### books_behind -/
def spBooks : Sp := fun vs H Q _ => ∃ (count : Nat) (ld : Addr) (rows : List (Addr × Deed)), vs = [.int (count : Int), .ref ld] ∧ DeedsAt H ld rows ∧ 1 ≤ count ∧ count ≤ 60 ∧ DesksOk (rows.map (·.2)) count ∧ (∀ p ∈ rows, p.2.short) ∧ (slipsOf (rows.map (·.2)) (List.range rows.length)).length ≤ 63 ∧
  ∀ (r : Addr) (H' : Hp) (bl : List (Addr × Bk)), H r = none → Same H H' → BksAt H' r bl → DayInv (rows.map (·.2)) count rows.length (bl.map (·.2)) → Q (.ref r) H'
theorem scBooks : FnScope ["count", "deeds", "books", "deed"] ["count", "deeds"] (defScope sBooks) := ⟨rfl, rfl, rfl, by decide +kernel, rfl, by decide +kernel, by decide +kernel⟩
/-- a book whose lists are not D -/
def BookNot (H : Hp) (D b : Addr) (hd : List Int) : Prop := ∃ l1 l2, l1 ≠ D ∧ l2 ≠ D ∧ H b = some (.tup [.ref l1, .ref l2]) ∧ H l1 = some (.lst (hd.map V.int)) ∧ H l2 = some (.lst [])
theorem BookNot.at_ {H : Hp} {D b : Addr} {hd : List Int} (h : BookNot H D b hd) : BookAt H b hd [] := by
  obtain ⟨l1, l2, _, _, h0, h1, h2⟩ := h
  exact ⟨l1, l2, [], h0, h1, ⟨h2, fun p hp => absurd hp (by simp)⟩, rfl⟩
theorem BookNot.put {H : Hp} {D b : Addr} {hd : List Int} {ys zs : List V} (h : BookNot H D b hd) (hD : H D = some (.lst ys)) : BookNot (upd H D (.lst zs)) D b hd := by
  obtain ⟨l1, l2, n1, n2, h0, h1, h2⟩ := h
  exact ⟨l1, l2, n1, n2, (upd_ne (ne_of h0 hD (by intro z; cases z))).trans h0, (upd_ne n1).trans h1, (upd_ne n2).trans h2⟩
theorem BookNot.mono {H H' : Hp} {D b : Addr} {hd : List Int} (h : BookNot H D b hd) (e : Same H H') : BookNot H' D b hd := by
  obtain ⟨l1, l2, n1, n2, h0, h1, h2⟩ := h
  exact ⟨l1, l2, n1, n2, e _ _ h0, e _ _ h1, e _ _ h2⟩
theorem ok_books (F : Fun K "books_behind" "books_behind" sBooks f fd) (B : Bt mg) (GE : Fk P w K mg base "empty_book" 1 ["count"] spEmptyN) (GB : Fk P w K mg base "book_behind" 4 ["books", "deed"] spBook1) :
    FnOk P w K mg base CX0 5 f fd ["count", "deeds"] spBooks := by
  refine F.ok scBooks (fun vs H Q E h => ?_) (fun cdv A outer s H vs Q E hr h => ?_)
  · obtain ⟨count, ld, rows, rfl, _⟩ := h
    rfl
  obtain ⟨count, ld, rows, rfl, hds, c1, c2, DK, hsh, hfew, q⟩ := h
  have nd := scBooks.nd
  have hr1 : Room 1 _ := hr.mono (by decide)
  refine ⟨_, pss_cons (ps_lc (j := 2) (fr := [(0, "count")]) rfl (by exact ScC.of (by show ScOk (defScope sBooks) _ _ = true; decide +kernel)) (by exact ⟨⟨rfl, Or.inl rfl, Or.inl rfl⟩, trivial⟩) (by decide +kernel) nd rfl rfl
      (pi_range1 rfl B.rng (pa_cons (pv 0) pa_nil)) (fun _ _ _ _ _ => pif_nil) (fun _ _ _ _ _ => pe_fk GE hr1 rfl (pa_cons (pv 1) pa_nil)))
    (pss_cons (ps_for PassesOwn.never rfl (pi_list (pv 1)) (pg_name (i := 3) nd rfl (Or.inl rfl)) (pss_one (ps_asg (pe_fk GB hr rfl (pa_cons (pv 2) (pa_cons (pv 3) pa_nil))) (pg_sub (pv 2) (pe_ix ix_tup (pv 3) pe_int (fun _ _ => rfl)) set_list))))
    (pss_one (ps_ret (pv 2)))), ?_⟩
  refine ⟨_, rfl, (count : Int), rfl, by omega, by omega, ?_⟩
  rw [Int.toNat_natCast]
  refine lc_rangeN (fun D i ys H2 => ∃ bs : List Addr, ys = bs.map V.ref ∧ bs.length = i ∧ ∀ b ∈ bs, BookNot H2 D b (List.replicate count 0)) (small (by omega)) (fun D i ys H2 ⟨bs, e, l, _⟩ => by rw [e, List.length_map, l]) (fun _ _ _ hR => hR) (fun D hD => ⟨[], rfl, rfl, fun b hb => absurd hb (by simp)⟩) ?_ ?_
  · rintro D i ys H2 R hi hD g2 hDy ⟨bs, rfl, rfl, hbs⟩ hR
    refine ⟨_, rfl, (count : Int), rfl, by omega, by omega, fun r l1 l2 H5 n1 n2 g5 h0 h1 h2 => hR (.ref r) H5 g5 ⟨bs ++ [r], by rw [List.map_append]; rfl, by rw [List.length_append]; rfl, fun b hb => ?_⟩⟩
    rw [Int.toNat_natCast] at h1
    rcases List.mem_append.mp hb with z | z
    · exact ((hbs b z).mono g5).put (g5 _ _ hDy)
    · rw [List.mem_singleton.mp z]
      exact (show BookNot H5 D r _ from ⟨l1, l2, Ne.symm (ne_of_none hDy n1), Ne.symm (ne_of_none hDy n2), h0, h1, h2⟩).put (g5 _ _ hDy)
  rintro lb ys H1 hlb g1 hL ⟨bs, rfl, hlen, hbs⟩
  generalize hds' : rows.map (·.2) = ds at DK hfew q
  have hdl : ds.length = rows.length := by rw [← hds', List.length_map]
  have hrow : ∀ (i : Nat) (p : Addr × Deed), rows[i]? = some p → ds[i]? = some p.2 := fun i p h => by rw [← hds', List.getElem?_map, h]; rfl
  refine ⟨_, rfl, ld, rfl, ⟨_, SqL.of ((hds.mono g1).at_)⟩, for_list (K := K) (a := ld) (xs := drefs rows) (fun i σ H2 => (∃ v, σ = [some (.int (count : Int)), some (.ref ld), some (.ref lb), v]) ∧ Same H H2 ∧ ∃ bl, BksAt H2 lb bl ∧ DayInv ds count i (bl.map (·.2)))
    ⟨⟨none, rfl⟩, g1, bs.map fun b => (b, (List.replicate count 0, [])), ⟨by rw [hL]; simp [bkrefs, Function.comp_def], fun p hp => ?_⟩, ?_⟩ (fun i σ H2 _ ⟨_, g, _⟩ => SqL.of (hds.mono g).at_) ?_ ?_⟩
  · obtain ⟨b, hb, rfl⟩ := List.mem_map.mp hp
    exact (hbs b hb).at_
  · have e : (bs.map fun b => (b, ((List.replicate count 0, []) : Bk))).map (·.2) = List.replicate count (List.replicate count 0, []) := by
      rw [map_same, hlen]
    rw [e]
    exact DayInv.start ds count
  · rintro i y σ H2 hy ⟨⟨v, rfl⟩, g2, bl, hb, I⟩
    have hil : i < rows.length := by
      have z := (List.getElem?_eq_some_iff.mp hy).1
      rw [List.length_map] at z
      exact z
    obtain ⟨p, hp⟩ : ∃ p, rows[i]? = some p := ⟨_, List.getElem?_eq_getElem hil⟩
    obtain rfl : y = .ref p.1 := by
      rw [List.getElem?_map, hp] at hy
      exact (Option.some.inj hy).symm
    have hpm := List.mem_of_getElem? hp
    have hx := (hds.mono g2).tup p hpm
    have hdx := hrow i p hp
    have bll : bl.length = count := by rw [← I.len, List.length_map]
    have D2 := DK i p.2 hdx
    have at_ : ∀ r ∈ bl, ∃ d : Nat, (bl.map (·.2))[d]? = some r.2 := fun r hr' => by
      obtain ⟨d, hd⟩ := List.mem_iff_getElem?.mp hr'
      exact ⟨d, by rw [List.getElem?_map, hd]; rfl⟩
    refine ⟨_, rfl, _, rfl, lb, p.1, bl, p.2, count, rfl, hb, hx, bll, c1, c2, D2.1, D2.2, hsh p hpm, fun r hr' => ?_, fun r hr' r' hr'' => ?_, fun r H3 m g3 st hb3 => ?_⟩
    · obtain ⟨d, hd⟩ := at_ r hr'
      have W := I.wf d _ hd
      refine ⟨W, ?_⟩
      have := (few_len (I.few (by omega) (by rw [hdl]; exact hfew) hd hd)).1 W.lt
      omega
    · obtain ⟨d, hd⟩ := at_ r hr'
      obtain ⟨d', hd'⟩ := at_ r' hr''
      exact ⟨I.few (by omega) (by rw [hdl]; exact hfew) hd hd', I.same hd hd'⟩
    have dk : ∃ z w', dtup p.2 = [z, .int (p.2.desk : Int), w'] := by
      cases p.2 with
      | put d t => exact ⟨_, _, rfl⟩
      | take d t => exact ⟨_, _, rfl⟩
      | hear d o => exact ⟨_, _, rfl⟩
    obtain ⟨z1, z2, edk⟩ := dk
    have hx3 := g3 _ _ hx
    rw [edk] at hx3
    have hb3' := hb.mono g3
    refine ⟨_, rfl, _, rfl, _, _, _, _, rfl, rfl, SqT.of hx3, rfl, lb, _, _, p.2.desk, rfl, rfl, hb3'.at_, ixN_ok (by omega) (by rw [List.length_map, bll]; omega), ?_⟩
    refine ⟨⟨_, rfl⟩, (g2.trans g3).put hlb, bl.set p.2.desk (r, m), ⟨?_, fun r' hr' => ?_⟩, ?_⟩
    · rw [upd_same]
      congr 2
      exact (List.map_set (f := fun p : Addr × Bk => V.ref p.1) (l := bl) (i := p.2.desk) (a := (r, m))).symm
    · obtain ⟨b0, r0, e0⟩ : ∃ b0 r0, bl = b0 :: r0 := by
        cases hbl : bl with
        | nil => rw [hbl] at bll; simp at bll; omega
        | cons b0 r0 => exact ⟨b0, r0, rfl⟩
      obtain ⟨l1, l2, as, k0, k1, k2, k3⟩ := (hb3'.bk b0 (by rw [e0]; exact List.mem_cons_self)).ex
      have hv : (bkrefs bl)[0]? = some (.ref b0.1) := by rw [e0]; rfl
      have hwf : ∀ q' : Addr × Bk, q' ∈ bl → q'.2.1 ≠ [] := fun q' hq' z => by
        obtain ⟨d, hd⟩ := at_ q' hq'
        have := (I.wf d _ hd).len
        rw [z] at this
        simp at this
        omega
      rcases List.mem_or_eq_of_mem_set hr' with z | z
      · exact (hb3'.bk r' z).beside hb3'.at_ hv k0 (hwf r' z)
      · subst z
        refine hb3.beside hb3'.at_ hv k0 ?_
        have := (I.step DK hdx st).wf p.2.desk m (by rw [List.getElem?_set_self]; rw [List.length_map, bll]; exact D2.1)
        intro z
        have l := this.len
        rw [z] at l
        simp at l
        omega
    · rw [show (bl.set p.2.desk (r, m)).map (·.2) = (bl.map (·.2)).set p.2.desk m from List.map_set ..]
      exact I.step DK hdx st
  · rintro σ H2 ⟨⟨v, rfl⟩, g2, bl, hb, I⟩
    refine ⟨_, rfl, q lb H2 bl hlb g2 hb ?_⟩
    rw [show (drefs rows).length = rows.length from List.length_map _] at I
    exact I
end
end Sd

namespace Sd
open PySem L2
/-! ### _law_deeds -/
def deskZ (cs : List Int) (count : Int) (k : Nat) : Int := (cs.getD k 0 / 8 + (k : Int)) % count
def otherZ (cs : List Int) (count : Int) (k : Nat) : Int := (deskZ cs count k + 1 + cs.getD k 0 / 32 % count) % count
def letterZ (cs : List Int) (k : Nat) : Str := (wares cs).getD ((cs.getD k 0 / 16 + (k : Int) / 4) % 4).toNat Str.empty
def deedOf (cs : List Int) (count : Int) (k : Nat) : Deed :=
  if cs.getD k 0 % 8 < 3 then .put (deskZ cs count k).toNat (letterZ cs k) else if cs.getD k 0 % 8 < 5 then .take (deskZ cs count k).toNat (letterZ cs k) else .hear (deskZ cs count k).toNat (otherZ cs count k).toNat
def deedsL (cs : List Int) (count : Int) : List Deed := (List.range cs.length).map (deedOf cs count)
theorem deskZ_ok (cs : List Int) {count : Int} (k : Nat) (h : 1 ≤ count) : 0 ≤ deskZ cs count k ∧ deskZ cs count k < count := ⟨Int.emod_nonneg _ (by omega), Int.emod_lt_of_pos _ (by omega)⟩
theorem otherZ_ok (cs : List Int) {count : Int} (k : Nat) (h : 1 ≤ count) : 0 ≤ otherZ cs count k ∧ otherZ cs count k < count := ⟨Int.emod_nonneg _ (by omega), Int.emod_lt_of_pos _ (by omega)⟩
theorem letter_four (cs : List Int) (z : Int) : atI ((wares cs).map V.str) (z % 4) = some (.str ((wares cs).getD (z % 4).toNat Str.empty)) := by
  have h1 := Int.emod_nonneg z (show (4 : Int) ≠ 0 by decide)
  have h2 := Int.emod_lt_of_pos z (show (0 : Int) < 4 by decide)
  obtain ⟨k, hk⟩ : ∃ k : Nat, z % 4 = (k : Int) := ⟨(z % 4).toNat, by omega⟩
  rw [hk, Int.toNat_natCast]
  have hk4 : k < 4 := by omega
  match k, hk4 with
  | 0, _ => exact atI_nat rfl
  | 1, _ => exact atI_nat rfl
  | 2, _ => exact atI_nat rfl
  | 3, _ => exact atI_nat rfl
theorem letterZ_short (cs : List Int) (k : Nat) : (letterZ cs k).length ≤ 1000 := by
  unfold letterZ
  have h1 := Int.emod_nonneg (cs.getD k 0 / 16 + (k : Int) / 4) (show (4 : Int) ≠ 0 by decide)
  have h2 := Int.emod_lt_of_pos (cs.getD k 0 / 16 + (k : Int) / 4) (show (0 : Int) < 4 by decide)
  generalize hj : ((cs.getD k 0 / 16 + (k : Int) / 4) % 4).toNat = j
  have hj4 : j < 4 := by omega
  have hs := sign_len cs
  match j, hj4 with
  | 0, _ => show (sign cs).length ≤ 1000; omega
  | 1, _ => show (sign cs ++ ("b" : Str)).length ≤ 1000; rw [strLen_append, hs]; decide
  | 2, _ => show ("b" : Str).length ≤ 1000; decide
  | 3, _ =>
    have q : (Txt.mul (sign cs) 40).length ≤ 40 := PyProof.Rows.len_mul_one (c := 97 + signI cs) rfl (by decide)
    show (Txt.mul (sign cs) 40).length ≤ 1000
    omega
theorem deedOf_desk (cs : List Int) (count : Int) (k : Nat) : (deedOf cs count k).desk = (deskZ cs count k).toNat := by
  unfold deedOf
  split
  · rfl
  · split <;> rfl
theorem deedOf_other {cs : List Int} {count : Int} {k d o : Nat} (h : deedOf cs count k = .hear d o) : o = (otherZ cs count k).toNat := by
  unfold deedOf at h
  split at h
  · cases h
  · split at h
    · cases h
    · injection h with _ h
      exact h.symm
theorem deedOf_short (cs : List Int) (count : Int) (k : Nat) : (deedOf cs count k).short := by
  unfold deedOf
  split
  · exact letterZ_short cs k
  · split
    · exact letterZ_short cs k
    · trivial
/-- a deed is put behind the others -/
theorem deeds_push {H : Hp} {l t : Addr} {rows : List (Addr × Deed)} {x : Deed} (h : DeedsAt H l rows) (ht : H t = none) : DeedsAt (upd (upd H t (.tup (dtup x))) l (.lst (drefs rows ++ [.ref t]))) l (rows ++ [(t, x)]) := by
  have nl : l ≠ t := ne_of_none h.at_ ht
  refine ⟨?_, fun p hp => ?_⟩
  · rw [upd_same]
    rw [show drefs (rows ++ [(t, x)]) = drefs rows ++ [V.ref t] from List.map_append]
  · rcases List.mem_append.mp hp with z | z
    · have q := h.tup p z
      rw [upd_ne (ne_of q h.at_ (by intro z; cases z)), upd_ne (ne_of_none q ht)]
      exact q
    · rw [List.mem_singleton.mp z]
      show upd _ l _ t = _
      rw [upd_ne nl.symm]
      exact upd_same
section
variable {P : Program} {w : World} {K : PySem.W.Frag} {mg : Str → Option Value} {base : Heap} {f : Addr} {fd : FuncData}
def spDeeds (K : PySem.W.Frag) : Sp := fun vs H Q _ => ∃ (lc : Addr) (cs : List Int) (count : Int), vs = [.ref lc, .int count] ∧ SqL K H lc (cs.map V.int) ∧ cs.length ≤ 63 ∧ 1 ≤ count ∧ count ≤ 60 ∧
  ∀ (r : Addr) (H' : Hp) (rows : List (Addr × Deed)), H r = none → Same H H' → DeedsAt H' r rows → rows.map (·.2) = deedsL cs count → Q (.ref r) H'
theorem scDeeds : FnScope ["_law_cells", "_law_count", "_law_made", "_law_k", "_law_cell", "_law_desk", "_law_other", "_law_letter"] ["_law_cells", "_law_count"] (defScope sDeeds) := ⟨rfl, rfl, rfl, by decide +kernel, rfl, by decide +kernel, by decide +kernel⟩
theorem ok_deeds (F : Fun K "_law_deeds" "_law_deeds" sDeeds f fd) (B : Bt mg) (GW : Fk P w K mg base "_law_wares" 1 ["_law_cells"] (spWares K)) : FnOk P w K mg base CX0 2 f fd ["_law_cells", "_law_count"] (spDeeds K) := by
  refine F.ok scDeeds (fun vs H Q E h => ?_) (fun cdv A outer s H vs Q E hr h => ?_)
  · obtain ⟨lc, cs, count, rfl, _⟩ := h
    rfl
  obtain ⟨lc, cs, count, rfl, hS, hl, c1, c2, q⟩ := h
  have nd := scDeeds.nd
  have hlm : (cs.map V.int).length = cs.length := List.length_map _
  refine ⟨_, pss_cons (ps_set (i := 2) nd rfl (Or.inl rfl) (pe_lst pa_nil))
    (pss_cons (ps_for PassesOwn.never rfl (pi_range1 rfl B.rng (pa_cons (pe_callB call_len_seq rfl B.len PySem.boot_len (pa_cons (pv 0) pa_nil)) pa_nil)) (pg_name (i := 3) nd rfl (Or.inl rfl))
      (pss_cons (ps_set (i := 4) nd rfl (Or.inl rfl) (pe_ix ix_list (pv 0) (pv 3) (fun _ _ => rfl)))
      (pss_cons (ps_set (i := 5) nd rfl (Or.inl rfl) (pe_op op_mod (pe_op op_add (pe_op op_fdiv (pv 4) pe_int) (pv 3)) (pv 1)))
      (pss_cons (ps_set (i := 6) nd rfl (Or.inl rfl) (pe_op op_mod (pe_op op_add (pe_op op_add (pv 5) pe_int) (pe_op op_mod (pe_op op_fdiv (pv 4) pe_int) (pv 1))) (pv 1)))
      (pss_cons (ps_set (i := 7) nd rfl (Or.inl rfl) (pe_ix ix_list (pe_fk GW hr rfl (pa_cons (pv 0) pa_nil)) (pe_op op_mod (pe_op op_add (pe_op op_fdiv (pv 4) pe_int) (pe_op op_fdiv (pv 3) pe_int)) pe_int) (fun _ _ => rfl)))
      (pss_one (ps_if (pt_cmpR op_lt (pe_op op_mod (pv 4) pe_int) pe_int (nomark _)) (pss_one (ps_expr (pe_app (pv 2) (pa_cons (pe_tup (pa_cons pe_str (pa_cons (pv 5) (pa_cons (pv 7) pa_nil)))) pa_nil))))
        (pss_one (ps_if (pt_cmpR op_lt (pe_op op_mod (pv 4) pe_int) pe_int (nomark _)) (pss_one (ps_expr (pe_app (pv 2) (pa_cons (pe_tup (pa_cons pe_str (pa_cons (pv 5) (pa_cons (pv 7) pa_nil)))) pa_nil))))
          (pss_one (ps_expr (pe_app (pv 2) (pa_cons (pe_tup (pa_cons pe_str (pa_cons (pv 5) (pa_cons (pv 6) pa_nil)))) pa_nil)))))))))))))
    (pss_one (ps_ret (pv 2)))), ?_⟩
  refine ⟨(by show 0 ≤ sizeLine; decide), fun l hl0 => ?_⟩
  have g1 := same_new hl0 (.lst [])
  refine ⟨_, rfl, lc, _, rfl, .inl (g1.seq hS), _, rfl, by omega, by rw [hlm]; omega, ?_⟩
  rw [hlm, Int.toNat_natCast]
  refine for_range (lo := 0) (fun i σ H2 => (∃ v3 v4 v5 v6 v7, σ = [some (.ref lc), some (.int count), some (.ref l), v3, v4, v5, v6, v7]) ∧ Same H H2 ∧ ∃ rows, DeedsAt H2 l rows ∧ rows.map (·.2) = (List.range i).map (deedOf cs count))
    ⟨⟨none, none, none, none, none, rfl⟩, g1, [], ⟨upd_same, fun p hp => absurd hp (by simp)⟩, rfl⟩ ?_ ?_
  · rintro i σ H2 hi ⟨⟨v3, v4, v5, v6, v7, rfl⟩, g2, rows, hd, hz⟩
    have lr : rows.length = i := by
      have := congrArg List.length hz
      rw [List.length_map, List.length_map, List.length_range] at this
      exact this
    have ei : atI (cs.map V.int) (0 + (i : Int)) = some (.int (cs.getD i 0)) := by
      rw [Int.zero_add]
      have := at_int (ns := cs) (k := (i : Int)) (by omega) (by omega)
      rw [Int.toNat_natCast] at this
      exact this
    obtain ⟨d0, d1⟩ := deskZ_ok cs (count := count) i c1
    obtain ⟨o0, o1⟩ := otherZ_ok cs (count := count) i c1
    refine ⟨_, rfl, _, rfl, lc, _, _, _, rfl, rfl, g2.seq hS, ei, ?_⟩
    rw [Int.zero_add]
    refine ⟨_, rfl, _, _, rfl, rfl, ⟨by decide, by decide⟩, _, rfl, _, _, rfl, rfl, _, rfl, _, _, rfl, rfl, by omega, ?_⟩
    refine ⟨_, rfl, _, _, rfl, rfl, _, rfl, _, _, rfl, rfl, ⟨by decide, by decide⟩, _, rfl, _, _, rfl, rfl, by omega, _, _, rfl, rfl, _, rfl, _, _, rfl, rfl, by omega, ?_⟩
    refine ⟨_, rfl, lc, cs, rfl, g2.seq hS, fun r3 H3 n3 g3 e3 => ?_⟩
    refine ⟨_, rfl, _, _, rfl, rfl, ⟨by decide, by decide⟩, _, rfl, _, _, rfl, rfl, ⟨by decide, by decide⟩, _, _, rfl, rfl, _, _, rfl, rfl, (by show (0 : Int) < 4; decide), r3, _, _, _, rfl, rfl, SqL.of e3, letter_four cs _, ?_⟩
    have hd3 := hd.mono g3
    have next : ∀ (x : Deed) (t : Addr), H3 t = none → x = deedOf cs count i → Same H (upd (upd H3 t (.tup (dtup x))) l (.lst (drefs rows ++ [.ref t]))) ∧ ∃ rows', DeedsAt (upd (upd H3 t (.tup (dtup x))) l (.lst (drefs rows ++ [.ref t]))) l rows' ∧ rows'.map (·.2) = (List.range (i + 1)).map (deedOf cs count) := by
      intro x t ht ex
      refine ⟨((g2.trans g3).trans (same_new ht _)).put hl0, rows ++ [(t, x)], deeds_push hd3 ht, ?_⟩
      rw [List.map_append, hz, List.range_succ, List.map_append, ex]
      rfl
    have lz : (drefs rows).length < sizeLine := by rw [List.length_map, lr]; exact small (by omega)
    have dI : ((deskZ cs count i).toNat : Int) = deskZ cs count i := Int.toNat_of_nonneg d0
    have oI : ((otherZ cs count i).toNat : Int) = otherZ cs count i := Int.toNat_of_nonneg o0
    refine ⟨_, rfl, _, _, rfl, rfl, (by show (0 : Int) < 8; decide), _, _, rfl, rfl, _, rfl, ite2 (fun c => ?_) (fun c => ?_)⟩
    · have c' : cs.getD i 0 % 8 < 3 := of_decide_eq_true c
      refine ⟨_, rfl, .inl ⟨rfl, _, SqL.of hd3.at_⟩, _, rfl, _, rfl, (by show 3 ≤ sizeLine; decide), fun t ht => ⟨l, _, _, rfl, rfl, (same_new ht _) _ _ hd3.at_, lz, ?_⟩⟩
      have nx := next (.put (deskZ cs count i).toNat (letterZ cs i)) t ht (by unfold deedOf; rw [if_pos c'])
      rw [show dtup (.put (deskZ cs count i).toNat (letterZ cs i)) = [V.str ("put" : Str), V.int (deskZ cs count i), V.str (letterZ cs i)] from by show [V.str ("put" : Str), V.int (((deskZ cs count i).toNat : Nat) : Int), V.str (letterZ cs i)] = _; rw [dI]] at nx
      exact ⟨⟨_, _, _, _, _, rfl⟩, nx⟩
    · have c' : ¬ cs.getD i 0 % 8 < 3 := fun z => c (decide_eq_true z)
      refine ⟨_, rfl, _, _, rfl, rfl, (by show (0 : Int) < 8; decide), _, _, rfl, rfl, _, rfl, ite2 (fun e => ?_) (fun e => ?_)⟩
      · have e' : cs.getD i 0 % 8 < 5 := of_decide_eq_true e
        refine ⟨_, rfl, .inl ⟨rfl, _, SqL.of hd3.at_⟩, _, rfl, _, rfl, (by show 3 ≤ sizeLine; decide), fun t ht => ⟨l, _, _, rfl, rfl, (same_new ht _) _ _ hd3.at_, lz, ?_⟩⟩
        have nx := next (.take (deskZ cs count i).toNat (letterZ cs i)) t ht (by unfold deedOf; rw [if_neg c', if_pos e'])
        rw [show dtup (.take (deskZ cs count i).toNat (letterZ cs i)) = [V.str ("take" : Str), V.int (deskZ cs count i), V.str (letterZ cs i)] from by show [V.str ("take" : Str), V.int (((deskZ cs count i).toNat : Nat) : Int), V.str (letterZ cs i)] = _; rw [dI]] at nx
        exact ⟨⟨_, _, _, _, _, rfl⟩, nx⟩
      · have e' : ¬ cs.getD i 0 % 8 < 5 := fun z => e (decide_eq_true z)
        refine ⟨_, rfl, .inl ⟨rfl, _, SqL.of hd3.at_⟩, _, rfl, _, rfl, (by show 3 ≤ sizeLine; decide), fun t ht => ⟨l, _, _, rfl, rfl, (same_new ht _) _ _ hd3.at_, lz, ?_⟩⟩
        have nx := next (.hear (deskZ cs count i).toNat (otherZ cs count i).toNat) t ht (by unfold deedOf; rw [if_neg c', if_neg e'])
        rw [show dtup (.hear (deskZ cs count i).toNat (otherZ cs count i).toNat) = [V.str ("hear" : Str), V.int (deskZ cs count i), V.int (otherZ cs count i)] from by show [V.str ("hear" : Str), V.int (((deskZ cs count i).toNat : Nat) : Int), V.int (((otherZ cs count i).toNat : Nat) : Int)] = _; rw [dI, oI]] at nx
        exact ⟨⟨_, _, _, _, _, rfl⟩, nx⟩
  · rintro σ H2 ⟨⟨v3, v4, v5, v6, v7, rfl⟩, g2, rows, hd, hz⟩
    exact ⟨_, rfl, q l H2 rows hl0 g2 hd hz⟩
/-! ### _law_same -/
def spSame : Sp := fun vs H Q _ => ∃ (a b : Addr) (rows : List (Addr × Deed)), vs = [.ref a, .ref b] ∧ DeedsAt H a rows ∧ DeedsAt H b rows ∧ rows.length ≤ 4000 ∧ Q (.bl true) H
theorem scSame : FnScope ["_law_handed", "_law_asked", "_law_k"] ["_law_handed", "_law_asked"] (defScope sSame) := ⟨rfl, rfl, rfl, by decide +kernel, rfl, by decide +kernel, by decide +kernel⟩
theorem kit_is (K : PySem.W.Frag) : PySem.W.kitOne K (.type "int") (.type "str") = some false := by rfl
theorem dtup_pln (x : Deed) : (dtup x).all plnV = true := by cases x <;> rfl
theorem ok_same (F : Fun K "_law_same" "_law_same" sSame f fd) (B : Bt mg) (GW : Fk P w K mg base "_law_whole" 1 ["_law_found"] spWhole) : FnOk P w K mg base CX0 2 f fd ["_law_handed", "_law_asked"] spSame := by
  refine F.ok scSame (fun vs H Q E h => ?_) (fun cdv A outer s H vs Q E hr h => ?_)
  · obtain ⟨a, b, rows, rfl, _⟩ := h
    rfl
  obtain ⟨a, b, rows, rfl, ha, hb, hn, q⟩ := h
  have nd := scSame.nd
  have hl : (drefs rows).length = rows.length := List.length_map _
  refine ⟨_, pss_cons (ps_if (pt_cmpR op_ne (pe_callB call_len_seq rfl B.len PySem.boot_len (pa_cons (pv 0) pa_nil)) (pe_callB call_len_seq rfl B.len PySem.boot_len (pa_cons (pv 1) pa_nil)) (nomark _)) (pss_one (ps_ret pe_bl)) pss_nil)
    (pss_cons (ps_for PassesOwn.never rfl (pi_range1 rfl B.rng (pa_cons (pe_callB call_len_seq rfl B.len PySem.boot_len (pa_cons (pv 1) pa_nil)) pa_nil)) (pg_name (i := 2) nd rfl (Or.inl rfl))
      (pss_cons (ps_if (PW.pt (pw_or (pt_not (pt_val (pe_callB ck_isinst rfl B.isi PyProof.Rows.boot_isinstance (pa_cons (pe_ix ix_list (pv 0) (pv 2) (fun _ _ => rfl)) (pa_cons (pe_bltn (v := .ty "tuple") rfl B.tuple PyProof.Rows.boot_tuple rfl) pa_nil)))))
        (pw_or1 (pt_cmpR op_ne (pe_callB call_len_seq rfl B.len PySem.boot_len (pa_cons (pe_ix ix_list (pv 0) (pv 2) (fun _ _ => rfl)) pa_nil)) pe_int (nomark _))))) (pss_one (ps_ret pe_bl)) pss_nil)
      (pss_cons (ps_if (PW.pt (pw_or (pt_not (pt_val (pe_callB ck_isinst rfl B.isi PyProof.Rows.boot_isinstance (pa_cons (pe_ix ix_tup (pe_ix ix_list (pv 0) (pv 2) (fun _ _ => rfl)) pe_int (fun _ _ => rfl)) (pa_cons (pe_bltn (v := .ty "str") rfl B.str PyProof.Rows.boot_str rfl) pa_nil)))))
        (pw_or1 (pt_not (pt_val (pe_fk GW hr rfl (pa_cons (pe_ix ix_tup (pe_ix ix_list (pv 0) (pv 2) (fun _ _ => rfl)) pe_int (fun _ _ => rfl)) pa_nil))))))) (pss_one (ps_ret pe_bl)) pss_nil)
      (pss_cons (ps_if (PW.pt (pw_and (pt_not (pt_val (pe_callB ck_isinst rfl B.isi PyProof.Rows.boot_isinstance (pa_cons (pe_ix ix_tup (pe_ix ix_list (pv 0) (pv 2) (fun _ _ => rfl)) pe_int (fun _ _ => rfl)) (pa_cons (pe_bltn (v := .ty "str") rfl B.str PyProof.Rows.boot_str rfl) pa_nil)))))
        (pw_and1 (pt_not (pt_val (pe_fk GW hr rfl (pa_cons (pe_ix ix_tup (pe_ix ix_list (pv 0) (pv 2) (fun _ _ => rfl)) pe_int (fun _ _ => rfl)) pa_nil))))))) (pss_one (ps_ret pe_bl)) pss_nil)
      (pss_one (ps_if (pt_cmpR (ok_neT hr.units0) (pe_ix ix_list (pv 0) (pv 2) (fun _ _ => rfl)) (pe_ix ix_list (pv 1) (pv 2) (fun _ _ => rfl)) (nomark _)) (pss_one (ps_ret pe_bl)) pss_nil))))))
    (pss_one (ps_ret pe_bl))), ?_⟩
  refine ⟨_, rfl, a, _, rfl, .inl (SqL.of ha.at_), _, rfl, b, _, rfl, .inl (SqL.of hb.at_), rfl, _, rfl, iteNS rfl ?_⟩
  refine ⟨_, rfl, b, _, rfl, .inl (SqL.of hb.at_), _, rfl, by omega, by rw [hl]; omega, ?_⟩
  refine for_range (lo := 0) (fun i σ H2 => H2 = H ∧ ∃ v, σ = [some (.ref a), some (.ref b), v]) ⟨rfl, none, rfl⟩ ?_ ?_
  · rintro i σ H2 hi ⟨rfl, v, rfl⟩
    have hi' : i < rows.length := by rw [hl, Int.toNat_natCast] at hi; exact hi
    have ei : atI (drefs rows) (0 + (i : Int)) = some (.ref rows[i].1) := at_any (by rw [List.getElem?_map, List.getElem?_eq_getElem hi']; rfl)
    have ht := ha.tup rows[i] (List.getElem_mem hi')
    generalize rows[i] = p at ei ht
    have key : ∃ (s1 : Str) (d1 : Nat) (z : V), dtup p.2 = [.str s1, .int (d1 : Int), z] ∧ ((∃ t, z = .str t) ∨ ∃ o : Int, z = .int o) := by
      cases p.2 with
      | put d t => exact ⟨_, _, _, rfl, .inl ⟨_, rfl⟩⟩
      | take d t => exact ⟨_, _, _, rfl, .inl ⟨_, rfl⟩⟩
      | hear d o => exact ⟨_, _, _, rfl, .inr ⟨_, rfl⟩⟩
    obtain ⟨s1, d1, z, ez, hz⟩ := key
    have pl := dtup_pln p.2
    rw [ez] at ht pl
    refine ⟨_, rfl, _, rfl, a, _, _, _, rfl, rfl, SqL.of ha.at_, ei, _, _, _, _, rfl, TyOf.tup ht, kit_same K "tuple", _, rfl, iteF ?_⟩
    refine ⟨_, rfl, _, rfl, a, _, _, _, rfl, rfl, SqL.of ha.at_, ei, p.1, _, rfl, .inr (SqT.of ht), rfl, _, rfl, iteNS rfl ?_⟩
    refine ⟨_, rfl, _, rfl, a, _, _, _, rfl, rfl, SqL.of ha.at_, ei, _, _, _, _, rfl, rfl, SqT.of ht, rfl, _, _, _, _, rfl, TyOf.str _, kit_same K "str", _, rfl, iteF ?_⟩
    refine ⟨_, rfl, _, rfl, a, _, _, _, rfl, rfl, SqL.of ha.at_, ei, _, _, _, _, rfl, rfl, SqT.of ht, rfl, _, rfl, _, rfl, iteF ?_⟩
    rcases hz with ⟨t, rfl⟩ | ⟨o, rfl⟩
    · refine ⟨_, rfl, _, rfl, a, _, _, _, rfl, rfl, SqL.of ha.at_, ei, _, _, _, _, rfl, rfl, SqT.of ht, rfl, _, _, _, _, rfl, TyOf.str _, kit_same K "str", _, rfl, iteF ?_⟩
      exact ⟨_, rfl, _, rfl, a, _, _, _, rfl, rfl, SqL.of ha.at_, ei, _, rfl, _, rfl, b, _, _, _, rfl, rfl, SqL.of hb.at_, ei, p.1, p.1, _, _, rfl, rfl, SqT.of ht, SqT.of ht, pl, pl, _, rfl, iteNS rfl ⟨rfl, _, rfl⟩⟩
    · refine ⟨_, rfl, _, rfl, a, _, _, _, rfl, rfl, SqL.of ha.at_, ei, _, _, _, _, rfl, rfl, SqT.of ht, rfl, _, _, _, _, rfl, TyOf.int _, kit_is K, _, rfl, iteT ?_⟩
      refine ⟨_, rfl, _, rfl, a, _, _, _, rfl, rfl, SqL.of ha.at_, ei, _, _, _, _, rfl, rfl, SqT.of ht, rfl, _, rfl, _, rfl, iteF ?_⟩
      exact ⟨_, rfl, _, rfl, a, _, _, _, rfl, rfl, SqL.of ha.at_, ei, _, rfl, _, rfl, b, _, _, _, rfl, rfl, SqL.of hb.at_, ei, p.1, p.1, _, _, rfl, rfl, SqT.of ht, SqT.of ht, pl, pl, _, rfl, iteNS rfl ⟨rfl, _, rfl⟩⟩
  · rintro σ H2 ⟨rfl, v, rfl⟩
    exact q
end
end Sd

namespace Sd
open PySem L2
/-! ### _law_past -/
abbrev nv (n : Nat) : V := .int (n : Int)
theorem inV_nv (x : Nat) : ∀ ks : List Nat, inV (nv x) (ks.map nv) = decide (x ∈ ks)
  | [] => rfl
  | k :: ks => by
    have ih := inV_nv x ks
    unfold inV at ih ⊢
    rw [List.map_cons, List.any_cons, ih]
    show (((k : Int) == (x : Int)) || decide (x ∈ ks)) = decide (x ∈ k :: ks)
    by_cases e : x = k
    · subst e; simp
    · rw [show ((k : Int) == (x : Int)) = false from beq_eq_false_iff_ne.mpr (by omega), Bool.false_or]
      refine decide_eq_decide.mpr ?_
      rw [List.mem_cons]
      exact ⟨.inr, fun z => z.elim (fun y => absurd y e) id⟩
theorem flat_nv : ∀ ks : List Nat, (ks.map nv).all flatV = true
  | [] => rfl
  | k :: ks => by
    rw [List.map_cons, List.all_cons, flat_nv ks]
    rfl
structure PastAt (H0 H : Hp) (lk la : Addr) (kl al : List Addr) (ds : List Deed) (count i : Nat) (kn : Nat → List Nat) : Prop where
  same : Same H0 H
  fresh : ∀ b ∈ lk :: la :: (kl ++ al), H0 b = none
  nd : (lk :: la :: (kl ++ al)).Nodup
  hk : H lk = some (.lst (kl.map V.ref))
  kat : ∀ d b, kl[d]? = some b → H b = some (.lst ((kn d).map nv))
  len : kl.length = count
  ha : H la = some (.lst (al.map V.ref))
  aat : ∀ j b, al[j]? = some b → H b = some (.lst ((aheadL ds j).map nv))
  lena : al.length = i
section
variable {H0 H H' : Hp} {lk la : Addr} {kl al : List Addr} {ds : List Deed} {count i : Nat} {kn : Nat → List Nat}
theorem PastAt.mono (h : PastAt H0 H lk la kl al ds count i kn) (e : Same H H') : PastAt H0 H' lk la kl al ds count i kn :=
  ⟨h.same.trans e, h.fresh, h.nd, e _ _ h.hk, fun d b q => e _ _ (h.kat d b q), h.len, e _ _ h.ha, fun j b q => e _ _ (h.aat j b q), h.lena⟩
theorem PastAt.there (h : PastAt H0 H lk la kl al ds count i kn) : ∀ b ∈ lk :: la :: (kl ++ al), ∃ xs, H b = some (.lst xs) := fun b hb => by
  rcases List.mem_cons.mp hb with rfl | hb
  · exact ⟨_, h.hk⟩
  rcases List.mem_cons.mp hb with rfl | hb
  · exact ⟨_, h.ha⟩
  rcases List.mem_append.mp hb with hb | hb
  · obtain ⟨d, hd⟩ := List.mem_iff_getElem?.mp hb
    exact ⟨_, h.kat d b hd⟩
  · obtain ⟨d, hd⟩ := List.mem_iff_getElem?.mp hb
    exact ⟨_, h.aat d b hd⟩
theorem PastAt.known (h : PastAt H0 H lk la kl al ds count i kn) {d x : Nat} {b : Addr} (hb : kl[d]? = some b) : PastAt H0 (upd H b (.lst ((kn d ++ [x]).map nv))) lk la kl al ds count i (fun e => if e = d then kn d ++ [x] else kn e) := by
  have hm := List.mem_of_getElem? hb
  obtain ⟨n1, nd1⟩ := List.nodup_cons.mp h.nd
  obtain ⟨n2, nd2⟩ := List.nodup_cons.mp nd1
  obtain ⟨k1, k2, k3⟩ := List.nodup_append.mp nd2
  have b1 : lk ≠ b := fun z => n1 (List.mem_cons_of_mem _ (List.mem_append_left _ (z ▸ hm)))
  have b2 : la ≠ b := fun z => n2 (List.mem_append_left _ (z ▸ hm))
  refine ⟨h.same.put (h.fresh b (List.mem_cons_of_mem _ (List.mem_cons_of_mem _ (List.mem_append_left _ hm)))), h.fresh, h.nd, (upd_ne b1).trans h.hk, fun d' b' hb' => ?_, h.len, (upd_ne b2).trans h.ha, fun j b' hb' => ?_, h.lena⟩
  · by_cases e : d' = d
    · subst e
      rw [hb] at hb'
      cases hb'
      rw [upd_same, if_pos rfl]
    · have nb : b' ≠ b := fun z => by
        subst z
        have l1 := (List.getElem?_eq_some_iff.mp hb).1
        have l2 := (List.getElem?_eq_some_iff.mp hb').1
        have e1 := (List.getElem?_eq_some_iff.mp hb).2
        have e2 := (List.getElem?_eq_some_iff.mp hb').2
        rcases Nat.lt_or_gt_of_ne e with z | z
        · exact List.pairwise_iff_getElem.mp k1 d' d l2 l1 z (e2.trans e1.symm)
        · exact List.pairwise_iff_getElem.mp k1 d d' l1 l2 z (e1.trans e2.symm)
      rw [upd_ne nb, if_neg e]
      exact h.kat d' b' hb'
  · have nb : b' ≠ b := fun z => k3 b hm b' (List.mem_of_getElem? hb') z.symm
    rw [upd_ne nb]
    exact h.aat j b' hb'
theorem PastAt.ahead (h : PastAt H0 H lk la kl al ds count i kn) {c : Addr} (hc : H c = none) (e : aheadL ds i = kn (ds.getD i (.hear 0 0)).desk) :
    PastAt H0 (upd (upd H c (.lst ((kn (ds.getD i (.hear 0 0)).desk).map nv))) la (.lst (al.map V.ref ++ [.ref c]))) lk la kl (al ++ [c]) ds count (i + 1) kn := by
  obtain ⟨n1, nd1⟩ := List.nodup_cons.mp h.nd
  obtain ⟨n2, nd2⟩ := List.nodup_cons.mp nd1
  have nc : ∀ b ∈ lk :: la :: (kl ++ al), b ≠ c := fun b hb => by
    obtain ⟨xs, q⟩ := h.there b hb
    exact ne_of_none q hc
  have c0 : H0 c = none := h.same.free hc
  have mem : ∀ b, b ∈ lk :: la :: (kl ++ (al ++ [c])) → b ∈ lk :: la :: (kl ++ al) ∨ b = c := fun b hb => by
    rw [← List.append_assoc] at hb
    rcases List.mem_cons.mp hb with z | hb
    · exact .inl (z ▸ List.mem_cons_self)
    rcases List.mem_cons.mp hb with z | hb
    · exact .inl (List.mem_cons_of_mem _ (z ▸ List.mem_cons_self))
    rcases List.mem_append.mp hb with hb | hb
    · exact .inl (List.mem_cons_of_mem _ (List.mem_cons_of_mem _ hb))
    · exact .inr (List.mem_singleton.mp hb)
  have e2 : lk :: la :: (kl ++ (al ++ [c])) = (lk :: la :: (kl ++ al)) ++ [c] := by simp
  have ila : la ∈ lk :: la :: (kl ++ al) := List.mem_cons_of_mem _ List.mem_cons_self
  have kn1 : ∀ b ∈ kl, b ≠ la := fun b hb z => n2 (List.mem_append_left _ (z ▸ hb))
  have an1 : ∀ b ∈ al, b ≠ la := fun b hb z => n2 (List.mem_append_right _ (z ▸ hb))
  refine ⟨(h.same.trans (same_new hc _)).put (h.fresh la ila), fun b hb => (mem b hb).elim (h.fresh b) fun z => z ▸ c0, ?_, ?_, fun d b hb => ?_, h.len, ?_, fun j b hb => ?_, ?_⟩
  · rw [e2, List.nodup_append]
    exact ⟨h.nd, by simp, fun a ha b hb => by rw [List.mem_singleton.mp hb]; exact nc a ha⟩
  · have : lk ≠ la := fun z => n1 (z ▸ List.mem_cons_self)
    rw [upd_ne this, upd_ne (nc lk List.mem_cons_self)]
    exact h.hk
  · have hm := List.mem_of_getElem? hb
    rw [upd_ne (kn1 b hm), upd_ne (nc b (List.mem_cons_of_mem _ (List.mem_cons_of_mem _ (List.mem_append_left _ hm))))]
    exact h.kat d b hb
  · rw [upd_same, List.map_append]
    rfl
  · by_cases q : j < al.length
    · rw [List.getElem?_append_left q] at hb
      have hm := List.mem_of_getElem? hb
      rw [upd_ne (an1 b hm), upd_ne (nc b (List.mem_cons_of_mem _ (List.mem_cons_of_mem _ (List.mem_append_right _ hm))))]
      exact h.aat j b hb
    · rw [List.getElem?_append_right (by omega)] at hb
      have hj : j - al.length = 0 := by
        have := (List.getElem?_eq_some_iff.mp hb).1
        simp at this
        omega
      rw [hj] at hb
      have hbc : b = c := (Option.some.inj hb).symm
      have ej : j = i := by have := h.lena; omega
      rw [hbc, upd_ne (nc la ila).symm, upd_same, ej, e]
  · rw [List.length_append, h.lena]
    rfl
end
theorem joinK_snoc (a b : List Nat) (x : Nat) : joinK a (b ++ [x]) = if x ∈ joinK a b then joinK a b else joinK a b ++ [x] := by
  unfold joinK
  rw [List.foldl_append]
  rfl
theorem known_put {ds : List Deed} {i e : Nat} {t : Str} (h : ds[i]? = some (.put e t)) : knownL ds (i + 1) = fun d => if d = e then knownL ds i e ++ [i] else knownL ds i d := by
  funext d
  conv => lhs; unfold knownL
  rw [h]
  show (if d = e then _ else _) = _
  by_cases q : d = e
  · rw [if_pos q, if_pos q, q]
  · rw [if_neg q, if_neg q]
theorem known_take {ds : List Deed} {i e : Nat} {t : Str} (h : ds[i]? = some (.take e t)) : knownL ds (i + 1) = fun d => if d = e then knownL ds i e ++ [i] else knownL ds i d := by
  funext d
  conv => lhs; unfold knownL
  rw [h]
  show (if d = e then _ else _) = _
  by_cases q : d = e
  · rw [if_pos q, if_pos q, q]
  · rw [if_neg q, if_neg q]
theorem known_hear {ds : List Deed} {i e o : Nat} (h : ds[i]? = some (.hear e o)) : knownL ds (i + 1) = fun d => if d = e then joinK (knownL ds i e) (knownL ds i o) else knownL ds i d := by
  funext d
  conv => lhs; unfold knownL
  rw [h]
  show (if d = e then _ else _) = _
  by_cases q : d = e
  · rw [if_pos q, if_pos q, q]
  · rw [if_neg q, if_neg q]
theorem ahead_at {ds : List Deed} {i : Nat} {x : Deed} (h : ds[i]? = some x) : aheadL ds i = knownL ds i (ds.getD i (.hear 0 0)).desk := by
  unfold aheadL
  rw [h, List.getD_eq_getElem?_getD, h]
  rfl
theorem known_len (ds : List Deed) (k d : Nat) : (knownL ds k d).length ≤ k := nodup_range k _ (known_nodup k d) fun x hx => known_lt hx
theorem join_len (ds : List Deed) (k d o j : Nat) : (joinK (knownL ds k d) ((knownL ds k o).take j)).length ≤ k := by
  refine nodup_range k _ (nodup_joinK _ _ (known_nodup k d)) fun x hx => ?_
  rcases (mem_joinK _ _ _).mp hx with z | z
  · exact known_lt z
  · exact known_lt (List.mem_of_mem_take z)
section
variable {P : Program} {w : World} {K : PySem.W.Frag} {mg : Str → Option Value} {base : Heap} {f : Addr} {fd : FuncData}
def spPast : Sp := fun vs H Q _ => ∃ (l : Addr) (rows : List (Addr × Deed)) (count : Nat), vs = [.ref l, .int (count : Int)] ∧ DeedsAt H l rows ∧ DesksOk (rows.map (·.2)) count ∧ 1 ≤ count ∧ count ≤ 60 ∧ rows.length ≤ 4000 ∧
  ∀ (r : Addr) (H' : Hp) (lk la : Addr) (kl al : List Addr), H r = none → PastAt H H' lk la kl al (rows.map (·.2)) count rows.length (knownL (rows.map (·.2)) rows.length) → H' r = some (.tup [.ref lk, .ref la]) → Q (.ref r) H'
theorem scPast : FnScope ["_law_asked", "_law_count", "_law_known", "_law_ahead", "_law_k", "_law_desk", "_law_old"] ["_law_asked", "_law_count"] (defScope sPast) := ⟨rfl, rfl, rfl, by decide +kernel, rfl, by decide +kernel, by decide +kernel⟩
theorem ok_past (F : Fun K "_law_past" "_law_past" sPast f fd) (B : Bt mg) : FnOk P w K mg base CX0 1 f fd ["_law_asked", "_law_count"] spPast := by
  refine F.ok scPast (fun vs H Q E h => ?_) (fun cdv A outer s H vs Q E hr h => ?_)
  · obtain ⟨l, rows, count, rfl, _⟩ := h
    rfl
  obtain ⟨l, rows, count, rfl, hds, DK, c1, c2, hn, q⟩ := h
  have nd := scPast.nd
  refine ⟨_, pss_cons (ps_lc (j := 2) (fr := []) rfl (by exact ScC.of (by show ScOk (defScope sPast) _ _ = true; decide +kernel)) (by exact trivial) (by decide +kernel) nd rfl rfl (pi_range1 rfl B.rng (pa_cons (pv 1) pa_nil)) (fun _ _ _ _ _ => pif_nil) (fun _ _ _ _ _ => pe_lst pa_nil))
    (pss_cons (ps_set (i := 3) nd rfl (Or.inl rfl) (pe_lst pa_nil))
    (pss_cons (ps_for PassesOwn.never rfl (pi_range1 rfl B.rng (pa_cons (pe_callB call_len_seq rfl B.len PySem.boot_len (pa_cons (pv 0) pa_nil)) pa_nil)) (pg_name (i := 4) nd rfl (Or.inl rfl))
      (pss_cons (ps_set (i := 5) nd rfl (Or.inl rfl) (pe_ix ix_tup (pe_ix ix_list (pv 0) (pv 4) (fun _ _ => rfl)) pe_int (fun _ _ => rfl)))
      (pss_cons (ps_expr (pe_app (pv 3) (pa_cons (pe_callTy call_list_of rfl B.list PyProof.Rows.boot_list (pa_cons (pe_ix ix_list (pv 2) (pv 5) (fun _ _ => rfl)) pa_nil)) pa_nil)))
      (pss_one (ps_if (pt_cmpR op_ne (pe_ix ix_tup (pe_ix ix_list (pv 0) (pv 4) (fun _ _ => rfl)) pe_int (fun _ _ => rfl)) pe_str (nomark _)) (pss_one (ps_expr (pe_app (pe_ix ix_list (pv 2) (pv 5) (fun _ _ => rfl)) (pa_cons (pv 4) pa_nil))))
        (pss_one (ps_for PassesOwn.never rfl (pi_list (pe_callTy call_list_of rfl B.list PyProof.Rows.boot_list (pa_cons (pe_ix ix_list (pv 2) (pe_ix ix_tup (pe_ix ix_list (pv 0) (pv 4) (fun _ _ => rfl)) pe_int (fun _ _ => rfl)) (fun _ _ => rfl)) pa_nil))) (pg_name (i := 6) nd rfl (Or.inl rfl))
          (pss_one (ps_if (pt_cmpR op_notIn_seq (pv 6) (pe_ix ix_list (pv 2) (pv 5) (fun _ _ => rfl)) rfl) (pss_one (ps_expr (pe_app (pe_ix ix_list (pv 2) (pv 5) (fun _ _ => rfl)) (pa_cons (pv 6) pa_nil)))) pss_nil)))))))))
    (pss_one (ps_ret (pe_tup (pa_cons (pv 2) (pa_cons (pv 3) pa_nil))))))), ?_⟩
  generalize hds' : rows.map (·.2) = ds at DK q
  have hrow : ∀ (i : Nat) (p : Addr × Deed), rows[i]? = some p → ds[i]? = some p.2 := fun i p h => by rw [← hds', List.getElem?_map, h]; rfl
  have hl : (drefs rows).length = rows.length := List.length_map _
  -- known
  refine ⟨_, rfl, (count : Int), rfl, by omega, by omega, ?_⟩
  rw [Int.toNat_natCast]
  refine lc_rangeN (fun D i ys H2 => ∃ kl : List Addr, ys = kl.map V.ref ∧ kl.length = i ∧ kl.Nodup ∧ D ∉ kl ∧ ∀ b ∈ kl, H b = none ∧ H2 b = some (.lst [])) (small (by omega)) (fun D i ys H2 ⟨kl, e, l, _⟩ => by rw [e, List.length_map, l]) (fun _ _ _ hR => hR) (fun D hD => ⟨[], rfl, rfl, List.nodup_nil, by simp, fun b hb => absurd hb (by simp)⟩) ?_ ?_
  · rintro D i ys H2 R hi hD g2 hDy ⟨kl, rfl, rfl, nk, nD, hk⟩ hR
    refine ⟨(by show 0 ≤ sizeLine; decide), fun r hr' => ?_⟩
    have nrD : D ≠ r := ne_of_none hDy hr'
    refine hR (.ref r) _ (same_new hr' _) ⟨kl ++ [r], by rw [List.map_append]; rfl, by rw [List.length_append]; rfl, ?_, ?_, fun b hb => ?_⟩
    · rw [List.nodup_append]
      exact ⟨nk, by simp, fun a ha b hb => by rw [List.mem_singleton.mp hb]; exact ne_of_none (hk a ha).2 hr'⟩
    · rw [List.mem_append, List.mem_singleton]
      exact fun z => z.elim nD nrD
    · rcases List.mem_append.mp hb with z | z
      · have nb : b ≠ D := fun e => nD (e ▸ z)
        rw [upd_ne nb, upd_ne (ne_of_none (hk b z).2 hr')]
        exact hk b z
      · rw [List.mem_singleton.mp z, upd_ne nrD.symm, upd_same]
        exact ⟨g2.free hr', rfl⟩
  rintro lk ys H1 hlk g1 hL ⟨kl, rfl, hkl, nk, nlk, hk⟩
  -- ahead
  refine ⟨(by show 0 ≤ sizeLine; decide), fun la hla => ?_⟩
  have g2 := same_new hla (.lst [])
  have start : PastAt H (upd H1 la (.lst [])) lk la kl [] ds count 0 (knownL ds 0) := by
    refine ⟨g1.trans g2, fun b hb => ?_, ?_, g2 _ _ hL, fun d b hb => g2 _ _ (hk b (List.mem_of_getElem? hb)).2, hkl, upd_same, fun j b hb => absurd hb (by simp), rfl⟩
    · rw [List.append_nil] at hb
      rcases List.mem_cons.mp hb with rfl | hb
      · exact hlk
      rcases List.mem_cons.mp hb with rfl | hb
      · exact g1.free hla
      · exact (hk b hb).1
    · rw [List.append_nil, List.nodup_cons, List.nodup_cons]
      refine ⟨fun z => ?_, fun z => ?_, nk⟩
      · rcases List.mem_cons.mp z with z | z
        · exact ne_of_none hL hla z
        · exact nlk z
      · exact ne_of_none (hk la z).2 hla rfl
  refine ⟨_, rfl, l, _, rfl, .inl (SqL.of (start.same _ _ hds.at_)), _, rfl, by omega, by rw [hl]; omega, ?_⟩
  rw [hl, Int.toNat_natCast]
  refine for_range (lo := 0) (fun i σ H2 => (∃ v4 v5 v6, σ = [some (.ref l), some (.int (count : Int)), some (.ref lk), some (.ref la), v4, v5, v6]) ∧ ∃ al, PastAt H H2 lk la kl al ds count i (knownL ds i)) ⟨⟨none, none, none, rfl⟩, [], start⟩ ?_ ?_
  · rintro i σ H2 hi ⟨⟨v4, v5, v6, rfl⟩, al, D⟩
    rw [Int.zero_add]
    obtain ⟨p, hp⟩ : ∃ p, rows[i]? = some p := ⟨_, List.getElem?_eq_getElem hi⟩
    have hdx := hrow i p hp
    have D2 := DK i p.2 hdx
    have ei : atI (drefs rows) (i : Int) = some (.ref p.1) := atI_nat (by rw [List.getElem?_map, hp]; rfl)
    have hpm := List.mem_of_getElem? hp
    have ed : (ds.getD i (.hear 0 0)).desk = p.2.desk := by rw [List.getD_eq_getElem?_getD, hdx]; rfl
    obtain ⟨b, hb⟩ : ∃ b, kl[p.2.desk]? = some b := ⟨_, List.getElem?_eq_getElem (by rw [hkl]; exact D2.1)⟩
    have eb : atI (kl.map V.ref) (p.2.desk : Int) = some (.ref b) := atI_nat (by rw [List.getElem?_map, hb]; rfl)
    have dk : ∃ z w', dtup p.2 = [z, .int (p.2.desk : Int), w'] := by
      cases p.2 with
      | put d t => exact ⟨_, _, rfl⟩
      | take d t => exact ⟨_, _, rfl⟩
      | hear d o => exact ⟨_, _, rfl⟩
    obtain ⟨z1, z2, edk⟩ := dk
    have hx : ∀ H', Same H H' → H' p.1 = some (.tup (dtup p.2)) := fun H' g => g _ _ (hds.tup p hpm)
    have hx2 := hx _ D.same
    rw [edk] at hx2
    -- desk
    refine ⟨_, rfl, _, rfl, l, _, _, _, rfl, rfl, SqL.of (D.same _ _ hds.at_), ei, _, _, _, _, rfl, rfl, SqT.of hx2, rfl, ?_⟩
    -- ahead.append
    refine ⟨_, rfl, .inl ⟨rfl, _, SqL.of D.ha⟩, _, rfl, _, rfl, lk, _, _, _, rfl, rfl, SqL.of D.hk, eb, b, _, rfl, .inl (SqL.of (D.kat _ b hb)), fun c hc => ?_⟩
    have D3 := D.ahead hc (ahead_at hdx)
    rw [ed] at D3
    refine ⟨la, _, _, rfl, rfl, (same_new hc _) _ _ D.ha, by rw [List.length_map, D.lena]; exact small (by omega), ?_⟩
    generalize upd (upd H2 c (.lst ((knownL ds i p.2.desk).map nv))) la (.lst (al.map V.ref ++ [.ref c])) = H3 at D3
    have hx3 := hx _ D3.same
    have lens : ((knownL ds i p.2.desk).map nv).length < sizeLine := by
      rw [List.length_map]
      have := known_len ds i p.2.desk
      exact small (by omega)
    cases hpx : p.2 with
    | put d t =>
      rw [hpx] at hx3 hb eb lens hdx
      refine ⟨_, rfl, _, rfl, l, _, _, _, rfl, rfl, SqL.of (D3.same _ _ hds.at_), ei, _, _, _, _, rfl, rfl, SqT.of hx3, rfl, rfl, _, rfl, ite2 (fun _ => ?_) (fun z => absurd (show (!decide (V.str ("put" : Str) = V.str ("hear" : Str))) = true by decide) z)⟩
      refine ⟨_, rfl, _, rfl, lk, _, _, _, rfl, rfl, SqL.of D3.hk, eb, .inl ⟨rfl, _, SqL.of (D3.kat _ b hb)⟩, _, rfl, b, _, _, rfl, rfl, D3.kat _ b hb, lens, ?_⟩
      refine ⟨⟨_, _, _, rfl⟩, al ++ [c], ?_⟩
      have := D3.known (x := i) hb
      rw [List.map_append] at this
      rw [known_put hdx]
      exact this
    | take d t =>
      rw [hpx] at hx3 hb eb lens hdx
      refine ⟨_, rfl, _, rfl, l, _, _, _, rfl, rfl, SqL.of (D3.same _ _ hds.at_), ei, _, _, _, _, rfl, rfl, SqT.of hx3, rfl, rfl, _, rfl, ite2 (fun _ => ?_) (fun z => absurd (show (!decide (V.str ("take" : Str) = V.str ("hear" : Str))) = true by decide) z)⟩
      refine ⟨_, rfl, _, rfl, lk, _, _, _, rfl, rfl, SqL.of D3.hk, eb, .inl ⟨rfl, _, SqL.of (D3.kat _ b hb)⟩, _, rfl, b, _, _, rfl, rfl, D3.kat _ b hb, lens, ?_⟩
      refine ⟨⟨_, _, _, rfl⟩, al ++ [c], ?_⟩
      have := D3.known (x := i) hb
      rw [List.map_append] at this
      rw [known_take hdx]
      exact this
    | hear d o =>
      rw [hpx] at hx3 hb eb lens hdx D2
      have hb : kl[d]? = some b := hb
      have eb : atI (kl.map V.ref) (d : Int) = some (.ref b) := eb
      have hoc := D2.2 d o rfl
      obtain ⟨b2, hb2⟩ : ∃ b, kl[o]? = some b := ⟨_, List.getElem?_eq_getElem (by rw [hkl]; exact hoc)⟩
      have eb2 : atI (kl.map V.ref) (o : Int) = some (.ref b2) := atI_nat (by rw [List.getElem?_map, hb2]; rfl)
      refine ⟨_, rfl, _, rfl, l, _, _, _, rfl, rfl, SqL.of (D3.same _ _ hds.at_), ei, _, _, _, _, rfl, rfl, SqT.of hx3, rfl, rfl, _, rfl, ite2 (fun z => absurd z (show ¬ ((!decide (V.str ("hear" : Str) = V.str ("hear" : Str))) = true) by decide)) (fun _ => ?_)⟩
      refine ⟨_, rfl, _, rfl, _, rfl, l, _, _, _, rfl, rfl, SqL.of (D3.same _ _ hds.at_), ei, _, _, _, _, rfl, rfl, SqT.of hx3, rfl, lk, _, _, _, rfl, rfl, SqL.of D3.hk, eb2, b2, _, rfl, .inl (SqL.of (D3.kat _ b2 hb2)), fun c2 hc2 => ?_⟩
      have D4 := D3.mono (same_new hc2 (.lst ((knownL ds i o).map nv)))
      have nc2 : ∀ b' ∈ kl, b' ≠ c2 := fun b' hb' => by
        obtain ⟨xs, q'⟩ := D3.there b' (List.mem_cons_of_mem _ (List.mem_cons_of_mem _ (List.mem_append_left _ hb')))
        exact ne_of_none q' hc2
      have bm := List.mem_of_getElem? hb
      refine ⟨c2, rfl, ⟨_, SqL.of upd_same⟩, for_list (K := K) (a := c2) (xs := (knownL ds i o).map nv) (fun j σ H5 => (∃ v6, σ = [some (.ref l), some (.int (count : Int)), some (.ref lk), some (.ref la), some (.int (i : Int)), some (.int (d : Int)), v6]) ∧ H5 c2 = some (.lst ((knownL ds i o).map nv)) ∧
        PastAt H H5 lk la kl (al ++ [c]) ds count (i + 1) (fun e => if e = d then joinK (knownL ds i d) ((knownL ds i o).take j) else knownL ds i e)) ⟨⟨_, rfl⟩, upd_same, ?_⟩ (fun j σ H5 _ ⟨_, z, _⟩ => SqL.of z) ?_ ?_⟩
      · have e : (fun e => if e = d then joinK (knownL ds i d) ((knownL ds i o).take 0) else knownL ds i e) = knownL ds i := by
          funext e
          by_cases q' : e = d
          · rw [if_pos q', q']; rfl
          · rw [if_neg q']
        rw [e]
        exact D4
      · rintro j y σ H5 hy ⟨⟨v6', rfl⟩, hc5, D5⟩
        obtain ⟨x, hx', rfl⟩ : ∃ x, (knownL ds i o)[j]? = some x ∧ nv x = y := by
          rw [List.getElem?_map] at hy
          cases hq : (knownL ds i o)[j]? with
          | none => rw [hq] at hy; cases hy
          | some x => rw [hq] at hy; exact ⟨x, rfl, Option.some.inj hy⟩
        have hb5 := D5.kat d b hb
        rw [if_pos rfl] at hb5
        have tk : joinK (knownL ds i d) ((knownL ds i o).take (j + 1)) = if x ∈ joinK (knownL ds i d) ((knownL ds i o).take j) then joinK (knownL ds i d) ((knownL ds i o).take j) else joinK (knownL ds i d) ((knownL ds i o).take j) ++ [x] := by
          rw [List.take_add_one, hx']
          exact joinK_snoc _ _ _
        refine ⟨_, rfl, _, rfl, _, rfl, lk, _, _, _, rfl, rfl, SqL.of D5.hk, eb, b, _, rfl, .inl (SqL.of hb5), rfl, flat_nv _, _, rfl, ?_⟩
        rw [if_pos rfl, inV_nv]
        refine ite2 (fun c' => ?_) (fun c' => ?_)
        · have nin : ¬ x ∈ joinK (knownL ds i d) ((knownL ds i o).take j) := fun z => by rw [decide_eq_true z] at c'; cases c'
          rw [if_neg nin] at tk
          refine ⟨_, rfl, _, rfl, lk, _, _, _, rfl, rfl, SqL.of D5.hk, eb, .inl ⟨rfl, _, SqL.of hb5⟩, _, rfl, b, _, _, rfl, rfl, hb5, ?_, ⟨_, rfl⟩, ?_, ?_⟩
          · rw [List.length_map]
            have := join_len ds i d o j
            exact small (by omega)
          · rw [upd_ne (nc2 b bm).symm]
            exact hc5
          · have D6 := D5.known (x := x) hb
            rw [if_pos rfl, List.map_append] at D6
            have e : (fun e => if e = d then joinK (knownL ds i d) ((knownL ds i o).take (j + 1)) else knownL ds i e) = fun e => if e = d then joinK (knownL ds i d) ((knownL ds i o).take j) ++ [x] else (if e = d then joinK (knownL ds i d) ((knownL ds i o).take j) else knownL ds i e) := by
              funext e
              by_cases q' : e = d
              · rw [if_pos q', if_pos q', tk]
              · rw [if_neg q', if_neg q', if_neg q']
            rw [e]
            exact D6
        · have hin : x ∈ joinK (knownL ds i d) ((knownL ds i o).take j) := by
            apply Classical.byContradiction
            intro z
            exact c' (by rw [decide_eq_false z]; rfl)
          rw [if_pos hin] at tk
          refine ⟨⟨_, rfl⟩, hc5, ?_⟩
          rw [tk]
          exact D5
      · rintro σ H5 ⟨⟨v6', rfl⟩, hc5, D5⟩
        refine ⟨⟨_, _, _, rfl⟩, al ++ [c], ?_⟩
        rw [List.length_map, List.take_length] at D5
        rw [known_hear hdx]
        exact D5
  · rintro σ H2 ⟨⟨v4, v5, v6, rfl⟩, al, D⟩
    refine ⟨_, rfl, _, rfl, (by show 2 ≤ sizeLine; decide), fun r hr' => ?_⟩
    exact q r _ lk la kl al (D.same.free hr') (D.mono (same_new hr' _)) upd_same
/-! ### _law_stands -/
def spStands : Sp := fun vs H Q _ => ∃ (l la lt : Addr) (rows : List (Addr × Deed)) (al : List Addr) (ks : List Nat) (p e : Nat) (t : Str), vs = [.ref l, .ref la, .ref lt, .int (p : Int)] ∧ DeedsAt H l rows ∧ H la = some (.lst (al.map V.ref)) ∧ al.length = rows.length ∧
  (∀ j b, al[j]? = some b → H b = some (.lst ((aheadL (rows.map (·.2)) j).map nv))) ∧ H lt = some (.lst (ks.map nv)) ∧ (∀ k ∈ ks, ∃ e u, TakeAt (rows.map (·.2)) k e u) ∧ PutAt (rows.map (·.2)) p e t ∧ Q (.bl (standB (rows.map (·.2)) ks p t)) H
theorem scStands : FnScope ["_law_asked", "_law_ahead", "_law_takes", "_law_put", "_law_k"] ["_law_asked", "_law_ahead", "_law_takes", "_law_put"] (defScope sStands) := ⟨rfl, rfl, rfl, by decide +kernel, rfl, by decide +kernel, by decide +kernel⟩
theorem row_of {rows : List (Addr × Deed)} {k : Nat} {x : Deed} (h : (rows.map (·.2))[k]? = some x) : ∃ a, rows[k]? = some (a, x) := by
  rw [List.getElem?_map] at h
  cases q : rows[k]? with
  | none => rw [q] at h; cases h
  | some p =>
    rw [q] at h
    have e : p.2 = x := Option.some.inj h
    exact ⟨p.1, by rw [← e]⟩
theorem ok_stands (F : Fun K "_law_stands" "_law_stands" sStands f fd) : FnOk P w K mg base CX0 1 f fd ["_law_asked", "_law_ahead", "_law_takes", "_law_put"] spStands := by
  refine F.ok scStands (fun vs H Q E h => ?_) (fun cdv A outer s H vs Q E hr h => ?_)
  · obtain ⟨l, la, lt, rows, al, ks, p, e, t, rfl, _⟩ := h
    rfl
  obtain ⟨l, la, lt, rows, al, ks, p, e, t, rfl, hds, ha, lal, aat, ht, htk, hput, q⟩ := h
  have nd := scStands.nd
  refine ⟨_, pss_cons (ps_for PassesOwn.never rfl (pi_list (pv 2)) (pg_name (i := 4) nd rfl (Or.inl rfl))
      (pss_one (ps_if (PW.pt (pw_and (pt_cmpR op_eq (pe_ix ix_tup (pe_ix ix_list (pv 0) (pv 4) (fun _ _ => rfl)) pe_int (fun _ _ => rfl)) (pe_ix ix_tup (pe_ix ix_list (pv 0) (pv 3) (fun _ _ => rfl)) pe_int (fun _ _ => rfl)) (nomark _))
        (pw_and1 (pt_cmpR op_in_seq (pv 3) (pe_ix ix_list (pv 1) (pv 4) (fun _ _ => rfl)) rfl)))) (pss_one (ps_ret pe_bl)) pss_nil)))
    (pss_one (ps_ret pe_bl)), ?_⟩
  obtain ⟨pa, hpr⟩ := row_of hput
  have hpt := hds.tup _ (List.mem_of_getElem? hpr)
  have epr : atI (drefs rows) (p : Int) = some (.ref pa) := atI_nat (by rw [List.getElem?_map, hpr]; rfl)
  refine ⟨_, rfl, lt, rfl, ⟨_, SqL.of ht⟩, for_list (K := K) (a := lt) (xs := ks.map nv) (fun i σ H2 => H2 = H ∧ (∃ v, σ = [some (.ref l), some (.ref la), some (.ref lt), some (.int (p : Int)), v]) ∧ standB (rows.map (·.2)) (ks.take i) p t = true) ⟨rfl, ⟨none, rfl⟩, rfl⟩ (fun i σ H2 _ ⟨z, _⟩ => by rw [z]; exact SqL.of ht) ?_ ?_⟩
  · rintro i y σ H2 hy ⟨rfl, ⟨v, rfl⟩, hst⟩
    obtain ⟨k, hk, rfl⟩ : ∃ k, ks[i]? = some k ∧ nv k = y := by
      rw [List.getElem?_map] at hy
      cases hq : ks[i]? with
      | none => rw [hq] at hy; cases hy
      | some x => rw [hq] at hy; exact ⟨x, rfl, Option.some.inj hy⟩
    have hkm := List.mem_of_getElem? hk
    obtain ⟨e', u, hT⟩ := htk k hkm
    have et : takeT (rows.map (·.2)) k = u := by
      unfold takeT
      unfold TakeAt at hT
      rw [hT]
    obtain ⟨ka, hkr⟩ := row_of hT
    have hkt := hds.tup _ (List.mem_of_getElem? hkr)
    have ekr : atI (drefs rows) (k : Int) = some (.ref ka) := atI_nat (by rw [List.getElem?_map, hkr]; rfl)
    have hkl : k < al.length := by rw [lal]; exact (List.getElem?_eq_some_iff.mp hkr).1
    have hal : al[k]? = some al[k] := List.getElem?_eq_getElem hkl
    have eal : atI (al.map V.ref) (k : Int) = some (.ref al[k]) := atI_nat (by rw [List.getElem?_map, hal]; rfl)
    have hah := aat k _ hal
    have tk : standB (rows.map (·.2)) (ks.take (i + 1)) p t = (standB (rows.map (·.2)) (ks.take i) p t && !(decide (u = t) && decide (p ∈ aheadL (rows.map (·.2)) k))) := by
      unfold standB
      rw [List.take_add_one, hk, List.all_append]
      simp [et]
    have bad : (decide (u = t) && decide (p ∈ aheadL (rows.map (·.2)) k)) = true → standB (rows.map (·.2)) ks p t = false := fun z => by
      rw [Bool.eq_false_iff]
      intro a
      unfold standB at a
      have a := List.all_eq_true.mp a k hkm
      rw [et, z] at a
      cases a
    refine ⟨_, rfl, _, rfl, l, _, _, _, rfl, rfl, SqL.of hds.at_, ekr, _, _, _, _, rfl, rfl, SqT.of hkt, rfl, _, rfl, _, rfl, l, _, _, _, rfl, rfl, SqL.of hds.at_, epr, _, _, _, _, rfl, rfl, SqT.of hpt, rfl, rfl, _, rfl, ite2 (fun c => ?_) (fun c => ?_)⟩
    · have eu : u = t := by
        have z := of_decide_eq_true c
        injection z
      refine ⟨_, rfl, _, rfl, _, rfl, la, _, _, _, rfl, rfl, SqL.of ha, eal, al[k], _, rfl, .inl (SqL.of hah), rfl, flat_nv _, _, rfl, ?_⟩
      rw [if_neg Bool.false_ne_true, inV_nv]
      refine ite2 (fun c' => ?_) (fun c' => ?_)
      · have hb := bad (by rw [decide_eq_true eu, c']; rfl)
        rw [hb] at q
        exact q
      · have c'' : decide (p ∈ aheadL (rows.map (·.2)) k) = false := Bool.eq_false_iff.mpr c'
        exact ⟨rfl, ⟨_, rfl⟩, by rw [tk, hst, c'', Bool.and_false]; rfl⟩
    · have eu : ¬ u = t := fun z => c (decide_eq_true (by rw [z]))
      exact ⟨rfl, ⟨_, rfl⟩, by rw [tk, hst, decide_eq_false eu, Bool.false_and]; rfl⟩
  · rintro σ H2 ⟨rfl, ⟨v, rfl⟩, hst⟩
    rw [List.length_map, List.take_length] at hst
    rw [hst] at q
    exact q
end
end Sd

namespace Sd
open PySem L2
structure Bt2 (mg : Str → Option Value) : Prop where
  sorted : mg "sorted" = none
  set : mg "set" = none
def thingsOf (sl : List Slip) : List Str := sl.map fun s => s.2.2
section
variable {P : Program} {w : World} {K : PySem.W.Frag} {mg : Str → Option Value} {base : Heap} {f : Addr} {fd : FuncData}
/-! ### _law_texts -/
def spTexts : Sp := fun vs H Q _ => ∃ (a b : Addr) (xs : List Str), vs = [.ref a, .ref b] ∧ H a = some (.lst (xs.map V.str)) ∧ H b = some (.lst (xs.map V.str)) ∧ xs.length ≤ 100000 ∧ Q (.bl true) H
theorem scTexts : FnScope ["_law_found", "_law_due", "_law_k"] ["_law_found", "_law_due"] (defScope sTexts) := ⟨rfl, rfl, rfl, by decide +kernel, rfl, by decide +kernel, by decide +kernel⟩
theorem ok_texts (F : Fun K "_law_texts" "_law_texts" sTexts f fd) (B : Bt mg) : FnOk P w K mg base CX0 1 f fd ["_law_found", "_law_due"] spTexts := by
  refine F.ok scTexts (fun vs H Q E h => ?_) (fun cdv A outer s H vs Q E hr h => ?_)
  · obtain ⟨a, b, xs, rfl, _⟩ := h
    rfl
  obtain ⟨a, b, xs, rfl, ha, hb, hn, q⟩ := h
  have hl : (xs.map V.str).length = xs.length := List.length_map _
  refine ⟨_, pss_cons (ps_if (PW.pt (pw_or (pt_not (pt_val (pe_callB ck_isinst rfl B.isi PyProof.Rows.boot_isinstance (pa_cons (pv 0) (pa_cons (pe_bltn (v := .ty "list") rfl B.list PyProof.Rows.boot_list rfl) pa_nil)))))
      (pw_or1 (pt_cmpR op_ne (pe_callB call_len_seq rfl B.len PySem.boot_len (pa_cons (pv 0) pa_nil)) (pe_callB call_len_seq rfl B.len PySem.boot_len (pa_cons (pv 1) pa_nil)) (nomark _))))) (pss_one (ps_ret pe_bl)) pss_nil)
    (pss_cons (ps_for PassesOwn.never rfl (pi_range1 rfl B.rng (pa_cons (pe_callB call_len_seq rfl B.len PySem.boot_len (pa_cons (pv 1) pa_nil)) pa_nil)) (pg_name (i := 2) scTexts.nd rfl (Or.inl rfl))
      (pss_one (ps_if (PW.pt (pw_or (pt_not (pt_val (pe_callB ck_isinst rfl B.isi PyProof.Rows.boot_isinstance (pa_cons (pe_ix ix_list (pv 0) (pv 2) (fun _ _ => rfl)) (pa_cons (pe_bltn (v := .ty "str") rfl B.str PyProof.Rows.boot_str rfl) pa_nil)))))
        (pw_or1 (pt_cmpR op_ne (pe_ix ix_list (pv 0) (pv 2) (fun _ _ => rfl)) (pe_ix ix_list (pv 1) (pv 2) (fun _ _ => rfl)) (nomark _))))) (pss_one (ps_ret pe_bl)) pss_nil)))
    (pss_one (ps_ret pe_bl))), ?_⟩
  refine ⟨_, rfl, _, _, _, _, rfl, TyOf.lst ha, kit_same K "list", _, rfl, iteF ?_⟩
  refine ⟨_, rfl, a, _, rfl, .inl (SqL.of ha), _, rfl, b, _, rfl, .inl (SqL.of hb), rfl, _, rfl, ?_⟩
  refine iteNS rfl ?_
  refine ⟨_, rfl, b, _, rfl, .inl (SqL.of hb), _, rfl, by omega, by rw [hl]; omega, ?_⟩
  refine for_range (lo := 0) (fun i σ H2 => H2 = H ∧ ∃ v, σ = [some (.ref a), some (.ref b), v]) ⟨rfl, none, rfl⟩ ?_ ?_
  · rintro i σ H2 hi ⟨rfl, v, rfl⟩
    have hi' : i < xs.length := by rw [hl] at hi; omega
    have ei : atI (xs.map V.str) (0 + (i : Int)) = some (.str xs[i]) := at_any (by rw [List.getElem?_map, List.getElem?_eq_getElem hi']; rfl)
    refine ⟨_, rfl, _, rfl, a, _, _, _, rfl, rfl, SqL.of ha, ei, _, _, _, _, rfl, TyOf.str _, kit_same K "str", _, rfl, iteF ?_⟩
    refine ⟨_, rfl, _, rfl, a, _, _, _, rfl, rfl, SqL.of ha, ei, _, rfl, _, rfl, b, _, _, _, rfl, rfl, SqL.of hb, ei, rfl, _, rfl, ?_⟩
    refine iteNS rfl ?_
    exact ⟨rfl, _, rfl⟩
  · rintro σ H2 ⟨rfl, v, rfl⟩
    exact q
/-! ### things_in -/
def spThings : Sp := fun vs H Q _ => ∃ (b : Addr) (hd : List Int) (sl : List Slip), vs = [.ref b] ∧ BookAt H b hd sl ∧ sl.length ≤ 4000 ∧ (onceS [] (thingsOf sl)).length < 64 ∧
  ∀ (r : Addr) (ss : List Str) (H' : Hp), H r = none → Same H H' → H' r = some (.lst (ss.map V.str)) → ss.Perm (onceS [] (thingsOf sl)) → ss.Pairwise leS → Q (.ref r) H'
theorem scThings : FnScope ["book"] ["book"] (defScope sThings) := ⟨rfl, rfl, rfl, by decide +kernel, rfl, by decide +kernel, by decide +kernel⟩
theorem things_map {H : Hp} : ∀ {as : List (Addr × Slip)}, (∀ p ∈ as, H p.1 = some (.tup (tupOf p.2))) → (refs as).map (fun v => V.str (slipOf H v).2.2) = (thingsOf (as.map (·.2))).map V.str
  | [], _ => rfl
  | p :: r, h => by
    have ih := things_map (as := r) fun p hp => h p (List.mem_cons_of_mem _ hp)
    show V.str (slipOf H (V.ref p.1)).2.2 :: (refs r).map _ = V.str p.2.2.2 :: _
    rw [slipOf_at (h p List.mem_cons_self), ih]
    rfl
theorem ok_things (F : Fun K "things_in" "things_in" sThings f fd) (B : Bt2 mg) : FnOk P w K mg base CX0 1 f fd ["book"] spThings := by
  refine F.ok scThings (fun vs H Q E h => ?_) (fun cdv A outer s H vs Q E hr h => ?_)
  · obtain ⟨b, hd, sl, rfl, _⟩ := h
    rfl
  obtain ⟨b, hd, sl, rfl, hb, hn, h64, q⟩ := h
  obtain ⟨l1, l2, as, h0, h1, h2, h3⟩ := hb.ex
  have hla : as.length ≤ 4000 := by rw [← h3, List.length_map] at hn; exact hn
  refine ⟨_, pss_one (ps_ret (pe_callB (ck_sorted rfl) rfl B.sorted PyProof.Rows.boot_sorted (pa_cons (pe_callTy (ck_set rfl) rfl B.set PyProof.Rows.boot_set (pa_cons
    (pe_lc (fr := []) rfl (by exact ScC.of (by show ScOk (defScope sThings) _ _ = true; decide +kernel)) (by exact trivial) (by decide +kernel) (pi_list (pe_ix ix_tup (pv 0) pe_int (fun _ _ => rfl))) (fun _ _ _ _ _ => pif_nil) (fun _ _ _ _ _ => pe_ix ix_tupC (pv 0) pe_int (fun _ _ => rfl))) pa_nil)) pa_nil))), ?_⟩
  refine ⟨_, rfl, _, _, _, _, rfl, rfl, SqT.of h0, rfl, l2, rfl, ⟨_, SqL.of h2.at_⟩, lc_list (fun _ => true) (fun v => V.str (slipOf H v).2.2) (SqL.of h2.at_) (by rw [len_refs]; exact small (by omega)) ?_ ?_ ?_⟩
  · intro x hx H3 R g3 hR
    exact hR
  · intro x hx _ H3 R g3 hR
    obtain ⟨z, hz, rfl⟩ := mem_refs hx
    have t := h2.tup z hz
    rw [slipOf_at t] at hR
    exact ⟨_, rfl, _, _, _, _, rfl, rfl, SqT.of (g3 _ _ t), rfl, hR⟩
  intro D hD
  rw [List.filter_eq_self.mpr (fun _ _ => rfl), things_map h2.tup, h3]
  have g1 := same_new hD (.lst ((thingsOf sl).map V.str))
  have lt : (thingsOf sl).length + 1 < scanBound := by
    unfold thingsOf
    rw [List.length_map]
    show sl.length + 1 < 4096
    omega
  refine ⟨D, thingsOf sl, rfl, SqL.of upd_same, lt, fun a ha => ?_⟩
  have g2 := same_new ha (.ext fun h => SetS P w h a (onceS [] (thingsOf sl)))
  refine ⟨a, onceS [] (thingsOf sl), rfl, upd_same, h64, fun r ss hr' hp hw => ?_⟩
  exact q r ss _ ((g1.trans g2).free hr') ((g1.trans g2).trans (same_new hr' _)) upd_same hp hw
end
end Sd

namespace Sd
open PySem L2
/-! ### _law_unturned -/
inductive Alk (H : Hp) : V → V → Nat → Prop where
  | int (i : Int) : Alk H (.int i) (.int i) 1
  | str (s : Str) : Alk H (.str s) (.str s) 1
  | lst {a b : Addr} {ps : List (V × V × Nat)} (ha : H a = some (.lst (ps.map fun p => p.1))) (hb : H b = some (.lst (ps.map fun p => p.2.1))) (h : ∀ p ∈ ps, Alk H p.1 p.2.1 p.2.2) : Alk H (.ref a) (.ref b) (1 + (ps.map fun p => p.2.2).sum)
  | tup {a b : Addr} {ps : List (V × V × Nat)} (ha : H a = some (.tup (ps.map fun p => p.1))) (hb : H b = some (.tup (ps.map fun p => p.2.1))) (h : ∀ p ∈ ps, Alk H p.1 p.2.1 p.2.2) : Alk H (.ref a) (.ref b) (1 + (ps.map fun p => p.2.2).sum)
theorem Alk.pos {H : Hp} {x y : V} {n : Nat} (h : Alk H x y n) : 1 ≤ n := by
  cases h with
  | int i => omega
  | str s => omega
  | lst => omega
  | tup => omega
theorem sum_ge : ∀ {l : List Nat}, (∀ x ∈ l, 1 ≤ x) → l.length ≤ l.sum
  | [], _ => Nat.le_refl _
  | x :: l, h => by
    have a := sum_ge (l := l) fun y hy => h y (List.mem_cons_of_mem _ hy)
    have b := h x List.mem_cons_self
    rw [List.length_cons, List.sum_cons]
    omega
abbrev Pr := Addr × V × V × Nat
/-- what is still to be compared -/
structure TodoAt (H H2 : Hp) (lt : Addr) (prs : List Pr) : Prop where
  same : Same H H2
  at_ : H2 lt = some (.lst (prs.map fun p => V.ref p.1))
  tup : ∀ p ∈ prs, H2 p.1 = some (.tup [p.2.1, p.2.2.1])
  alk : ∀ p ∈ prs, Alk H p.2.1 p.2.2.1 p.2.2.2
abbrev wgt (prs : List Pr) : Nat := (prs.map fun p => p.2.2.2).sum
theorem TodoAt.len {H H2 : Hp} {lt : Addr} {prs : List Pr} (h : TodoAt H H2 lt prs) : prs.length ≤ wgt prs := by
  have := sum_ge (l := prs.map fun p => p.2.2.2) fun x hx => by
    obtain ⟨p, hp, rfl⟩ := List.mem_map.mp hx
    exact (h.alk p hp).pos
  rw [List.length_map] at this
  exact this
theorem TodoAt.grow {H H2 H3 : Hp} {lt : Addr} {prs : List Pr} (h : TodoAt H H2 lt prs) (e : Same H2 H3) : TodoAt H H3 lt prs := ⟨h.same.trans e, e _ _ h.at_, fun p hp => e _ _ (h.tup p hp), h.alk⟩
theorem TodoAt.push {H H2 : Hp} {lt t : Addr} {prs : List Pr} {x y : V} {n : Nat} (h : TodoAt H H2 lt prs) (hl : H lt = none) (ht : H2 t = none) (ha : Alk H x y n) :
    TodoAt H (upd (upd H2 t (.tup [x, y])) lt (.lst ((prs.map fun p => V.ref p.1) ++ [.ref t]))) lt (prs ++ [(t, x, y, n)]) := by
  have nl : lt ≠ t := ne_of_none h.at_ ht
  refine ⟨(h.same.trans (same_new ht _)).put hl, ?_, fun p hp => ?_, fun p hp => ?_⟩
  · rw [upd_same, List.map_append]
    rfl
  · rcases List.mem_append.mp hp with z | z
    · have q := h.tup p z
      rw [upd_ne (ne_of q h.at_ (by intro z; cases z)), upd_ne (ne_of_none q ht)]
      exact q
    · rw [List.mem_singleton.mp z]
      show upd _ lt _ t = _
      rw [upd_ne nl.symm]
      exact upd_same
  · rcases List.mem_append.mp hp with z | z
    · exact h.alk p z
    · rw [List.mem_singleton.mp z]
      exact ha
theorem TodoAt.pop {H H2 : Hp} {lt : Addr} {prs : List Pr} {p : Pr} (h : TodoAt H H2 lt (prs ++ [p])) (hl : H lt = none) : TodoAt H (upd H2 lt (.lst (prs.map fun p => V.ref p.1))) lt prs :=
  ⟨h.same.put hl, upd_same, fun p' hp => by
    have q := h.tup p' (List.mem_append_left _ hp)
    rw [upd_ne (ne_of q h.at_ (by intro z; cases z))]
    exact q, fun p' hp => h.alk p' (List.mem_append_left _ hp)⟩
theorem wgt_app (a b : List Pr) : wgt (a ++ b) = wgt a + wgt b := by
  show ((a ++ b).map fun p => p.2.2.2).sum = _
  rw [List.map_append, List.sum_append]
section
variable {P : Program} {w : World} {K : PySem.W.Frag} {mg : Str → Option Value} {base : Heap} {f : Addr} {fd : FuncData}
def spUnturned : Sp := fun vs H Q _ => ∃ (x y : V) (n : Nat), vs = [x, y] ∧ Alk H x y n ∧ n ≤ 100000 ∧ ∀ H', Same H H' → Q (.bl true) H'
theorem scUnturned : FnScope ["_law_found", "_law_due", "_law_todo", "_law_left", "_law_right", "_law_k"] ["_law_found", "_law_due"] (defScope sUnturned) := ⟨rfl, rfl, rfl, by decide +kernel, rfl, by decide +kernel, by decide +kernel⟩
theorem ok_unturned (F : Fun K "_law_unturned" "_law_unturned" sUnturned f fd) (B : Bt mg) : FnOk P w K mg base CX0 1 f fd ["_law_found", "_law_due"] spUnturned := by
  refine F.ok scUnturned (fun vs H Q E h => ?_) (fun cdv A outer s H vs Q E hr h => ?_)
  · obtain ⟨x, y, n, rfl, _⟩ := h
    rfl
  obtain ⟨x, y, n, rfl, hA, hn, q⟩ := h
  have nd := scUnturned.nd
  refine ⟨_, pss_cons (ps_set (i := 2) nd rfl (Or.inl rfl) (pe_lst (pa_cons (pe_tup (pa_cons (pv 0) (pa_cons (pv 1) pa_nil))) pa_nil)))
    (pss_cons (ps_while PassesOwn.never (pt_cmpR (op_ne_nil hr.units0) (pv 2) (pe_lst pa_nil) (nomark _))
      (pss_cons (ps_asg (pe_pop (pv 2)) (pg_tup rfl (pgs_cons (pg_name (i := 3) nd rfl (Or.inl rfl)) (pgs_cons (pg_name (i := 4) nd rfl (Or.inl rfl)) pgs_nil))))
      (pss_one (ps_if (pt_val (pe_callB ck_isT rfl B.isi PyProof.Rows.boot_isinstance (pa_cons (pv 4) (pa_cons (pe_tup (pa_cons (pe_bltn (v := .ty "list") rfl B.list PyProof.Rows.boot_list rfl) (pa_cons (pe_bltn (v := .ty "tuple") rfl B.tuple PyProof.Rows.boot_tuple rfl) pa_nil))) pa_nil))))
        (pss_cons (ps_if (pt_cmpR op_ne (pe_callB ck_isinst rfl B.isi PyProof.Rows.boot_isinstance (pa_cons (pv 3) (pa_cons (pe_bltn (v := .ty "list") rfl B.list PyProof.Rows.boot_list rfl) pa_nil))) (pe_callB ck_isinst rfl B.isi PyProof.Rows.boot_isinstance (pa_cons (pv 4) (pa_cons (pe_bltn (v := .ty "list") rfl B.list PyProof.Rows.boot_list rfl) pa_nil))) (nomark _)) (pss_one (ps_ret pe_bl)) pss_nil)
        (pss_cons (ps_if (PW.pt (pw_or (pt_not (pt_val (pe_callB ck_isT rfl B.isi PyProof.Rows.boot_isinstance (pa_cons (pv 3) (pa_cons (pe_tup (pa_cons (pe_bltn (v := .ty "list") rfl B.list PyProof.Rows.boot_list rfl) (pa_cons (pe_bltn (v := .ty "tuple") rfl B.tuple PyProof.Rows.boot_tuple rfl) pa_nil))) pa_nil)))))
            (pw_or1 (pt_cmpR op_ne (pe_callB call_len_seq rfl B.len PySem.boot_len (pa_cons (pv 3) pa_nil)) (pe_callB call_len_seq rfl B.len PySem.boot_len (pa_cons (pv 4) pa_nil)) (nomark _))))) (pss_one (ps_ret pe_bl)) pss_nil)
        (pss_one (ps_for PassesOwn.never rfl (pi_range1 rfl B.rng (pa_cons (pe_callB call_len_seq rfl B.len PySem.boot_len (pa_cons (pv 4) pa_nil)) pa_nil)) (pg_name (i := 5) nd rfl (Or.inl rfl))
          (pss_one (ps_expr (pe_app (pv 2) (pa_cons (pe_tup (pa_cons (pe_ix (ix_list.or ix_tup) (pv 3) (pv 5) (fun _ _ => rfl)) (pa_cons (pe_ix (ix_list.or ix_tup) (pv 4) (pv 5) (fun _ _ => rfl)) pa_nil))) pa_nil))))))))
        (pss_one (ps_if (PW.pt (pw_or (pt_cmpR op_isN (pv 3) pe_non (nomark _)) (pw_or1 (pt_cmpR op_isN (pv 4) pe_non (nomark _)))))
          (pss_one (ps_if (PW.pt (pw_or (pt_cmpR op_notN (pv 3) pe_non (nomark _)) (pw_or1 (pt_cmpR op_notN (pv 4) pe_non (nomark _))))) (pss_one (ps_ret pe_bl)) pss_nil))
          (pss_one (ps_if (pt_cmpR op_ne (pe_callB ck_isinst rfl B.isi PyProof.Rows.boot_isinstance (pa_cons (pv 3) (pa_cons (pe_bltn (v := .ty "bool") rfl B.bool PyProof.Rows.boot_bool rfl) pa_nil))) (pe_callB ck_isinst rfl B.isi PyProof.Rows.boot_isinstance (pa_cons (pv 4) (pa_cons (pe_bltn (v := .ty "bool") rfl B.bool PyProof.Rows.boot_bool rfl) pa_nil))) (nomark _)) (pss_one (ps_ret pe_bl))
          (pss_one (ps_if (pt_cmpR op_ne (pe_callB ck_isinst rfl B.isi PyProof.Rows.boot_isinstance (pa_cons (pv 3) (pa_cons (pe_bltn (v := .ty "str") rfl B.str PyProof.Rows.boot_str rfl) pa_nil))) (pe_callB ck_isinst rfl B.isi PyProof.Rows.boot_isinstance (pa_cons (pv 4) (pa_cons (pe_bltn (v := .ty "str") rfl B.str PyProof.Rows.boot_str rfl) pa_nil))) (nomark _)) (pss_one (ps_ret pe_bl))
          (pss_one (ps_if (PW.pt (pw_or (pt_not (pt_val (pe_callB ck_isT rfl B.isi PyProof.Rows.boot_isinstance (pa_cons (pv 3) (pa_cons (pe_tup (pa_cons (pe_bltn (v := .ty "str") rfl B.str PyProof.Rows.boot_str rfl) (pa_cons (pe_bltn (v := .ty "int") rfl B.int PyProof.Rows.boot_int rfl) pa_nil))) pa_nil)))))
            (pw_or1 (pt_cmpR op_ne (pv 3) (pv 4) (nomark _))))) (pss_one (ps_ret pe_bl)) pss_nil))))))))))))
    (pss_one (ps_ret pe_bl))), ?_⟩
  refine ⟨_, rfl, _, rfl, (by show 2 ≤ sizeLine; decide), fun t0 ht0 => ⟨(by show 1 ≤ sizeLine; decide), fun lt hlt => ?_⟩⟩
  have g1 := same_new ht0 (.tup [x, y])
  have g2 := same_new hlt (.lst [.ref t0])
  have nlt : H lt = none := g1.free hlt
  have start : TodoAt H (upd (upd H t0 (.tup [x, y])) lt (.lst [.ref t0])) lt [(t0, x, y, n)] := by
    refine ⟨g1.trans g2, upd_same, fun p hp => ?_, fun p hp => ?_⟩
    · rw [List.mem_singleton.mp hp]
      exact g2 _ _ upd_same
    · rw [List.mem_singleton.mp hp]
      exact hA
  have two : ∀ T U : String, [V.ty T, V.ty U] = [T, U].map V.ty := fun _ _ => rfl
  refine ⟨fun m σ H2 => (∃ v3 v4 v5, σ = [some x, some y, some (.ref lt), v3, v4, v5]) ∧ ∃ prs, TodoAt H H2 lt prs ∧ m = wgt prs ∧ m ≤ 100000, ⟨n, ⟨none, none, none, rfl⟩, _, start, by simp [wgt], hn⟩, ?_⟩
  rintro m σ H2 ⟨⟨v3, v4, v5, rfl⟩, prs, T, rfl, hm⟩
  refine ⟨_, rfl, (by show 0 ≤ sizeLine; decide), fun e1 he1 => ?_⟩
  have g3 := same_new he1 (.lst [])
  have T3 := T.grow g3
  refine ⟨lt, e1, _, rfl, rfl, SqL.of T3.at_, SqL.of upd_same, _, rfl, ?_⟩
  generalize upd H2 e1 (.lst []) = H3 at g3 T3
  rcases List.eq_nil_or_concat prs with rfl | ⟨init, p, rfl⟩
  · exact iteF (q H3 T3.same)
  rw [List.concat_eq_append] at T T3 hm ⊢
  have hne : (!((init ++ [p]).map fun p => V.ref p.1).isEmpty) = true := by simp
  rw [hne]
  refine iteT ⟨fun σ' H' => (∃ v3 v4 v5, σ' = [some x, some y, some (.ref lt), v3, v4, v5]) ∧ ∃ prs, TodoAt H H' lt prs ∧ wgt prs + 1 = wgt (init ++ [p]), fun σ' H' ⟨h1, prs', h2, h3⟩ => ⟨wgt prs', by omega, h1, prs', h2, rfl, by omega⟩, ?_⟩
  obtain ⟨pa, pl, pr, pn⟩ := p
  have hpm : (pa, pl, pr, pn) ∈ init ++ [(pa, pl, pr, pn)] := List.mem_append_right _ (List.mem_singleton.mpr rfl)
  have tp := T3.tup _ hpm
  have al := T3.alk _ hpm
  have T4 := T3.pop nlt
  have wsum : wgt (init ++ [(pa, pl, pr, pn)]) = wgt init + pn := by rw [wgt_app]; simp [wgt]
  have hdl : ((init ++ [((pa, pl, pr, pn) : Pr)]).map fun p => V.ref p.1).dropLast = init.map fun p => V.ref p.1 := by
    rw [List.map_append]
    show (List.map _ init ++ [V.ref pa]).dropLast = _
    rw [List.dropLast_concat]
  refine ⟨_, rfl, .inl ⟨rfl, _, SqL.of T3.at_⟩, lt, _, .ref pa, rfl, rfl, T3.at_, ?_, ?_⟩
  · rw [List.length_map, List.map_append, List.length_append]
    show (List.map _ init ++ [V.ref pa])[init.length + 1 - 1]? = some (V.ref pa)
    rw [List.getElem?_append_right (by simp)]
    simp
  rw [hdl]
  have tp4 : upd H3 lt (.lst (init.map fun p => V.ref p.1)) pa = some (.tup [pl, pr]) := by
    rw [upd_ne (ne_of tp T3.at_ (by intro z; cases z))]
    exact tp
  generalize upd H3 lt (.lst (init.map fun p => V.ref p.1)) = H4 at T4 tp4
  refine ⟨pa, _, rfl, SqT.of tp4, rfl, _, _, rfl, _, _, rfl, rfl, ?_⟩
  rw [wsum] at hm ⊢
  have linit := T4.len
  cases al with
  | int i =>
    refine ⟨_, rfl, (by show 2 ≤ sizeLine; decide), fun q1 hq1 => ⟨_, q1, ["list", "tuple"], _, false, rfl, SqT.of upd_same, TyOf.int i, rfl, _, rfl, iteF ?_⟩⟩
    have g5 := same_new hq1 (.tup [V.ty "list", V.ty "tuple"])
    refine ⟨_, rfl, rfl, _, rfl, iteF ⟨_, rfl, rfl, _, rfl, iteF ?_⟩⟩
    refine ⟨_, rfl, _, _, _, _, rfl, TyOf.int i, kit_ib K, _, rfl, _, _, _, _, rfl, TyOf.int i, kit_ib K, rfl, _, rfl, iteF ?_⟩
    refine ⟨_, rfl, _, _, _, _, rfl, TyOf.int i, rfl, _, rfl, _, _, _, _, rfl, TyOf.int i, rfl, rfl, _, rfl, iteF ?_⟩
    refine ⟨_, rfl, (by show 2 ≤ sizeLine; decide), fun q2 hq2 => ⟨_, q2, ["str", "int"], _, true, rfl, SqT.of upd_same, TyOf.int i, rfl, _, rfl, iteF ?_⟩⟩
    have g6 := same_new hq2 (.tup [V.ty "str", V.ty "int"])
    exact ⟨_, rfl, _, rfl, rfl, _, rfl, iteNS rfl ⟨⟨_, _, _, rfl⟩, init, T4.grow (g5.trans g6), rfl⟩⟩
  | str z =>
    refine ⟨_, rfl, (by show 2 ≤ sizeLine; decide), fun q1 hq1 => ⟨_, q1, ["list", "tuple"], _, false, rfl, SqT.of upd_same, TyOf.str z, rfl, _, rfl, iteF ?_⟩⟩
    have g5 := same_new hq1 (.tup [V.ty "list", V.ty "tuple"])
    refine ⟨_, rfl, rfl, _, rfl, iteF ⟨_, rfl, rfl, _, rfl, iteF ?_⟩⟩
    refine ⟨_, rfl, _, _, _, _, rfl, TyOf.str z, rfl, _, rfl, _, _, _, _, rfl, TyOf.str z, rfl, rfl, _, rfl, iteF ?_⟩
    refine ⟨_, rfl, _, _, _, _, rfl, TyOf.str z, kit_same K "str", _, rfl, _, _, _, _, rfl, TyOf.str z, kit_same K "str", rfl, _, rfl, iteF ?_⟩
    refine ⟨_, rfl, (by show 2 ≤ sizeLine; decide), fun q2 hq2 => ⟨_, q2, ["str", "int"], _, true, rfl, SqT.of upd_same, TyOf.str z, rfl, _, rfl, iteF ?_⟩⟩
    have g6 := same_new hq2 (.tup [V.ty "str", V.ty "int"])
    exact ⟨_, rfl, _, rfl, rfl, _, rfl, iteNS rfl ⟨⟨_, _, _, rfl⟩, init, T4.grow (g5.trans g6), rfl⟩⟩
  | @lst a b ps ha hb hps =>
    have hm : wgt init + (1 + (ps.map fun p => p.2.2).sum) ≤ 100000 := hm
    have ha4 := T4.same _ _ ha
    have hb4 := T4.same _ _ hb
    refine ⟨_, rfl, (by show 2 ≤ sizeLine; decide), fun q1 hq1 => ⟨_, q1, ["list", "tuple"], _, true, rfl, SqT.of upd_same, TyOf.lst ((same_new hq1 _) _ _ hb4), rfl, _, rfl, iteT ?_⟩⟩
    have g5 := same_new hq1 (.tup [V.ty "list", V.ty "tuple"])
    refine ⟨_, rfl, _, _, _, _, rfl, TyOf.lst (g5 _ _ ha4), kit_same K "list", _, rfl, _, _, _, _, rfl, TyOf.lst (g5 _ _ hb4), kit_same K "list", rfl, _, rfl, iteF ?_⟩
    refine ⟨_, rfl, (by show 2 ≤ sizeLine; decide), fun q2 hq2 => ⟨_, q2, ["list", "tuple"], _, true, rfl, SqT.of upd_same, TyOf.lst ((same_new hq2 _) _ _ (g5 _ _ ha4)), rfl, _, rfl, iteF ?_⟩⟩
    have g6 := same_new hq2 (.tup [V.ty "list", V.ty "tuple"])
    have T6 := T4.grow (g5.trans g6)
    generalize upd (upd H4 q1 (.tup [V.ty "list", V.ty "tuple"])) q2 (.tup [V.ty "list", V.ty "tuple"]) = H6 at T6
    have ha6 := T6.same _ _ ha
    have hb6 := T6.same _ _ hb
    refine ⟨_, rfl, a, _, rfl, .inl (SqL.of ha6), _, rfl, b, _, rfl, .inl (SqL.of hb6), rfl, _, rfl, iteNS (by rw [List.length_map, List.length_map]) ?_⟩
    have lps := sum_ge (l := ps.map fun p => p.2.2) fun z hz => by
      obtain ⟨p, hp, rfl⟩ := List.mem_map.mp hz
      exact (hps p hp).pos
    rw [List.length_map] at lps
    refine ⟨_, rfl, b, _, rfl, .inl (SqL.of hb6), _, rfl, by omega, by rw [List.length_map]; omega, ?_⟩
    rw [List.length_map, Int.toNat_natCast]
    refine for_range (lo := 0) (fun j σ H7 => (∃ v5, σ = [some x, some y, some (.ref lt), some (.ref a), some (.ref b), v5]) ∧ ∃ news : List Pr, TodoAt H H7 lt (init ++ news) ∧ wgt news = ((ps.take j).map fun p => p.2.2).sum) ⟨⟨_, rfl⟩, [], by rw [List.append_nil]; exact T6, rfl⟩ ?_ ?_
    · rintro j σ H7 hj ⟨⟨v5', rfl⟩, news, T7, hw⟩
      have hpj : ps[j]? = some ps[j] := List.getElem?_eq_getElem hj
      have hpm := List.getElem_mem hj
      have eA : atI (ps.map fun p => p.1) (0 + (j : Int)) = some ps[j].1 := at_any (by rw [List.getElem?_map, hpj]; rfl)
      have eB : atI (ps.map fun p => p.2.1) (0 + (j : Int)) = some ps[j].2.1 := at_any (by rw [List.getElem?_map, hpj]; rfl)
      have tk : ((ps.take (j + 1)).map fun p => p.2.2).sum = ((ps.take j).map fun p => p.2.2).sum + ps[j].2.2 := by
        rw [List.take_add_one, hpj, List.map_append, List.sum_append]
        simp
      have le : ((ps.take j).map fun p => p.2.2).sum ≤ (ps.map fun p => p.2.2).sum := by
        have z : (ps.map fun p => p.2.2).sum = ((ps.take j).map fun p => p.2.2).sum + ((ps.drop j).map fun p => p.2.2).sum := by
          rw [← List.sum_append, ← List.map_append, List.take_append_drop]
        omega
      have l7 := T7.len
      rw [wgt_app, hw] at l7
      refine ⟨_, rfl, .inl ⟨rfl, _, SqL.of T7.at_⟩, _, rfl, _, rfl, .inl ⟨a, _, _, _, rfl, rfl, SqL.of (T7.same _ _ ha), eA, _, rfl, _, rfl, .inl ⟨b, _, _, _, rfl, rfl, SqL.of (T7.same _ _ hb), eB, (by show 2 ≤ sizeLine; decide), fun tt ht => ?_⟩⟩⟩
      refine ⟨lt, _, _, rfl, rfl, (same_new ht _) _ _ T7.at_, by rw [List.length_map]; exact small (by omega), ⟨_, rfl⟩, news ++ [(tt, ps[j].1, ps[j].2.1, ps[j].2.2)], ?_, ?_⟩
      · rw [← List.append_assoc]
        exact T7.push nlt ht (hps _ hpm)
      · rw [wgt_app, hw, tk]
        simp [wgt]
    · rintro σ H7 ⟨⟨v5', rfl⟩, news, T7, hw⟩
      refine ⟨⟨_, _, _, rfl⟩, init ++ news, T7, ?_⟩
      show wgt (init ++ news) + 1 = wgt init + (1 + (ps.map fun p => p.2.2).sum)
      rw [wgt_app, hw, List.take_length]
      omega
  | @tup a b ps ha hb hps =>
    have hm : wgt init + (1 + (ps.map fun p => p.2.2).sum) ≤ 100000 := hm
    have ha4 := T4.same _ _ ha
    have hb4 := T4.same _ _ hb
    refine ⟨_, rfl, (by show 2 ≤ sizeLine; decide), fun q1 hq1 => ⟨_, q1, ["list", "tuple"], _, true, rfl, SqT.of upd_same, TyOf.tup ((same_new hq1 _) _ _ hb4), rfl, _, rfl, iteT ?_⟩⟩
    have g5 := same_new hq1 (.tup [V.ty "list", V.ty "tuple"])
    refine ⟨_, rfl, _, _, _, _, rfl, TyOf.tup (g5 _ _ ha4), rfl, _, rfl, _, _, _, _, rfl, TyOf.tup (g5 _ _ hb4), rfl, rfl, _, rfl, iteF ?_⟩
    refine ⟨_, rfl, (by show 2 ≤ sizeLine; decide), fun q2 hq2 => ⟨_, q2, ["list", "tuple"], _, true, rfl, SqT.of upd_same, TyOf.tup ((same_new hq2 _) _ _ (g5 _ _ ha4)), rfl, _, rfl, iteF ?_⟩⟩
    have g6 := same_new hq2 (.tup [V.ty "list", V.ty "tuple"])
    have T6 := T4.grow (g5.trans g6)
    generalize upd (upd H4 q1 (.tup [V.ty "list", V.ty "tuple"])) q2 (.tup [V.ty "list", V.ty "tuple"]) = H6 at T6
    have ha6 := T6.same _ _ ha
    have hb6 := T6.same _ _ hb
    refine ⟨_, rfl, a, _, rfl, .inr (SqT.of ha6), _, rfl, b, _, rfl, .inr (SqT.of hb6), rfl, _, rfl, iteNS (by rw [List.length_map, List.length_map]) ?_⟩
    have lps := sum_ge (l := ps.map fun p => p.2.2) fun z hz => by
      obtain ⟨p, hp, rfl⟩ := List.mem_map.mp hz
      exact (hps p hp).pos
    rw [List.length_map] at lps
    refine ⟨_, rfl, b, _, rfl, .inr (SqT.of hb6), _, rfl, by omega, by rw [List.length_map]; omega, ?_⟩
    rw [List.length_map, Int.toNat_natCast]
    refine for_range (lo := 0) (fun j σ H7 => (∃ v5, σ = [some x, some y, some (.ref lt), some (.ref a), some (.ref b), v5]) ∧ ∃ news : List Pr, TodoAt H H7 lt (init ++ news) ∧ wgt news = ((ps.take j).map fun p => p.2.2).sum) ⟨⟨_, rfl⟩, [], by rw [List.append_nil]; exact T6, rfl⟩ ?_ ?_
    · rintro j σ H7 hj ⟨⟨v5', rfl⟩, news, T7, hw⟩
      have hpj : ps[j]? = some ps[j] := List.getElem?_eq_getElem hj
      have hpm := List.getElem_mem hj
      have eA : atI (ps.map fun p => p.1) (0 + (j : Int)) = some ps[j].1 := at_any (by rw [List.getElem?_map, hpj]; rfl)
      have eB : atI (ps.map fun p => p.2.1) (0 + (j : Int)) = some ps[j].2.1 := at_any (by rw [List.getElem?_map, hpj]; rfl)
      have tk : ((ps.take (j + 1)).map fun p => p.2.2).sum = ((ps.take j).map fun p => p.2.2).sum + ps[j].2.2 := by
        rw [List.take_add_one, hpj, List.map_append, List.sum_append]
        simp
      have le : ((ps.take j).map fun p => p.2.2).sum ≤ (ps.map fun p => p.2.2).sum := by
        have z : (ps.map fun p => p.2.2).sum = ((ps.take j).map fun p => p.2.2).sum + ((ps.drop j).map fun p => p.2.2).sum := by
          rw [← List.sum_append, ← List.map_append, List.take_append_drop]
        omega
      have l7 := T7.len
      rw [wgt_app, hw] at l7
      refine ⟨_, rfl, .inl ⟨rfl, _, SqL.of T7.at_⟩, _, rfl, _, rfl, .inr ⟨a, _, _, _, rfl, rfl, SqT.of (T7.same _ _ ha), eA, _, rfl, _, rfl, .inr ⟨b, _, _, _, rfl, rfl, SqT.of (T7.same _ _ hb), eB, (by show 2 ≤ sizeLine; decide), fun tt ht => ?_⟩⟩⟩
      refine ⟨lt, _, _, rfl, rfl, (same_new ht _) _ _ T7.at_, by rw [List.length_map]; exact small (by omega), ⟨_, rfl⟩, news ++ [(tt, ps[j].1, ps[j].2.1, ps[j].2.2)], ?_, ?_⟩
      · rw [← List.append_assoc]
        exact T7.push nlt ht (hps _ hpm)
      · rw [wgt_app, hw, tk]
        simp [wgt]
    · rintro σ H7 ⟨⟨v5', rfl⟩, news, T7, hw⟩
      refine ⟨⟨_, _, _, rfl⟩, init ++ news, T7, ?_⟩
      show wgt (init ++ news) + 1 = wgt init + (1 + (ps.map fun p => p.2.2).sum)
      rw [wgt_app, hw, List.take_length]
      omega
/-! ### _law_alike -/
def spAlikeU : Sp := fun vs H Q _ => ∃ (a : Addr) (xs : List V) (y : V) (n : Nat), vs = [.ref a, y] ∧ H a = some (.tup xs) ∧ Alk H (.ref a) y n ∧ n ≤ 100000 ∧ ∀ H', Same H H' → Q (.bl true) H'
theorem scAlikeU : FnScope ["_law_found", "_law_due"] ["_law_found", "_law_due"] (defScope sAlike) := ⟨rfl, rfl, rfl, by decide +kernel, rfl, by decide +kernel, by decide +kernel⟩
theorem ok_alikeU (F : Fun K "_law_alike" "_law_alike" sAlike f fd) (B : Bt mg) (GU : Fk P w K mg base "_law_unturned" 1 ["_law_found", "_law_due"] spUnturned) : FnOk P w K mg base CX0 2 f fd ["_law_found", "_law_due"] spAlikeU := by
  refine F.ok scAlikeU (fun vs H Q E h => ?_) (fun cdv A outer s H vs Q E hr h => ?_)
  · obtain ⟨a, xs, y, n, rfl, _⟩ := h
    rfl
  obtain ⟨a, xs, y, n, rfl, ha, hA, hn, q⟩ := h
  refine ⟨_, pss_one (ps_ret (pe_and (pe_callB ck_isinst rfl B.isi PyProof.Rows.boot_isinstance (pa_cons (pv 0) (pa_cons (pe_bltn (v := .ty "tuple") rfl B.tuple PyProof.Rows.boot_tuple rfl) pa_nil))) (pe_one (pe_fk GU hr rfl (pa_cons (pv 0) (pa_cons (pv 1) pa_nil)))))), ?_⟩
  exact ⟨_, rfl, _, _, _, _, rfl, TyOf.tup ha, kit_same K "tuple", _, rfl, iteT ⟨_, rfl, _, rfl, _, _, n, rfl, hA, hn, q⟩⟩
end
end Sd

namespace Sd
open PySem L2
section
variable {P : Program} {w : World} {K : PySem.W.Frag} {mg : Str → Option Value} {base : Heap} {f : Addr} {fd : FuncData}
/-! ### _law_numbered -/
def spNumbered : Sp := fun vs H Q _ => ∃ (l : Addr) (rows : List (Addr × Deed)) (count : Nat), vs = [.ref l, .int (count : Int)] ∧ DeedsAt H l rows ∧ DesksOk (rows.map (·.2)) count ∧ count ≤ 60 ∧ rows.length ≤ 4000 ∧
  ∀ (r : Addr) (H' : Hp), H r = none → Same H H' → H' r = some (.lst (((List.range rows.length).map fun k => numN (rows.map (·.2)) k).map nv)) → Q (.ref r) H'
theorem scNumbered : FnScope ["_law_asked", "_law_count", "_law_puts", "_law_numbers", "_law_deed"] ["_law_asked", "_law_count"] (defScope sNumbered) := ⟨rfl, rfl, rfl, by decide +kernel, rfl, by decide +kernel, by decide +kernel⟩
theorem ok_numbered (F : Fun K "_law_numbered" "_law_numbered" sNumbered f fd) : FnOk P w K mg base CX0 1 f fd ["_law_asked", "_law_count"] spNumbered := by
  refine F.ok scNumbered (fun vs H Q E h => ?_) (fun cdv A outer s H vs Q E hr h => ?_)
  · obtain ⟨l, rows, count, rfl, _⟩ := h
    rfl
  obtain ⟨l, rows, count, rfl, hds, DK, c2, hn, q⟩ := h
  have nd := scNumbered.nd
  refine ⟨_, pss_cons (ps_set (i := 2) nd rfl (Or.inl rfl) (pe_op op_rep (pe_lst (pa_cons pe_int pa_nil)) (pv 1)))
    (pss_cons (ps_set (i := 3) nd rfl (Or.inl rfl) (pe_lst pa_nil))
    (pss_cons (ps_for PassesOwn.never rfl (pi_list (pv 0)) (pg_name (i := 4) nd rfl (Or.inl rfl))
      (pss_cons (ps_if (pt_cmpR op_eq (pe_ix ix_tup (pv 4) pe_int (fun _ _ => rfl)) pe_str (nomark _)) (pss_one (ps_asg (pe_op op_add (pe_ix ix_list (pv 2) (pe_ix ix_tup (pv 4) pe_int (fun _ _ => rfl)) (fun _ _ => rfl)) pe_int) (pg_sub (pv 2) (pe_ix ix_tup (pv 4) pe_int (fun _ _ => rfl)) set_list))) pss_nil)
      (pss_one (ps_expr (pe_app (pv 3) (pa_cons (pe_ix ix_list (pv 2) (pe_ix ix_tup (pv 4) pe_int (fun _ _ => rfl)) (fun _ _ => rfl)) pa_nil))))))
    (pss_one (ps_ret (pv 3))))), ?_⟩
  generalize hds' : rows.map (·.2) = ds at DK q
  have hrow : ∀ (i : Nat) (p : Addr × Deed), rows[i]? = some p → ds[i]? = some p.2 := fun i p h => by rw [← hds', List.getElem?_map, h]; rfl
  refine ⟨(by show 1 ≤ sizeLine; decide), fun p1 hp1 => ?_⟩
  have g1 := same_new hp1 (.lst [.int 0])
  refine ⟨_, rfl, p1, (count : Int), _, rfl, rfl, upd_same, by omega, by omega, ?_, fun lp hlp => ⟨(by show 0 ≤ sizeLine; decide), fun ln hln => ?_⟩⟩
  · show 1 * ((count : Int)).toNat ≤ sizeLine
    rw [Int.toNat_natCast]
    exact Nat.le_of_lt (small (by omega))
  rw [Int.toNat_natCast, rep_zero] at hln ⊢
  have g2 := same_new hlp (.lst ((List.replicate count (0 : Int)).map V.int))
  have g3 := same_new hln (.lst [])
  have nlp : H lp = none := g1.free hlp
  have nln : H ln = none := (g1.trans g2).free hln
  have npn : lp ≠ ln := ne_of_none (H := upd (upd H p1 (.lst [.int 0])) lp (.lst ((List.replicate count (0 : Int)).map V.int))) upd_same hln
  refine ⟨_, rfl, l, rfl, ⟨_, SqL.of (g3 _ _ (g2 _ _ (g1 _ _ hds.at_)))⟩, for_list (K := K) (a := l) (xs := drefs rows) (fun i σ H2 => (∃ v4, σ = [some (.ref l), some (.int (count : Int)), some (.ref lp), some (.ref ln), v4]) ∧ Same H H2 ∧ H2 lp = some (.lst (((List.range count).map fun e => ((putsOn ds i e : Nat) : Int)).map V.int)) ∧ H2 ln = some (.lst (((List.range i).map fun k => numN ds k).map nv)))
    ⟨⟨none, rfl⟩, (g1.trans g2).trans g3, ?_, upd_same⟩ (fun i σ H2 _ ⟨_, g, _⟩ => SqL.of (g _ _ hds.at_)) ?_ ?_⟩
  · rw [g3 _ _ upd_same]
    congr 3
    apply List.ext_getElem?
    intro j
    rw [List.getElem?_replicate, List.getElem?_map]
    by_cases hj : j < count
    · rw [if_pos hj, List.getElem?_range hj]; rfl
    · rw [if_neg hj, List.getElem?_eq_none (by simpa using hj)]; rfl
  · rintro i y σ H2 hy ⟨⟨v4, rfl⟩, g, hp, hnm⟩
    have hil : i < rows.length := by
      have z := (List.getElem?_eq_some_iff.mp hy).1
      rw [List.length_map] at z
      exact z
    obtain ⟨p, hpr⟩ : ∃ p, rows[i]? = some p := ⟨_, List.getElem?_eq_getElem hil⟩
    obtain rfl : y = .ref p.1 := by
      rw [List.getElem?_map, hpr] at hy
      exact (Option.some.inj hy).symm
    have hdx := hrow i p hpr
    have D2 := DK i p.2 hdx
    have hx := g _ _ (hds.tup p (List.mem_of_getElem? hpr))
    have len : ((List.range count).map fun e => ((putsOn ds i e : Nat) : Int)).length = count := by rw [List.length_map, List.length_range]
    have at_ : ∀ k d : Nat, d < count → atI (((List.range count).map fun e => ((putsOn ds k e : Nat) : Int)).map V.int) (d : Int) = some (.int ((putsOn ds k d : Nat) : Int)) := fun k d hd => atI_nat (by rw [List.getElem?_map, List.getElem?_map, List.getElem?_range hd]; rfl)
    have numE : numN ds i = putsOn ds (i + 1) p.2.desk := by unfold numN; rw [deskAt_at hdx]
    have fin : ∀ H3 : Hp, Same H H3 → H3 lp = some (.lst (((List.range count).map fun e => ((putsOn ds (i + 1) e : Nat) : Int)).map V.int)) → H3 ln = some (.lst (((List.range i).map fun k => numN ds k).map nv)) →
        Same H (upd H3 ln (.lst (((List.range i).map fun k => numN ds k).map nv ++ [.int ((putsOn ds (i + 1) p.2.desk : Nat) : Int)]))) ∧ upd H3 ln (.lst (((List.range i).map fun k => numN ds k).map nv ++ [.int ((putsOn ds (i + 1) p.2.desk : Nat) : Int)])) lp = some (.lst (((List.range count).map fun e => ((putsOn ds (i + 1) e : Nat) : Int)).map V.int)) ∧
        upd H3 ln (.lst (((List.range i).map fun k => numN ds k).map nv ++ [.int ((putsOn ds (i + 1) p.2.desk : Nat) : Int)])) ln = some (.lst (((List.range (i + 1)).map fun k => numN ds k).map nv)) := fun H3 g3' h1 h2 => by
      refine ⟨g3'.put nln, (upd_ne npn).trans h1, ?_⟩
      rw [upd_same, List.range_succ, List.map_append, List.map_append, ← numE]
      rfl
    have lz : ((((List.range i).map fun k => numN ds k)).map nv).length < sizeLine := by rw [List.length_map, List.length_map, List.length_range]; exact small (by omega)
    cases hpx : p.2 with
    | put d t =>
      rw [hpx] at hx D2 hdx fin
      have hd : d < count := D2.1
      refine ⟨_, rfl, _, _, _, _, rfl, rfl, SqT.of hx, rfl, rfl, _, rfl, ite2 (fun _ => ?_) (fun z => absurd (decide_eq_true rfl) z)⟩
      refine ⟨_, rfl, _, rfl, _, _, _, _, rfl, rfl, SqT.of hx, rfl, lp, _, _, _, rfl, rfl, SqL.of hp, at_ i d hd, _, _, rfl, rfl, _, rfl, _, rfl, _, _, _, _, rfl, rfl, SqT.of hx, rfl, lp, _, _, d, rfl, rfl, hp, ixN_ok (by omega) (by rw [List.length_map, len]; omega), ?_⟩
      rw [set_map]
      have ps : (List.range count).map (fun e => ((putsOn ds (i + 1) e : Nat) : Int)) = ((List.range count).map fun e => ((putsOn ds i e : Nat) : Int)).set d (((putsOn ds i d : Nat) : Int) + 1) := puts_step (c := count) hdx
      rw [← ps]
      have g4 : Same H (upd H2 lp (.lst (((List.range count).map fun e => ((putsOn ds (i + 1) e : Nat) : Int)).map V.int))) := g.put nlp
      have h4n : upd H2 lp (.lst (((List.range count).map fun e => ((putsOn ds (i + 1) e : Nat) : Int)).map V.int)) ln = some (.lst (((List.range i).map fun k => numN ds k).map nv)) := (upd_ne npn.symm).trans hnm
      have hx4 : upd H2 lp (.lst (((List.range count).map fun e => ((putsOn ds (i + 1) e : Nat) : Int)).map V.int)) p.1 = some (.tup (dtup (.put d t))) := by
        rw [upd_ne (ne_of hx hp (by intro z; cases z))]
        exact hx
      refine ⟨_, rfl, .inl ⟨rfl, _, SqL.of h4n⟩, _, rfl, _, rfl, _, _, _, _, rfl, rfl, SqT.of hx4, rfl, lp, _, _, _, rfl, rfl, SqL.of upd_same, at_ (i + 1) d hd, ln, _, _, rfl, rfl, h4n, lz, ⟨_, rfl⟩, fin _ g4 upd_same h4n⟩
    | take d t =>
      rw [hpx] at hx D2 hdx fin
      have hd : d < count := D2.1
      have ps : (List.range count).map (fun e => ((putsOn ds (i + 1) e : Nat) : Int)) = (List.range count).map fun e => ((putsOn ds i e : Nat) : Int) := puts_step (c := count) hdx
      rw [← ps] at hp
      refine ⟨_, rfl, _, _, _, _, rfl, rfl, SqT.of hx, rfl, rfl, _, rfl, ite2 (fun z => absurd (of_decide_eq_true z) (by intro z; injection z with z; revert z; decide)) (fun _ => ?_)⟩
      refine ⟨_, rfl, .inl ⟨rfl, _, SqL.of hnm⟩, _, rfl, _, rfl, _, _, _, _, rfl, rfl, SqT.of hx, rfl, lp, _, _, _, rfl, rfl, SqL.of hp, at_ (i + 1) d hd, ln, _, _, rfl, rfl, hnm, lz, ⟨_, rfl⟩, fin _ g hp hnm⟩
    | hear d o =>
      rw [hpx] at hx D2 hdx fin
      have hd : d < count := D2.1
      have ps : (List.range count).map (fun e => ((putsOn ds (i + 1) e : Nat) : Int)) = (List.range count).map fun e => ((putsOn ds i e : Nat) : Int) := puts_step (c := count) hdx
      rw [← ps] at hp
      refine ⟨_, rfl, _, _, _, _, rfl, rfl, SqT.of hx, rfl, rfl, _, rfl, ite2 (fun z => absurd (of_decide_eq_true z) (by intro z; injection z with z; revert z; decide)) (fun _ => ?_)⟩
      refine ⟨_, rfl, .inl ⟨rfl, _, SqL.of hnm⟩, _, rfl, _, rfl, _, _, _, _, rfl, rfl, SqT.of hx, rfl, lp, _, _, _, rfl, rfl, SqL.of hp, at_ (i + 1) d hd, ln, _, _, rfl, rfl, hnm, lz, ⟨_, rfl⟩, fin _ g hp hnm⟩
  · rintro σ H2 ⟨⟨v4, rfl⟩, g, hp, hnm⟩
    rw [show (drefs rows).length = rows.length from List.length_map _] at hnm
    exact ⟨_, rfl, q ln H2 nln g hnm⟩
/-! ### things_behind -/
def spBehind : Sp := fun vs H Q _ => ∃ (count : Nat) (ld : Addr) (rows : List (Addr × Deed)), vs = [.int (count : Int), .ref ld] ∧ DeedsAt H ld rows ∧ 1 ≤ count ∧ count ≤ 60 ∧ DesksOk (rows.map (·.2)) count ∧ (∀ p ∈ rows, p.2.short) ∧ (slipsOf (rows.map (·.2)) (List.range rows.length)).length ≤ 63 ∧
  ∀ (r : Addr) (H' : Hp) (tl : List (Addr × List Str)) (bks : List Bk), H r = none → Same H H' → H' r = some (.lst (tl.map fun p => V.ref p.1)) → (∀ p ∈ tl, H' p.1 = some (.lst (p.2.map V.str))) → tl.length = count → DayInv (rows.map (·.2)) count rows.length bks →
    (∀ (d : Nat) (t : Addr × List Str) (b : Bk), tl[d]? = some t → bks[d]? = some b → t.2.Perm (onceS [] (thingsOf b.2)) ∧ t.2.Pairwise leS) → Q (.ref r) H'
theorem scBehind : FnScope ["count", "deeds"] ["count", "deeds"] (defScope sBehind) := ⟨rfl, rfl, rfl, by decide +kernel, rfl, by decide +kernel, by decide +kernel⟩
theorem ok_behind (F : Fun K "things_behind" "things_behind" sBehind f fd) (GT : Fk P w K mg base "things_in" 1 ["book"] spThings) (GB : Fk P w K mg base "books_behind" 5 ["count", "deeds"] spBooks) : FnOk P w K mg base CX0 6 f fd ["count", "deeds"] spBehind := by
  refine F.ok scBehind (fun vs H Q E h => ?_) (fun cdv A outer s H vs Q E hr h => ?_)
  · obtain ⟨count, ld, rows, rfl, _⟩ := h
    rfl
  obtain ⟨count, ld, rows, rfl, hds, c1, c2, DK, hsh, hfew, q⟩ := h
  have hr1 : Room 1 _ := hr.mono (by decide)
  refine ⟨_, pss_one (ps_ret (pe_lc (fr := []) rfl (by exact ScC.of (by show ScOk (defScope sBehind) _ _ = true; decide +kernel)) (by exact trivial) (by decide +kernel) (pi_list (pe_fk GB hr rfl (pa_cons (pv 0) (pa_cons (pv 1) pa_nil)))) (fun _ _ _ _ _ => pif_nil) (fun _ _ _ _ _ => pe_fk GT hr1 rfl (pa_cons (pv 0) pa_nil)))), ?_⟩
  refine ⟨_, rfl, _, rfl, count, ld, rows, rfl, hds, c1, c2, DK, hsh, hfew, fun lb H1 bl nlb g1 hb I => ⟨lb, rfl, ⟨_, SqL.of hb.at_⟩, ?_⟩⟩
  have bll : bl.length = count := by rw [← I.len, List.length_map]
  have hl : (bkrefs bl).length = bl.length := List.length_map _
  refine lc_listN (fun D i ys H2 => ∃ tl : List (Addr × List Str), ys = tl.map (fun p => V.ref p.1) ∧ tl.length = i ∧ (∀ p ∈ tl, p.1 ≠ D ∧ H2 p.1 = some (.lst (p.2.map V.str))) ∧ ∀ (d : Nat) (t : Addr × List Str) (b : Addr × Bk), tl[d]? = some t → bl[d]? = some b → t.2.Perm (onceS [] (thingsOf b.2.2)) ∧ t.2.Pairwise leS)
    (SqL.of hb.at_) (by rw [hl]; exact small (by omega)) (fun D i ys H2 ⟨tl, e, l, _⟩ => by rw [e, List.length_map, l]) (fun _ _ _ hR => hR) (fun D hD => ⟨[], rfl, rfl, fun p hp => absurd hp (by simp), fun d t b h => absurd h (by simp)⟩) ?_ ?_
  · rintro D i y ys H2 R hy hD g2 hDy ⟨tl, rfl, rfl, htl, hpm⟩ hR
    have hil : tl.length < bl.length := by
      have z := (List.getElem?_eq_some_iff.mp hy).1
      rw [hl] at z
      exact z
    obtain ⟨p, hp⟩ : ∃ p, bl[tl.length]? = some p := ⟨_, List.getElem?_eq_getElem hil⟩
    obtain rfl : y = .ref p.1 := by
      rw [List.getElem?_map, hp] at hy
      exact (Option.some.inj hy).symm
    have hbk : (bl.map (·.2))[tl.length]? = some p.2 := by rw [List.getElem?_map, hp]; rfl
    have W := I.wf _ _ hbk
    have lsl := (few_len (I.few (by rw [List.length_map]; exact Nat.le_refl _) (by rw [List.length_map]; exact hfew) hbk hbk)).1 W.lt
    have lon : (onceS [] (thingsOf p.2.2)).length < 64 := by
      have := onceS_len (thingsOf p.2.2) []
      unfold thingsOf at this ⊢
      rw [List.length_map, List.length_nil] at this
      omega
    refine ⟨_, rfl, p.1, p.2.1, p.2.2, rfl, (hb.mono g2).bk p (List.mem_of_getElem? hp), by omega, lon, fun r ss H3 nr g3 hL hP hW => hR (.ref r) H3 g3 ⟨tl ++ [(r, ss)], by rw [List.map_append]; rfl, by rw [List.length_append]; rfl, fun p' hp' => ?_, fun d t b h1 h2 => ?_⟩⟩
    · have nD : D ≠ r := ne_of_none hDy nr
      rcases List.mem_append.mp hp' with z | z
      · obtain ⟨a1, a2⟩ := htl p' z
        exact ⟨a1, by rw [upd_ne a1]; exact g3 _ _ a2⟩
      · rw [List.mem_singleton.mp z]
        exact ⟨nD.symm, by show upd _ D _ r = _; rw [upd_ne nD.symm]; exact hL⟩
    · by_cases hd : d < tl.length
      · rw [List.getElem?_append_left hd] at h1
        exact hpm d t b h1 h2
      · rw [List.getElem?_append_right (by omega)] at h1
        have l1 := (List.getElem?_eq_some_iff.mp h1).1
        have e0 : d = tl.length := by
          simp at l1
          omega
        subst e0
        rw [Nat.sub_self] at h1
        have et : (r, ss) = t := Option.some.inj h1
        rw [hp] at h2
        cases h2
        rw [← et]
        exact ⟨hP, hW⟩
  rintro D ys H2 hD g2 hDy ⟨tl, rfl, htl, hall, hpm⟩
  rw [hl] at htl
  refine q D H2 tl (bl.map (·.2)) (g1.free hD) (g1.trans g2) hDy (fun p hp => (hall p hp).2) (by omega) I fun d t b h1 h2 => ?_
  rw [List.getElem?_map] at h2
  cases h3 : bl[d]? with
  | none => rw [h3] at h2; cases h2
  | some p =>
    rw [h3] at h2
    have e : p.2 = b := Option.some.inj h2
    rw [← e]
    exact hpm d t p h1 h3
end
end Sd

namespace Sd
open PySem L2
def countZ (ns : List Int) : Int := 1 + (atZ ns 0 + 1) % wideZ ns 5 40
theorem wide_pos (ns : List Int) : 0 < wideZ ns 5 40 ∧ wideZ ns 5 40 ≤ 40 := by
  unfold wideZ
  split
  · rw [if_pos (by decide)]; decide
  · decide
theorem count_ok (ns : List Int) : 1 ≤ countZ ns ∧ countZ ns ≤ 40 := by
  obtain ⟨h1, h2⟩ := wide_pos ns
  unfold countZ
  have a1 := Int.emod_nonneg (atZ ns 0 + 1) (show wideZ ns 5 40 ≠ 0 by omega)
  have a2 := Int.emod_lt_of_pos (atZ ns 0 + 1) h1
  omega
theorem deeds_desks (cs : List Int) {c : Nat} (h : 1 ≤ c) : ∀ x ∈ deedsL cs (c : Int), x.desk < c ∧ ∀ d o, x = .hear d o → o < c := by
  intro x hx
  obtain ⟨k, _, rfl⟩ := List.mem_map.mp hx
  have a := deskZ_ok cs (count := (c : Int)) k (by omega)
  have b := otherZ_ok cs (count := (c : Int)) k (by omega)
  refine ⟨by rw [deedOf_desk]; omega, fun d o e => ?_⟩
  rw [deedOf_other e]
  omega
theorem deeds_short (cs : List Int) (c : Int) : ∀ x ∈ deedsL cs c, x.short := by
  intro x hx
  obtain ⟨k, _, rfl⟩ := List.mem_map.mp hx
  exact deedOf_short cs c k
theorem deeds_len (cs : List Int) (c : Int) : (deedsL cs c).length = cs.length := by unfold deedsL; rw [List.length_map, List.length_range]
theorem kind_of {ds : List Deed} {k : Nat} {x : Deed} (h : ds[k]? = some x) : ∃ (n : Str) (z : V), dtup x = [.str n, .int (x.desk : Int), z] ∧ decide (V.str n = V.str ("take" : Str)) = isTakeB ds k ∧ decide (V.str n = V.str ("put" : Str)) = isPutAny ds k := by
  unfold isTakeB isPutAny
  rw [h]
  cases x with
  | put e t => exact ⟨_, _, rfl, (show decide (V.str ("put" : Str) = V.str ("take" : Str)) = false by decide), (show decide (V.str ("put" : Str) = V.str ("put" : Str)) = true by decide)⟩
  | take e t => exact ⟨_, _, rfl, (show decide (V.str ("take" : Str) = V.str ("take" : Str)) = true by decide), (show decide (V.str ("take" : Str) = V.str ("put" : Str)) = false by decide)⟩
  | hear e o => exact ⟨_, _, rfl, (show decide (V.str ("hear" : Str) = V.str ("take" : Str)) = false by decide), (show decide (V.str ("hear" : Str) = V.str ("put" : Str)) = false by decide)⟩
def natOf : V → Nat
  | .int i => i.toNat
  | _ => 0
theorem natOf_nv (k : Nat) : natOf (nv k) = k := Int.toNat_natCast k
theorem filter_nv (q : Nat → Bool) : ∀ ks : List Nat, ((ks.map nv).filter fun v => q (natOf v)).map id = (ks.filter q).map nv
  | [] => rfl
  | k :: ks => by
    have ih := filter_nv q ks
    rw [List.map_id] at ih ⊢
    rw [List.map_cons, List.filter_cons, List.filter_cons, natOf_nv, ih]
    cases q k <;> rfl
/-! ### two books alike -/
theorem alk_ints {H : Hp} {a b : Addr} {hd : List Int} (ha : H a = some (.lst (hd.map V.int))) (hb : H b = some (.lst (hd.map V.int))) : Alk H (.ref a) (.ref b) (1 + hd.length) := by
  have z := Alk.lst (H := H) (a := a) (b := b) (ps := hd.map fun i => (V.int i, V.int i, 1)) (by rw [ha, List.map_map]; rfl) (by rw [hb, List.map_map]; rfl) (fun p hp => by
    obtain ⟨i, _, rfl⟩ := List.mem_map.mp hp
    exact Alk.int i)
  have e : ((hd.map fun i => (V.int i, V.int i, 1)).map fun p => p.2.2).sum = hd.length := by
    rw [List.map_map]
    clear ha hb z
    induction hd with
    | nil => rfl
    | cons i r ih => rw [List.map_cons, List.sum_cons, ih, List.length_cons]; show 1 + r.length = r.length + 1; omega
  rw [e] at z
  exact z
theorem alk_tup {H : Hp} {a b : Addr} {x : Slip} (ha : H a = some (.tup (tupOf x))) (hb : H b = some (.tup (tupOf x))) : Alk H (.ref a) (.ref b) 4 :=
  Alk.tup (H := H) (a := a) (b := b) (ps := [(V.int x.1, V.int x.1, 1), (V.int x.2.1, V.int x.2.1, 1), (V.str x.2.2, V.str x.2.2, 1)]) ha hb (fun p hp => by
    simp only [List.mem_cons, List.not_mem_nil, or_false] at hp
    rcases hp with rfl | rfl | rfl
    · exact Alk.int _
    · exact Alk.int _
    · exact Alk.str _)
theorem alk_pairs {H : Hp} : ∀ {as bs : List (Addr × Slip)}, (∀ p ∈ as, H p.1 = some (.tup (tupOf p.2))) → (∀ p ∈ bs, H p.1 = some (.tup (tupOf p.2))) → as.map (·.2) = bs.map (·.2) →
    ∃ ps : List (V × V × Nat), ps.map (fun p => p.1) = refs as ∧ ps.map (fun p => p.2.1) = refs bs ∧ (ps.map fun p => p.2.2).sum = 4 * as.length ∧ ∀ p ∈ ps, Alk H p.1 p.2.1 p.2.2
  | [], [], _, _, _ => ⟨[], rfl, rfl, rfl, fun p hp => absurd hp (by simp)⟩
  | [], b :: bs, _, _, e => by simp at e
  | a :: as, [], _, _, e => by simp at e
  | a :: as, b :: bs, ha, hb, e => by
    rw [List.map_cons, List.map_cons] at e
    injection e with e1 e2
    obtain ⟨ps, h1, h2, h3, h4⟩ := alk_pairs (as := as) (bs := bs) (fun p hp => ha p (List.mem_cons_of_mem _ hp)) (fun p hp => hb p (List.mem_cons_of_mem _ hp)) e2
    have hb0 := hb b List.mem_cons_self
    rw [← e1] at hb0
    refine ⟨(V.ref a.1, V.ref b.1, 4) :: ps, ?_, ?_, ?_, fun p hp => ?_⟩
    · rw [List.map_cons, h1]; rfl
    · rw [List.map_cons, h2]; rfl
    · rw [List.map_cons, List.sum_cons, h3, List.length_cons]
      show 4 + 4 * as.length = 4 * (as.length + 1)
      omega
    · rcases List.mem_cons.mp hp with rfl | z
      · exact alk_tup (ha a List.mem_cons_self) hb0
      · exact h4 p z
theorem alk_book {H : Hp} {a b : Addr} {hd : List Int} {sl : List Slip} (ha : BookAt H a hd sl) (hb : BookAt H b hd sl) : ∃ xs, H a = some (.tup xs) ∧ Alk H (.ref a) (.ref b) (3 + hd.length + 4 * sl.length) := by
  obtain ⟨l1, l2, as, h0, h1, h2, h3⟩ := ha.ex
  obtain ⟨m1, m2, bs, k0, k1, k2, k3⟩ := hb.ex
  obtain ⟨ps, p1, p2, p3, p4⟩ := alk_pairs h2.tup k2.tup (h3.trans k3.symm)
  have r := Alk.lst (H := H) (a := l2) (b := m2) (ps := ps) (by rw [h2.at_, p1]) (by rw [k2.at_, p2]) p4
  rw [p3] at r
  have z := Alk.tup (H := H) (a := a) (b := b) (ps := [(V.ref l1, V.ref m1, 1 + hd.length), (V.ref l2, V.ref m2, 1 + 4 * as.length)]) h0 k0 (fun p hp => by
    simp only [List.mem_cons, List.not_mem_nil, or_false] at hp
    rcases hp with rfl | rfl
    · exact alk_ints h1 k1
    · exact r)
  refine ⟨_, h0, ?_⟩
  have e : 1 + (([(V.ref l1, V.ref m1, 1 + hd.length), (V.ref l2, V.ref m2, 1 + 4 * as.length)] : List (V × V × Nat)).map fun p => p.2.2).sum = 3 + hd.length + 4 * sl.length := by
    have l : as.length = sl.length := by rw [← h3, List.length_map]
    simp
    omega
  rw [e] at z
  exact z
/-- what holds while the three lists are filled -/
structure Fill7 (H H2 : Hp) (l1 l2 l3 : Addr) (th : List Str) (sl : List Slip) (hd : List Int) : Prop where
  same : Same H H2
  h1 : H2 l1 = some (.lst (th.map V.str))
  h2 : ∃ as, RowsAt H2 l2 as ∧ as.map (·.2) = sl
  h3 : H2 l3 = some (.lst (hd.map V.int))
theorem max_if (i j : Int) : (if j > i then j else i) = max i j := by
  split <;> omega
section
variable {P : Program} {w : World} {K : PySem.W.Frag} {mg : Str → Option Value} {base : Heap} {f : Addr} {fd : FuncData}
def spLaw (K : PySem.W.Frag) : Sp := fun vs H Q _ => ∃ (a : Addr) (ns : List Int), vs = [.ref a] ∧ SqL K H a (ns.map V.int) ∧ ns.length ≤ 63 ∧ ∀ H', Q (.bl true) H'
abbrev nLaw : List Str := ["_law_script", "_law_count", "_law_asked", "_law_handed", "_law_found", "_law_history", "_law_books", "_law_numbers", "_law_desk", "_law_puts", "_law_takes", "_law_there", "_law_slips", "_law_heard", "_law_k", "_law_due"]
theorem scLaw : FnScope nLaw ["_law_script"] (defScope sLaw) := ⟨rfl, rfl, rfl, by decide +kernel, rfl, by decide +kernel, by decide +kernel⟩
theorem ok_law (F : Fun K "law" "law" sLaw f fd) (B : Bt mg) (B2 : Bt2 mg) (B5 : Bt5 mg) (GA : Fk P w K mg base "_law_at" 1 ["_law_script", "_law_k"] (spAt K)) (GW : Fk P w K mg base "_law_wide" 1 ["_law_script", "_law_few", "_law_bound"] (spWide K))
    (GD : Fk P w K mg base "_law_deeds" 2 ["_law_cells", "_law_count"] (spDeeds K)) (GH : Fk P w K mg base "things_behind" 6 ["count", "deeds"] spBehind) (GB : Fk P w K mg base "books_behind" 5 ["count", "deeds"] spBooks)
    (GS : Fk P w K mg base "_law_same" 2 ["_law_handed", "_law_asked"] spSame) (GP : Fk P w K mg base "_law_past" 1 ["_law_asked", "_law_count"] spPast) (GT : Fk P w K mg base "_law_stands" 1 ["_law_asked", "_law_ahead", "_law_takes", "_law_put"] spStands)
    (GK : Fk P w K mg base "_law_alike" 2 ["_law_found", "_law_due"] spAlikeU) (GN : Fk P w K mg base "_law_numbered" 1 ["_law_asked", "_law_count"] spNumbered) (GX : Fk P w K mg base "_law_texts" 1 ["_law_found", "_law_due"] spTexts) :
    FnOk P w K mg base CX0 7 f fd ["_law_script"] (spLaw K) := by
  refine F.ok scLaw (fun vs H Q E h => ?_) (fun cdv A outer s H vs Q E hr h => ?_)
  · obtain ⟨a, ns, rfl, _⟩ := h
    rfl
  obtain ⟨a, ns, rfl, hS, h63, q⟩ := h
  have hr1 : Room 1 _ := hr.mono (by decide)
  have hr2 : Room 2 _ := hr.mono (by decide)
  have hr5 : Room 5 _ := hr.mono (by decide)
  have nd := scLaw.nd
  refine ⟨_, pss_cons (ps_set (i := 1) nd rfl (Or.inl rfl) (pe_op op_add pe_int (pe_op op_mod (pe_op op_add (pe_fk GA hr1 rfl (pa_cons (pv 0) (pa_cons pe_int pa_nil))) pe_int) (pe_fk GW hr1 rfl (pa_cons (pv 0) (pa_cons pe_int (pa_cons pe_int pa_nil)))))))
    (pss_cons (ps_set (i := 2) nd rfl (Or.inr rfl) (pe_fk GD hr2 rfl (pa_cons (pe_slice sl_list (pv 0) (po_some pe_int) (po_some pe_int)) (pa_cons (pv 1) pa_nil))))
    (pss_cons (ps_set (i := 3) nd rfl (Or.inl rfl) (pe_callTy call_list_of rfl B.list PyProof.Rows.boot_list (pa_cons (pv 2) pa_nil)))
    (pss_cons (ps_set (i := 4) nd rfl (Or.inl rfl) (pe_fk GH hr rfl (pa_cons (pv 1) (pa_cons (pv 3) pa_nil))))
    (pss_cons (ps_if (PW.pt (pw_or (pt_not (pt_val (pe_fk GS hr2 rfl (pa_cons (pv 3) (pa_cons (pv 2) pa_nil))))) (pw_or (pt_not (pt_val (pe_callB ck_isinst rfl B.isi PyProof.Rows.boot_isinstance (pa_cons (pv 4) (pa_cons (pe_bltn (v := .ty "list") rfl B.list PyProof.Rows.boot_list rfl) pa_nil)))))
        (pw_or1 (pt_cmpR op_ne (pe_callB call_len_seq rfl B.len PySem.boot_len (pa_cons (pv 4) pa_nil)) (pv 1) (nomark _)))))) (pss_one (ps_ret pe_bl)) pss_nil)
    (pss_cons (ps_set (i := 5) nd rfl (Or.inl rfl) (pe_fk GP hr1 rfl (pa_cons (pv 2) (pa_cons (pv 1) pa_nil))))
    (pss_cons (ps_set (i := 6) nd rfl (Or.inl rfl) (pe_fk GB hr5 rfl (pa_cons (pv 1) (pa_cons (pe_callTy call_list_of rfl B.list PyProof.Rows.boot_list (pa_cons (pv 2) pa_nil)) pa_nil))))
    (pss_cons (ps_if (PW.pt (pw_or (pt_not (pt_val (pe_callB ck_isinst rfl B.isi PyProof.Rows.boot_isinstance (pa_cons (pv 6) (pa_cons (pe_bltn (v := .ty "list") rfl B.list PyProof.Rows.boot_list rfl) pa_nil)))))
        (pw_or1 (pt_cmpR op_ne (pe_callB call_len_seq rfl B.len PySem.boot_len (pa_cons (pv 6) pa_nil)) (pv 1) (nomark _))))) (pss_one (ps_ret pe_bl)) pss_nil)
    (pss_cons (ps_set (i := 7) nd rfl (Or.inl rfl) (pe_fk GN hr1 rfl (pa_cons (pv 2) (pa_cons (pv 1) pa_nil))))
    (pss_cons (ps_for PassesOwn.never rfl (pi_range1 rfl B.rng (pa_cons (pv 1) pa_nil)) (pg_name (i := 8) nd rfl (Or.inl rfl))
      (pss_cons (ps_lc (j := 9) (fr := [(2, "_law_asked")]) rfl (by exact ScC.of (by show ScOk (defScope sLaw) _ _ = true; decide +kernel)) (by exact ⟨⟨rfl, Or.inl rfl, Or.inl rfl⟩, trivial⟩) (by decide +kernel) nd rfl rfl
        (pi_list (pe_ix ix_list (pe_ix ix_tup (pv 5) pe_int (fun _ _ => rfl)) (pv 8) (fun _ _ => rfl))) (fun _ _ _ _ _ => pif_one (pt_cmpR op_eq (pe_ix ix_tupC (pe_ix ix_listC (pv 1) (pv 0) (fun _ _ => rfl)) pe_int (fun _ _ => rfl)) pe_str (nomark _))) (fun _ _ _ _ _ => pv 0))
      (pss_cons (ps_lc (j := 10) (fr := [(2, "_law_asked")]) rfl (by exact ScC.of (by show ScOk (defScope sLaw) _ _ = true; decide +kernel)) (by exact ⟨⟨rfl, Or.inl rfl, Or.inl rfl⟩, trivial⟩) (by decide +kernel) nd rfl rfl
        (pi_list (pe_ix ix_list (pe_ix ix_tup (pv 5) pe_int (fun _ _ => rfl)) (pv 8) (fun _ _ => rfl))) (fun _ _ _ _ _ => pif_one (pt_cmpR op_eq (pe_ix ix_tupC (pe_ix ix_listC (pv 1) (pv 0) (fun _ _ => rfl)) pe_int (fun _ _ => rfl)) pe_str (nomark _))) (fun _ _ _ _ _ => pv 0))
      (pss_cons (ps_set (i := 11) nd rfl (Or.inl rfl) (pe_lst pa_nil)) (pss_cons (ps_set (i := 12) nd rfl (Or.inl rfl) (pe_lst pa_nil))
      (pss_cons (ps_set (i := 13) nd rfl (Or.inl rfl) (pe_op op_rep (pe_lst (pa_cons pe_int pa_nil)) (pv 1)))
      (pss_cons (ps_for PassesOwn.never rfl (pi_list (pv 9)) (pg_name (i := 14) nd rfl (Or.inl rfl))
        (pss_cons (ps_asg (pe_callB (call_max2 rfl) rfl B5.mx PyProof.Rows.boot_max (pa_cons (pe_ix ix_list (pv 13) (pe_ix ix_tup (pe_ix ix_list (pv 2) (pv 14) (fun _ _ => rfl)) pe_int (fun _ _ => rfl)) (fun _ _ => rfl)) (pa_cons (pe_ix ix_list (pv 7) (pv 14) (fun _ _ => rfl)) pa_nil)))
          (pg_sub (pv 13) (pe_ix ix_tup (pe_ix ix_list (pv 2) (pv 14) (fun _ _ => rfl)) pe_int (fun _ _ => rfl)) set_list))
        (pss_one (ps_if (pt_val (pe_fk GT hr1 rfl (pa_cons (pv 2) (pa_cons (pe_ix ix_tup (pv 5) pe_int (fun _ _ => rfl)) (pa_cons (pv 10) (pa_cons (pv 14) pa_nil))))))
          (pss_cons (ps_expr (pe_app (pv 11) (pa_cons (pe_ix ix_tup (pe_ix ix_list (pv 2) (pv 14) (fun _ _ => rfl)) pe_int (fun _ _ => rfl)) pa_nil)))
          (pss_one (ps_expr (pe_app (pv 12) (pa_cons (pe_tup (pa_cons (pe_ix ix_tup (pe_ix ix_list (pv 2) (pv 14) (fun _ _ => rfl)) pe_int (fun _ _ => rfl)) (pa_cons (pe_ix ix_list (pv 7) (pv 14) (fun _ _ => rfl)) (pa_cons (pe_ix ix_tup (pe_ix ix_list (pv 2) (pv 14) (fun _ _ => rfl)) pe_int (fun _ _ => rfl)) pa_nil)))) pa_nil))))) pss_nil))))
      (pss_cons (ps_if (pt_not (pt_val (pe_fk GK hr2 rfl (pa_cons (pe_ix ix_list (pv 6) (pv 8) (fun _ _ => rfl)) (pa_cons (pe_tup (pa_cons (pv 13) (pa_cons (pe_callB ck_sortedT rfl B5.srt PyProof.Rows.boot_sorted (pa_cons (pv 12) pa_nil)) pa_nil))) pa_nil))))) (pss_one (ps_ret pe_bl)) pss_nil)
      (pss_cons (ps_set (i := 15) nd rfl (Or.inl rfl) (pe_callB (ck_sorted rfl) rfl B2.sorted PyProof.Rows.boot_sorted (pa_cons (pe_callTy (ck_set rfl) rfl B2.set PyProof.Rows.boot_set (pa_cons (pv 11) pa_nil)) pa_nil)))
      (pss_one (ps_if (pt_not (pt_val (pe_fk GX hr1 rfl (pa_cons (pe_ix ix_list (pv 4) (pv 8) (fun _ _ => rfl)) (pa_cons (pv 15) pa_nil))))) (pss_one (ps_ret pe_bl)) pss_nil)))))))))))
    (pss_one (ps_ret pe_bl))))))))))), ?_⟩
  obtain ⟨c1, c2⟩ := count_ok ns
  obtain ⟨w1, w2⟩ := wide_pos ns
  have ecz : 1 + (atZ ns (Int.toNat 0) + 1) % wideZ ns 5 40 = countZ ns := rfl
  have ec : cutV (ns.map V.int) (some 1) (some 201) = (ns.drop 1).map V.int := cut_from ns 1 h63
  have l63 : (ns.drop 1).length ≤ 63 := by rw [List.length_drop]; omega
  refine ⟨_, rfl, a, ns, 0, rfl, hS, by decide, _, _, rfl, rfl, _, rfl, a, ns, 5, 40, rfl, hS, h63, fun H1 g1 => ?_⟩
  refine ⟨_, _, rfl, rfl, w1, _, _, rfl, rfl, ?_⟩
  have hcc : ((countZ ns).toNat : Int) = countZ ns := by omega
  generalize hcd : (countZ ns).toNat = c at hcc
  have hc1 : 1 ≤ c := by omega
  have hc40 : c ≤ 40 := by omega
  generalize ns.drop 1 = cs at ec l63
  -- asked
  refine ⟨_, rfl, _, rfl, _, rfl, a, _, rfl, g1.seq hS, fun p2 hp2 => ?_⟩
  have g2 := same_new hp2 (.lst (cutV (ns.map V.int) (some 1) (some 201)))
  refine ⟨_, rfl, p2, cs, countZ ns, rfl, SqL.of (by rw [upd_same, ec]), l63, c1, by omega, fun la H5 rows n3 g3 hdA e1 => ?_⟩
  have lr : rows.length = cs.length := by
    have := congrArg List.length e1
    rw [List.length_map, deeds_len] at this
    exact this
  generalize hds' : rows.map (·.2) = ds
  have dsl : ds.length = rows.length := by rw [← hds', List.length_map]
  have eds : ds = deedsL cs (c : Int) := by rw [← hds', e1, hcc]
  have hrow : ∀ (k : Nat) (x : Deed), ds[k]? = some x → ∃ b, rows[k]? = some (b, x) := fun k x h => by rw [← hds'] at h; exact row_of h
  have DK : DesksOk ds c := fun k x h => deeds_desks cs hc1 x (by rw [← eds]; exact List.mem_of_getElem? h)
  have short : ∀ p ∈ rows, p.2.short := fun p hp => deeds_short cs (c : Int) p.2 (by rw [← eds, ← hds']; exact List.mem_map.mpr ⟨p, hp, rfl⟩)
  have few : (slipsOf ds (List.range rows.length)).length ≤ 63 := by
    have := slips_few (ds := ds) (a := rows.length) (fun p hp => by
      unfold slipOne
      rw [List.getElem?_eq_none (by omega)]) rows.length
    omega
  -- handed
  refine ⟨_, rfl, la, _, rfl, .inl (SqL.of hdA.at_), fun lh hlh => ?_⟩
  have g6 := same_new hlh (.lst (drefs rows))
  have hdH : DeedsAt (upd H5 lh (.lst (drefs rows))) lh rows := ⟨upd_same, fun p hp => g6 _ _ (hdA.tup p hp)⟩
  -- found
  refine ⟨_, rfl, _, rfl, c, lh, rows, by rw [hcc]; rfl, hdH, hc1, by omega, by rw [hds']; exact DK, short, by rw [hds']; exact few, fun lf H7 tl bks1 nlf g7 hlf htl ltl I1 hth => ?_⟩
  rw [hds'] at I1
  have hdA7 := hdA.mono (g6.trans g7)
  refine ⟨_, rfl, _, rfl, lh, la, rows, rfl, hdH.mono g7, hdA7, by omega, _, rfl, iteF ?_⟩
  refine ⟨_, rfl, _, _, _, _, rfl, TyOf.lst hlf, kit_same K "list", _, rfl, iteF ?_⟩
  refine ⟨_, rfl, lf, _, rfl, .inl (SqL.of hlf), _, rfl, rfl, _, rfl, iteNS (by rw [List.length_map, ltl, hcc]; rfl) ?_⟩
  -- history
  refine ⟨_, rfl, _, rfl, la, rows, c, by rw [hcc]; rfl, hdA7, by rw [hds']; exact DK, hc1, by omega, by omega, fun r8 H8 lk lah kl al n8 D8 e8 => ?_⟩
  rw [hds'] at D8
  have hdA8 := hdA7.mono D8.same
  -- books
  refine ⟨_, rfl, _, rfl, la, _, rfl, .inl (SqL.of hdA8.at_), fun lc hlc => ?_⟩
  have g9 := same_new hlc (.lst (drefs rows))
  have hdC : DeedsAt (upd H8 lc (.lst (drefs rows))) lc rows := ⟨upd_same, fun p hp => g9 _ _ (hdA8.tup p hp)⟩
  refine ⟨c, lc, rows, by rw [hcc]; rfl, hdC, hc1, by omega, by rw [hds']; exact DK, short, by rw [hds']; exact few, fun lb H10 bl nlb g10 hb I => ?_⟩
  rw [hds'] at I
  have bll : bl.length = c := by rw [← I.len, List.length_map]
  refine ⟨_, rfl, _, _, _, _, rfl, TyOf.lst hb.at_, kit_same K "list", _, rfl, iteF ?_⟩
  refine ⟨_, rfl, lb, _, rfl, .inl (SqL.of hb.at_), _, rfl, rfl, _, rfl, iteNS (by rw [List.length_map, bll, hcc]; rfl) ?_⟩
  have e810 := g9.trans g10
  have hdA10 := hdA8.mono e810
  -- numbers
  refine ⟨_, rfl, _, rfl, la, rows, c, by rw [hcc]; rfl, hdA10, by rw [hds']; exact DK, by omega, by omega, fun ln H0 nln g0 hnum => ?_⟩
  rw [hds'] at hnum
  have e80 := e810.trans g0
  have hdA0 := hdA10.mono g0
  have hb0 := hb.mono g0
  have D0 := D8.mono e80
  have h50 := e80 _ _ e8
  have e70 := D8.same.trans e80
  have hlf0 := e70 _ _ hlf
  have htl0 : ∀ p ∈ tl, H0 p.1 = some (.lst (p.2.map V.str)) := fun p hp => e70 _ _ (htl p hp)
  have hl : (drefs rows).length = rows.length := List.length_map _
  -- the desks
  refine ⟨_, rfl, countZ ns, rfl, by omega, by omega, ?_⟩
  rw [hcd]
  refine for_range (lo := 0) (fun i σ H2 => (∃ v8 v9 v10 v11 v12 v13 v14 v15, σ = [some (.ref a), some (.int (countZ ns)), some (.ref la), some (.ref lh), some (.ref lf), some (.ref r8), some (.ref lb), some (.ref ln), v8, v9, v10, v11, v12, v13, v14, v15]) ∧ Same H0 H2) ⟨⟨none, none, none, none, none, none, none, none, rfl⟩, Same.refl _⟩ ?_ ?_
  · rintro i σ H2 hi ⟨⟨v8, v9, v10, v11, v12, v13, v14, v15, rfl⟩, gA⟩
    rw [Int.zero_add]
    have D := D0.mono gA
    have hdA2 := hdA0.mono gA
    have h52 := gA _ _ h50
    obtain ⟨kb, hkb⟩ : ∃ b, kl[i]? = some b := ⟨_, List.getElem?_eq_getElem (by rw [D.len]; exact hi)⟩
    have ekb : atI (kl.map V.ref) (i : Int) = some (.ref kb) := atI_nat (by rw [List.getElem?_map, hkb]; rfl)
    have hkn := D.kat i kb hkb
    have kl63 := known_len ds rows.length i
    have lkn : ((knownL ds rows.length i).map nv).length < sizeLine := by rw [List.length_map]; exact small (by omega)
    have at_row : ∀ (k : Nat), k < rows.length → ∃ (b : Addr) (x : Deed), rows[k]? = some (b, x) ∧ ds[k]? = some x ∧ atI (drefs rows) (k : Int) = some (.ref b) := fun k hk =>
      ⟨rows[k].1, rows[k].2, List.getElem?_eq_getElem hk, by rw [← hds', List.getElem?_map, List.getElem?_eq_getElem hk]; rfl, atI_nat (by rw [List.getElem?_map, List.getElem?_eq_getElem hk]; rfl)⟩
    -- puts
    refine ⟨_, rfl, _, _, _, _, rfl, rfl, SqT.of h52, rfl, _, rfl, lk, _, _, _, rfl, rfl, SqL.of D.hk, ekb, kb, rfl, ⟨_, SqL.of hkn⟩, lc_list (fun v => isPutAny ds (natOf v)) id (SqL.of hkn) lkn ?_ ?_ ?_⟩
    · intro x hx H3 R g3' hR
      obtain ⟨k, hk, rfl⟩ := List.mem_map.mp hx
      obtain ⟨b, x, h1, h2, h3⟩ := at_row k (known_lt hk)
      obtain ⟨nm, z, ez, _, ep⟩ := kind_of h2
      have t := hdA2.tup _ (List.mem_of_getElem? h1)
      rw [ez] at t
      rw [natOf_nv, ← ep] at hR
      exact ⟨_, rfl, _, rfl, la, _, _, _, rfl, rfl, SqL.of (g3' _ _ hdA2.at_), h3, _, _, _, _, rfl, rfl, SqT.of (g3' _ _ t), rfl, rfl, _, rfl, hR⟩
    · intro x hx _ H3 R g3' hR
      exact ⟨_, rfl, hR⟩
    intro D9 hD9
    rw [filter_nv (isPutAny ds)]
    rw [show (knownL ds rows.length i).filter (isPutAny ds) = putsK ds rows.length i from rfl]
    have gB := same_new hD9 (.lst ((putsK ds rows.length i).map nv))
    -- takes
    refine ⟨_, rfl, _, _, _, _, rfl, rfl, SqT.of (gB _ _ h52), rfl, _, rfl, lk, _, _, _, rfl, rfl, SqL.of (gB _ _ D.hk), ekb, kb, rfl, ⟨_, SqL.of (gB _ _ hkn)⟩, lc_list (fun v => isTakeB ds (natOf v)) id (SqL.of (gB _ _ hkn)) lkn ?_ ?_ ?_⟩
    · intro x hx H3 R g3' hR
      obtain ⟨k, hk, rfl⟩ := List.mem_map.mp hx
      obtain ⟨b, x, h1, h2, h3⟩ := at_row k (known_lt hk)
      obtain ⟨nm, z, ez, et, _⟩ := kind_of h2
      have t := hdA2.tup _ (List.mem_of_getElem? h1)
      rw [ez] at t
      rw [natOf_nv, ← et] at hR
      exact ⟨_, rfl, _, rfl, la, _, _, _, rfl, rfl, SqL.of (g3' _ _ (gB _ _ hdA2.at_)), h3, _, _, _, _, rfl, rfl, SqT.of (g3' _ _ (gB _ _ t)), rfl, rfl, _, rfl, hR⟩
    · intro x hx _ H3 R g3' hR
      exact ⟨_, rfl, hR⟩
    intro D10 hD10
    rw [filter_nv (isTakeB ds)]
    rw [show (knownL ds rows.length i).filter (isTakeB ds) = takesK ds rows.length i from rfl]
    have gC := same_new hD10 (.lst ((takesK ds rows.length i).map nv))
    have hP9 := gC _ _ (upd_same (H := H2) (a := D9) (o := .lst ((putsK ds rows.length i).map nv)))
    have hT10 := upd_same (H := upd H2 D9 (.lst ((putsK ds rows.length i).map nv))) (a := D10) (o := .lst ((takesK ds rows.length i).map nv))
    have gAC := (gA.trans gB).trans gC
    generalize upd (upd H2 D9 (.lst ((putsK ds rows.length i).map nv))) D10 (.lst ((takesK ds rows.length i).map nv)) = Hb at hP9 hT10 gAC
    -- there, slips, heard
    refine ⟨(by show 0 ≤ sizeLine; decide), fun l11 h11 => ⟨(by show 0 ≤ sizeLine; decide), fun l12 h12 => ⟨(by show 1 ≤ sizeLine; decide), fun p13 hp13 => ?_⟩⟩⟩
    refine ⟨_, rfl, p13, countZ ns, _, rfl, rfl, upd_same, by omega, by omega, ?_, fun l13 h13 => ?_⟩
    · show 1 * (countZ ns).toNat ≤ sizeLine
      exact Nat.le_of_lt (small (by omega))
    rw [hcd, rep_zero]
    have s11 := same_new h11 (.lst [])
    have s12 := same_new h12 (.lst [])
    have s13 := same_new hp13 (.lst [.int 0])
    have s14 := same_new h13 (.lst ((List.replicate c (0 : Int)).map V.int))
    have n11 : Hb l11 = none := h11
    have n12 : Hb l12 = none := s11.free h12
    have n13 : Hb l13 = none := ((s11.trans s12).trans s13).free h13
    have d12 : l11 ≠ l12 := ne_of_none (H := upd Hb l11 (.lst [])) upd_same h12
    have d13 : l11 ≠ l13 := ne_of_none ((s12.trans s13) _ _ upd_same) h13
    have d23 : l12 ≠ l13 := ne_of_none (s13 _ _ upd_same) h13
    have start : Fill7 Hb (upd (upd (upd (upd Hb l11 (.lst [])) l12 (.lst [])) p13 (.lst [.int 0])) l13 (.lst ((List.replicate c (0 : Int)).map V.int))) l11 l12 l13 [] [] (List.replicate c 0) :=
      ⟨((s11.trans s12).trans s13).trans s14, ((s12.trans s13).trans s14) _ _ upd_same, ⟨[], ⟨(s13.trans s14) _ _ upd_same, fun p hp => absurd hp (by simp)⟩, rfl⟩, upd_same⟩
    generalize upd (upd (upd (upd Hb l11 (.lst [])) l12 (.lst [])) p13 (.lst [.int 0])) l13 (.lst ((List.replicate c (0 : Int)).map V.int)) = Hc at start
    -- the puts one by one
    have lput : ∀ j, ((putsK ds rows.length i).take j).length ≤ rows.length := fun j => by
      have a1 : ((putsK ds rows.length i).take j).length ≤ (putsK ds rows.length i).length := by rw [List.length_take]; omega
      have a2 : (putsK ds rows.length i).length ≤ (knownL ds rows.length i).length := List.length_filter_le _ _
      omega
    have lst : ∀ j, (((putsK ds rows.length i).take j).filter (stB ds rows.length i)).length ≤ rows.length := fun j => Nat.le_trans (List.length_filter_le _ _) (lput j)
    refine ⟨_, rfl, D9, rfl, ⟨_, SqL.of (start.same _ _ hP9)⟩, for_list (K := K) (a := D9) (xs := (putsK ds rows.length i).map nv) (fun j σ H3 => (∃ v14, σ = [some (.ref a), some (.int (countZ ns)), some (.ref la), some (.ref lh), some (.ref lf), some (.ref r8), some (.ref lb), some (.ref ln), some (.int (i : Int)), some (.ref D9), some (.ref D10), some (.ref l11), some (.ref l12), some (.ref l13), v14, v15]) ∧
      Fill7 Hb H3 l11 l12 l13 ((((putsK ds rows.length i).take j).filter (stB ds rows.length i)).map (putT ds)) (slipsOf ds (((putsK ds rows.length i).take j).filter (stB ds rows.length i))) (((putsK ds rows.length i).take j).foldl (heardStep ds) (List.replicate c 0)))
      ⟨⟨v14, rfl⟩, start⟩ (fun j σ H3 _ ⟨_, z⟩ => SqL.of (z.same _ _ hP9)) ?_ ?_⟩
    · rintro j y σ H3 hy ⟨⟨v14', rfl⟩, F3⟩
      obtain ⟨k, hk, rfl⟩ : ∃ k, (putsK ds rows.length i)[j]? = some k ∧ nv k = y := by
        rw [List.getElem?_map] at hy
        cases hq : (putsK ds rows.length i)[j]? with
        | none => rw [hq] at hy; cases hy
        | some x => rw [hq] at hy; exact ⟨x, rfl, Option.some.inj hy⟩
      obtain ⟨hkk, e, t, hput⟩ := mem_putsK.mp (List.mem_of_getElem? hk)
      have hkn' : k < rows.length := known_lt hkk
      have hec : e < c := (DK k _ hput).1
      obtain ⟨pb, hpr⟩ := hrow k _ hput
      have epr : atI (drefs rows) (k : Int) = some (.ref pb) := atI_nat (by rw [List.getElem?_map, hpr]; rfl)
      have tput : ∀ H', Same H0 H' → H' pb = some (.tup [V.str ("put" : Str), .int (e : Int), .str t]) := fun H' g => g _ _ (hdA0.tup _ (List.mem_of_getElem? hpr))
      have tkj : (putsK ds rows.length i).take (j + 1) = (putsK ds rows.length i).take j ++ [k] := by rw [List.take_add_one, hk]; rfl
      have g03 := gAC.trans F3.same
      have tp3 := tput _ g03
      have hd3 := (hdA0.mono g03).at_
      have lhd : (((putsK ds rows.length i).take j).foldl (heardStep ds) (List.replicate c 0)).length = c := by
        rw [(heardFold (ds := ds) _ _).1, List.length_replicate]
      generalize hhd : ((putsK ds rows.length i).take j).foldl (heardStep ds) (List.replicate c 0) = hd at F3 lhd
      have ehd : atI (hd.map V.int) (e : Int) = some (.int (hd.getD e 0)) := by
        have z := at_int (ns := hd) (k := (e : Int)) (by omega) (by omega)
        rw [Int.toNat_natCast] at z
        exact z
      have enm : atI (((List.range rows.length).map fun k => numN ds k).map nv) (k : Int) = some (nv (numN ds k)) := atI_nat (by rw [List.getElem?_map, List.getElem?_map, List.getElem?_range hkn']; rfl)
      -- heard[..] = max(..)
      refine ⟨_, rfl, _, rfl, _, rfl, la, _, _, _, rfl, rfl, SqL.of hd3, epr, _, _, _, _, rfl, rfl, SqT.of tp3, rfl, l13, _, _, _, rfl, rfl, SqL.of F3.h3, ehd, _, rfl, _, rfl, ln, _, _, _, rfl, rfl, SqL.of (g03 _ _ hnum), enm, _, _, rfl, ?_⟩
      rw [max_if]
      refine ⟨_, rfl, _, rfl, _, rfl, la, _, _, _, rfl, rfl, SqL.of hd3, epr, _, _, _, _, rfl, rfl, SqT.of tp3, rfl, l13, _, _, e, rfl, rfl, F3.h3, ixN_ok (by omega) (by rw [List.length_map, lhd]; omega), ?_⟩
      rw [set_map]
      have estep : hd.set e (max (hd.getD e 0) ((numN ds k : Nat) : Int)) = ((putsK ds rows.length i).take (j + 1)).foldl (heardStep ds) (List.replicate c 0) := by
        rw [tkj, List.foldl_append, hhd]
        exact (heardStep_at hput).symm
      rw [estep]
      have F4 : Fill7 Hb (upd H3 l13 (.lst ((((putsK ds rows.length i).take (j + 1)).foldl (heardStep ds) (List.replicate c 0)).map V.int))) l11 l12 l13 ((((putsK ds rows.length i).take j).filter (stB ds rows.length i)).map (putT ds)) (slipsOf ds (((putsK ds rows.length i).take j).filter (stB ds rows.length i))) (((putsK ds rows.length i).take (j + 1)).foldl (heardStep ds) (List.replicate c 0)) := by
        obtain ⟨as, ha, hz⟩ := F3.h2
        refine ⟨F3.same.put n13, (upd_ne d13).trans F3.h1, ⟨as, ⟨(upd_ne d23).trans ha.at_, fun p hp => ?_⟩, hz⟩, upd_same⟩
        have z := ha.tup p hp
        rw [upd_ne (ne_of z F3.h3 (by intro z; cases z))]
        exact z
      generalize upd H3 l13 (.lst ((((putsK ds rows.length i).take (j + 1)).foldl (heardStep ds) (List.replicate c 0)).map V.int)) = H4 at F4
      have g04 := gAC.trans F4.same
      have tp4 := tput _ g04
      have hdA4 := hdA0.mono g04
      have D4 := D0.mono g04
      -- stands
      refine ⟨_, rfl, _, rfl, _, _, _, _, rfl, rfl, SqT.of (g04 _ _ h50), rfl, _, rfl, _, rfl, la, lah, D10, rows, al, takesK ds rows.length i, k, e, t, rfl, hdA4, D4.ha, D4.lena, by rw [hds']; exact D4.aat, F4.same _ _ hT10, by rw [hds']; exact takesK_ok, by rw [hds']; exact hput, ?_⟩
      rw [hds']
      have est : standB ds (takesK ds rows.length i) k t = stB ds rows.length i k := by unfold stB; rw [putT_at hput]
      rw [est]
      refine ⟨_, rfl, ite2 (fun cst => ?_) (fun cst => ?_)⟩
      · have fl : ((putsK ds rows.length i).take (j + 1)).filter (stB ds rows.length i) = ((putsK ds rows.length i).take j).filter (stB ds rows.length i) ++ [k] := by
          rw [tkj, List.filter_append, List.filter_cons, if_pos cst]
          rfl
        -- there.append
        refine ⟨_, rfl, .inl ⟨rfl, _, SqL.of F4.h1⟩, _, rfl, _, rfl, la, _, _, _, rfl, rfl, SqL.of hdA4.at_, epr, _, _, _, _, rfl, rfl, SqT.of tp4, rfl, l11, _, _, rfl, rfl, F4.h1, by rw [List.length_map, List.length_map]; have := lst j; exact small (by omega), ?_⟩
        obtain ⟨as, ha, hz⟩ := F4.h2
        have las : as.length ≤ rows.length := by
          have z := congrArg List.length hz
          rw [List.length_map] at z
          have z2 : (slipsOf ds (((putsK ds rows.length i).take j).filter (stB ds rows.length i))).length ≤ (((putsK ds rows.length i).take j).filter (stB ds rows.length i)).length := List.length_filterMap_le _ _
          have := lst j
          omega
        have F5 : Fill7 Hb (upd H4 l11 (.lst ((((((putsK ds rows.length i).take j).filter (stB ds rows.length i)).map (putT ds)).map V.str) ++ [V.str t]))) l11 l12 l13 ((((putsK ds rows.length i).take (j + 1)).filter (stB ds rows.length i)).map (putT ds)) (slipsOf ds (((putsK ds rows.length i).take j).filter (stB ds rows.length i))) (((putsK ds rows.length i).take (j + 1)).foldl (heardStep ds) (List.replicate c 0)) := by
          refine ⟨F4.same.put n11, ?_, ⟨as, ⟨(upd_ne d12.symm).trans ha.at_, fun p hp => ?_⟩, hz⟩, (upd_ne d13.symm).trans F4.h3⟩
          · rw [upd_same, fl, List.map_append, List.map_append]
            show some (HO.lst (_ ++ [V.str t])) = some (HO.lst (_ ++ [V.str (putT ds k)]))
            rw [putT_at hput]
          · have z := ha.tup p hp
            rw [upd_ne (ne_of z F4.h1 (by intro z; cases z))]
            exact z
        have ha5 : RowsAt (upd H4 l11 (.lst ((((((putsK ds rows.length i).take j).filter (stB ds rows.length i)).map (putT ds)).map V.str) ++ [V.str t]))) l12 as := ⟨(upd_ne d12.symm).trans ha.at_, fun p hp => by
          have z := ha.tup p hp
          rw [upd_ne (ne_of z F4.h1 (by intro z; cases z))]
          exact z⟩
        generalize upd H4 l11 (.lst ((((((putsK ds rows.length i).take j).filter (stB ds rows.length i)).map (putT ds)).map V.str) ++ [V.str t])) = H5' at F5 ha5
        have g05 := gAC.trans F5.same
        have tp5 := tput _ g05
        have hd5 := (hdA0.mono g05).at_
        -- slips.append
        refine ⟨_, rfl, .inl ⟨rfl, _, SqL.of ha5.at_⟩, _, rfl, _, rfl, la, _, _, _, rfl, rfl, SqL.of hd5, epr, _, _, _, _, rfl, rfl, SqT.of tp5, rfl, _, rfl, _, rfl, ln, _, _, _, rfl, rfl, SqL.of (g05 _ _ hnum), enm, _, rfl, _, rfl, la, _, _, _, rfl, rfl, SqL.of hd5, epr, _, _, _, _, rfl, rfl, SqT.of tp5, rfl, (by show 3 ≤ sizeLine; decide), fun tt ht => ?_⟩
        have gt := same_new ht (.tup [V.int (e : Int), nv (numN ds k), .str t])
        have nt12 : l12 ≠ tt := ne_of_none ha5.at_ ht
        refine ⟨l12, _, _, rfl, rfl, gt _ _ ha5.at_, by rw [len_refs]; exact small (by omega), ⟨_, rfl⟩, ?_⟩
        have enum : numN ds k = putsOn ds (k + 1) e := by unfold numN; rw [deskAt_at hput]; rfl
        refine ⟨(F5.same.trans gt).put n12, ?_, ⟨as ++ [(tt, slipAt ds k e t)], ⟨?_, fun p' hp' => ?_⟩, ?_⟩, ?_⟩
        · rw [upd_ne d12]
          exact gt _ _ F5.h1
        · rw [upd_same]
          rw [show refs (as ++ [(tt, slipAt ds k e t)]) = refs as ++ [V.ref tt] from List.map_append]
        · rcases List.mem_append.mp hp' with z | z
          · have q' := ha5.tup p' z
            rw [upd_ne (ne_of q' ha5.at_ (by intro z; cases z))]
            exact gt _ _ q'
          · rw [List.mem_singleton.mp z]
            show upd _ l12 _ tt = _
            rw [upd_ne nt12.symm, upd_same, enum]
            rfl
        · rw [List.map_append, hz, fl, slipsOf_snoc hput]
          rfl
        · rw [upd_ne d23.symm]
          exact gt _ _ F5.h3
      · have fl : ((putsK ds rows.length i).take (j + 1)).filter (stB ds rows.length i) = ((putsK ds rows.length i).take j).filter (stB ds rows.length i) := by
          rw [tkj, List.filter_append, List.filter_cons, if_neg cst, List.filter_nil, List.append_nil]
        refine ⟨⟨_, rfl⟩, ?_⟩
        rw [fl]
        exact F4
    rintro σ H3 ⟨⟨v14', rfl⟩, F3⟩
    rw [List.length_map, List.take_length] at F3
    rw [show (putsK ds rows.length i).filter (stB ds rows.length i) = standK ds rows.length i from rfl] at F3
    obtain ⟨as, ha, hz⟩ := F3.h2
    have g03 := gAC.trans F3.same
    obtain ⟨p, hp⟩ : ∃ p, bl[i]? = some p := ⟨_, List.getElem?_eq_getElem (by omega)⟩
    have hbk : (bl.map (·.2))[i]? = some p.2 := by rw [List.getElem?_map, hp]; rfl
    have hb3 := hb0.mono g03
    have hbp := hb3.bk p (List.mem_of_getElem? hp)
    have ehd := I.heardK hbk
    rw [ehd] at F3
    have lsd : (standK ds rows.length i).length ≤ rows.length := by
      have a1 : (standK ds rows.length i).length ≤ (putsK ds rows.length i).length := List.length_filter_le _ _
      have a2 : (putsK ds rows.length i).length ≤ (knownL ds rows.length i).length := List.length_filter_le _ _
      omega
    have las : as.length ≤ rows.length := by
      have z := congrArg List.length hz
      rw [List.length_map] at z
      have z2 : (slipsOf ds (standK ds rows.length i)).length ≤ (standK ds rows.length i).length := List.length_filterMap_le _ _
      omega
    have key : ∀ p' ∈ as, slipOf H3 (.ref p'.1) = p'.2 := fun p' hp' => slipOf_at (ha.tup p' hp')
    -- alike
    refine ⟨_, rfl, _, rfl, lb, _, _, _, rfl, rfl, SqL.of hb3.at_, bkref_at hp, _, rfl, _, rfl, l12, as.map (·.1), fun z => (slipOf H3 (.ref z)).1, fun z => (slipOf H3 (.ref z)).2.1, fun z => .str (slipOf H3 (.ref z)).2.2, rfl, SqL.of (by rw [ha.at_, List.map_map]; rfl), by rw [List.length_map]; omega, fun z hz' => ?_, ?_, fun r ss nr pm pw => ⟨(by show 2 ≤ sizeLine; decide), fun tt ht => ?_⟩⟩
    · obtain ⟨p', hp', rfl⟩ := List.mem_map.mp hz'
      show SqT _ _ _ (tupOf (slipOf H3 (.ref p'.1)))
      rw [key p' hp']
      exact SqT.of (ha.tup p' hp')
    · rw [List.pairwise_map]
      have hne := slipsOf_ne (ds := ds) ((putsK_nodup ds rows.length i).filter (stB ds rows.length i))
      rw [show (putsK ds rows.length i).filter (stB ds rows.length i) = standK ds rows.length i from rfl, ← hz, List.pairwise_map] at hne
      refine List.Pairwise.imp_of_mem (fun {p' r'} hp' hr' n => ?_) hne
      show (slipOf H3 (.ref p'.1)).1 ≠ (slipOf H3 (.ref r'.1)).1 ∨ (slipOf H3 (.ref p'.1)).2.1 ≠ (slipOf H3 (.ref r'.1)).2.1
      rw [key p' hp', key r' hr']
      exact n
    have s1 := same_new nr (.lst (ss.map V.ref))
    have s2 := same_new ht (.tup [.ref l13, .ref r])
    have perm : (ss.map fun z => slipOf H3 (.ref z)).Perm (slipsOf ds (standK ds rows.length i)) := by
      refine (pm.map _).trans ?_
      rw [List.map_map, ← hz]
      rw [show List.map ((fun z => slipOf H3 (V.ref z)) ∘ fun p => p.1) as = as.map (·.2) from List.map_congr_left fun p' hp' => key p' hp']
    have esl := I.slipsK hbk perm (by rw [List.pairwise_map]; exact pw)
    have hbt : BookAt (upd (upd H3 r (.lst (ss.map V.ref))) tt (.tup [.ref l13, .ref r])) tt p.2.1 p.2.2 := by
      refine ⟨l13, r, ss.map fun z => (z, slipOf H3 (.ref z)), upd_same, (s1.trans s2) _ _ F3.h3, ⟨?_, fun p' hp' => ?_⟩, ?_⟩
      · rw [s2 _ _ upd_same]
        simp [refs, Function.comp_def]
      · obtain ⟨z, hz', rfl⟩ := List.mem_map.mp hp'
        have hc' := pm.mem_iff.mp hz'
        obtain ⟨p'', hp'', rfl⟩ := List.mem_map.mp hc'
        show _ = some (HO.tup (tupOf (slipOf H3 (.ref p''.1))))
        rw [key p'' hp'']
        exact (s1.trans s2) _ _ (ha.tup p'' hp'')
      · rw [List.map_map]
        exact esl
    obtain ⟨xs, hxs, alk⟩ := alk_book (hbp.mono (s1.trans s2)) hbt
    have W := I.wf i _ hbk
    have lsl : p.2.2.length ≤ rows.length := by
      rw [← esl, List.length_map, pm.length_eq, List.length_map]
      exact las
    refine ⟨p.1, xs, _, _, rfl, hxs, alk, by rw [W.len]; omega, fun H4 g4' => ⟨_, rfl, iteF ?_⟩⟩
    have s4 := (s1.trans s2).trans g4'
    -- due
    have lth : ((standK ds rows.length i).map (putT ds)).length ≤ rows.length := by rw [List.length_map]; exact lsd
    have lon : (onceS [] ((standK ds rows.length i).map (putT ds))).length < 64 := by
      have := onceS_len ((standK ds rows.length i).map (putT ds)) []
      rw [List.length_nil] at this
      omega
    refine ⟨_, rfl, l11, (standK ds rows.length i).map (putT ds), rfl, SqL.of (s4 _ _ F3.h1), by show _ + 1 < 4096; omega, fun st hst => ?_⟩
    have s5 := same_new hst (.ext fun h => SetS P w h st (onceS [] ((standK ds rows.length i).map (putT ds))))
    refine ⟨st, _, rfl, upd_same, lon, fun ld ss1 hld hp1 hw1 => ?_⟩
    have s6 := same_new hld (.lst (ss1.map V.str))
    have s46 := (s4.trans s5).trans s6
    have g06 := g03.trans s46
    obtain ⟨tx, htx⟩ : ∃ tx, tl[i]? = some tx := ⟨_, List.getElem?_eq_getElem (by omega)⟩
    obtain ⟨b1, hb1⟩ : ∃ b1, bks1[i]? = some b1 := ⟨_, List.getElem?_eq_getElem (by rw [I1.len]; exact hi)⟩
    obtain ⟨hp2, hw2⟩ := hth i tx b1 htx hb1
    have etx : atI (tl.map fun p => V.ref p.1) (i : Int) = some (.ref tx.1) := atI_nat (by rw [List.getElem?_map, htx]; rfl)
    have same : ss1 = tx.2 := by
      refine sort_one hw1 hw2 (hp1.nodup_iff.mpr (onceS_nodup _ _ List.nodup_nil)) (hp2.nodup_iff.mpr (onceS_nodup _ _ List.nodup_nil)) fun x => ?_
      rw [hp1.mem_iff, hp2.mem_iff, onceS_mem, onceS_mem]
      have z := I1.thingsK hb1 x
      unfold thingsOf
      rw [z]
    have ltx : tx.2.length ≤ 100000 := by
      rw [← same, hp1.length_eq]
      omega
    refine ⟨_, rfl, _, rfl, lf, _, _, _, rfl, rfl, SqL.of (g06 _ _ hlf0), etx, _, rfl, tx.1, ld, tx.2, rfl, g06 _ _ (htl0 tx (List.mem_of_getElem? htx)), by rw [upd_same, same], ltx, _, rfl, iteF ⟨⟨_, _, _, _, _, _, _, _, rfl⟩, g06⟩⟩
  · rintro σ H2 ⟨⟨v8, v9, v10, v11, v12, v13, v14, v15, rfl⟩, gA⟩
    exact q H2
end
end Sd

namespace Sd
open PySem L2
theorem all_mk {l : PySem.W.OpenLaw} {w : World} {K : PySem.W.Frag} {h : Heap} {mg : Str → Option Value} {fa f1 f2 f3 f4 f5 f6 f7 f8 f9 f10 f11 f12 f13 f14 f15 f16 f17 f18 f19 f20 f21 f22 f23 : Addr} (X : K.In h) (G : h.Ns mainGlobals mg) (hfa : mg "law" = some (.ref fa))
    {od1 an1 od2 an2 od3 an3 od4 an4 od5 an5 od6 an6 od7 an7 od8 an8 od9 an9 od10 an10 od11 an11 od12 an12 od13 an13 od14 an14 od15 an15 od16 an16 od17 an17 od18 an18 od19 an19 od20 an20 od21 an21 od22 an22 od23 an23 : Option Addr} {sl1 sl2 sl3 sl4 sl5 sl6 sl7 sl8 sl9 sl10 sl11 sl12 sl13 sl14 sl15 sl16 sl17 sl18 sl19 sl20 sl21 sl22 sl23 : Array (Option Value)} {oc1 kV1 dc1 pm1 cd1 ct1 oc2 kV2 dc2 pm2 cd2 ct2 oc3 kV3 dc3 pm3 cd3 ct3 oc4 kV4 dc4 pm4 cd4 ct4 oc5 kV5 dc5 pm5 cd5 ct5 oc6 kV6 dc6 pm6 cd6 ct6 oc7 kV7 dc7 pm7 cd7 ct7 oc8 kV8 dc8 pm8 cd8 ct8 oc9 kV9 dc9 pm9 cd9 ct9 oc10 kV10 dc10 pm10 cd10 ct10 oc11 kV11 dc11 pm11 cd11 ct11 oc12 kV12 dc12 pm12 cd12 ct12 oc13 kV13 dc13 pm13 cd13 ct13 oc14 kV14 dc14 pm14 cd14 ct14 oc15 kV15 dc15 pm15 cd15 ct15 oc16 kV16 dc16 pm16 cd16 ct16 oc17 kV17 dc17 pm17 cd17 ct17 oc18 kV18 dc18 pm18 cd18 ct18 oc19 kV19 dc19 pm19 cd19 ct19 oc20 kV20 dc20 pm20 cd20 ct20 oc21 kV21 dc21 pm21 cd21 ct21 oc22 kV22 dc22 pm22 cd22 ct22 oc23 kV23 dc23 pm23 cd23 ct23 : Value}
    (a1 : PySem.W.nsIn K mainGlobals "empty_book" = some (some (.ref f1))) (l1 : K.lookup f1 = some ⟨oc1, od1, .func (PySem.W.fnOf "empty_book" "empty_book" (defArgs sEmpty) (defBody sEmpty) (defScope sEmpty) .none kV1 dc1 pm1 an1 cd1 ct1), sl1⟩) (c1 : PySem.W.codeIn K cd1 "empty_book" = true) (k1 : PySem.W.keepIn K (.ref f1) = true)
    (a2 : PySem.W.nsIn K mainGlobals "things_in" = some (some (.ref f2))) (l2 : K.lookup f2 = some ⟨oc2, od2, .func (PySem.W.fnOf "things_in" "things_in" (defArgs sThings) (defBody sThings) (defScope sThings) .none kV2 dc2 pm2 an2 cd2 ct2), sl2⟩) (c2 : PySem.W.codeIn K cd2 "things_in" = true) (k2 : PySem.W.keepIn K (.ref f2) = true)
    (a3 : PySem.W.nsIn K mainGlobals "put_in" = some (some (.ref f3))) (l3 : K.lookup f3 = some ⟨oc3, od3, .func (PySem.W.fnOf "put_in" "put_in" (defArgs sPut) (defBody sPut) (defScope sPut) .none kV3 dc3 pm3 an3 cd3 ct3), sl3⟩) (c3 : PySem.W.codeIn K cd3 "put_in" = true) (k3 : PySem.W.keepIn K (.ref f3) = true)
    (a4 : PySem.W.nsIn K mainGlobals "taken_out" = some (some (.ref f4))) (l4 : K.lookup f4 = some ⟨oc4, od4, .func (PySem.W.fnOf "taken_out" "taken_out" (defArgs sTaken) (defBody sTaken) (defScope sTaken) .none kV4 dc4 pm4 an4 cd4 ct4), sl4⟩) (c4 : PySem.W.codeIn K cd4 "taken_out" = true) (k4 : PySem.W.keepIn K (.ref f4) = true)
    (a5 : PySem.W.nsIn K mainGlobals "unheard_of" = some (some (.ref f5))) (l5 : K.lookup f5 = some ⟨oc5, od5, .func (PySem.W.fnOf "unheard_of" "unheard_of" (defArgs sUnheard) (defBody sUnheard) (defScope sUnheard) .none kV5 dc5 pm5 an5 cd5 ct5), sl5⟩) (c5 : PySem.W.codeIn K cd5 "unheard_of" = true) (k5 : PySem.W.keepIn K (.ref f5) = true)
    (a6 : PySem.W.nsIn K mainGlobals "merged_of" = some (some (.ref f6))) (l6 : K.lookup f6 = some ⟨oc6, od6, .func (PySem.W.fnOf "merged_of" "merged_of" (defArgs sMerged) (defBody sMerged) (defScope sMerged) .none kV6 dc6 pm6 an6 cd6 ct6), sl6⟩) (c6 : PySem.W.codeIn K cd6 "merged_of" = true) (k6 : PySem.W.keepIn K (.ref f6) = true)
    (a7 : PySem.W.nsIn K mainGlobals "books_behind" = some (some (.ref f7))) (l7 : K.lookup f7 = some ⟨oc7, od7, .func (PySem.W.fnOf "books_behind" "books_behind" (defArgs sBooks) (defBody sBooks) (defScope sBooks) .none kV7 dc7 pm7 an7 cd7 ct7), sl7⟩) (c7 : PySem.W.codeIn K cd7 "books_behind" = true) (k7 : PySem.W.keepIn K (.ref f7) = true)
    (a8 : PySem.W.nsIn K mainGlobals "things_behind" = some (some (.ref f8))) (l8 : K.lookup f8 = some ⟨oc8, od8, .func (PySem.W.fnOf "things_behind" "things_behind" (defArgs sBehind) (defBody sBehind) (defScope sBehind) .none kV8 dc8 pm8 an8 cd8 ct8), sl8⟩) (c8 : PySem.W.codeIn K cd8 "things_behind" = true) (k8 : PySem.W.keepIn K (.ref f8) = true)
    (a9 : PySem.W.nsIn K mainGlobals "book_behind" = some (some (.ref f9))) (l9 : K.lookup f9 = some ⟨oc9, od9, .func (PySem.W.fnOf "book_behind" "book_behind" (defArgs sBook1) (defBody sBook1) (defScope sBook1) .none kV9 dc9 pm9 an9 cd9 ct9), sl9⟩) (c9 : PySem.W.codeIn K cd9 "book_behind" = true) (k9 : PySem.W.keepIn K (.ref f9) = true)
    (a10 : PySem.W.nsIn K mainGlobals "book_without" = some (some (.ref f10))) (l10 : K.lookup f10 = some ⟨oc10, od10, .func (PySem.W.fnOf "book_without" "book_without" (defArgs sWithout) (defBody sWithout) (defScope sWithout) .none kV10 dc10 pm10 an10 cd10 ct10), sl10⟩) (c10 : PySem.W.codeIn K cd10 "book_without" = true) (k10 : PySem.W.keepIn K (.ref f10) = true)
    (a11 : PySem.W.nsIn K mainGlobals "_law_wide" = some (some (.ref f11))) (l11 : K.lookup f11 = some ⟨oc11, od11, .func (PySem.W.fnOf "_law_wide" "_law_wide" (defArgs sWide) (defBody sWide) (defScope sWide) .none kV11 dc11 pm11 an11 cd11 ct11), sl11⟩) (c11 : PySem.W.codeIn K cd11 "_law_wide" = true) (k11 : PySem.W.keepIn K (.ref f11) = true)
    (a12 : PySem.W.nsIn K mainGlobals "_law_unturned" = some (some (.ref f12))) (l12 : K.lookup f12 = some ⟨oc12, od12, .func (PySem.W.fnOf "_law_unturned" "_law_unturned" (defArgs sUnturned) (defBody sUnturned) (defScope sUnturned) .none kV12 dc12 pm12 an12 cd12 ct12), sl12⟩) (c12 : PySem.W.codeIn K cd12 "_law_unturned" = true) (k12 : PySem.W.keepIn K (.ref f12) = true)
    (a13 : PySem.W.nsIn K mainGlobals "_law_whole" = some (some (.ref f13))) (l13 : K.lookup f13 = some ⟨oc13, od13, .func (PySem.W.fnOf "_law_whole" "_law_whole" (defArgs sWhole) (defBody sWhole) (defScope sWhole) .none kV13 dc13 pm13 an13 cd13 ct13), sl13⟩) (c13 : PySem.W.codeIn K cd13 "_law_whole" = true) (k13 : PySem.W.keepIn K (.ref f13) = true)
    (a14 : PySem.W.nsIn K mainGlobals "_law_at" = some (some (.ref f14))) (l14 : K.lookup f14 = some ⟨oc14, od14, .func (PySem.W.fnOf "_law_at" "_law_at" (defArgs sAt) (defBody sAt) (defScope sAt) .none kV14 dc14 pm14 an14 cd14 ct14), sl14⟩) (c14 : PySem.W.codeIn K cd14 "_law_at" = true) (k14 : PySem.W.keepIn K (.ref f14) = true)
    (a15 : PySem.W.nsIn K mainGlobals "_law_texts" = some (some (.ref f15))) (l15 : K.lookup f15 = some ⟨oc15, od15, .func (PySem.W.fnOf "_law_texts" "_law_texts" (defArgs sTexts) (defBody sTexts) (defScope sTexts) .none kV15 dc15 pm15 an15 cd15 ct15), sl15⟩) (c15 : PySem.W.codeIn K cd15 "_law_texts" = true) (k15 : PySem.W.keepIn K (.ref f15) = true)
    (a16 : PySem.W.nsIn K mainGlobals "_law_wares" = some (some (.ref f16))) (l16 : K.lookup f16 = some ⟨oc16, od16, .func (PySem.W.fnOf "_law_wares" "_law_wares" (defArgs sWares) (defBody sWares) (defScope sWares) .none kV16 dc16 pm16 an16 cd16 ct16), sl16⟩) (c16 : PySem.W.codeIn K cd16 "_law_wares" = true) (k16 : PySem.W.keepIn K (.ref f16) = true)
    (a17 : PySem.W.nsIn K mainGlobals "_law_deeds" = some (some (.ref f17))) (l17 : K.lookup f17 = some ⟨oc17, od17, .func (PySem.W.fnOf "_law_deeds" "_law_deeds" (defArgs sDeeds) (defBody sDeeds) (defScope sDeeds) .none kV17 dc17 pm17 an17 cd17 ct17), sl17⟩) (c17 : PySem.W.codeIn K cd17 "_law_deeds" = true) (k17 : PySem.W.keepIn K (.ref f17) = true)
    (a18 : PySem.W.nsIn K mainGlobals "_law_past" = some (some (.ref f18))) (l18 : K.lookup f18 = some ⟨oc18, od18, .func (PySem.W.fnOf "_law_past" "_law_past" (defArgs sPast) (defBody sPast) (defScope sPast) .none kV18 dc18 pm18 an18 cd18 ct18), sl18⟩) (c18 : PySem.W.codeIn K cd18 "_law_past" = true) (k18 : PySem.W.keepIn K (.ref f18) = true)
    (a19 : PySem.W.nsIn K mainGlobals "_law_stands" = some (some (.ref f19))) (l19 : K.lookup f19 = some ⟨oc19, od19, .func (PySem.W.fnOf "_law_stands" "_law_stands" (defArgs sStands) (defBody sStands) (defScope sStands) .none kV19 dc19 pm19 an19 cd19 ct19), sl19⟩) (c19 : PySem.W.codeIn K cd19 "_law_stands" = true) (k19 : PySem.W.keepIn K (.ref f19) = true)
    (a20 : PySem.W.nsIn K mainGlobals "_law_same" = some (some (.ref f20))) (l20 : K.lookup f20 = some ⟨oc20, od20, .func (PySem.W.fnOf "_law_same" "_law_same" (defArgs sSame) (defBody sSame) (defScope sSame) .none kV20 dc20 pm20 an20 cd20 ct20), sl20⟩) (c20 : PySem.W.codeIn K cd20 "_law_same" = true) (k20 : PySem.W.keepIn K (.ref f20) = true)
    (a21 : PySem.W.nsIn K mainGlobals "_law_alike" = some (some (.ref f21))) (l21 : K.lookup f21 = some ⟨oc21, od21, .func (PySem.W.fnOf "_law_alike" "_law_alike" (defArgs sAlike) (defBody sAlike) (defScope sAlike) .none kV21 dc21 pm21 an21 cd21 ct21), sl21⟩) (c21 : PySem.W.codeIn K cd21 "_law_alike" = true) (k21 : PySem.W.keepIn K (.ref f21) = true)
    (a22 : PySem.W.nsIn K mainGlobals "_law_numbered" = some (some (.ref f22))) (l22 : K.lookup f22 = some ⟨oc22, od22, .func (PySem.W.fnOf "_law_numbered" "_law_numbered" (defArgs sNumbered) (defBody sNumbered) (defScope sNumbered) .none kV22 dc22 pm22 an22 cd22 ct22), sl22⟩) (c22 : PySem.W.codeIn K cd22 "_law_numbered" = true) (k22 : PySem.W.keepIn K (.ref f22) = true)
    (a23 : PySem.W.nsIn K mainGlobals "law" = some (some (.ref f23))) (l23 : K.lookup f23 = some ⟨oc23, od23, .func (PySem.W.fnOf "law" "law" (defArgs sLaw) (defBody sLaw) (defScope sLaw) .none kV23 dc23 pm23 an23 cd23 ct23), sl23⟩) (c23 : PySem.W.codeIn K cd23 "law" = true) (k23 : PySem.W.keepIn K (.ref f23) = true)
    (z1 : PySem.W.nsIn K mainGlobals "len" = some none)
    (z2 : PySem.W.nsIn K mainGlobals "sum" = some none)
    (z3 : PySem.W.nsIn K mainGlobals "min" = some none)
    (z4 : PySem.W.nsIn K mainGlobals "int" = some none)
    (z5 : PySem.W.nsIn K mainGlobals "bool" = some none)
    (z6 : PySem.W.nsIn K mainGlobals "str" = some none)
    (z7 : PySem.W.nsIn K mainGlobals "list" = some none)
    (z8 : PySem.W.nsIn K mainGlobals "tuple" = some none)
    (z9 : PySem.W.nsIn K mainGlobals "isinstance" = some none)
    (z10 : PySem.W.nsIn K mainGlobals "range" = some none)
    (z11 : PySem.W.nsIn K mainGlobals "sorted" = some none)
    (z12 : PySem.W.nsIn K mainGlobals "set" = some none)
    (z13 : PySem.W.nsIn K mainGlobals "zip" = some none)
    (z14 : PySem.W.nsIn K mainGlobals "max" = some none)
    (z15 : PySem.W.nsIn K mainGlobals "sorted" = some none)
    {cN : Addr} (n_cN : PySem.W.nsIn K mainGlobals "NoThing" = some (some (.ref cN)))
    (HX : PySem.W.excIn K cN mroVE "ValueError.__new__" = true) (HE : PySem.W.exmOne K (.ref cN) (.ref cN) = some true)
    : ∃ fd : FuncData, (∀ (s : Shared) (v : Value), BindsTo s fd ⟨[v], []⟩ [("_law_script", v)]) ∧ ∀ base : Heap, K.In base → base.Ns mainGlobals mg → FnOk l.prog w K mg base CX0 7 fa fd ["_law_script"] (spLaw K) := by
  have e := hfa.symm.trans (PySem.W.mg_of X G a23)
  cases e
  have F1 := fun_mk (st := sEmpty) l1 c1 k1
  have b1 := F1.binds (ps := ["count"]) fun _ _ _ _ _ _ us hl => match us, hl with | [_], _ => rfl
  have F2 := fun_mk (st := sThings) l2 c2 k2
  have b2 := F2.binds (ps := ["book"]) fun _ _ _ _ _ _ us hl => match us, hl with | [_], _ => rfl
  have F3 := fun_mk (st := sPut) l3 c3 k3
  have b3 := F3.binds (ps := ["book", "desk", "thing"]) fun _ _ _ _ _ _ us hl => match us, hl with | [_, _, _], _ => rfl
  have F4 := fun_mk (st := sTaken) l4 c4 k4
  have b4 := F4.binds (ps := ["book", "thing"]) fun _ _ _ _ _ _ us hl => match us, hl with | [_, _], _ => rfl
  have F5 := fun_mk (st := sUnheard) l5 c5 k5
  have b5 := F5.binds (ps := ["slips", "heard"]) fun _ _ _ _ _ _ us hl => match us, hl with | [_, _], _ => rfl
  have F6 := fun_mk (st := sMerged) l6 c6 k6
  have b6 := F6.binds (ps := ["book", "other"]) fun _ _ _ _ _ _ us hl => match us, hl with | [_, _], _ => rfl
  have F7 := fun_mk (st := sBooks) l7 c7 k7
  have b7 := F7.binds (ps := ["count", "deeds"]) fun _ _ _ _ _ _ us hl => match us, hl with | [_, _], _ => rfl
  have F8 := fun_mk (st := sBehind) l8 c8 k8
  have b8 := F8.binds (ps := ["count", "deeds"]) fun _ _ _ _ _ _ us hl => match us, hl with | [_, _], _ => rfl
  have F9 := fun_mk (st := sBook1) l9 c9 k9
  have b9 := F9.binds (ps := ["books", "deed"]) fun _ _ _ _ _ _ us hl => match us, hl with | [_, _], _ => rfl
  have F10 := fun_mk (st := sWithout) l10 c10 k10
  have b10 := F10.binds (ps := ["book", "thing"]) fun _ _ _ _ _ _ us hl => match us, hl with | [_, _], _ => rfl
  have F11 := fun_mk (st := sWide) l11 c11 k11
  have b11 := F11.binds (ps := ["_law_script", "_law_few", "_law_bound"]) fun _ _ _ _ _ _ us hl => match us, hl with | [_, _, _], _ => rfl
  have F12 := fun_mk (st := sUnturned) l12 c12 k12
  have b12 := F12.binds (ps := ["_law_found", "_law_due"]) fun _ _ _ _ _ _ us hl => match us, hl with | [_, _], _ => rfl
  have F13 := fun_mk (st := sWhole) l13 c13 k13
  have b13 := F13.binds (ps := ["_law_found"]) fun _ _ _ _ _ _ us hl => match us, hl with | [_], _ => rfl
  have F14 := fun_mk (st := sAt) l14 c14 k14
  have b14 := F14.binds (ps := ["_law_script", "_law_k"]) fun _ _ _ _ _ _ us hl => match us, hl with | [_, _], _ => rfl
  have F15 := fun_mk (st := sTexts) l15 c15 k15
  have b15 := F15.binds (ps := ["_law_found", "_law_due"]) fun _ _ _ _ _ _ us hl => match us, hl with | [_, _], _ => rfl
  have F16 := fun_mk (st := sWares) l16 c16 k16
  have b16 := F16.binds (ps := ["_law_cells"]) fun _ _ _ _ _ _ us hl => match us, hl with | [_], _ => rfl
  have F17 := fun_mk (st := sDeeds) l17 c17 k17
  have b17 := F17.binds (ps := ["_law_cells", "_law_count"]) fun _ _ _ _ _ _ us hl => match us, hl with | [_, _], _ => rfl
  have F18 := fun_mk (st := sPast) l18 c18 k18
  have b18 := F18.binds (ps := ["_law_asked", "_law_count"]) fun _ _ _ _ _ _ us hl => match us, hl with | [_, _], _ => rfl
  have F19 := fun_mk (st := sStands) l19 c19 k19
  have b19 := F19.binds (ps := ["_law_asked", "_law_ahead", "_law_takes", "_law_put"]) fun _ _ _ _ _ _ us hl => match us, hl with | [_, _, _, _], _ => rfl
  have F20 := fun_mk (st := sSame) l20 c20 k20
  have b20 := F20.binds (ps := ["_law_handed", "_law_asked"]) fun _ _ _ _ _ _ us hl => match us, hl with | [_, _], _ => rfl
  have F21 := fun_mk (st := sAlike) l21 c21 k21
  have b21 := F21.binds (ps := ["_law_found", "_law_due"]) fun _ _ _ _ _ _ us hl => match us, hl with | [_, _], _ => rfl
  have F22 := fun_mk (st := sNumbered) l22 c22 k22
  have b22 := F22.binds (ps := ["_law_asked", "_law_count"]) fun _ _ _ _ _ _ us hl => match us, hl with | [_, _], _ => rfl
  have F23 := fun_mk (st := sLaw) l23 c23 k23
  have B : Bt mg := ⟨PySem.W.mg_none_of X G z1, PySem.W.mg_none_of X G z2, PySem.W.mg_none_of X G z3, PySem.W.mg_none_of X G z4, PySem.W.mg_none_of X G z5, PySem.W.mg_none_of X G z6, PySem.W.mg_none_of X G z7, PySem.W.mg_none_of X G z8, PySem.W.mg_none_of X G z9, PySem.W.mg_none_of X G z10⟩
  have B2 : Bt2 mg := ⟨PySem.W.mg_none_of X G z11, PySem.W.mg_none_of X G z12⟩
  have B5 : Bt5 mg := ⟨PySem.W.mg_none_of X G z13, PySem.W.mg_none_of X G z14, PySem.W.mg_none_of X G z15⟩
  refine ⟨PySem.W.fnOf "law" "law" (defArgs sLaw) (defBody sLaw) (defScope sLaw) .none kV23 dc23 pm23 an23 cd23 ct23, fun s v => .of_eq rfl, fun base _ _ => ?_⟩
  have HN := PySem.W.mg_of X G n_cN
  have G1 : Fk l.prog w K mg base "empty_book" 1 ["count"] spEmptyN := ⟨f1, _, ok_emptyN F1 , b1, k1, PySem.W.mg_of X G a1⟩
  have G2 : Fk l.prog w K mg base "things_in" 1 ["book"] spThings := ⟨f2, _, ok_things F2 B2, b2, k2, PySem.W.mg_of X G a2⟩
  have G3 : Fk l.prog w K mg base "put_in" 1 ["book", "desk", "thing"] spPut := ⟨f3, _, ok_put F3 B, b3, k3, PySem.W.mg_of X G a3⟩
  have G4 : Fx l.prog w K mg base "taken_out" 1 ["book", "thing"] (spTaken cN) := ⟨f4, _, ok_taken F4 B HN HX, b4, k4, PySem.W.mg_of X G a4⟩
  have G5 : Fk l.prog w K mg base "unheard_of" 1 ["slips", "heard"] spUnheard := ⟨f5, _, ok_unheard F5 , b5, k5, PySem.W.mg_of X G a5⟩
  have G6 : Fk l.prog w K mg base "merged_of" 3 ["book", "other"] spMerged := ⟨f6, _, ok_merged F6 B5 G5, b6, k6, PySem.W.mg_of X G a6⟩
  have G10 : Fk l.prog w K mg base "book_without" 2 ["book", "thing"] spWithout := ⟨f10, _, ok_without F10 G4 HN HE, b10, k10, PySem.W.mg_of X G a10⟩
  have G11 : Fk l.prog w K mg base "_law_wide" 1 ["_law_script", "_law_few", "_law_bound"] (spWide K) := ⟨f11, _, ok_wide F11 B, b11, k11, PySem.W.mg_of X G a11⟩
  have G12 : Fk l.prog w K mg base "_law_unturned" 1 ["_law_found", "_law_due"] spUnturned := ⟨f12, _, ok_unturned F12 B, b12, k12, PySem.W.mg_of X G a12⟩
  have G13 : Fk l.prog w K mg base "_law_whole" 1 ["_law_found"] spWhole := ⟨f13, _, ok_whole F13 B, b13, k13, PySem.W.mg_of X G a13⟩
  have G14 : Fk l.prog w K mg base "_law_at" 1 ["_law_script", "_law_k"] (spAt K) := ⟨f14, _, ok_at F14 B, b14, k14, PySem.W.mg_of X G a14⟩
  have G15 : Fk l.prog w K mg base "_law_texts" 1 ["_law_found", "_law_due"] spTexts := ⟨f15, _, ok_texts F15 B, b15, k15, PySem.W.mg_of X G a15⟩
  have G16 : Fk l.prog w K mg base "_law_wares" 1 ["_law_cells"] (spWares K) := ⟨f16, _, ok_wares F16 B, b16, k16, PySem.W.mg_of X G a16⟩
  have G17 : Fk l.prog w K mg base "_law_deeds" 2 ["_law_cells", "_law_count"] (spDeeds K) := ⟨f17, _, ok_deeds F17 B G16, b17, k17, PySem.W.mg_of X G a17⟩
  have G18 : Fk l.prog w K mg base "_law_past" 1 ["_law_asked", "_law_count"] spPast := ⟨f18, _, ok_past F18 B, b18, k18, PySem.W.mg_of X G a18⟩
  have G19 : Fk l.prog w K mg base "_law_stands" 1 ["_law_asked", "_law_ahead", "_law_takes", "_law_put"] spStands := ⟨f19, _, ok_stands F19 , b19, k19, PySem.W.mg_of X G a19⟩
  have G20 : Fk l.prog w K mg base "_law_same" 2 ["_law_handed", "_law_asked"] spSame := ⟨f20, _, ok_same F20 B G13, b20, k20, PySem.W.mg_of X G a20⟩
  have G21 : Fk l.prog w K mg base "_law_alike" 2 ["_law_found", "_law_due"] spAlikeU := ⟨f21, _, ok_alikeU F21 B G12, b21, k21, PySem.W.mg_of X G a21⟩
  have G22 : Fk l.prog w K mg base "_law_numbered" 1 ["_law_asked", "_law_count"] spNumbered := ⟨f22, _, ok_numbered F22 , b22, k22, PySem.W.mg_of X G a22⟩
  have G9 : Fk l.prog w K mg base "book_behind" 4 ["books", "deed"] spBook1 := ⟨f9, _, ok_book1 F9 G3 G10 G6, b9, k9, PySem.W.mg_of X G a9⟩
  have G7 : Fk l.prog w K mg base "books_behind" 5 ["count", "deeds"] spBooks := ⟨f7, _, ok_books F7 B G1 G9, b7, k7, PySem.W.mg_of X G a7⟩
  have G8 : Fk l.prog w K mg base "things_behind" 6 ["count", "deeds"] spBehind := ⟨f8, _, ok_behind F8 G2 G7, b8, k8, PySem.W.mg_of X G a8⟩
  exact ok_law F23 B B2 B5 G14 G11 G17 G8 G7 G20 G18 G19 G21 G22 G15
theorem walk {l : PySem.W.OpenLaw} {q : Program} {loose : List Str} {XP : (Str → Option Value) → Heap → Prop} {YP : World → Heap → Prop} {d : DefRec} {K : Params → PySem.W.Frag} (hn : l.most = some 63) (hdf : d.params.defaults = [])
    (hY : ∀ (w : World) (h : Heap), YP w h → (K w.params).In h)
    (F : ∀ (w : World) (mg : Str → Option Value) (fa : Addr) (h : Heap), (K w.params).In h → h.Ns mainGlobals mg → mg d.name = some (.ref fa) →
      ∃ fd : FuncData, (∀ (s : Shared) (u : Value), BindsTo s fd ⟨[u], []⟩ [("_law_script", u)]) ∧ ∀ base : Heap, (K w.params).In base → base.Ns mainGlobals mg → FnOk l.prog w (K w.params) mg base CX0 7 fa fd ["_law_script"] (spLaw (K w.params))) :
    PySem.W.WalkO q loose XP YP l.row.toRowW d [] (fun f vs => PySem.call f vs) :=
  L2.walk_of (n := 63) (k := 7) (x := "_law_script") (CX := fun _ => CX0) (sp := fun w => spLaw (K w.params)) hn (by decide) hdf ⟨rfl, by decide, by decide⟩ hY F (fun _ _ a ns hl _ hS => ⟨a, ns, rfl, hS, hl, fun _ => rfl⟩) fun _ _ _ _ _ z => z
end Sd
open PySem PySem.W PyProof.Rows
set_option maxRecDepth 100000 in
set_option maxHeartbeats 0 in
theorem PySem.Challenge.cw_slipdesk_k07_whole_things_there_holds : PySem.Challenge.rw_slipdesk_k07_whole_things_there.Holds := by
  w_on; o_law; k_head; (case hw => w_witness2)
  k_fill
  refine Sd.walk (l := PySem.Challenge.rw_slipdesk_k07_whole_things_there) rfl rfl (fun w h Y => PySem.W.kIn_of Y) ?F
  case F =>
    intro w mg fa h KX G hmg
    refine' Sd.all_mk KX G hmg ?a1 ?l1 ?c1 ?k1 ?a2 ?l2 ?c2 ?k2 ?a3 ?l3 ?c3 ?k3 ?a4 ?l4 ?c4 ?k4 ?a5 ?l5 ?c5 ?k5 ?a6 ?l6 ?c6 ?k6 ?a7 ?l7 ?c7 ?k7 ?a8 ?l8 ?c8 ?k8 ?a9 ?l9 ?c9 ?k9 ?a10 ?l10 ?c10 ?k10 ?a11 ?l11 ?c11 ?k11 ?a12 ?l12 ?c12 ?k12 ?a13 ?l13 ?c13 ?k13 ?a14 ?l14 ?c14 ?k14 ?a15 ?l15 ?c15 ?k15 ?a16 ?l16 ?c16 ?k16 ?a17 ?l17 ?c17 ?k17 ?a18 ?l18 ?c18 ?k18 ?a19 ?l19 ?c19 ?k19 ?a20 ?l20 ?c20 ?k20 ?a21 ?l21 ?c21 ?k21 ?a22 ?l22 ?c22 ?k22 ?a23 ?l23 ?c23 ?k23 ?z1 ?z2 ?z3 ?z4 ?z5 ?z6 ?z7 ?z8 ?z9 ?z10 ?z11 ?z12 ?z13 ?z14 ?z15 ?n_cN ?HX ?HE
    (case a1 => k_is); (case l1 => k_is); (case c1 => k_is); (case k1 => k_is)
    (case a2 => k_is); (case l2 => k_is); (case c2 => k_is); (case k2 => k_is)
    (case a3 => k_is); (case l3 => k_is); (case c3 => k_is); (case k3 => k_is)
    (case a4 => k_is); (case l4 => k_is); (case c4 => k_is); (case k4 => k_is)
    (case a5 => k_is); (case l5 => k_is); (case c5 => k_is); (case k5 => k_is)
    (case a6 => k_is); (case l6 => k_is); (case c6 => k_is); (case k6 => k_is)
    (case a7 => k_is); (case l7 => k_is); (case c7 => k_is); (case k7 => k_is)
    (case a8 => k_is); (case l8 => k_is); (case c8 => k_is); (case k8 => k_is)
    (case a9 => k_is); (case l9 => k_is); (case c9 => k_is); (case k9 => k_is)
    (case a10 => k_is); (case l10 => k_is); (case c10 => k_is); (case k10 => k_is)
    (case a11 => k_is); (case l11 => k_is); (case c11 => k_is); (case k11 => k_is)
    (case a12 => k_is); (case l12 => k_is); (case c12 => k_is); (case k12 => k_is)
    (case a13 => k_is); (case l13 => k_is); (case c13 => k_is); (case k13 => k_is)
    (case a14 => k_is); (case l14 => k_is); (case c14 => k_is); (case k14 => k_is)
    (case a15 => k_is); (case l15 => k_is); (case c15 => k_is); (case k15 => k_is)
    (case a16 => k_is); (case l16 => k_is); (case c16 => k_is); (case k16 => k_is)
    (case a17 => k_is); (case l17 => k_is); (case c17 => k_is); (case k17 => k_is)
    (case a18 => k_is); (case l18 => k_is); (case c18 => k_is); (case k18 => k_is)
    (case a19 => k_is); (case l19 => k_is); (case c19 => k_is); (case k19 => k_is)
    (case a20 => k_is); (case l20 => k_is); (case c20 => k_is); (case k20 => k_is)
    (case a21 => k_is); (case l21 => k_is); (case c21 => k_is); (case k21 => k_is)
    (case a22 => k_is); (case l22 => k_is); (case c22 => k_is); (case k22 => k_is)
    (case a23 => k_is); (case l23 => k_is); (case c23 => k_is); (case k23 => k_is)
    (case z1 => k_is)
    (case z2 => k_is)
    (case z3 => k_is)
    (case z4 => k_is)
    (case z5 => k_is)
    (case z6 => k_is)
    (case z7 => k_is)
    (case z8 => k_is)
    (case z9 => k_is)
    (case z10 => k_is)
    (case z11 => k_is)
    (case z12 => k_is)
    (case z13 => k_is)
    (case z14 => k_is)
    (case z15 => k_is)
    (case n_cN => k_is)
    (case HX => k_exc); (case HE => kts_exm)
#print axioms PySem.Challenge.cw_slipdesk_k07_whole_things_there_holds

