import PyProof.Rows.All
import Wide.All
import OpenK.AllK
import Wide.FinOn
import PyProof.EqAt
import PyProof.EqKinds
import PyProof.TupleCall
import Open.SpecLaws
import KE.OsHead
import KE.OsGo
import PySem.Challenge.RW_enclosing_s05_check
section
set_option Elab.async false
set_option linter.all false
set_option maxRecDepth 100000
/-! THE HAND LAYER, for ints, bools, texts, own classes, LISTS and tuples (index, slices, in, append, pop ..), calls, loops. Paste it whole ahead of your own text; what your proof does not reach may be deleted. -/
namespace L2
open PySem PySem.Spec PyProof.Rows

/-- a key: an int or a str -/
abbrev Key := Sum Int Str
def keyIs : Key → Value → Bool
  | .inl k, v => Value.isInt k v
  | .inr x, v => Value.isStrOf x v
def keyH (w : World) : Key → Int
  | .inl k => hashInt k
  | .inr x => hashStr w x
theorem keyIs_shape : ∀ {k : Key} {v : Value}, keyIs k v = true → (∃ i t, k = Sum.inl i ∧ v = Value.int i t) ∨ (∃ x t, k = Sum.inr x ∧ v = Value.str x t)
  | .inl i, v, h => by
    obtain ⟨t, e⟩ := Value.isInt_shape (k := i) (v := v) h
    exact .inl ⟨i, t, rfl, e⟩
  | .inr x, v, h => by
    obtain ⟨t, e⟩ := Value.isStrOf_shape (x := x) (v := v) h
    exact .inr ⟨x, t, rfl, e⟩
theorem keyIs_int (i : Int) (t : Tok) : keyIs (.inl i) (.int i t) = true := by simp [keyIs, Value.isInt]
theorem keyIs_str (x : Str) (t : Tok) : keyIs (.inr x) (.str x t) = true := by simp [keyIs, Value.isStrOf]
theorem key_ll (a b : Int) : decide ((Sum.inl a : Key) = Sum.inl b) = (a == b) := by
  by_cases e : a = b
  · subst e; simp
  · have h : ¬ (Sum.inl a : Key) = Sum.inl b := fun q => e (Sum.inl.inj q)
    rw [decide_eq_false h]
    exact (beq_eq_false_iff_ne.mpr e).symm
theorem key_rr (a b : Str) : decide ((Sum.inr a : Key) = Sum.inr b) = decide (a = b) := by
  by_cases e : a = b
  · subst e; simp
  · have h : ¬ (Sum.inr a : Key) = Sum.inr b := fun q => e (Sum.inr.inj q)
    rw [decide_eq_false h, decide_eq_false e]
theorem key_lr (a : Int) (b : Str) : decide ((Sum.inl a : Key) = Sum.inr b) = false := decide_eq_false (fun q => nomatch q)
theorem key_rl (a : Str) (b : Int) : decide ((Sum.inr a : Key) = Sum.inl b) = false := decide_eq_false (fun q => nomatch q)

def mixKind (prog : Program) (w : World) : PySem.KeyKind prog w Key where
  is := keyIs
  hash := keyH w
  inj := fun v a b ha hb => by
    rcases keyIs_shape ha with ⟨i, t, rfl, rfl⟩ | ⟨x, t, rfl, rfl⟩
    · rcases keyIs_shape hb with ⟨j, u, rfl, e⟩ | ⟨y, u, rfl, e⟩
      · injection e with e1 _; rw [e1]
      · exact nomatch e
    · rcases keyIs_shape hb with ⟨j, u, rfl, e⟩ | ⟨y, u, rfl, e⟩
      · exact nomatch e
      · injection e with e1 _; rw [e1]
  byValue := fun k v h => by
    rcases keyIs_shape h with ⟨i, t, rfl, rfl⟩ | ⟨x, t, rfl, rfl⟩ <;> rfl
  pyHash := fun hv h => by
    rcases keyIs_shape hv with ⟨i, t, rfl, rfl⟩ | ⟨x, t, rfl, rfl⟩
    · exact wpAny_pyHash_int h
    · exact wpAny_pyHash_str h
  eqBool := fun hu hv h => by
    rcases keyIs_shape hu with ⟨i, t, rfl, rfl⟩ | ⟨x, t, rfl, rfl⟩
    · rcases keyIs_shape hv with ⟨j, u, rfl, rfl⟩ | ⟨y, u, rfl, rfl⟩
      · rw [key_ll] at h; exact wpAny_eqBool_int h
      · rw [key_lr] at h; exact SeqAt.EqAt.int_str i t y u _ _ _ _ h
    · rcases keyIs_shape hv with ⟨j, u, rfl, rfl⟩ | ⟨y, u, rfl, rfl⟩
      · rw [key_rl] at h; exact SeqAt.EqAt.str_int x t j u _ _ _ _ h
      · rw [key_rr] at h; exact wpAny_eqBool_str h
  «strs» := fun k x t v h => by
    rcases keyIs_shape h with ⟨i, u, rfl, e⟩ | ⟨y, u, rfl, e⟩
    · exact nomatch e
    · injection e with e1 _
      subst e1
      cases v <;> rfl

theorem mixKind_is (prog : Program) (w : World) (k : Key) (v : Value) : (mixKind prog w).is k v = keyIs k v := rfl
theorem mixKind_int (prog : Program) (w : World) (i : Int) (t : Tok) : (mixKind prog w).is (.inl i) (.int i t) = true := keyIs_int i t
theorem mixKind_str (prog : Program) (w : World) (x : Str) (t : Tok) : (mixKind prog w).is (.inr x) (.str x t) = true := keyIs_str x t
end L2

namespace L2
open PySem PySem.Spec PyProof.Rows

/-- a value, without the heap -/
inductive V where
  | non | bl (b : Bool) | int (i : Int) | str (x : Str) | byt (b : Array UInt8) | flt (b : UInt64) | ref (a : Addr) | ty (n : String)
  deriving DecidableEq

def RelV : V → Value → Prop
  | .non, u => u = Value.none
  | .bl b, u => u = Value.bool b
  | .int i, u => ∃ t, u = Value.int i t
  | .str x, u => ∃ t, u = Value.str x t
  | .byt b, u => ∃ t, u = Value.bytes b t
  | .flt b, u => ∃ t, u = Value.float b t
  | .ref a, u => u = Value.ref a
  | .ty n, u => u = Value.type n

abbrev Vals : List V → List Value → Prop := Paired RelV
theorem Vals.length {xs : List V} {us : List Value} (r : Vals xs us) : xs.length = us.length := Paired.length r
theorem Vals.get : ∀ {xs : List V} {us : List Value} {i : Nat} {x : V}, Vals xs us → xs[i]? = some x → ∃ u, us[i]? = some u ∧ RelV x u
  | _, _, _, _, .nil, e => by simp at e
  | _, _, 0, _, .cons r _, e => by simp at e; subst e; exact ⟨_, rfl, r⟩
  | _, _, i + 1, x, .cons _ t, e => by
    obtain ⟨u, h1, h2⟩ := Vals.get (i := i) (x := x) t (by simpa using e)
    exact ⟨u, by simpa using h1, h2⟩
theorem Vals.set {x : V} {u : Value} (r : RelV x u) : ∀ {xs : List V} {us : List Value} (i : Nat), Vals xs us → Vals (xs.set i x) (us.set i u)
  | _, _, _, .nil => .nil
  | _, _, 0, .cons _ t => .cons r t
  | _, _, i + 1, .cons q t => .cons q (Vals.set r i t)
theorem Vals.append : ∀ {xs ys : List V} {us ws : List Value}, Vals xs us → Vals ys ws → Vals (xs ++ ys) (us ++ ws)
  | _, _, _, _, .nil, s => s
  | _, _, _, _, .cons r t, s => .cons r (Vals.append t s)
theorem Vals.take : ∀ {xs : List V} {us : List Value} (n : Nat), Vals xs us → Vals (xs.take n) (us.take n)
  | _, _, 0, _ => .nil
  | _, _, _ + 1, .nil => .nil
  | _, _, n + 1, .cons r t => .cons r (Vals.take n t)
theorem Vals.drop : ∀ {xs : List V} {us : List Value} (n : Nat), Vals xs us → Vals (xs.drop n) (us.drop n)
  | _, _, 0, r => r
  | _, _, _ + 1, .nil => .nil
  | _, _, n + 1, .cons _ t => Vals.drop n t
theorem Vals.none_of : ∀ {xs : List V} {us : List Value} {i : Nat}, Vals xs us → xs[i]? = none → us[i]? = none := fun {xs us i} r e => by
  have h1 := r.length
  have h2 : xs.length ≤ i := List.getElem?_eq_none_iff.mp e
  exact List.getElem?_eq_none_iff.mpr (by omega)

def RelO : Option V → Option Value → Prop
  | some v, some u => RelV v u
  | none, none => True
  | _, _ => False
def KV {κ : Type} : List (κ × V) → List (κ × Value) → Prop := Paired fun (p : κ × V) (q : κ × Value) => p.1 = q.1 ∧ RelV p.2 q.2

/-- a key of a dict (00_mix): an int or a text -/
def kV : Key → V
  | .inl i => .int i
  | .inr x => .str x

/-- what stands at a tracked address -/
inductive HO where
  /-- a list -/
  | lst (xs : List V)
  /-- a tuple (never changes) -/
  | tup (xs : List V)
  /-- a dict whose keys are ints and texts; one whose keys are tuples of ints and texts (the empty one is both) -/
  | dK (kvs : List (Key × V)) | dT (kvs : List (List Key × V))
  /-- a set of ints: its members, its size -/
  | set (S : Int → Bool) (n : Nat)
  /-- an instance of the class at C, its dict at dx, its attributes -/
  | ins (C dx : Addr) (fs : List (Str × V))
  /-- the dict of the instance at x -/
  | own (x : Addr)
  /-- the dict of an exception -/
  | xd (fs : List (Str × V))
  /-- a bound method, f of x -/
  | met (f x : Addr)
  /-- a range object lo, lo + 1, .. below hi -/
  | rng (lo hi : Int)
  /-- a thing that is known to the object (the script; a dict while a loop walks it): read, never written while it is so -/
  | frz (o : Obj) (u : HO)
  /-- a code object's table -/
  | tbl (ps : Array Value)
  /-- any other thing, by what is true of its one object (a def of one's own: SetO a S n := HO.ext fun h => ..) -/
  | ext (φ : Heap → Prop)

abbrev Hp := Addr → Option HO
def upd (H : Hp) (a : Addr) (o : HO) : Hp := fun b => if b = a then some o else H b
theorem upd_same {H : Hp} {a : Addr} {o : HO} : upd H a o a = some o := by unfold upd; rw [if_pos rfl]
theorem upd_ne {H : Hp} {a b : Addr} {o : HO} (h : b ≠ a) : upd H a o b = H b := by unfold upd; rw [if_neg h]
theorem upd_upd {H : Hp} {a : Addr} {o u : HO} : upd (upd H a o) a u = upd H a u := by
  funext b; unfold upd; split <;> rfl
/-- two objects of different content stand apart -/
theorem ne_of {H : Hp} {a b : Addr} {o u : HO} (h : H a = some o) (h' : H b = some u) (d : o ≠ u) : a ≠ b := by
  intro e; subst e; rw [h] at h'; exact d (Option.some.inj h')
theorem ne_of_none {H : Hp} {a b : Addr} {o : HO} (h : H a = some o) (h' : H b = none) : a ≠ b := by
  intro e; subst e; rw [h] at h'; cases h'

section
variable (P : Program) (w : World)
def ObjOk (H : Hp) (h : Heap) (a : Addr) : HO → Prop
  | .lst xs => xs.length ≤ sizeLine ∧ ∃ (its : List Value) (n : Nat), Vals xs its ∧ h.get? a = some { cls := .type "list", data := .seq its.toArray n }
  | .tup xs => xs.length ≤ sizeLine ∧ ∃ its : List Value, Vals xs its ∧ IsTup h a its.toArray
  | .dK kvs => kvs.length ≤ sizeLine ∧ (a == sysModules) = false ∧ ∃ vs, KV kvs vs ∧ h.DictOf (mixKind P w) a vs
  | .dT kvs => kvs.length ≤ sizeLine ∧ (a == sysModules) = false ∧ ∃ xs : List (List Key × Addr × Value),
      Paired (fun (p : List Key × V) (q : List Key × Addr × Value) => p.1 = q.1 ∧ H q.2.1 = some (.tup (p.1.map kV)) ∧ RelV p.2 q.2.2) kvs xs ∧
      ∃ o es ep, h.get? a = some o ∧ o.ExactDict ∧ o.data = .dict es ep ∧ es.toList = xs.map (entryOfKey (tupleKind (mixKind P w))) ∧ (xs.map (·.1)).Nodup
  | .set S n => h.SetOf (intKind P w) a S n
  | .ins C dx fs => H dx = some (.own a) ∧ fs.length ≤ 1000 ∧ dx ≠ a ∧ h.get? a = some (PySem.W.instObj C dx) ∧
      ∃ mA, h.Ns1 dx mA ∧ (∀ f, RelO (fs.lookup f) (mA f)) ∧ PySem.Within mA (fs.map (·.1))
  | .own _ => ∃ o, h.get? a = some o
  | .xd fs => ∃ mA, h.Ns1 a mA ∧ ∀ f, RelO (fs.lookup f) (mA f)
  | .rng lo hi => ∃ t u v, h.get? a = some { cls := .type "range", data := .fields #[.int lo t, .int hi u, .int 1 v] }
  | .frz o u => h.get? a = some o ∧ ObjOk H h a u
  | .tbl ps => h.get? a = some { cls := .none, data := .fields ps }
  | .met f x => h.get? a = some (PySem.W.methodObj (.ref f) (.ref x))
  | .ext φ => φ h ∧ (∃ o, h.get? a = some o) ∧ ∀ h1 h2 : Heap, φ h1 → (∀ o, h1.get? a = some o → h2.get? a = some o) → φ h2
/-- the abstract heap is held -/
def HOk (H : Hp) (h : Heap) : Prop := ∀ a o, H a = some o → ObjOk P w H h a o
end

section
variable {P : Program} {w : World} {H H' : Hp} {h h' : Heap} {a : Addr} {o : HO}
theorem ObjOk.lt (x : ObjOk P w H h a o) : a < h.objs.size := by
  cases o with
  | lst xs => obtain ⟨_, _, _, _, e⟩ := x; exact Heap.lt_size e
  | tup xs => obtain ⟨_, _, _, p⟩ := x; exact p.lt
  | dK kvs => obtain ⟨_, _, _, _, o, _, _, e, _⟩ := x; exact Heap.lt_size e
  | dT kvs => obtain ⟨_, _, _, _, o, _, _, e, _⟩ := x; exact Heap.lt_size e
  | set S n => obtain ⟨o, _, _, _, e, _⟩ := x; exact Heap.lt_size e
  | ins C dx fs => obtain ⟨_, _, _, e, _⟩ := x; exact Heap.lt_size e
  | own y => obtain ⟨_, e⟩ := x; exact Heap.lt_size e
  | xd fs => obtain ⟨_, ⟨_, _, _, e, _⟩, _⟩ := x; exact Heap.lt_size e
  | rng lo hi => obtain ⟨_, _, _, e⟩ := x; exact Heap.lt_size e
  | frz ob u => obtain ⟨e, _⟩ := x; exact Heap.lt_size e
  | tbl ps => exact Heap.lt_size (show h.get? a = some _ from x)
  | met f y => exact Heap.lt_size (show h.get? a = some _ from x)
  | ext φ => obtain ⟨_, ⟨_, e⟩, _⟩ := x; exact Heap.lt_size e
theorem Paired.mapP {α β : Type} {F G : α → β → Prop} : ∀ {l₁ : List α} {l₂ : List β}, Paired F l₁ l₂ → (∀ a b, F a b → G a b) → Paired G l₁ l₂
  | _, _, .nil, _ => .nil
  | _, _, .cons r t, f => .cons (f _ _ r) (Paired.mapP t f)
theorem Paired.imp' {α β : Type} {F G : α → β → Prop} (f : ∀ a b, F a b → G a b) {l₁ : List α} {l₂ : List β} (r : Paired F l₁ l₂) : Paired G l₁ l₂ := Paired.mapP r f
/-- what an object's description leans on: its own object, its own dict, the tuples -/
theorem ObjOk.stay (x : ObjOk P w H h a o) (k : ∀ b u, (b = a ∨ H b = some (.own a)) → h.get? b = some u → h'.get? b = some u)
    (ho : ∀ b, H b = some (.own a) → H' b = some (.own a)) (ht : ∀ b xs, H b = some (.tup xs) → H' b = some (.tup xs)) : ObjOk P w H' h' a o := by
  induction o with
  | lst xs => obtain ⟨z, its, n, r, e⟩ := x; exact ⟨z, its, n, r, k _ _ (.inl rfl) e⟩
  | tup xs => obtain ⟨z, its, r, ob, e, c⟩ := x; exact ⟨z, its, r, ob, k _ _ (.inl rfl) e, c⟩
  | dK kvs => obtain ⟨z, y, vs, r, ob, es, ep, e, c⟩ := x; exact ⟨z, y, vs, r, ob, es, ep, k _ _ (.inl rfl) e, c⟩
  | dT kvs =>
    obtain ⟨z, y, xs, r, ob, es, ep, e, c⟩ := x
    exact ⟨z, y, xs, Paired.mapP r fun p q z => ⟨z.1, ht _ _ z.2.1, z.2.2⟩, ob, es, ep, k _ _ (.inl rfl) e, c⟩
  | set S n => obtain ⟨ob, es, ep, t, e, c⟩ := x; exact ⟨ob, es, ep, t, k _ _ (.inl rfl) e, c⟩
  | ins C dx fs =>
    obtain ⟨d, z, ne, e, mA, ⟨od, es, ep, e2, c⟩, r⟩ := x
    exact ⟨ho _ d, z, ne, k _ _ (.inl rfl) e, mA, ⟨od, es, ep, k _ _ (.inr d) e2, c⟩, r⟩
  | own y => obtain ⟨ob, e⟩ := x; exact ⟨ob, k _ _ (.inl rfl) e⟩
  | xd fs => obtain ⟨mA, ⟨od, es, ep, e, c⟩, r⟩ := x; exact ⟨mA, ⟨od, es, ep, k _ _ (.inl rfl) e, c⟩, r⟩
  | rng lo hi => obtain ⟨t, u, v, e⟩ := x; exact ⟨t, u, v, k _ _ (.inl rfl) e⟩
  | frz ob u ih => obtain ⟨e, q⟩ := x; exact ⟨k _ _ (.inl rfl) e, ih q⟩
  | tbl ps =>
    have e : h.get? a = some { cls := .none, data := .fields ps } := x
    show h'.get? a = some { cls := .none, data := .fields ps }
    exact k a _ (.inl rfl) e
  | met f y =>
    have e : h.get? a = some (PySem.W.methodObj (.ref f) (.ref y)) := x
    show h'.get? a = some (PySem.W.methodObj (.ref f) (.ref y))
    exact k a _ (.inl rfl) e
  | ext φ => obtain ⟨p, ⟨o, e⟩, st⟩ := x; exact ⟨st _ _ p fun o q => k _ _ (.inl rfl) q, ⟨o, k _ _ (.inl rfl) e⟩, st⟩
theorem HOk.lt (x : HOk P w H h) (e : H a = some o) : a < h.objs.size := (x a o e).lt
theorem HOk.fresh (x : HOk P w H h) (e : h.objs.size ≤ a) : H a = none := by
  cases q : H a with
  | none => rfl
  | some u => exact absurd (Nat.lt_of_lt_of_le (x.lt q) e) (Nat.lt_irrefl _)
/-- every object of the heap is kept -/
theorem HOk.kept (x : HOk P w H h) (k : ∀ b u, h.get? b = some u → h'.get? b = some u) : HOk P w H h' := fun a o e =>
  (x a o e).stay (fun b u _ q => k b u q) (fun _ q => q) fun _ _ q => q
/-- a new object is laid and tracked -/
theorem HOk.laid (x : HOk P w H h) (k : ∀ b u, h.get? b = some u → h'.get? b = some u) (hp : h.objs.size ≤ a) (new : ObjOk P w (upd H a o) h' a o) : HOk P w (upd H a o) h' := fun b u e => by
  have hn := x.fresh hp
  by_cases hb : b = a
  · subst hb; rw [upd_same] at e; cases e; exact new
  · rw [upd_ne hb] at e
    exact (x b u e).stay (fun c v _ q => k c v q) (fun c q => by rw [upd_ne (ne_of_none q hn)]; exact q) fun c xs q => by rw [upd_ne (ne_of_none q hn)]; exact q
end

/-- what may be read as u: it is u, or a known u -/
def Rd (H : Hp) (a : Addr) (u : HO) : Prop := H a = some u ∨ ∃ o, H a = some (.frz o u)
theorem Rd.of {H : Hp} {a : Addr} {u : HO} (h : H a = some u) : Rd H a u := .inl h
theorem Rd.ok {P : Program} {w : World} {H : Hp} {h : Heap} {a : Addr} {u : HO} (r : Rd H a u) (x : HOk P w H h) : ObjOk P w H h a u := by
  rcases r with r | ⟨o, r⟩
  · exact x a u r
  · obtain ⟨_, q⟩ := x a _ r
    exact q
/-- what may be written -/
def Mut : Option HO → Prop
  | some (.lst _) => True
  | some (.dK _) => True
  | some (.dT _) => True
  | some (.set _ _) => True
  | some (.ins _ _ _) => True
  | some (.ext _) => True
  | _ => False
section
variable {P : Program} {w : World} {H : Hp} {h h' : Heap} {x e : Addr} {o' : HO}
/-- the object at e is changed: x itself, or the dict of the instance x -/
theorem HOk.write (ok : HOk P w H h) (mu : Mut (H x)) (he : e = x ∨ H e = some (.own x)) (k : ∀ b u, b ≠ e → h.get? b = some u → h'.get? b = some u) (heo : ∃ u, h'.get? e = some u)
    (new : ObjOk P w (upd H x o') h' x o') : HOk P w (upd H x o') h' := fun b u q => by
  have nown : ∀ c y, H c = some (.own y) → c ≠ x := fun c y r z => by subst z; rw [r] at mu; exact mu
  have ntup : ∀ c xs, H c = some (.tup xs) → c ≠ x := fun c xs r z => by subst z; rw [r] at mu; exact mu
  by_cases hb : b = x
  · subst hb; rw [upd_same] at q; cases q; exact new
  · rw [upd_ne hb] at q
    by_cases hbe : b = e
    · have q' : H b = some (.own x) := by
        rcases he with z | z
        · exact absurd (hbe.trans z) hb
        · rw [hbe]; exact z
      rw [q] at q'; cases q'
      obtain ⟨v, hv⟩ := heo
      exact ⟨v, by rw [hbe]; exact hv⟩
    · refine (ok b u q).stay (fun c v hc r => k c v ?_ r) (fun c r => by rw [upd_ne (nown c b r)]; exact r) fun c xs r => by rw [upd_ne (ntup c xs r)]; exact r
      rcases hc with rfl | hc
      · exact hbe
      · rintro rfl
        rcases he with z | z
        · exact nown c b hc z
        · rw [hc] at z; cases z; exact hb rfl
end

/-! ### kept unless tracked; of the frames at fs (the callers') the slots may change (an exception that passes writes there); of the records at ex (iterators) nothing is said -/
structure Un (fs ex : List Addr) (H H' : Hp) (h h' : Heap) : Prop where
  keep : ∀ b o, h.get? b = some o → H b = none → b ∉ fs → b ∉ ex → h'.get? b = some o
  slot : ∀ b o, h.get? b = some o → H b = none → b ∈ fs → b ∉ ex → ∃ sl, h'.get? b = some { o with slots := sl }
  free : ∀ b o, h.get? b = some o → H b = none → b ∉ ex → H' b = none
  there : ∀ b o, h.get? b = some o → b ∉ ex → ∃ o', h'.get? b = some o'
  tups : ∀ b xs, H b = some (.tup xs) → H' b = some (.tup xs)
  frzs : ∀ b o u, H b = some (.frz o u) → H' b = some (.frz o u)
  tbls : ∀ b ps, H b = some (.tbl ps) → ∃ more, H' b = some (.tbl (ps ++ more))
section
variable {fs fs' ex ex' : List Addr} {H H1 H2 : Hp} {h h1 h2 h' : Heap} {a x e : Addr} {o : HO}
theorem Un.any (u : Un fs ex H H1 h h1) {b : Addr} {ob : Obj} (q : h.get? b = some ob) (n : H b = none) (hx : b ∉ ex) : ∃ sl, h1.get? b = some { ob with slots := sl } := by
  by_cases hb : b ∈ fs
  · exact u.slot b ob q n hb hx
  · exact ⟨ob.slots, u.keep b ob q n hb hx⟩
theorem Un.trans (a : Un fs ex H H1 h h1) (b : Un fs ex H1 H2 h1 h2) : Un fs ex H H2 h h2 where
  keep := fun c ob q n hc hx => b.keep c ob (a.keep c ob q n hc hx) (a.free c ob q n hx) hc hx
  slot := fun c ob q n hc hx => by
    obtain ⟨sl, e1⟩ := a.slot c ob q n hc hx
    obtain ⟨sl', e2⟩ := b.slot c _ e1 (a.free c ob q n hx) hc hx
    exact ⟨sl', e2⟩
  free := fun c ob q n hx => by
    obtain ⟨o', e1⟩ := a.there c ob q hx
    exact b.free c o' e1 (a.free c ob q n hx) hx
  there := fun c ob q hx => by
    obtain ⟨o', e1⟩ := a.there c ob q hx
    exact b.there c o' e1 hx
  tups := fun c xs q => b.tups c xs (a.tups c xs q)
  frzs := fun c ob xs q => b.frzs c ob xs (a.frzs c ob xs q)
  tbls := fun c ps q => by
    obtain ⟨m1, e1⟩ := a.tbls c ps q
    obtain ⟨m2, e2⟩ := b.tbls c _ e1
    exact ⟨m1 ++ m2, by rw [e2, Array.append_assoc]⟩
theorem Un.kept (k : ∀ b u, h.get? b = some u → h'.get? b = some u) : Un fs ex H H h h' :=
  ⟨fun b ob q _ _ _ => k b ob q, fun b ob q _ _ _ => ⟨ob.slots, k b ob q⟩, fun _ _ _ n _ => n, fun b ob q _ => ⟨ob, k b ob q⟩, fun _ _ q => q, fun _ _ _ q => q, fun _ ps q => ⟨#[], by rw [q]; simp⟩⟩
theorem Un.refl : Un fs ex H H h h := Un.kept fun _ _ q => q
theorem Un.laid (k : ∀ b u, h.get? b = some u → h'.get? b = some u) (hp : h.objs.size ≤ a) (hn : H a = none) : Un fs ex H (upd H a o) h h' where
  keep := fun b u q _ _ _ => k b u q
  slot := fun b u q _ _ _ => ⟨u.slots, k b u q⟩
  free := fun b u q n _ => by rw [upd_ne (Nat.ne_of_lt (Nat.lt_of_lt_of_le (Heap.lt_size q) hp))]; exact n
  there := fun b u q _ => ⟨u, k b u q⟩
  tups := fun b xs q => by rw [upd_ne (ne_of_none q hn)]; exact q
  frzs := fun b u xs q => by rw [upd_ne (ne_of_none q hn)]; exact q
  tbls := fun b ps q => ⟨#[], by rw [upd_ne (ne_of_none q hn), q]; simp⟩
theorem Un.write (mu : Mut (H x)) (he : e = x ∨ H e = some (.own x)) (k : ∀ b u, b ≠ e → h.get? b = some u → h'.get? b = some u) (heo : ∃ u, h'.get? e = some u) : Un fs ex H (upd H x o) h h' := by
  have hx : ∀ b, H b = none → b ≠ x := fun b n z => by subst z; rw [n] at mu; exact mu
  have hb : ∀ b, H b = none → b ≠ e := fun b n z => by
    subst z
    rcases he with r | r
    · exact hx b n r
    · rw [n] at r; cases r
  have hm : ∀ b u, H b = some u → ¬ Mut (some u) → b ≠ x := fun b u q nm z => by subst z; rw [q] at mu; exact nm mu
  refine ⟨fun b u q n _ _ => k b u (hb b n) q, fun b u q n _ _ => ⟨u.slots, k b u (hb b n) q⟩, fun b u q n _ => by rw [upd_ne (hx b n)]; exact n, fun b u q _ => ?_,
    fun b xs q => by rw [upd_ne (hm b _ q fun z => z)]; exact q, fun b u xs q => by rw [upd_ne (hm b _ q fun z => z)]; exact q, fun b ps q => ⟨#[], by rw [upd_ne (hm b _ q fun z => z), q]; simp⟩⟩
  by_cases hbe : b = e
  · subst hbe; exact heo
  · exact ⟨u, k b u hbe q⟩
theorem Un.mono (u : Un fs ex H H1 h h1) (hs : ∀ b ∈ fs, b ∈ fs') (hx : ∀ b ∈ ex, b ∈ ex') : Un fs' ex' H H1 h h1 :=
  ⟨fun b ob q n hb he => u.keep b ob q n (fun z => hb (hs b z)) fun z => he (hx b z), fun _ _ q n _ he => u.any q n fun z => he (hx _ z), fun b ob q n he => u.free b ob q n fun z => he (hx b z), fun b ob q he => u.there b ob q fun z => he (hx b z), u.tups, u.frzs, u.tbls⟩
end

/-! ### the heap without what is tracked -/
def trk (h : Heap) (H : Hp) : List Addr := (List.range h.objs.size).filter fun a => (H a).isSome
def hidT (h : Heap) (H : Hp) : Heap := PySem.W.hideAll h (trk h H)
theorem hidT_size (h : Heap) (H : Hp) : (hidT h H).objs.size = h.objs.size := PySem.W.hideAll_size _ _
theorem hidT_get {h : Heap} {H : Hp} {b : Addr} {o : Obj} (e : h.get? b = some o) (n : H b = none) : (hidT h H).get? b = some o :=
  PySem.W.hideAll_get _ e fun hm => by
    have q : (H b).isSome = true := (List.mem_filter.mp hm).2
    rw [n] at q; simp at q
theorem of_hidT {h : Heap} {H : Hp} {b : Addr} {o : Obj} (e : (hidT h H).get? b = some o) : h.get? b = some o ∧ H b = none := by
  have e' : h.get? b = some o := PySem.W.of_hideAll (trk h H) e
  refine ⟨e', ?_⟩
  cases q : H b with
  | none => rfl
  | some x =>
    have hm : b ∈ trk h H := List.mem_filter.mpr ⟨List.mem_range.mpr (Heap.lt_size e'), by simp [q]⟩
    have z : (hidT h H).get? b = none := PySem.W.hideAll_none (trk h H) hm
    rw [z] at e; cases e

/-! ### OpenK's ledger, filled with every new object but one -/
def allNews (g h : Heap) (L : Addr) : List (Addr × Obj) := (List.range h.objs.size).filterMap fun a => if a = L ∨ (g.get? a).isSome = true then none else (h.get? a).map fun o => (a, o)
theorem mem_allNews {g h : Heap} {L a : Addr} {o : Obj} (h1 : a ≠ L) (h2 : g.get? a = none) (h3 : h.get? a = some o) : (a, o) ∈ allNews g h L :=
  List.mem_filterMap.mpr ⟨a, List.mem_range.mpr (Heap.lt_size h3), by simp [h1, h2, h3]⟩
theorem of_mem_allNews {g h : Heap} {L : Addr} {p : Addr × Obj} (hp : p ∈ allNews g h L) : p.1 ≠ L ∧ g.get? p.1 = none ∧ h.get? p.1 = some p.2 := by
  obtain ⟨b, _, e⟩ := List.mem_filterMap.mp hp
  split at e
  · cases e
  · rename_i hn
    cases q : h.get? b with
    | none => rw [q] at e; simp at e
    | some u =>
      rw [q] at e
      simp only [Option.map_some, Option.some.injEq] at e
      subst e
      refine ⟨fun z => hn (.inl z), ?_, q⟩
      show g.get? b = none
      cases r : g.get? b with
      | none => rfl
      | some v => exact (hn (.inr (by simp [r]))).elim
def rest (g h : Heap) (L d : Addr) : List (Addr × Obj) := (allNews g h L).filter fun p => decide (p.1 ≠ d)
theorem rest_ne {g h : Heap} {L d : Addr} : ∀ p ∈ rest g h L d, p.1 ≠ d := fun p hp => of_decide_eq_true (List.mem_filter.mp hp).2
theorem mem_rest {g h : Heap} {L d a : Addr} {o : Obj} (h1 : a ≠ L) (h2 : g.get? a = none) (h3 : h.get? a = some o) (h4 : a ≠ d) : (a, o) ∈ rest g h L d :=
  List.mem_filter.mpr ⟨mem_allNews h1 h2 h3, decide_eq_true h4⟩
theorem news_all {g h : Heap} {L : Addr} : News g L h (allNews g h L) := fun p hp => let ⟨a, b, c⟩ := of_mem_allNews hp; ⟨c, a, b⟩
theorem news_at {g h : Heap} {L d : Addr} {o : Obj} (h1 : d ≠ L) (h2 : g.get? d = none) (h3 : h.get? d = some o) : News g L h ((d, o) :: rest g h L d) := fun p hp => by
  rcases List.mem_cons.mp hp with rfl | hp
  · exact ⟨h3, h1, h2⟩
  · exact news_all p (List.mem_filter.mp hp).1
/-- behind a rule that changed d alone: all else but the frame is kept -/
theorem kept_of_news {g h h' : Heap} {L d : Addr} {m : Str → Option Value} (k : ∀ b o, g.get? b = some o → h.get? b = some o) (F : Fr g L h' m) (N : News g L h' (rest g h L d)) :
    ∀ b o, b ≠ L → b ≠ d → h.get? b = some o → h'.get? b = some o := fun b o h1 h2 e => by
  cases q : g.get? b with
  | some u =>
    have := k b u q
    rw [e] at this; cases this
    exact F.keep b _ q
  | none => exact (N (b, o) (mem_rest h1 q e h2)).1
end L2

namespace L2
open PySem PySem.Spec PyProof.Rows

/-- the module's facts, over the base: the heap at the law's entry without what is tracked there -/
structure Mod (K : PySem.W.Frag) (mg : Str → Option Value) (base : Heap) : Prop where
  kin : K.In base
  glob : base.Ns mainGlobals mg
  blt : ∃ mb, base.Ns builtinsNs mb ∧ ∀ x : Str, x ≠ "__name__" → mb x = bootBuiltins x
  nolimit : base.NoLimit

/-- the context: a def's body (or a comprehension's block) running. base: fixed through the whole law; s₀, H₀: the entry; outer: the frames whose slots others may change (a def's callers); stack: all frames that run;
   ex: iterators that were made ahead of the entry and are walked here (a comprehension's); fn: the names whose cells were made at the entry (a def: all; a comprehension's block: its own); calm: not within an except suite; pn: pins that every state bears; xe: what is wanted of an exception that leaves the code -/
structure Cx where
  prog : Program
  w : World
  K : PySem.W.Frag
  mg : Str → Option Value
  base : Heap
  A : Around
  N : List Str
  s_0 : Shared
  H_0 : Hp
  env : Env
  outer : List Env
  stack : List Env
  ex : List Addr
  fn : Str → Bool
  calm : Bool
  pn : List (Addr × Obj)
  xe : Value → Shared → Prop
/-- the callers' frames -/
def frs (l : List Env) : List Addr := l.filterMap (·.frame)
abbrev Cx.fs (X : Cx) : List Addr := frs X.outer

def Vis (sc : Scope) (x : Str) : Prop := sc.names.lookup x = some .local ∨ sc.names.lookup x = some .cell ∨ sc.names.lookup x = some .free
def Loc (sc : Scope) (x : Str) : Prop := sc.names.lookup x = some .local ∨ sc.names.lookup x = some .cell
def Look (env : Env) (h : Heap) (m : Str → Option Value) (x : Str) (u : Value) : Prop :=
  (env.kindOf x = some .local ∧ m x = some u) ∨ ((env.kindOf x = some .cell ∨ env.kindOf x = some .free) ∧ ∃ c, env.cells.lookup x = some c ∧ h.IsCell c (some u))

structure Cx.Ok (X : Cx) : Prop where
  mod : Mod X.K X.mg X.base
  kind : X.env.scope.kind = .function
  glob : X.env.globals = mainGlobals
  blt : X.env.builtins = builtinsNs
  above : X.s_0.heap.objs.size ≤ X.env.locals
  inj : ∀ x y c, X.env.cells.lookup x = some c → X.env.cells.lookup y = some c → x = y
  has : ∀ x, (X.env.kindOf x = some .cell ∨ X.env.kindOf x = some .free) → ∃ c, X.env.cells.lookup x = some c
  cab : ∀ x c, X.fn x = true → X.env.cells.lookup x = some c → X.s_0.heap.objs.size ≤ c
  hd : X.calm = true → X.A.handled = none
  frames : X.A.frames = some X.stack
  stk : X.stack = X.outer ∨ (X.stack = X.env :: X.outer ∧ X.env.frame = some X.env.locals)
  exf : ∀ b ∈ X.ex, b ≠ X.env.locals ∧ ∀ x c, X.env.cells.lookup x = some c → c ≠ b
  bs : ∀ b o, X.base.get? b = some o → X.s_0.heap.get? b = some o ∧ X.H_0 b = none
  bsz : X.base.objs.size ≤ X.s_0.heap.objs.size
  noex : ∀ b o, X.base.get? b = some o → b ∉ X.ex
  exfs : ∀ b ∈ X.ex, b ∉ X.fs
  funs : X.s_0.heap.FunFrames X.base X.outer
  frf : ∀ b ∈ X.fs, X.H_0 b = none

structure Inv (X : Cx) (pins : List (Addr × Obj)) (σ : List (Option V)) (H : Hp) (s : Shared) : Prop where
  ok : X.Ok
  os : s.os = X.s_0.os
  bare : AllBare s.gens
  base : Un X.fs X.ex X.H_0 H X.s_0.heap s.heap
  loc : ∃ m, s.heap.Ns X.env.locals m ∧ ∀ (i : Nat) (x : Str) (v : V), X.N[i]? = some x → σ[i]? = some (some v) → Vis X.env.scope x → ∃ u, RelV v u ∧ Look X.env s.heap m x u
  cell : ∀ x c, X.env.cells.lookup x = some c → ∃ v, s.heap.IsCell c v
  free : H X.env.locals = none
  freeC : ∀ x c, X.env.cells.lookup x = some c → H c = none
  pin : ∀ p ∈ X.pn ++ pins, s.heap.get? p.1 = some p.2 ∧ H p.1 = none ∧ p.1 ≠ X.env.locals ∧ p.1 ∉ X.fs ∧ ∀ v, p.2.data ≠ .cell v
  hok : HOk X.prog X.w H s.heap
  len : σ.length = X.N.length

section
variable {X : Cx} {pins : List (Addr × Obj)} {σ : List (Option V)} {H H' : Hp} {s : Shared} {h' : Heap}

theorem Cx.Ok.nofr (ok : X.Ok) {b : Addr} {o : Obj} (e : X.base.get? b = some o) : b ∉ X.fs := fun hb => by
  have := (ok.funs.mem hb).1
  rw [e] at this; cases this
theorem Inv.bs (I : Inv X pins σ H s) : ∀ b o, X.base.get? b = some o → s.heap.get? b = some o ∧ H b = none := fun b o e =>
  ⟨I.base.keep b o (I.ok.bs b o e).1 (I.ok.bs b o e).2 (I.ok.nofr e) (I.ok.noex b o e), I.base.free b o (I.ok.bs b o e).1 (I.ok.bs b o e).2 (I.ok.noex b o e)⟩
theorem Inv.bk (I : Inv X pins σ H s) : ∀ b o, X.base.get? b = some o → s.heap.get? b = some o := fun b o e => (I.bs b o e).1
theorem Inv.mod (I : Inv X pins σ H s) : Mod X.K X.mg X.base := I.ok.mod
theorem Inv.kIn (I : Inv X pins σ H s) : X.K.In s.heap := I.ok.mod.kin.keeps I.bk
theorem Inv.nolimit (I : Inv X pins σ H s) : s.heap.NoLimit := I.ok.mod.nolimit.keeps I.bk
/-- the frame over the base: for OpenK's rules (K.In X.base is I.mod.kin) -/
theorem Inv.fr (I : Inv X pins σ H s) : ∃ m, Fr X.base X.env.locals s.heap m :=
  let ⟨m, hn, _⟩ := I.loc
  ⟨m, hn, I.bk, Nat.le_trans I.ok.bsz I.ok.above⟩
theorem Inv.lt (I : Inv X pins σ H s) : X.env.locals < s.heap.objs.size := let ⟨_, hn, _⟩ := I.loc; hn.lt
theorem Inv.sz (I : Inv X pins σ H s) : X.s_0.heap.objs.size ≤ s.heap.objs.size := Nat.le_trans I.ok.above (Nat.le_of_lt I.lt)
theorem Inv.nofs (I : Inv X pins σ H s) {a : Addr} (h : s.heap.objs.size ≤ a) : a ∉ X.fs := fun hb => by
  obtain ⟨_, o, ho, _⟩ := I.ok.funs.mem hb
  exact absurd (Nat.lt_of_lt_of_le (Heap.lt_size ho) (Nat.le_trans I.sz h)) (Nat.lt_irrefl _)
theorem Inv.cne (I : Inv X pins σ H s) : ∀ x c, X.env.cells.lookup x = some c → c ≠ X.env.locals := fun x c e z => by
  obtain ⟨v, o, ho, hd⟩ := I.cell x c e
  obtain ⟨m, ⟨o', es, ep, ho', hd', _⟩, _⟩ := I.loc
  rw [z, ho'] at ho; cases ho; rw [hd'] at hd; cases hd
theorem Inv.funs (I : Inv X pins σ H s) : s.heap.FunFrames X.base X.outer := by
  have all : ∀ (l : List Env), (∀ b ∈ frs l, b ∈ X.fs) → X.s_0.heap.FunFrames X.base l → s.heap.FunFrames X.base l := by
    intro l
    induction l with
    | nil => intro _ _; trivial
    | cons env r ih =>
      intro hs hl
      obtain ⟨hk, ⟨L, o, hf, hn, ho, hd⟩, hr⟩ := hl
      have hL : L ∈ X.fs := hs L (by unfold frs; rw [List.filterMap_cons, hf]; exact List.mem_cons_self)
      obtain ⟨sl, e⟩ := I.base.slot L o ho (I.ok.frf L hL) hL fun z => I.ok.exfs L z hL
      exact ⟨hk, ⟨L, _, hf, hn, e, hd⟩, ih (fun b hb => hs b (by unfold frs; rw [List.filterMap_cons, hf]; exact List.mem_cons_of_mem _ hb)) hr⟩
  exact all X.outer (fun _ hb => hb) I.ok.funs

/-- the frames that run, for a call -/
theorem Inv.stack (I : Inv X pins σ H s) : s.heap.FunFrames X.base X.stack := by
  rcases I.ok.stk with e | ⟨e, hf⟩
  · rw [e]; exact I.funs
  · rw [e]
    obtain ⟨m, hn, _⟩ := I.loc
    refine .cons (by rw [I.ok.kind]; decide) hf hn ?_ I.funs
    exact Heap.get?_none_of_le (Nat.le_trans I.ok.bsz I.ok.above)
theorem Inv.stkSub (I : Inv X pins σ H s) : ∀ b ∈ frs X.stack, b ∈ X.env.locals :: X.fs := fun b hb => by
  rcases I.ok.stk with e | ⟨e, hf⟩
  · rw [e] at hb; exact List.mem_cons_of_mem _ hb
  · rw [e] at hb
    unfold frs at hb
    rw [List.filterMap_cons, hf] at hb
    exact hb
theorem Inv.stkFree (I : Inv X pins σ H s) : ∀ b ∈ frs X.stack, H b = none := fun b hb => by
  rcases List.mem_cons.mp (I.stkSub b hb) with e | hb
  · rw [e]; exact I.free
  · obtain ⟨_, o, ho, _⟩ := I.ok.funs.mem hb
    exact I.base.free b o ho (I.ok.frf b hb) fun z => I.ok.exfs b z hb

/-- THE STEP: the untracked objects but the frame and the records at ch are kept (the callers' frames up to slots), the frame's map is kept, the new abstract heap is held -/
theorem Inv.step {g' : Array GenState} {t' : Nat} {d' : Drawn} {ch : List Addr} (I : Inv X pins σ H s)
    (hch : ∀ b ∈ ch, (b ∈ X.ex ∨ X.s_0.heap.objs.size ≤ b) ∧ b ≠ X.env.locals ∧ (∀ x c, X.env.cells.lookup x = some c → c ≠ b) ∧ ∀ p ∈ X.pn ++ pins, p.1 ≠ b)
    (keep : ∀ b o, b ≠ X.env.locals → b ∉ X.fs → b ∉ ch → s.heap.get? b = some o → H b = none → h'.get? b = some o)
    (slot : ∀ b o, b ≠ X.env.locals → b ∈ X.fs → b ∉ ch → s.heap.get? b = some o → H b = none → ∃ sl, h'.get? b = some { o with slots := sl }) (free : ∀ b o, b ∉ ch → s.heap.get? b = some o → H b = none → H' b = none)
    (there : ∀ b o, b ∉ ch → s.heap.get? b = some o → ∃ o', h'.get? b = some o')
    (tups : ∀ b xs, H b = some (.tup xs) → H' b = some (.tup xs)) (frzs : ∀ b o u, H b = some (.frz o u) → H' b = some (.frz o u)) (tbls : ∀ b ps, H b = some (.tbl ps) → ∃ more, H' b = some (.tbl (ps ++ more)))
    (ns : ∀ m, s.heap.Ns X.env.locals m → h'.Ns X.env.locals m) (hok : HOk X.prog X.w H' h') (hg : AllBare g') :
    Inv X pins σ H' { s with heap := h', gens := g', drawn := d', toks := t' } := by
  have neL : ∀ b o, X.s_0.heap.get? b = some o → b ≠ X.env.locals := fun b o e => Nat.ne_of_lt (Nat.lt_of_lt_of_le (Heap.lt_size e) I.ok.above)
  have neC : ∀ b o, X.s_0.heap.get? b = some o → b ∉ X.ex → b ∉ ch := fun b o e hx hb => by
    rcases (hch b hb).1 with z | z
    · exact hx z
    · exact absurd (Nat.lt_of_lt_of_le (Heap.lt_size e) z) (Nat.lt_irrefl _)
  have cellK : ∀ x c, X.env.cells.lookup x = some c → ∀ v, s.heap.IsCell c v → h'.IsCell c v := fun x c e v ⟨o, ho, hd⟩ => by
    have nch : c ∉ ch := fun z => (hch c z).2.2.1 x c e rfl
    by_cases hc : c ∈ X.fs
    · obtain ⟨sl, q⟩ := slot c o (I.cne x c e) hc nch ho (I.freeC x c e)
      exact ⟨_, q, hd⟩
    · exact ⟨o, keep c o (I.cne x c e) hc nch ho (I.freeC x c e), hd⟩
  refine ⟨I.ok, I.os, hg, ⟨fun b o e n hb hx => ?_, fun b o e n hb hx => ?_, fun b o e n hx => ?_, fun b o e hx => ?_, fun b xs e => tups b xs (I.base.tups b xs e), fun b o xs e => frzs b o xs (I.base.frzs b o xs e), fun b ps e => ?_⟩, ?_, fun x c e => ?_, ?_, fun x c e => ?_, fun p hp => ?_, hok, I.len⟩
  · exact keep b o (neL b o e) hb (neC b o e hx) (I.base.keep b o e n hb hx) (I.base.free b o e n hx)
  · obtain ⟨sl, e1⟩ := I.base.slot b o e n hb hx
    obtain ⟨sl', e2⟩ := slot b _ (neL b o e) hb (neC b o e hx) e1 (I.base.free b o e n hx)
    exact ⟨sl', e2⟩
  · obtain ⟨o', e1⟩ := I.base.there b o e hx
    exact free b o' (neC b o e hx) e1 (I.base.free b o e n hx)
  · obtain ⟨o', e1⟩ := I.base.there b o e hx
    exact there b o' (neC b o e hx) e1
  · obtain ⟨m1, e1⟩ := I.base.tbls b ps e
    obtain ⟨m2, e2⟩ := tbls b _ e1
    exact ⟨m1 ++ m2, by rw [e2, Array.append_assoc]⟩
  · obtain ⟨m, hn, hl⟩ := I.loc
    refine ⟨m, ns m hn, fun i x v e1 e2 e3 => ?_⟩
    obtain ⟨u, r, l⟩ := hl i x v e1 e2 e3
    refine ⟨u, r, ?_⟩
    rcases l with l | ⟨k, c, e, z⟩
    · exact .inl l
    · exact .inr ⟨k, c, e, cellK x c e _ z⟩
  · obtain ⟨v, z⟩ := I.cell x c e
    exact ⟨v, cellK x c e v z⟩
  · obtain ⟨m, ⟨o, _, _, ho, _⟩, _⟩ := I.loc
    exact free _ o (fun z => (hch _ z).2.1 rfl) ho I.free
  · obtain ⟨v, o, ho, hd⟩ := I.cell x c e
    exact free c o (fun z => (hch c z).2.2.1 x c e rfl) ho (I.freeC x c e)
  · obtain ⟨e, n, ne, nf, d⟩ := I.pin p hp
    have nch : p.1 ∉ ch := fun z => (hch p.1 z).2.2.2 p hp rfl
    exact ⟨keep p.1 p.2 ne nf nch e n, free p.1 p.2 nch e n, ne, nf, d⟩
/-- .. where the frame's own object is kept too -/
theorem Inv.un {t' : Nat} (I : Inv X pins σ H s) (u : Un X.fs [] H H' s.heap h') (hok : HOk X.prog X.w H' h') : Inv X pins σ H' { s with heap := h', toks := t' } := by
  obtain ⟨m, ⟨o, es, ep, ho, r⟩, _⟩ := id I.loc
  obtain ⟨sl, hL⟩ := u.any ho I.free (by simp)
  exact I.step (g' := s.gens) (d' := s.drawn) (ch := []) (fun _ z => nomatch z) (fun b o _ hb _ e n => u.keep b o e n hb (by simp)) (fun b o _ hb _ e n => u.slot b o e n hb (by simp)) (fun b o _ e n => u.free b o e n (by simp)) (fun b o _ e => u.there b o e (by simp)) u.tups u.frzs u.tbls (fun m' hm => by
    obtain ⟨o', es', ep', ho', r'⟩ := hm
    rw [ho] at ho'; cases ho'
    exact ⟨_, es', ep', hL, r'⟩) hok I.bare
/-- behind a call (or a comprehension's block): the slots of this frame may have changed too, the records at ch may have turned -/
theorem Inv.call {g' : Array GenState} {t' : Nat} {d' : Drawn} {ch : List Addr} (I : Inv X pins σ H s) (u : Un (frs X.stack) ch H H' s.heap h') (hok : HOk X.prog X.w H' h') (hg : AllBare g')
    (hch : ∀ b ∈ ch, (b ∈ X.ex ∨ X.s_0.heap.objs.size ≤ b) ∧ b ≠ X.env.locals ∧ (∀ x c, X.env.cells.lookup x = some c → c ≠ b) ∧ ∀ p ∈ X.pn ++ pins, p.1 ≠ b) :
    Inv X pins σ H' { s with heap := h', gens := g', drawn := d', toks := t' } := by
  obtain ⟨m, ⟨o, es, ep, ho, r⟩, _⟩ := id I.loc
  obtain ⟨sl, hL⟩ := u.any ho I.free fun z => (hch _ z).2.1 rfl
  exact I.step (ch := ch) hch (fun b o hL hb hc e n => u.keep b o e n (fun z => (List.mem_cons.mp (I.stkSub b z)).elim hL hb) hc) (fun b o _ _ hc e n => u.any e n hc) (fun b o hc e n => u.free b o e n hc) (fun b o hc e => u.there b o e hc) u.tups u.frzs u.tbls (fun m' hm => by
    obtain ⟨o', es', ep', ho', r'⟩ := hm
    rw [ho] at ho'; cases ho'
    exact ⟨_, es', ep', hL, r'⟩) hok hg
/-- an untracked record of ours (an iterator) has turned -/
theorem Inv.turned {t' : Nat} {it : Addr} (I : Inv X pins σ H s) (k : ∀ b o, b ≠ it → s.heap.get? b = some o → h'.get? b = some o) (hn : H it = none) (hL : it ≠ X.env.locals)
    (h1 : it ∈ X.ex ∨ X.s_0.heap.objs.size ≤ it) (h2 : ∀ x c, X.env.cells.lookup x = some c → c ≠ it) (h3 : ∀ p ∈ X.pn ++ pins, p.1 ≠ it) : Inv X pins σ H { s with heap := h', toks := t' } := by
  have nit : ∀ b u, H b = some u → b ≠ it := fun b u e z => by rw [z, hn] at e; cases e
  refine I.step (g' := s.gens) (d' := s.drawn) (ch := [it]) (fun b hb => ?_) (fun b o _ _ hc e _ => k b o (fun z => hc (by simp [z])) e) (fun b o _ _ hc e _ => ⟨o.slots, k b o (fun z => hc (by simp [z])) e⟩) (fun _ _ _ _ n => n)
    (fun b o hc e => ⟨o, k b o (fun z => hc (by simp [z])) e⟩) (fun _ _ e => e) (fun _ _ _ e => e) (fun b ps e => ⟨#[], by rw [e]; simp⟩) (fun m hm => ?_) (fun b u e => ?_) I.bare
  · have e : b = it := by simpa using hb
    subst e
    exact ⟨h1, hL, h2, h3⟩
  · obtain ⟨o, es, ep, ho, r⟩ := hm
    exact ⟨o, es, ep, k _ o (Ne.symm hL) ho, r⟩
  · refine (I.hok b u e).stay (fun c v hc q => k c v ?_ q) (fun _ q => q) fun _ _ q => q
    rcases hc with z | z
    · rw [z]; exact nit b u e
    · exact nit c _ z
theorem Inv.tok (I : Inv X pins σ H s) (t : Nat) : Inv X pins σ H { s with toks := t } := I.un (h' := s.heap) (t' := t) Un.refl I.hok
/-- all objects kept -/
theorem Inv.kept {t' : Nat} (I : Inv X pins σ H s) (k : ∀ b u, s.heap.get? b = some u → h'.get? b = some u) : Inv X pins σ H { s with heap := h', toks := t' } := I.un (Un.kept k) (I.hok.kept k)
/-- a new object laid and tracked -/
theorem Inv.laid {a : Addr} {o : HO} {t' : Nat} (I : Inv X pins σ H s) (k : ∀ b u, s.heap.get? b = some u → h'.get? b = some u) (hp : s.heap.objs.size ≤ a) (new : ObjOk X.prog X.w (upd H a o) h' a o) :
    Inv X pins σ (upd H a o) { s with heap := h', toks := t' } := I.un (Un.laid k hp (I.hok.fresh hp)) (I.hok.laid k hp new)
/-- an object written -/
theorem Inv.write {x e : Addr} {o : HO} {t' : Nat} (I : Inv X pins σ H s) (mu : Mut (H x)) (he : e = x ∨ H e = some (.own x)) (k : ∀ b u, b ≠ e → s.heap.get? b = some u → h'.get? b = some u) (heo : ∃ u, h'.get? e = some u)
    (new : ObjOk X.prog X.w (upd H x o) h' x o) : Inv X pins σ (upd H x o) { s with heap := h', toks := t' } := I.un (Un.write mu he k heo) (I.hok.write mu he k heo new)
/-- forgetting slots, pins -/
theorem Inv.weak {σ' : List (Option V)} (I : Inv X pins σ H s) (hl : σ'.length = σ.length) (w : ∀ (i : Nat) v, σ'[i]? = some (some v) → σ[i]? = some (some v)) : Inv X pins σ' H s :=
  ⟨I.ok, I.os, I.bare, I.base, let ⟨m, hn, hl'⟩ := I.loc; ⟨m, hn, fun i x v e1 e2 e3 => hl' i x v e1 (w i v e2) e3⟩, I.cell, I.free, I.freeC, I.pin, I.hok, hl.trans I.len⟩
theorem Inv.pins_of {pins' : List (Addr × Obj)} (I : Inv X pins σ H s) (h : ∀ p ∈ pins', s.heap.get? p.1 = some p.2 ∧ H p.1 = none ∧ p.1 ≠ X.env.locals ∧ p.1 ∉ X.fs ∧ ∀ v, p.2.data ≠ .cell v) : Inv X pins' σ H s :=
  ⟨I.ok, I.os, I.bare, I.base, I.loc, I.cell, I.free, I.freeC, fun p hp => (List.mem_append.mp hp).elim (fun z => I.pin p (List.mem_append_left _ z)) (h p), I.hok, I.len⟩

theorem nodup_ix {N : List Str} (hN : N.Nodup) {i j : Nat} {x : Str} (a : N[i]? = some x) (b : N[j]? = some x) : i = j := by
  obtain ⟨h1, e1⟩ := List.getElem?_eq_some_iff.mp a
  obtain ⟨h2, e2⟩ := List.getElem?_eq_some_iff.mp b
  exact (List.getElem_inj hN).mp (e1.trans e2.symm)

/-- a name is stored; what changed -/
theorem store_ok2 {M : Model} {A : Around} {E : Value → Shared → Prop} {i : Nat} {x : Str} {v : V} {u : Value} {Q : Unit → Shared → Prop} (I : Inv X pins σ H s) (hN : X.N.Nodup) (hi : X.N[i]? = some x) (hx : Loc X.env.scope x) (r : RelV v u)
    (h : ∀ s', Inv X pins (σ.set i (some v)) H s' → (∃ a, Heap.SameBut a s.heap s'.heap ∧ (a = X.env.locals ∨ X.env.cells.lookup x = some a)) → Q () s') (hf : X.fn x = true ∨ X.env.scope.names.lookup x = some .local := by first | exact .inl rfl | exact .inr rfl | assumption) : wpAny M A (storeName X.env x u) Q E s := by
  obtain ⟨m, hn, hl⟩ := id I.loc
  have hcls : (X.env.scope.kind == .class || (X.env.scope.kind == .module && X.env.locals != X.env.globals)) = false := by rw [I.ok.kind]; rfl
  have hiσ : i < σ.length := by rw [I.len]; exact (List.getElem?_eq_some_iff.mp hi).1
  have cne := I.cne
  have tracked : ∀ {a : Addr} {h' : Heap}, (∃ o, s.heap.get? a = some o ∧ H a = none) → Heap.SameBut a s.heap h' → HOk X.prog X.w H h' := fun {a h'} ha hs b ob e => by
    obtain ⟨_, _, hfree⟩ := ha
    refine (I.hok b ob e).stay (fun c w' hc q => (hs.2 c ?_).trans q) (fun _ q => q) fun _ _ q => q
    rintro rfl
    rcases hc with rfl | hc
    · rw [hfree] at e; cases e
    · rw [hfree] at hc; cases hc
  rcases hx with hk | hk
  · refine wpAny_storeName_local hk hn (fun h' hn' hs => ?_) hcls
    obtain ⟨oL, _, _, hoL, _⟩ := id hn
    refine h _ ⟨I.ok, I.os, I.bare, ⟨fun b o e n hb hx => ?_, fun b o e n hb hx => ?_, I.base.free, fun b o e hx => ?_, I.base.tups, I.base.frzs, I.base.tbls⟩, ⟨_, hn', fun j y v' e1 e2 e3 => ?_⟩, fun y c e => ?_, I.free, I.freeC, fun p hp => ?_, tracked ⟨oL, hoL, I.free⟩ hs, by simpa using I.len⟩ ⟨_, hs, .inl rfl⟩
    · exact (hs.2 b (Nat.ne_of_lt (Nat.lt_of_lt_of_le (Heap.lt_size e) I.ok.above))).trans (I.base.keep b o e n hb hx)
    · obtain ⟨sl, e1⟩ := I.base.slot b o e n hb hx
      exact ⟨sl, (hs.2 b (Nat.ne_of_lt (Nat.lt_of_lt_of_le (Heap.lt_size e) I.ok.above))).trans e1⟩
    · obtain ⟨o', e1⟩ := I.base.there b o e hx
      exact ⟨o', (hs.2 b (Nat.ne_of_lt (Nat.lt_of_lt_of_le (Heap.lt_size e) I.ok.above))).trans e1⟩
    · by_cases hj : j = i
      · subst hj
        rw [hi] at e1; cases e1
        rw [List.getElem?_set_self hiσ] at e2
        cases e2
        exact ⟨u, r, .inl ⟨hk, by simp⟩⟩
      · rw [List.getElem?_set_ne (Ne.symm hj)] at e2
        obtain ⟨u', r', q⟩ := hl j y v' e1 e2 e3
        refine ⟨u', r', ?_⟩
        rcases q with ⟨k, e⟩ | ⟨k, c, e, z⟩
        · refine .inl ⟨k, ?_⟩
          have : y ≠ x := fun e => hj (nodup_ix hN e1 (e ▸ hi))
          simp [this, e]
        · exact .inr ⟨k, c, e, z.sameBut hs (cne y c e)⟩
    · obtain ⟨w', z⟩ := I.cell y c e
      exact ⟨w', z.sameBut hs (cne y c e)⟩
    · obtain ⟨e, n, ne, nf, d⟩ := I.pin p hp
      exact ⟨(hs.2 p.1 ne).trans e, n, ne, nf, d⟩
  · have hfn : X.fn x = true := by
      rcases hf with z | z
      · exact z
      · rw [z] at hk; cases hk
    obtain ⟨c, hc⟩ := I.ok.has x (.inl hk)
    obtain ⟨w', z⟩ := I.cell x c hc
    refine wpAny_storeName_cell I.ok.kind hk hc z (fun h' hc' hs => ?_)
    obtain ⟨oc, hoc, hocd⟩ := id z
    refine h { s with heap := h' } ⟨I.ok, I.os, I.bare, ⟨fun b o e n hb hx => ?_, fun b o e n hb hx => ?_, I.base.free, fun b o e hx => ?_, I.base.tups, I.base.frzs, I.base.tbls⟩, ⟨m, hn.sameBut hs (Ne.symm (cne x c hc)), fun j y v' e1 e2 e3 => ?_⟩, fun y c' e => ?_, I.free, I.freeC, fun p hp => ?_, tracked ⟨oc, hoc, I.freeC x c hc⟩ hs, by simpa using I.len⟩ ⟨c, hs, .inr hc⟩
    · exact (hs.2 b (Nat.ne_of_lt (Nat.lt_of_lt_of_le (Heap.lt_size e) (I.ok.cab x c hfn hc)))).trans (I.base.keep b o e n hb hx)
    · obtain ⟨sl, e1⟩ := I.base.slot b o e n hb hx
      exact ⟨sl, (hs.2 b (Nat.ne_of_lt (Nat.lt_of_lt_of_le (Heap.lt_size e) (I.ok.cab x c hfn hc)))).trans e1⟩
    · obtain ⟨o', e1⟩ := I.base.there b o e hx
      exact ⟨o', (hs.2 b (Nat.ne_of_lt (Nat.lt_of_lt_of_le (Heap.lt_size e) (I.ok.cab x c hfn hc)))).trans e1⟩
    · by_cases hj : j = i
      · subst hj
        rw [hi] at e1; cases e1
        rw [List.getElem?_set_self hiσ] at e2
        cases e2
        exact ⟨u, r, .inr ⟨.inl hk, c, hc, hc'⟩⟩
      · rw [List.getElem?_set_ne (Ne.symm hj)] at e2
        obtain ⟨u', r', q⟩ := hl j y v' e1 e2 e3
        refine ⟨u', r', ?_⟩
        rcases q with q | ⟨k, c', e, z'⟩
        · exact .inl q
        · refine .inr ⟨k, c', e, z'.sameBut hs ?_⟩
          rintro rfl
          exact hj (nodup_ix hN e1 (I.ok.inj _ _ _ e hc ▸ hi))
    · by_cases hcc : c' = c
      · subst hcc; exact ⟨_, hc'⟩
      · obtain ⟨w2, z2⟩ := I.cell y c' e
        exact ⟨w2, z2.sameBut hs hcc⟩
    · obtain ⟨e, n, ne, nf, d⟩ := I.pin p hp
      refine ⟨(hs.2 p.1 ?_).trans e, n, ne, nf, d⟩
      intro q
      rw [q, hoc] at e
      have q' : oc = p.2 := Option.some.inj e
      exact d w' (by rw [← q']; exact hocd)
theorem store_ok {M : Model} {A : Around} {E : Value → Shared → Prop} {i : Nat} {x : Str} {v : V} {u : Value} {Q : Unit → Shared → Prop} (I : Inv X pins σ H s) (hN : X.N.Nodup) (hi : X.N[i]? = some x) (hx : Loc X.env.scope x) (r : RelV v u)
    (h : ∀ s', Inv X pins (σ.set i (some v)) H s' → Q () s') (hf : X.fn x = true ∨ X.env.scope.names.lookup x = some .local := by first | exact .inl rfl | exact .inr rfl | assumption) : wpAny M A (storeName X.env x u) Q E s :=
  store_ok2 I hN hi hx r (fun s' I' _ => h s' I') hf
/-- behind a call or a block, the state as it is -/
theorem Inv.call' {s' : Shared} {ch : List Addr} (I : Inv X pins σ H s) (ho : s'.os = s.os) (u : Un (frs X.stack) ch H H' s.heap s'.heap) (hok : HOk X.prog X.w H' s'.heap) (hg : AllBare s'.gens)
    (hch : ∀ b ∈ ch, (b ∈ X.ex ∨ X.s_0.heap.objs.size ≤ b) ∧ b ≠ X.env.locals ∧ (∀ x c, X.env.cells.lookup x = some c → c ≠ b) ∧ ∀ p ∈ X.pn ++ pins, p.1 ≠ b) : Inv X pins σ H' s' := by
  obtain ⟨h', g', d', t', o'⟩ := s'
  have e : o' = s.os := ho
  subst e
  exact I.call (g' := g') (t' := t') (d' := d') u hok hg hch
end

/-! ### the judgements -/
/-- an exception: its class, its own dict's address (where it has one), the abstract heap behind it -/
abbrev XK := Value → Option Addr → Hp → Prop
abbrev St := List (Option V)
abbrev VK := V → Hp → Prop
/-- an expression's reading; a test's; an argument list's -/
abbrev TE := St → Hp → VK → Prop
abbrev TT := St → Hp → (Bool → Hp → Prop) → Prop
abbrev TA := St → Hp → (List V → Hp → Prop) → Prop
/-- what is wanted behind a statement -/
structure Ends where
  nx : St → Hp → Prop
  rt : VK
  bk : St → Hp → Prop := fun _ _ => False
  ct : St → Hp → Prop := fun _ _ => False
abbrev TS := Ends → St → Hp → Prop

def EP (X : Cx) (pins : List (Addr × Obj)) (σ : St) (Q : VK) (u : Value) (s' : Shared) : Prop := ∃ v H', Inv X pins σ H' s' ∧ RelV v u ∧ Q v H'
def TP (X : Cx) (pins : List (Addr × Obj)) (σ : St) (Q : Bool → Hp → Prop) (b : Bool) (s' : Shared) : Prop := ∃ H', Inv X pins σ H' s' ∧ Q b H'
def AP (X : Cx) (pins : List (Addr × Obj)) (σ : St) (Q : List V → Hp → Prop) (us : List Value) (s' : Shared) : Prop := ∃ vs H', Inv X pins σ H' s' ∧ Vals vs us ∧ Q vs H'
def SP (X : Cx) (pins : List (Addr × Obj)) (D : Ends) (f : Flow) (s' : Shared) : Prop :=
  match f with
  | .next => ∃ σ' H', Inv X pins σ' H' s' ∧ D.nx σ' H'
  | .brk => ∃ σ' H', Inv X pins σ' H' s' ∧ D.bk σ' H'
  | .cont => ∃ σ' H', Inv X pins σ' H' s' ∧ D.ct σ' H'
  | .ret u => ∃ v σ' H', Inv X pins σ' H' s' ∧ RelV v u ∧ D.rt v H'

def PE (X : Cx) (e : Expr) (t : TE) : Prop :=
  ∀ (pins : List (Addr × Obj)) (s : Shared) (σ : St) (H : Hp) (Q : VK), Inv X pins σ H s → t σ H Q → wpAny (model X.prog X.w) X.A (eval e X.env) (EP X pins σ Q) X.xe s
def PT (X : Cx) (e : Expr) (t : TT) : Prop :=
  ∀ (pins : List (Addr × Obj)) (s : Shared) (σ : St) (H : Hp) (Q : Bool → Hp → Prop), Inv X pins σ H s → t σ H Q → wpAny (model X.prog X.w) X.A (isTrue e X.env (eval e X.env)) (TP X pins σ Q) X.xe s
/-- a test whatever its 'whole' is (and, or) -/
def PW (X : Cx) (e : Expr) (t : TT) : Prop :=
  ∀ (whole : Sem Value) (pins : List (Addr × Obj)) (s : Shared) (σ : St) (H : Hp) (Q : Bool → Hp → Prop), Inv X pins σ H s → t σ H Q → wpAny (model X.prog X.w) X.A (isTrue e X.env whole) (TP X pins σ Q) X.xe s
theorem PW.pt {X : Cx} {e : Expr} {t : TT} (h : PW X e t) : PT X e t := h _
/-- an argument list (no star), from the left -/
def PA (X : Cx) (es : List Expr) (t : TA) : Prop :=
  ∀ (pos : Pos) (pins : List (Addr × Obj)) (s : Shared) (σ : St) (H : Hp) (Q : List V → Hp → Prop), Inv X pins σ H s → t σ H Q → wpAny (model X.prog X.w) X.A (spliced (backTo pos (starEach es X.env))) (AP X pins σ Q) X.xe s
def PS (X : Cx) (st : Stmt) (t : TS) : Prop :=
  ∀ (pins : List (Addr × Obj)) (s : Shared) (σ : St) (H : Hp) (D : Ends), Inv X pins σ H s → t D σ H → wpAny (model X.prog X.w) X.A (exec st X.env) (SP X pins D) X.xe s
def PSs (X : Cx) (st : List Stmt) (t : TS) : Prop :=
  ∀ (pins : List (Addr × Obj)) (s : Shared) (σ : St) (H : Hp) (D : Ends), Inv X pins σ H s → t D σ H → wpAny (model X.prog X.w) X.A (execs st X.env) (SP X pins D) X.xe s
/-- weaken the end -/
theorem thn {α : Type} {t : Sem α} {Q Q' : α → Shared → Prop} {M : Model} {A : Around} {E : Value → Shared → Prop} {s : Shared} (h : wpAny M A t Q E s) (hQ : ∀ a s, Q a s → Q' a s) : wpAny M A t Q' E s := wpAny_mono h hQ fun _ _ x => x
end L2

namespace L2
open PySem PySem.Spec PyProof.Rows
section
variable {X : Cx}

/-- two expressions in a row -/
theorem bin {a b : Expr} {ta tb : TE} (ha : PE X a ta) (hb : PE X b tb) {pins : List (Addr × Obj)} {s : Shared} {σ : St} {H : Hp} {R : V → V → Hp → Prop} (I : Inv X pins σ H s) (h : ta σ H fun x H1 => tb σ H1 fun y H2 => R x y H2)
    {α : Type} {Q : α → Shared → Prop} {f : Value → Value → Sem α}
    (hf : ∀ v u s2 x y H2, Inv X pins σ H2 s2 → RelV x v → RelV y u → R x y H2 → wpAny (model X.prog X.w) X.A (f v u) Q X.xe s2) :
    wpAny (model X.prog X.w) X.A (eval a X.env) (fun v s₁ => wpAny (model X.prog X.w) X.A (eval b X.env) (fun u s₂ => wpAny (model X.prog X.w) X.A (f v u) Q X.xe s₂) X.xe s₁) X.xe s := by
  refine thn (ha pins s σ H _ I h) fun v s1 ⟨x, H1, I1, r1, q1⟩ => ?_
  refine thn (hb pins s1 σ H1 _ I1 q1) fun u s2 ⟨y, H2, I2, r2, q2⟩ => ?_
  exact hf v u s2 x y H2 I2 r1 r2 q2

/-! ### names and constants -/
def tVar (i : Nat) : TE := fun σ H Q => ∃ v, σ[i]? = some (some v) ∧ Q v H
def tC (v : V) : TE := fun _ H Q => Q v H
theorem pe_var {i : Nat} {x : Str} {pos : Pos} (hN : X.N[i]? = some x) (hv : Vis X.env.scope x) (hd : (x == ("__debug__" : Str)) = false := by decide) (hcd : (x == ("__classdict__" : Str)) = false := by decide) : PE X (.Name x pos) (tVar i) := by
  intro pins s σ H Q I h
  obtain ⟨v, e, h⟩ := h
  obtain ⟨m, hn, hl⟩ := I.loc
  obtain ⟨u, r, l⟩ := hl i x v hN e hv
  have fin : EP X pins σ Q u s := ⟨v, H, I, r, h⟩
  rcases l with ⟨hk, hm⟩ | ⟨hk, c, hc, hcell⟩
  · exact wpAny_Name (wpAny_loadName_local I.ok.kind hk hn hm fin) hd
  · rcases hk with hk | hk
    · exact wpAny_Name (wpAny_loadName_cell I.ok.kind hk hc hcell fin) hd
    · exact wpAny_Name (wpAny_loadName_free I.ok.kind hk hc hcell fin hcd) hd
theorem pe_int {i j pos} : PE X (.Constant (.int i) j pos) (tC (.int i)) := fun _ _ _ H _ I h => wpAny_Constant_int ⟨.int i, H, I.tok _, ⟨_, rfl⟩, h⟩
theorem pe_bl {b j pos} : PE X (.Constant (.bool b) j pos) (tC (.bl b)) := fun _ _ _ H _ I h => Constant_bool ⟨.bl b, H, I, rfl, h⟩
theorem pe_non {j pos} : PE X (.Constant .none j pos) (tC .non) := fun _ _ _ H _ I h => Constant_none ⟨.non, H, I, rfl, h⟩
theorem pe_str {x j pos} : PE X (.Constant (.str x) j pos) (tC (.str x)) := fun _ _ _ H _ I h => Calls.Constant_str ⟨.str x, H, I.tok _, ⟨_, rfl⟩, h⟩

/-- a global name of the def -/
def Gl (X : Cx) (x : Str) : Prop := X.env.kindOf x = some .globalImplicit
theorem ld_glob {E : Value → Shared → Prop} {pins : List (Addr × Obj)} {s : Shared} {σ : St} {H : Hp} {x : Str} {u : Value} {pos : Pos} {Q : Value → Shared → Prop} (I : Inv X pins σ H s) (hg : Gl X x) (hm : X.mg x = some u) (h : Q u s)
    (hd : (x == ("__debug__" : Str)) = false := by decide) : wpAny (model X.prog X.w) X.A (eval (.Name x pos) X.env) Q E s :=
  Calls.Name_function_global I.ok.kind hg (Calls.loadGlobal_global (by rw [I.ok.glob]; exact I.mod.glob.keeps I.bk) hm h) hd
theorem ld_blt {E : Value → Shared → Prop} {pins : List (Addr × Obj)} {s : Shared} {σ : St} {H : Hp} {x : Str} {u : Value} {pos : Pos} {Q : Value → Shared → Prop} (I : Inv X pins σ H s) (hg : Gl X x) (hm : X.mg x = none) (hv : bootBuiltins x = some u) (h : Q u s)
    (hn : x ≠ "__name__" := by decide) (hd : (x == ("__debug__" : Str)) = false := by decide) : wpAny (model X.prog X.w) X.A (eval (.Name x pos) X.env) Q E s := by
  obtain ⟨mb, h1, h2⟩ := I.mod.blt
  exact Calls.Name_function_global I.ok.kind hg (Calls.loadGlobal_builtin (by rw [I.ok.glob]; exact I.mod.glob.keeps I.bk) hm (by rw [I.ok.blt]; exact h1.keeps I.bk) ((h2 x hn).trans hv) h) hd
/-- a module's constant, a class, a function, as a value -/
theorem pe_glob {x : Str} {v : V} {u : Value} {pos : Pos} (hg : Gl X x) (hm : X.mg x = some u) (r : RelV v u) (hd : (x == ("__debug__" : Str)) = false := by decide) : PE X (.Name x pos) (tC v) :=
  fun _ _ _ H _ I h => ld_glob I hg hm ⟨v, H, I, r, h⟩ hd
theorem pe_bltn {x : Str} {v : V} {u : Value} {pos : Pos} (hg : Gl X x) (hm : X.mg x = none) (hv : bootBuiltins x = some u) (r : RelV v u) (hn : x ≠ "__name__" := by decide) (hd : (x == ("__debug__" : Str)) = false := by decide) : PE X (.Name x pos) (tC v) :=
  fun _ _ _ H _ I h => ld_blt I hg hm hv ⟨v, H, I, r, h⟩ hn hd

/-! ### arithmetic -/
/-- two ints -/
def t2I (ta tb : TE) (k : Int → Int → Hp → Prop) : St → Hp → Prop := fun σ H => ta σ H fun x H1 => tb σ H1 fun y H2 => ∃ i j, x = .int i ∧ y = .int j ∧ k i j H2
def tAdd (ta tb : TE) : TE := fun σ H Q => t2I ta tb (fun i j H2 => Q (.int (i + j)) H2) σ H
def tSub (ta tb : TE) : TE := fun σ H Q => t2I ta tb (fun i j H2 => Q (.int (i - j)) H2) σ H
/-- the left factor below 2^64 -/
def tMul (ta tb : TE) : TE := fun σ H Q => t2I ta tb (fun i j H2 => (-(2 ^ 64) < i ∧ i < 2 ^ 64) ∧ Q (.int (i * j)) H2) σ H
variable {a b : Expr} {ta tb : TE} {pos : Pos}
theorem pe_add (ha : PE X a ta) (hb : PE X b tb) : PE X (.BinOp a .Add b pos) (tAdd ta tb) := by
  intro pins s σ H Q I h
  refine wpAny_BinOp (bin ha hb I h fun v u s2 x y H2 I2 rx ry q => ?_)
  obtain ⟨i, j, rfl, rfl, q⟩ := q
  obtain ⟨t, rfl⟩ := rx
  obtain ⟨t', rfl⟩ := ry
  exact add_int ⟨.int _, H2, I2.tok _, ⟨_, rfl⟩, q⟩
theorem pe_sub (ha : PE X a ta) (hb : PE X b tb) : PE X (.BinOp a .Sub b pos) (tSub ta tb) := by
  intro pins s σ H Q I h
  refine wpAny_BinOp (bin ha hb I h fun v u s2 x y H2 I2 rx ry q => ?_)
  obtain ⟨i, j, rfl, rfl, q⟩ := q
  obtain ⟨t, rfl⟩ := rx
  obtain ⟨t', rfl⟩ := ry
  exact sub_int ⟨.int _, H2, I2.tok _, ⟨_, rfl⟩, q⟩
theorem pe_mul (ha : PE X a ta) (hb : PE X b tb) : PE X (.BinOp a .Mult b pos) (tMul ta tb) := by
  intro pins s σ H Q I h
  refine wpAny_BinOp (bin ha hb I h fun v u s2 x y H2 I2 rx ry q => ?_)
  obtain ⟨i, j, rfl, rfl, ⟨q1, q2⟩, q⟩ := q
  obtain ⟨t, rfl⟩ := rx
  obtain ⟨t', rfl⟩ := ry
  exact mul_int ⟨.int _, H2, I2.tok _, ⟨_, rfl⟩, q⟩ (.of_left (intBits_le_64 q1 q2))

/-! ### comparisons -/
def PC (X : Cx) (op : CmpOp) (a b : Expr) (t : TE) : Prop :=
  ∀ (pins : List (Addr × Obj)) (s : Shared) (σ : St) (H : Hp) (Q : VK), Inv X pins σ H s → t σ H Q →
    wpAny (model X.prog X.w) X.A (eval a X.env) (fun v s₁ => wpAny (model X.prog X.w) X.A (eval b X.env) (fun u s₂ => wpAny (model X.prog X.w) X.A (compareOp op v u) (EP X pins σ Q) X.xe s₂) X.xe s₁) X.xe s
theorem nobehind (b : Expr) {op : CmpOp} (h : op ≠ .In) (h2 : op ≠ .NotIn) : behindInMarks op b = false := by
  have e1 : (op == CmpOp.In) = false := by cases op <;> first | rfl | exact absurd rfl h
  have e2 : (op == CmpOp.NotIn) = false := by cases op <;> first | rfl | exact absurd rfl h2
  cases b <;> simp [behindInMarks, e1, e2]
def tCmp (p : Int → Int → Bool) (ta tb : TE) : TE := fun σ H Q => t2I ta tb (fun i j H2 => Q (.bl (p i j)) H2) σ H
abbrev tLt : TE → TE → TE := tCmp fun i j => decide (i < j)
abbrev tLe : TE → TE → TE := tCmp fun i j => decide (i ≤ j)
abbrev tGt : TE → TE → TE := tCmp fun i j => decide (j < i)
abbrev tGe : TE → TE → TE := tCmp fun i j => decide (j ≤ i)
abbrev tEqI : TE → TE → TE := tCmp fun i j => decide (i = j)
abbrev tNeI : TE → TE → TE := tCmp fun i j => !decide (i = j)
/-- a comparison of two ints, by its rule -/
theorem pc_int {op : CmpOp} {p : Int → Int → Bool} (ha : PE X a ta) (hb : PE X b tb)
    (rule : ∀ (i j : Int) (t u : Tok) (Q : Value → Shared → Prop) (s : Shared), Q (.bool (p i j)) s → wpAny (model X.prog X.w) X.A (compareOp op (.int i t) (.int j u)) Q X.xe s) : PC X op a b (tCmp p ta tb) := by
  intro pins s σ H Q I h
  refine bin ha hb I h fun v u s2 x y H2 I2 rx ry q => ?_
  obtain ⟨i, j, rfl, rfl, q⟩ := q
  obtain ⟨t, rfl⟩ := rx
  obtain ⟨t', rfl⟩ := ry
  exact rule i j t t' _ s2 ⟨.bl _, H2, I2, rfl, q⟩
theorem pc_lt (ha : PE X a ta) (hb : PE X b tb) : PC X .Lt a b (tLt ta tb) := pc_int ha hb fun _ _ _ _ _ _ h => lt_int h
theorem pc_le (ha : PE X a ta) (hb : PE X b tb) : PC X .LtE a b (tLe ta tb) := pc_int ha hb fun _ _ _ _ _ _ h => le_int h
theorem pc_gt (ha : PE X a ta) (hb : PE X b tb) : PC X .Gt a b (tGt ta tb) := pc_int ha hb fun _ _ _ _ _ _ h => gt_int h
theorem pc_ge (ha : PE X a ta) (hb : PE X b tb) : PC X .GtE a b (tGe ta tb) := pc_int ha hb fun _ _ _ _ _ _ h => ge_int h
theorem pc_eqI (ha : PE X a ta) (hb : PE X b tb) : PC X .Eq a b (tEqI ta tb) := pc_int ha hb fun _ _ _ _ _ _ h => eq_int (by rw [Bool.beq_eq_decide_eq]; exact h)
theorem pc_neI (ha : PE X a ta) (hb : PE X b tb) : PC X .NotEq a b (tNeI ta tb) := pc_int ha hb fun _ _ _ _ _ _ h => ne_int (by rw [bne, Bool.beq_eq_decide_eq]; exact h)
/-- is None -/
def tIsN (ta : TE) : TE := fun σ H Q => ta σ H fun x H1 => Q (.bl (decide (x = .non))) H1
def tNotN (ta : TE) : TE := fun σ H Q => ta σ H fun x H1 => Q (.bl (!decide (x = .non))) H1
theorem RelV.none_iff {x : V} {v : Value} (r : RelV x v) : (v == Value.none) = decide (x = .non) := by
  cases x with
  | non => cases r; rfl
  | bl _ => cases r; rfl
  | int _ => obtain ⟨t, rfl⟩ := r; rfl
  | str _ => obtain ⟨t, rfl⟩ := r; rfl
  | byt _ => obtain ⟨t, rfl⟩ := r; rfl
  | flt _ => obtain ⟨t, rfl⟩ := r; rfl
  | ref _ => cases r; rfl
  | ty _ => cases r; rfl
theorem pc_isN {j pos'} (ha : PE X a ta) : PC X .Is a (.Constant .none j pos') (tIsN ta) := by
  intro pins s σ H Q I h
  refine thn (ha pins s σ H _ I h) fun v s1 ⟨x, H1, I1, r1, q1⟩ => ?_
  exact Constant_none (is_none_gen ⟨.bl _, H1, I1, by rw [r1.none_iff]; rfl, q1⟩)
theorem pc_notN {j pos'} (ha : PE X a ta) : PC X .IsNot a (.Constant .none j pos') (tNotN ta) := by
  intro pins s σ H Q I h
  refine thn (ha pins s σ H _ I h) fun v s1 ⟨x, H1, I1, r1, q1⟩ => ?_
  exact Constant_none (isnot_none_gen ⟨.bl _, H1, I1, by rw [r1.none_iff]; rfl, q1⟩)
/-- a comparison as a value, as a test -/
def tB (t : TE) : TT := fun σ H Q => t σ H fun x H1 => ∃ c, x = .bl c ∧ Q c H1
theorem pe_cmp {op : CmpOp} {t : TE} (h : PC X op a b t) (h1 : behindInMarks op b = false := by first | exact nobehind _ (by decide) (by decide) | rfl) : PE X (.Compare a [op] [b] pos) t := fun pins s σ H Q I hw => wpAny_Compare1 (h pins s σ H Q I hw) h1
theorem pt_cmp {op : CmpOp} {t : TE} (h : PC X op a b t) (h1 : behindInMarks op b = false := by first | exact nobehind _ (by decide) (by decide) | rfl) : PT X (.Compare a [op] [b] pos) (tB t) := by
  intro pins s σ H Q I hw
  refine wpAny_isTrue_Compare1 (thn (h pins s σ H _ I hw) fun v s1 h1 => thn h1 fun u s2 h2 => thn h2 fun c s3 ⟨x, H1, I1, r1, q1⟩ => ?_) h1
  obtain ⟨d, rfl, q⟩ := q1
  cases r1
  exact wpAny_truthy_bool ⟨H1, I1, q⟩
/-- an expression whose value is a bool, as a test -/
theorem pt_val {e : Expr} {t : TE} (h : PE X e t) (he : ∀ whole, isTrue e X.env whole = (do let v ← whole; standAt e.pos; holding [v] (truthy v)) := by intro _; rfl) : PT X e (tB t) := by
  intro pins s σ H Q I hw
  refine isTrue_plain (thn (h pins s σ H _ I hw) fun v s1 ⟨x, H1, I1, r1, q1⟩ => ?_) (he _)
  obtain ⟨d, rfl, q⟩ := q1
  cases r1
  exact wpAny_truthy_bool ⟨H1, I1, q⟩

/-! ### and, or, not -/
variable {tA tB' : TT} {rest : List Expr}
def tAnd (t u : TT) : TT := fun σ H Q => t σ H fun c H1 => if c = true then u σ H1 Q else Q false H1
def tOr (t u : TT) : TT := fun σ H Q => t σ H fun c H1 => if c = true then Q true H1 else u σ H1 Q
def tNot (t : TT) : TT := fun σ H Q => t σ H fun c H1 => Q (!c) H1
theorem pw_and1 (ha : PT X a tA) : PW X (.BoolOp .And [a] pos) tA := by
  intro wh pins s σ H Q I h
  refine isTrue_and (thn (ha pins s σ H Q I h) fun c s1 e => ?_)
  cases c with
  | true => exact isTrue_and_nil e
  | false => exact e
theorem pw_or1 (ha : PT X a tA) : PW X (.BoolOp .Or [a] pos) tA := by
  intro wh pins s σ H Q I h
  refine isTrue_or (thn (ha pins s σ H Q I h) fun c s1 e => ?_)
  cases c with
  | false => exact isTrue_or_nil e
  | true => exact e
theorem pw_and (ha : PT X a tA) (hb : PW X (.BoolOp .And (b :: rest) pos) tB') : PW X (.BoolOp .And (a :: b :: rest) pos) (tAnd tA tB') := by
  intro wh pins s σ H Q I h
  refine isTrue_and (thn (ha pins s σ H _ I h) fun c s1 ⟨H1, I1, q1⟩ => ?_)
  cases c with
  | true => exact hb wh pins s1 σ H1 Q I1 q1
  | false => exact ⟨H1, I1, q1⟩
theorem pw_or (ha : PT X a tA) (hb : PW X (.BoolOp .Or (b :: rest) pos) tB') : PW X (.BoolOp .Or (a :: b :: rest) pos) (tOr tA tB') := by
  intro wh pins s σ H Q I h
  refine isTrue_or (thn (ha pins s σ H _ I h) fun c s1 ⟨H1, I1, q1⟩ => ?_)
  cases c with
  | true => exact ⟨H1, I1, q1⟩
  | false => exact hb wh pins s1 σ H1 Q I1 q1
theorem pt_not (ha : PT X a tA) : PT X (.UnaryOp .Not a pos) (tNot tA) := by
  intro pins s σ H Q I h
  exact isTrue_not (ha pins s σ H (fun c H1 => Q (!c) H1) I h)
/-- .. as values (bools) -/
def tAndV (ta tb : TE) : TE := fun σ H Q => ta σ H fun x H1 => ∃ c, x = .bl c ∧ if c = true then tb σ H1 Q else Q (.bl false) H1
def tOrV (ta tb : TE) : TE := fun σ H Q => ta σ H fun x H1 => ∃ c, x = .bl c ∧ if c = true then Q (.bl true) H1 else tb σ H1 Q
def tNotV (ta : TE) : TE := fun σ H Q => ta σ H fun x H1 => ∃ c, x = .bl c ∧ Q (.bl (!c)) H1
theorem pe_one {op} {t : TE} (h : PE X a t) : PE X (.BoolOp op [a] pos) t := fun pins s σ H Q I hw => BoolOp_one (h pins s σ H Q I hw)
theorem pe_and (ha : PE X a ta) (hb : PE X (.BoolOp .And (b :: rest) pos) tb) : PE X (.BoolOp .And (a :: b :: rest) pos) (tAndV ta tb) := by
  intro pins s σ H Q I h
  refine BoolOp_and (thn (ha pins s σ H _ I h) fun v s1 ⟨x, H1, I1, r1, q1⟩ => ?_)
  obtain ⟨c, rfl, q1⟩ := q1
  cases r1
  refine wpAny_truthy_bool ?_
  cases c with
  | true => exact hb pins s1 σ H1 Q I1 q1
  | false => exact ⟨.bl false, H1, I1, rfl, q1⟩
theorem pe_or (ha : PE X a ta) (hb : PE X (.BoolOp .Or (b :: rest) pos) tb) : PE X (.BoolOp .Or (a :: b :: rest) pos) (tOrV ta tb) := by
  intro pins s σ H Q I h
  refine BoolOp_or (thn (ha pins s σ H _ I h) fun v s1 ⟨x, H1, I1, r1, q1⟩ => ?_)
  obtain ⟨c, rfl, q1⟩ := q1
  cases r1
  refine wpAny_truthy_bool ?_
  cases c with
  | false => exact hb pins s1 σ H1 Q I1 q1
  | true => exact ⟨.bl true, H1, I1, rfl, q1⟩
theorem pe_not (ha : PE X a ta) : PE X (.UnaryOp .Not a pos) (tNotV ta) := by
  intro pins s σ H Q I h
  refine UnaryOp_ (thn (ha pins s σ H _ I h) fun v s1 ⟨x, H1, I1, r1, q1⟩ => ?_)
  obtain ⟨c, rfl, q1⟩ := q1
  cases r1
  exact not_of (wpAny_truthy_bool ⟨.bl (!c), H1, I1, rfl, q1⟩)
/-- a if t else b -/
def tIf (t : TT) (ta tb : TE) : TE := fun σ H Q => t σ H fun c H1 => if c = true then ta σ H1 Q else tb σ H1 Q
theorem pe_ifExp {c : Expr} (hc : PT X c tA) (ha : PE X a ta) (hb : PE X b tb) : PE X (.IfExp c a b pos) (tIf tA ta tb) := by
  intro pins s σ H Q I h
  refine wpAny_IfExp (thn (hc pins s σ H _ I h) fun d s1 ⟨H1, I1, q1⟩ => ?_)
  cases d with
  | true => exact ha pins s1 σ H1 Q I1 q1
  | false => exact hb pins s1 σ H1 Q I1 q1
end
end L2

namespace L2
open PySem PySem.Spec PyProof.Rows

/-! ### a list, a tuple that is read: tracked, frozen, or an object of the module -/
def SqL (K : PySem.W.Frag) (H : Hp) (a : Addr) (xs : List V) : Prop :=
  Rd H a (.lst xs) ∨
    ∃ (o : Obj) (its : Array Value) (n : Nat), K.lookup a = some o ∧ o.cls = .type "list" ∧ o.dict = none ∧ o.data = .seq its n ∧ its.size ≤ sizeLine ∧ Vals xs its.toList
def SqT (K : PySem.W.Frag) (H : Hp) (a : Addr) (xs : List V) : Prop :=
  Rd H a (.tup xs) ∨
    ∃ (o : Obj) (its : Array Value) (n : Nat), K.lookup a = some o ∧ o.cls = .type "tuple" ∧ o.data = .seq its n ∧ its.size ≤ sizeLine ∧ Vals xs its.toList
def absV : Value → Option V
  | .none => some .non
  | .bool b => some (.bl b)
  | .int i _ => some (.int i)
  | .str x _ => some (.str x)
  | .bytes b _ => some (.byt b)
  | .float b _ => some (.flt b)
  | .ref a => some (.ref a)
  | .type n => some (.ty n)
  | _ => none
theorem RelV.abs {x : V} {u : Value} (r : RelV x u) : absV u = some x := by
  cases x with
  | non => cases r; rfl
  | bl _ => cases r; rfl
  | int _ => obtain ⟨t, rfl⟩ := r; rfl
  | str _ => obtain ⟨t, rfl⟩ := r; rfl
  | byt _ => obtain ⟨t, rfl⟩ := r; rfl
  | flt _ => obtain ⟨t, rfl⟩ := r; rfl
  | ref _ => cases r; rfl
  | ty _ => cases r; rfl
theorem RelV.inj {x y : V} {u : Value} (r : RelV x u) (q : RelV y u) : x = y := Option.some.inj (r.abs.symm.trans q.abs)
theorem Vals.inj : ∀ {xs ys : List V} {us : List Value}, Vals xs us → Vals ys us → xs = ys
  | _, _, _, .nil, .nil => rfl
  | _, _, _, .cons r t, .cons r' t' => by rw [r.inj r', Vals.inj t t']
section
variable {X : Cx} {pins : List (Addr × Obj)} {σ : St} {H : Hp} {s : Shared} {a : Addr} {xs ys : List V}
theorem SqL.of {K : PySem.W.Frag} (h : H a = some (.lst xs)) : SqL K H a xs := .inl (.inl h)
theorem SqT.of {K : PySem.W.Frag} (h : H a = some (.tup xs)) : SqT K H a xs := .inl (.inl h)
theorem Inv.list (I : Inv X pins σ H s) (h : SqL X.K H a xs) : ∃ its : List Value, Vals xs its ∧ PlainL s.heap a its.toArray ∧ xs.length ≤ sizeLine := by
  rcases h with h | ⟨o, its, n, hk, hc, hd, hs, hz, r⟩
  · obtain ⟨z, its, n, r, e⟩ := h.ok I.hok
    exact ⟨its, r, ⟨_, n, e, rfl, rfl, rfl⟩, z⟩
  · refine ⟨its.toList, r, ⟨o, n, I.kIn a o hk, hc, hd, by simpa using hs⟩, ?_⟩
    have e := r.length
    simp only [Array.length_toList] at e
    omega
theorem Inv.tuple (I : Inv X pins σ H s) (h : SqT X.K H a xs) : ∃ its : List Value, Vals xs its ∧ IsTup s.heap a its.toArray ∧ xs.length ≤ sizeLine := by
  rcases h with h | ⟨o, its, n, hk, hc, hs, hz, r⟩
  · obtain ⟨z, its, r, p⟩ := h.ok I.hok
    exact ⟨its, r, p, z⟩
  · refine ⟨its.toList, r, ⟨o, I.kIn a o hk, hc, n, by simpa using hs⟩, ?_⟩
    have e := r.length
    simp only [Array.length_toList] at e
    omega
theorem Inv.list_inj (I : Inv X pins σ H s) (h : SqL X.K H a xs) (h' : SqL X.K H a ys) : xs = ys := by
  obtain ⟨its, r, ⟨o, n, e, _, _, d⟩, _⟩ := I.list h
  obtain ⟨its', r', ⟨o', n', e', _, _, d'⟩, _⟩ := I.list h'
  rw [e] at e'; cases e'
  rw [d] at d'
  injection d' with d1 _
  have : its = its' := by simpa using congrArg Array.toList d1
  subst this
  exact r.inj r'
theorem Inv.tuple_inj (I : Inv X pins σ H s) (h : SqT X.K H a xs) (h' : SqT X.K H a ys) : xs = ys := by
  obtain ⟨its, r, ⟨o, e, _, n, d⟩, _⟩ := I.tuple h
  obtain ⟨its', r', ⟨o', e', _, n', d'⟩, _⟩ := I.tuple h'
  rw [e] at e'; cases e'
  rw [d] at d'
  injection d' with d1 _
  have : its = its' := by simpa using congrArg Array.toList d1
  subst this
  exact r.inj r'
end

/-! ### another wish about exceptions -/
abbrev Cx.wish (X : Cx) (E : Value → Shared → Prop) : Cx := { X with xe := E }
/-- no exception leaves -/
abbrev Cx.nox (X : Cx) : Cx := X.wish fun _ _ => False
theorem Cx.Ok.wish {X : Cx} (ok : X.Ok) (E : Value → Shared → Prop) : (X.wish E).Ok :=
  ⟨ok.mod, ok.kind, ok.glob, ok.blt, ok.above, ok.inj, ok.has, ok.cab, ok.hd, ok.frames, ok.stk, ok.exf, ok.bs, ok.bsz, ok.noex, ok.exfs, ok.funs, ok.frf⟩
theorem Cx.Ok.unwish {X : Cx} {E : Value → Shared → Prop} (ok : (X.wish E).Ok) : X.Ok :=
  ⟨ok.mod, ok.kind, ok.glob, ok.blt, ok.above, ok.inj, ok.has, ok.cab, ok.hd, ok.frames, ok.stk, ok.exf, ok.bs, ok.bsz, ok.noex, ok.exfs, ok.funs, ok.frf⟩
section
variable {X : Cx} {pins : List (Addr × Obj)} {σ : St} {H : Hp} {s : Shared} {E : Value → Shared → Prop}
theorem Inv.wish (I : Inv X pins σ H s) (E : Value → Shared → Prop) : Inv (X.wish E) pins σ H s := ⟨I.ok.wish E, I.os, I.bare, I.base, I.loc, I.cell, I.free, I.freeC, I.pin, I.hok, I.len⟩
theorem Inv.unwish (I : Inv (X.wish E) pins σ H s) : Inv X pins σ H s := ⟨I.ok.unwish, I.os, I.bare, I.base, I.loc, I.cell, I.free, I.freeC, I.pin, I.hok, I.len⟩
theorem SP.unwish {D : Ends} {f : Flow} {s' : Shared} (h : SP (X.wish E) pins D f s') : SP X pins D f s' := by
  cases f with
  | next => obtain ⟨σ', H', I, q⟩ := h; exact ⟨σ', H', I.unwish, q⟩
  | brk => obtain ⟨σ', H', I, q⟩ := h; exact ⟨σ', H', I.unwish, q⟩
  | cont => obtain ⟨σ', H', I, q⟩ := h; exact ⟨σ', H', I.unwish, q⟩
  | ret u => obtain ⟨v, σ', H', I, r, q⟩ := h; exact ⟨v, σ', H', I.unwish, r, q⟩
theorem PE.nox {e : Expr} {t : TE} (h : PE X.nox e t) : PE X e t := fun pins s σ H Q I hw =>
  wpAny_mono (h pins s σ H Q (I.wish _) hw) (fun _ _ ⟨v, H', I', r, q⟩ => ⟨v, H', I'.unwish, r, q⟩) fun _ _ z => False.elim z
theorem PT.nox {e : Expr} {t : TT} (h : PT X.nox e t) : PT X e t := fun pins s σ H Q I hw =>
  wpAny_mono (h pins s σ H Q (I.wish _) hw) (fun _ _ ⟨H', I', q⟩ => ⟨H', I'.unwish, q⟩) fun _ _ z => False.elim z
theorem PSs.nox {st : List Stmt} {t : TS} (h : PSs X.nox st t) : PSs X st t := fun pins s σ H D I hw =>
  wpAny_mono (h pins s σ H D (I.wish _) hw) (fun _ _ q => q.unwish) fun _ _ z => False.elim z
end

/-! ### blocks and small statements -/
section
variable {X : Cx} {st : Stmt} {rest : List Stmt} {t u : TS} {e : Expr} {te : TE} {pos : Pos}
def tNext : TS := fun D σ H => D.nx σ H
def tSeq (t u : TS) : TS := fun D σ H => t { D with nx := u D } σ H
theorem pss_nil : PSs X [] tNext := fun _ _ σ H _ I h => wpAny_execs_nil ⟨σ, H, I, h⟩
theorem pss_cons (h1 : PS X st t) (h2 : PSs X rest u) : PSs X (st :: rest) (tSeq t u) := by
  intro pins s σ H D I h
  refine wpAny_execs_cons (thn (h1 pins s σ H { D with nx := u D } I h) fun f s1 q => ?_)
  cases f with
  | next =>
    obtain ⟨σ', H', I', q⟩ := q
    exact h2 pins s1 σ' H' D I' q
  | ret v => exact q
  | brk => exact q
  | cont => exact q
theorem pss_one (h1 : PS X st t) : PSs X [st] t := by
  intro pins s σ H D I h
  refine wpAny_execs_cons (thn (h1 pins s σ H D I h) fun f s1 q => ?_)
  cases f with
  | next => exact wpAny_execs_nil q
  | ret v => exact q
  | brk => exact q
  | cont => exact q
def tBreak : TS := fun D σ H => D.bk σ H
def tCont : TS := fun D σ H => D.ct σ H
theorem ps_pass : PS X (.Pass pos) tNext := fun _ _ σ H _ I h => wpAny_Pass ⟨σ, H, I, h⟩
theorem ps_break : PS X (.Break pos) tBreak := fun _ _ σ H _ I h => wpAny_Break ⟨σ, H, I, h⟩
theorem ps_continue : PS X (.Continue pos) tCont := fun _ _ σ H _ I h => wpAny_Continue ⟨σ, H, I, h⟩
/-- in a def's body nothing is shown -/
theorem Inv.quiet {pins : List (Addr × Obj)} {σ : St} {H : Hp} {s : Shared} (I : Inv X pins σ H s) : interactive X.env = false := by simp [interactive, I.ok.kind]
/-- a docstring -/
theorem ps_doc {x j pos pos'} : PS X (.Expr (.Constant (.str x) j pos) pos') tNext := fun _ s σ H _ I h => wpAny_Expr (Calls.Constant_str (show SP X _ _ .next { s with toks := s.toks + 1 } from ⟨σ, H, I.tok _, h⟩)) I.quiet
/-- an expression whose value is dropped -/
def tDrop (te : TE) : TS := fun D σ H => te σ H fun _ H1 => D.nx σ H1
theorem ps_expr (he : PE X e te) (hs : swapsWith e none pos.line X.env = pure false := by rfl) : PS X (.Expr e pos) (tDrop te) := by
  intro pins s σ H D I h
  exact wpAny_Expr_any (thn (he pins s σ H _ I h) fun v s1 ⟨x, H1, I1, r1, q1⟩ => ⟨σ, H1, I1, q1⟩) I.quiet hs
def tRet (te : TE) : TS := fun D σ H => te σ H D.rt
theorem ps_ret (he : PE X e te) : PS X (.Return (some e) pos) (tRet te) := by
  intro pins s σ H D I h
  exact wpAny_Return_some (thn (he pins s σ H _ I h) fun v s1 ⟨x, H1, I1, r1, q1⟩ => ⟨x, σ, H1, I1, r1, q1⟩)
def tRetN : TS := fun D _ H => D.rt .non H
theorem ps_retN : PS X (.Return none pos) tRetN := fun _ _ σ H _ I h => wpAny_Return_none ⟨.non, σ, H, I, rfl, h⟩
def tIfS (c : TT) (t u : TS) : TS := fun D σ H => c σ H fun b H1 => if b = true then t D σ H1 else u D σ H1
theorem ps_if {c : Expr} {a b : List Stmt} {tc : TT} (hc : PT X c tc) (ha : PSs X a t) (hb : PSs X b u) : PS X (.If c a b pos) (tIfS tc t u) := by
  intro pins s σ H D I h
  refine wpAny_If (thn (hc pins s σ H _ I h) fun d s1 ⟨H1, I1, q1⟩ => ?_)
  cases d with
  | true => exact ha pins s1 σ H1 D I1 q1
  | false => exact hb pins s1 σ H1 D I1 q1
/-- code that the proof never comes to -/
def tNever : TS := fun _ _ _ => False
theorem ps_never : PS X st tNever := fun _ _ _ _ _ _ h => h.elim
theorem pss_never {sts : List Stmt} : PSs X sts tNever := fun _ _ _ _ _ _ h => h.elim
end

/-! ### targets -/
abbrev TG := V → St → Hp → (St → Hp → Prop) → Prop
abbrev TGs := List V → St → Hp → (St → Hp → Prop) → Prop
def PG (X : Cx) (target : Expr) (t : TG) : Prop :=
  ∀ (pins : List (Addr × Obj)) (s : Shared) (σ : St) (H : Hp) (v : V) (u : Value) (Q : St → Hp → Prop), Inv X pins σ H s → RelV v u → t v σ H Q →
    wpAny (model X.prog X.w) X.A (assign target X.env u) (fun _ s' => ∃ σ' H', Inv X pins σ' H' s' ∧ Q σ' H') X.xe s
/-- several targets, one after another -/
def PGs (X : Cx) (ts : List Expr) (t : TGs) : Prop :=
  ∀ (pins : List (Addr × Obj)) (s : Shared) (σ : St) (H : Hp) (vs : List V) (us : List Value) (Q : St → Hp → Prop), Inv X pins σ H s → Vals vs us → t vs σ H Q →
    wpAny (model X.prog X.w) X.A (assignInOrder ((assignEach ts X.env).map (·.2)) us) (fun _ s' => ∃ σ' H', Inv X pins σ' H' s' ∧ Q σ' H') X.xe s
/-- o[i] = v, by values -/
abbrev TSet := V → V → V → Hp → (Hp → Prop) → Prop
def PSet (X : Cx) (t : TSet) : Prop :=
  ∀ (pins : List (Addr × Obj)) (s : Shared) (σ : St) (H : Hp) (o i v : V) (ov iv u : Value) (Q : Hp → Prop), Inv X pins σ H s → RelV o ov → RelV i iv → RelV v u → t o i v H Q →
    wpAny (model X.prog X.w) X.A (setItem ov iv u) (fun _ s' => ∃ H', Inv X pins σ H' s' ∧ Q H') X.xe s
/-- a op= b, by values -/
abbrev TIp := V → V → Hp → VK → Prop
def PIp (X : Cx) (op : Operator) (t : TIp) : Prop :=
  ∀ (pins : List (Addr × Obj)) (s : Shared) (σ : St) (H : Hp) (x y : V) (v u : Value) (Q : VK), Inv X pins σ H s → RelV x v → RelV y u → t x y H Q →
    wpAny (model X.prog X.w) X.A (inplaceOp op v u) (EP X pins σ Q) X.xe s
section
variable {X : Cx} {pos : Pos}
def gName (i : Nat) : TG := fun v σ H Q => Q (σ.set i (some v)) H
theorem pg_name {i : Nat} {x : Str} (hN : X.N.Nodup) (hi : X.N[i]? = some x) (hx : Loc X.env.scope x) (hf : X.fn x = true ∨ X.env.scope.names.lookup x = some .local := by first | exact .inl rfl | exact .inr rfl | assumption) : PG X (.Name x pos) (gName i) := by
  intro pins s σ H v u Q I r h
  exact wpAny_assign_Name (store_ok I hN hi hx r (fun s' I' => ⟨_, H, I', h⟩) hf)
def gNil : TGs := fun vs σ H Q => vs = [] ∧ Q σ H
def gCons (t : TG) (u : TGs) : TGs := fun vs σ H Q => ∃ v r, vs = v :: r ∧ t v σ H fun σ' H' => u r σ' H' Q
theorem pgs_nil : PGs X [] gNil := by
  intro pins s σ H vs us Q I r h
  obtain ⟨e, h⟩ := h
  subst e
  cases r
  exact assignInOrder_nil ⟨σ, H, I, h⟩
theorem pgs_cons {e : Expr} {es : List Expr} {t : TG} {u : TGs} (h1 : PG X e t) (h2 : PGs X es u)
    (hs : (assignEach (e :: es) X.env).map (·.2) = assign e X.env :: (assignEach es X.env).map (·.2) := by rfl) : PGs X (e :: es) (gCons t u) := by
  intro pins s σ H vs us Q I r h
  obtain ⟨v, vr, e1, h⟩ := h
  subst e1
  cases r with
  | cons r rr =>
    rw [hs]
    refine assignInOrder_cons (thn (h1 pins s σ H _ _ _ I r h) fun _ s1 ⟨σ1, H1, I1, q1⟩ => ?_)
    exact h2 pins s1 σ1 H1 _ _ Q I1 rr q1
/-- (a, b, ..) = a tuple of that length -/
def gTup (K : PySem.W.Frag) (n : Nat) (t : TGs) : TG := fun v σ H Q => ∃ a xs, v = .ref a ∧ SqT K H a xs ∧ xs.length = n ∧ t xs σ H Q
theorem pg_tup {es : List Expr} {k : Nat} {t : TGs} {n : Nat} (hc : X.calm = true) (h : PGs X es t)
    (hn : (assignEach es X.env).length = n := by rfl) (hst : (assignEach es X.env).findIdx? (·.1) = none := by rfl) : PG X (.Tuple es k pos) (gTup X.K n t) := by
  intro pins s σ H v u Q I r hw
  obtain ⟨a, xs, e1, hq, hl, hw⟩ := hw
  subst e1
  cases r
  obtain ⟨its, rv, ht, hz⟩ := I.tuple hq
  refine assign_Tuple_tuple (I.ok.hd hc) ht (by simp [hn, ← hl, rv.length]) hst fun h' hx => ?_
  have I1 : Inv X pins σ H { s with heap := h' } := I.kept (t' := s.toks) fun b o e => hx b o (Nat.ne_of_lt (Heap.lt_size e)) e
  exact h pins _ σ H xs _ Q I1 (by simpa using rv) hw
/-- o[i] = .. -/
def gSub (to ti : TE) (t : TSet) : TG := fun v σ H Q => to σ H fun o H1 => ti σ H1 fun i H2 => t o i v H2 fun H3 => Q σ H3
theorem pg_sub {o i : Expr} {to ti : TE} {t : TSet} (ho : PE X o to) (hi : PE X i ti) (hs : PSet X t)
    (ha : ∀ v, assign (.Subscript o i pos) X.env v = (do
      let ov ← holding [v] (eval o X.env)
      let iv ← holding [v, ov] (eval i X.env)
      standAt pos
      holding [v, ov, iv] (setItem ov iv v)
      release [v, ov, iv] []) := by intro _; rfl) : PG X (.Subscript o i pos) (gSub to ti t) := by
  intro pins s σ H v u Q I r h
  rw [ha]
  refine wpAny_bind (wpAny_holding (thn (ho pins s σ H _ I h) fun ov s1 ⟨x, H1, I1, r1, q1⟩ => ?_))
  refine wpAny_bind (wpAny_holding (thn (hi pins s1 σ H1 _ I1 q1) fun iv s2 ⟨y, H2, I2, r2, q2⟩ => ?_))
  refine wpAny_bind (wpAny_standAt (wpAny_bind (wpAny_holding (thn (hs pins s2 σ H2 x y v ov iv u _ I2 r1 r2 r q2) fun _ s3 ⟨H3, I3, q3⟩ => ?_))))
  exact wpAny_release ⟨σ, H3, I3, q3⟩
/-- target = value -/
def tAsg (te : TE) (g : TG) : TS := fun D σ H => te σ H fun x H1 => g x σ H1 D.nx
theorem ps_asg {tg e : Expr} {te : TE} {g : TG} (he : PE X e te) (hg : PG X tg g) (hs : swapsWithSole [tg] e pos.line X.env = pure false := by rfl) (hw : swappedStores [tg] e X.env = pure none := by rfl)
    (h1 : (assignEach [tg] X.env).map (·.2) = [assign tg X.env] := by rfl) : PS X (.Assign [tg] e pos) (tAsg te g) := by
  intro pins s σ H D I h
  refine wpAny_Assign_stores (thn (he pins s σ H _ I h) fun v s1 ⟨x, H1, I1, r1, q1⟩ => ?_) hs hw
  rw [h1]
  exact thn (hg pins s1 σ H1 x v _ I1 r1 q1) fun _ s2 q => q
/-- name = value -/
theorem ps_set {i : Nat} {x : Str} {e : Expr} {te : TE} {pos' : Pos} (hN : X.N.Nodup) (hi : X.N[i]? = some x) (hx : Loc X.env.scope x) (he : PE X e te) (hs : swapsWith e (some (.Name x pos')) pos.line X.env = pure false := by rfl) (hf : X.fn x = true ∨ X.env.scope.names.lookup x = some .local := by first | exact .inl rfl | exact .inr rfl | assumption) :
    PS X (.Assign [.Name x pos'] e pos) (tAsg te (gName i)) := by
  intro pins s σ H D I h
  refine wpAny_Assign_Name (thn (he pins s σ H _ I h) fun v s1 ⟨y, H1, I1, r1, q1⟩ => ?_) hs
  exact store_ok I1 hN hi hx r1 (fun s2 I2 => ⟨_, H1, I2, q1⟩) hf
/-- a, b = x, y with plain local names: stored from the right; the pair itself is not tracked (the opening rows as in PyProof/Rows/TupAssign.lean:23) -/
def tPar (i j : Nat) (ta : TA) : TS := fun D σ H => ta σ H fun vs H1 => ∃ v w, vs = [v, w] ∧ D.nx ((σ.set i (some v)).set j (some w)) H1
theorem ps_par {i j : Nat} {x y : Str} {a b : Expr} {ta : TA} {px py pt : Pos} {kt k2 pt2} (hc : X.calm = true) (hN : X.N.Nodup) (hi : X.N[i]? = some x) (hj : X.N[j]? = some y) (hij : i ≠ j)
    (hx : X.env.scope.names.lookup x = some .local) (hy : X.env.scope.names.lookup y = some .local) (ha : PA X [a, b] ta)
    (hw : swappedStores [.Tuple [.Name x px, .Name y py] kt pt] (.Tuple [a, b] k2 pt2) X.env = pure (some [x, y]))
    (hs : swapsWithSole [.Tuple [.Name x px, .Name y py] kt pt] (.Tuple [a, b] k2 pt2) pos.line X.env = pure false := by rfl) :
    PS X (.Assign [.Tuple [.Name x px, .Name y py] kt pt] (.Tuple [a, b] k2 pt2) pos) (tPar i j ta) := by
  intro pins s σ H D I h
  rw [exec_Assign_arm]
  refine wpAny_bind (wpAny_standAt ?_)
  rw [hs]
  refine wpAny_bind (wpAny_pure ?_)
  rw [if_neg (by decide)]
  refine wpAny_bind (Tuple_ (thn (ha _ pins s σ H _ I h) fun us s1 ⟨vs, H1, I1, r1, q1⟩ => ?_))
  obtain ⟨v, w, e1, q1⟩ := q1
  subst e1
  obtain ⟨u1, u2, rfl, rv, rw'⟩ : ∃ u1 u2, us = [u1, u2] ∧ RelV v u1 ∧ RelV w u2 := by
    cases r1 with
    | cons p q =>
      cases q with
      | cons p' q' =>
        cases q'
        exact ⟨_, _, rfl, p, p'⟩
  refine wpAny_newObj_type ?_ (by show 2 ≤ sizeLine; decide)
  have I2 : Inv X pins σ H1 { s1 with heap := s1.heap.push { cls := .type "tuple", data := .seq [u1, u2].toArray } } := I1.kept (t' := s1.toks) fun b o e => Heap.get?_push_of_some _ e
  rw [hw]
  refine wpAny_bind (wpAny_pure ?_)
  show wpAny (model X.prog X.w) X.A (do rule "assign.swapped-stores"; let items ← unpackItems (.ref s1.heap.objs.size) 2 none; assignInOrder [fun v => bindName X.env y v, fun v => bindName X.env x v] items.reverse; pure Flow.next) _ _ _
  refine wpAny_bind (wpAny_rule (wpAny_bind (unpackItems_tuple (items := #[u1, u2]) (I.ok.hd hc) (IsTup.new s1.heap _) fun h' hx' => ?_)))
  have I3 := I2.kept (h' := h') (t' := s1.toks) fun b o e => hx' b o (Nat.ne_of_lt (Heap.lt_size e)) e
  show wpAny _ _ (assignInOrder [fun v => bindName X.env y v, fun v => bindName X.env x v] [u2, u1] >>= fun _ => pure Flow.next) _ _ _
  refine wpAny_bind (assignInOrder_cons (wpAny_bindName (store_ok I3 hN hj (.inl hy) rw' (fun s2 I4 => ?_) (.inr hy))))
  refine assignInOrder_cons (wpAny_bindName (store_ok I4 hN hi (.inl hx) rv (fun s3 I5 => assignInOrder_nil (wpAny_pure ?_)) (.inr hx)))
  rw [List.set_comm _ _ (Ne.symm hij)] at I5
  exact ⟨_, H1, I5, q1⟩
/-- name op= e -/
def tAug (i : Nat) (te : TE) (ti : TIp) : TS := fun D σ H => ∃ x, σ[i]? = some (some x) ∧ te σ H fun y H1 => ti x y H1 fun z H2 => D.nx (σ.set i (some z)) H2
theorem ps_aug {i : Nat} {x : Str} {e : Expr} {te : TE} {op : Operator} {ti : TIp} {pos' : Pos} (hN : X.N.Nodup) (hi : X.N[i]? = some x) (hx : Loc X.env.scope x) (he : PE X e te) (ho : PIp X op ti) (hf : X.fn x = true ∨ X.env.scope.names.lookup x = some .local := by first | exact .inl rfl | exact .inr rfl | assumption) :
    PS X (.AugAssign (.Name x pos') op e pos) (tAug i te ti) := by
  intro pins s σ H D I h
  obtain ⟨v, e1, h⟩ := h
  obtain ⟨m, hn, hl⟩ := I.loc
  have vis : Vis X.env.scope x := by rcases hx with k | k; exact .inl k; exact .inr (.inl k)
  obtain ⟨u, r, l⟩ := hl i x v hi e1 vis
  refine wpAny_AugAssign_Name ?_
  have go : wpAny (model X.prog X.w) X.A (eval e X.env) (fun w s₂ => wpAny (model X.prog X.w) X.A (inplaceOp op u w) (fun r s₃ => wpAny (model X.prog X.w) X.A (storeName X.env x r) (fun _ => SP X pins D .next) X.xe s₃) X.xe s₂) X.xe s := by
    refine thn (he pins s σ H _ I h) fun w s1 ⟨y, H1, I1, r1, q1⟩ => ?_
    refine thn (ho pins s1 σ H1 v y u w _ I1 r r1 q1) fun z s2 ⟨zv, H2, I2, r2, q2⟩ => ?_
    exact store_ok I2 hN hi hx r2 (fun s3 I3 => ⟨_, H2, I3, q2⟩) hf
  rcases l with ⟨hk, hm⟩ | ⟨hk, c, hc, hcell⟩
  · exact wpAny_loadName_local I.ok.kind hk hn hm go
  · rcases hk with hk | hk
    · exact wpAny_loadName_cell I.ok.kind hk hc hcell go
    · rcases hx with k | k
      · have : X.env.scope.names.lookup x = some .free := hk
        rw [k] at this; cases this
      · have : X.env.scope.names.lookup x = some .free := hk
        rw [k] at this; cases this
/-- o[i] op= e -/
def tAugS (to ti te : TE) (tget : V → V → Hp → VK → Prop) (tip : TIp) (tset : TSet) : TS := fun D σ H => to σ H fun o H1 => ti σ H1 fun i H2 => tget o i H2 fun x H3 => te σ H3 fun y H4 => tip x y H4 fun z H5 => tset o i z H5 fun H6 => D.nx σ H6
/-- o[i], by values -/
def PGet (X : Cx) (t : V → V → Hp → VK → Prop) : Prop :=
  ∀ (pins : List (Addr × Obj)) (s : Shared) (σ : St) (H : Hp) (o i : V) (ov iv : Value) (Q : VK), Inv X pins σ H s → RelV o ov → RelV i iv → t o i H Q →
    wpAny (model X.prog X.w) X.A (getItem ov iv) (EP X pins σ Q) X.xe s
theorem ps_augS {o i e : Expr} {to ti te : TE} {tget : V → V → Hp → VK → Prop} {tip : TIp} {tset : TSet} {op : Operator} {tpos : Pos} (ho : PE X o to) (hi : PE X i ti) (hg : PGet X tget) (he : PE X e te) (hp : PIp X op tip) (hs : PSet X tset)
    (ha : ∀ ov iv new, augStore i ov iv new = (do holding [new, ov, iv] (setItem ov iv new); release [new, ov, iv] []; pure .next) := by intros; rfl) : PS X (.AugAssign (.Subscript o i tpos) op e pos) (tAugS to ti te tget tip tset) := by
  intro pins s σ H D I h
  refine wpAny_AugAssign_SubscriptAny (thn (ho pins s σ H _ I h) fun ov s1 ⟨x1, H1, I1, r1, q1⟩ => ?_) ha
  refine thn (hi pins s1 σ H1 _ I1 q1) fun iv s2 ⟨x2, H2, I2, r2, q2⟩ => ?_
  refine thn (hg pins s2 σ H2 x1 x2 ov iv _ I2 r1 r2 q2) fun old s3 ⟨x3, H3, I3, r3, q3⟩ => ?_
  refine thn (he pins s3 σ H3 _ I3 q3) fun v s4 ⟨x4, H4, I4, r4, q4⟩ => ?_
  refine thn (hp pins s4 σ H4 x3 x4 old v _ I4 r3 r4 q4) fun new s5 ⟨x5, H5, I5, r5, q5⟩ => ?_
  exact thn (hs pins s5 σ H5 x1 x2 x5 ov iv new _ I5 r1 r2 r5 q5) fun _ s6 ⟨H6, I6, q6⟩ => ⟨σ, H6, I6, q6⟩
/-- ints -/
def ipI (f : Int → Int → Int) : TIp := fun x y H Q => ∃ i j, x = .int i ∧ y = .int j ∧ Q (.int (f i j)) H
theorem ip_add : PIp X .Add (ipI fun i j => i + j) := by
  intro pins s σ H x y v u Q I r1 r2 h
  obtain ⟨i, j, e1, e2, q⟩ := h
  subst e1; subst e2
  obtain ⟨t, rfl⟩ := r1
  obtain ⟨t', rfl⟩ := r2
  exact iadd_int ⟨.int _, H, I.tok _, ⟨_, rfl⟩, q⟩
theorem ip_sub : PIp X .Sub (ipI fun i j => i - j) := by
  intro pins s σ H x y v u Q I r1 r2 h
  obtain ⟨i, j, e1, e2, q⟩ := h
  subst e1; subst e2
  obtain ⟨t, rfl⟩ := r1
  obtain ⟨t', rfl⟩ := r2
  exact isub_int ⟨.int _, H, I.tok _, ⟨_, rfl⟩, q⟩
end

/-! ### while -/
section
variable {X : Cx} {pos : Pos}
/-- the invariant W with its measure -/
def tWhile (c : TT) (tb : TS) : TS := fun D σ H => ∃ W : Nat → St → Hp → Prop, (∃ m, W m σ H) ∧ ∀ m σ H, W m σ H →
  c σ H fun b H1 => if b = true then ∃ N : St → Hp → Prop, (∀ σ' H', N σ' H' → ∃ m', m' < m ∧ W m' σ' H') ∧ tb { D with nx := N, ct := N, bk := D.nx } σ H1 else D.nx σ H1
theorem ps_while {c : Expr} {body : List Stmt} {tc : TT} {tb : TS} (hp : PassesOwn (model X.prog X.w) X.A X.env X.xe) (hc : PT X c tc) (hb : PSs X body tb) : PS X (.While c body [] pos) (tWhile tc tb) := by
  intro pins s σ H D I h
  obtain ⟨W, ⟨m0, w0⟩, turn⟩ := h
  refine wpAny_While (codeAny_whileLoop (fun n s' => ∃ σ' H', Inv X pins σ' H' s' ∧ W n σ' H') ?_ m0 ⟨σ, H, I, w0⟩)
  rintro n s1 ⟨σ1, H1, I1, w1⟩
  refine wpAny_passesOwn hp (thn (hc pins s1 σ1 H1 _ I1 (turn n σ1 H1 w1)) fun b s2 ⟨H2, I2, q2⟩ => ?_)
  cases b with
  | true =>
    obtain ⟨N, hN, q2⟩ := q2
    rw [if_pos rfl]
    refine wpAny_passesOwn hp (thn (hb pins s2 σ1 H2 _ I2 q2) fun f s3 q3 => ?_)
    cases f with
    | next =>
      obtain ⟨σ3, H3, I3, n3⟩ := q3
      obtain ⟨m', hm, w3⟩ := hN σ3 H3 n3
      exact ⟨m', hm, σ3, H3, I3, w3⟩
    | cont =>
      obtain ⟨σ3, H3, I3, n3⟩ := q3
      obtain ⟨m', hm, w3⟩ := hN σ3 H3 n3
      exact ⟨m', hm, σ3, H3, I3, w3⟩
    | brk => exact q3
    | ret v => exact q3
  | false =>
    rw [if_neg Bool.false_ne_true]
    exact wpAny_execs_nil ⟨σ1, H2, I2, q2⟩
end

/-! ### what a loop or a comprehension walks -/
/-- at turn i: it yields x (the heap may grow), or it stops -/
structure It where
  go : Nat → Hp → Prop
  yld : Nat → Hp → V → Hp → Prop
  stop : Nat → Hp → Prop
/-- the iterator's own objects may turn: they are not the frame's, not pinned, younger than the entry (or a comprehension's own) -/
def FpOk (X : Cx) (pins : List (Addr × Obj)) (H : Hp) (b : Addr) : Prop :=
  H b = none ∧ b ≠ X.env.locals ∧ b ∉ X.fs ∧ (b ∈ X.ex ∨ X.s_0.heap.objs.size ≤ b) ∧ (∀ x c, X.env.cells.lookup x = some c → c ≠ b) ∧ ∀ p ∈ X.pn ++ pins, p.1 ≠ b
theorem Inv.fpOk {X : Cx} {pins : List (Addr × Obj)} {σ : St} {H H' : Hp} {s : Shared} {b : Addr} (I : Inv X pins σ H s) (hb : s.heap.objs.size ≤ b) (hn : H' b = none) : FpOk X pins H' b := by
  refine ⟨hn, Nat.ne_of_gt (Nat.lt_of_lt_of_le I.lt hb), I.nofs hb, .inr (Nat.le_trans I.sz hb), fun x c e z => ?_, fun p hp z => ?_⟩
  · obtain ⟨v, q⟩ := I.cell x c e
    exact absurd (Nat.lt_of_lt_of_le q.lt (by rw [z]; exact hb)) (Nat.lt_irrefl _)
  · exact absurd (Nat.lt_of_lt_of_le (Heap.lt_size (I.pin p hp).1) (by rw [z]; exact hb)) (Nat.lt_irrefl _)
structure Turn (P : Program) (w : World) (K : PySem.W.Frag) (tg : Expr) (J : It) (fp : List Addr) (it : Addr) (tn : Nat → Heap → Prop) : Prop where
  mem : it ∈ fp
  obj : ∀ i h, tn i h → ∀ b ∈ fp, ∃ o, h.get? b = some o ∧ ∀ v, o.data ≠ .cell v
  keep : ∀ i h h', tn i h → (∀ b ∈ fp, ∀ o, h.get? b = some o → h'.get? b = some o) → tn i h'
  item : ∀ (X : Cx), X.prog = P → X.w = w → X.K = K → X.calm = true → ∀ (i : Nat) (pins : List (Addr × Obj)) (s : Shared) (σ : St) (H : Hp) (E : Value → Shared → Prop), Inv X pins σ H s → (∀ b ∈ fp, FpOk X pins H b) → tn i s.heap → J.go i H →
    wpAny (model P w) X.A (pyNext (.ref it)) (fun r s1 => ∃ u, r = some u ∧
      wpAny (model P w) X.A (letOwnedTupleGo tg (.ref it) u) (fun _ s2 => ∃ x H', Inv X pins σ H' s2 ∧ RelV x u ∧ J.yld i H x H' ∧ tn (i + 1) s2.heap ∧ ∀ b ∈ fp, H' b = none) E s1) E s
  done : ∀ (X : Cx), X.prog = P → X.w = w → X.K = K → X.calm = true → ∀ (i : Nat) (pins : List (Addr × Obj)) (s : Shared) (σ : St) (H : Hp) (E : Value → Shared → Prop), Inv X pins σ H s → (∀ b ∈ fp, FpOk X pins H b) → tn i s.heap → J.stop i H →
    wpAny (model P w) X.A (pyNext (.ref it)) (fun r s1 => r = none ∧ Inv X pins σ H s1) E s
  self : ∀ (A : Around) (i : Nat) (s : Shared) (Q : Value → Shared → Prop) (E : Value → Shared → Prop), tn i s.heap → Q (.ref it) s → wpAny (model P w) A (pyIter (.ref it)) Q E s
abbrev TI := St → Hp → (It → Hp → Prop) → Prop
/-- an iterator has come -/
def PIE (X : Cx) (pins : List (Addr × Obj)) (σ : St) (tg : Expr) (R : It → Hp → Prop) (itv : Value) (s2 : Shared) : Prop :=
  ∃ (it : Addr) (fp : List Addr) (tn : Nat → Heap → Prop) (J : It) (H' : Hp), itv = .ref it ∧ Inv X pins σ H' s2 ∧ Turn X.prog X.w X.K tg J fp it tn ∧ tn 0 s2.heap ∧ (∀ b ∈ fp, FpOk X pins H' b) ∧ R J H'
def PI (X : Cx) (tg iter : Expr) (wi : TI) : Prop :=
  ∀ (pins : List (Addr × Obj)) (s : Shared) (σ : St) (H : Hp) (R : It → Hp → Prop), Inv X pins σ H s → wi σ H R →
    wpAny (model X.prog X.w) X.A (eval iter X.env) (fun v s1 => wpAny (model X.prog X.w) X.A (pyIter v) (PIE X pins σ tg R) X.xe s1) X.xe s

/-- the step ahead of the store is nothing for an iterator that keeps no tuple -/
theorem go_of {M : Model} {A : Around} {E : Value → Shared → Prop} {s : Shared} {tg : Expr} {it : Addr} {u : Value} {o : Obj} {n : String} {vs : Array Value} {Q : Unit → Shared → Prop} (ho : s.heap.get? it = some o) (hc : o.cls = .type n) (hd : o.data = .fields vs)
    (hn : ["enumerate", "zip", "dict_itemiterator", "dict_reverseitemiterator", "odict_iterator", "itertools.zip_longest", "itertools.pairwise"].contains n = false) (hQ : Q () s) : wpAny M A (letOwnedTupleGo tg (.ref it) u) Q E s := by
  unfold letOwnedTupleGo
  cases tg <;> first
    | exact wpAny_pure hQ
    | (cases u <;> first
        | exact wpAny_pure hQ
        | (refine wpAny_bind (wpAny_load ho ?_)
           rw [hc, hd]
           show wpAny M A (if (["enumerate", "zip", "dict_itemiterator", "dict_reverseitemiterator", "odict_iterator", "itertools.zip_longest", "itertools.pairwise"].contains n && vs[0]? == some (rawInt _)) = true then _ else _) Q E s
           rw [if_neg (by intro h; rw [hn, Bool.false_and] at h; cases h)]
           exact wpAny_pure hQ))

/-- the list at a, as it stands at each turn (a loop may append to it) -/
def Itl (K : PySem.W.Frag) (a : Addr) : It :=
  ⟨fun i H => ∃ xs x, SqL K H a xs ∧ xs[i]? = some x, fun i H x H' => H' = H ∧ ∀ xs, SqL K H a xs → xs[i]? = some x, fun i H => ∃ xs, SqL K H a xs ∧ xs.length ≤ i⟩
def Itt (K : PySem.W.Frag) (a : Addr) : It :=
  ⟨fun i H => ∃ xs x, SqT K H a xs ∧ xs[i]? = some x, fun i H x H' => H' = H ∧ ∀ xs, SqT K H a xs → xs[i]? = some x, fun i H => ∃ xs, SqT K H a xs ∧ xs.length ≤ i⟩
/-- lo, lo + 1, .. (n of them) -/
def Itr (lo : Int) (n : Nat) : It := ⟨fun i _ => i < n, fun i H x H' => H' = H ∧ x = .int (lo + i), fun i _ => n ≤ i⟩
theorem turn_list {P : Program} {w : World} {K : PySem.W.Frag} {tg : Expr} (a it : Addr) : Turn P w K tg (Itl K a) [it] it (fun i h => h.IsListIter it a i) where
  mem := by simp
  obj := fun i h st b hb => by
    have e : b = it := by simpa using hb
    subst e
    obtain ⟨o, e, c, d⟩ := st
    exact ⟨o, e, fun v z => by rw [d] at z; cases z⟩
  keep := fun i h h' st k => st.at fun o e => k it (by simp) o e
  item := by
    intro X hP hw hK hc i pins s σ H E I hf st hg
    subst hP hw hK
    obtain ⟨xs, x, hq, hx⟩ := hg
    obtain ⟨its, rv, p, hz⟩ := I.list hq
    obtain ⟨u, hu, ru⟩ := rv.get hx
    obtain ⟨f0, f1, f2, f3, f4, f5⟩ := hf it (by simp)
    refine wpAny_pyNext_list_item st p.isList (x := u) (by simpa using hu) fun h' st' sb => ?_
    have I1 : Inv X pins σ H { s with heap := h' } := I.turned (t' := s.toks) (fun b o hb e => (sb.2 b hb).trans e) f0 f1 f3 f4 f5
    obtain ⟨o, e, c, d⟩ := id st'
    exact ⟨u, rfl, go_of (s := { s with heap := h' }) e c d (by decide) ⟨x, H, I1, ru, ⟨rfl, fun ys hy => by rw [I.list_inj hy hq]; exact hx⟩, st', fun b hb => (hf b hb).1⟩⟩
  done := by
    intro X hP hw hK hc i pins s σ H E I hf st hg
    subst hP hw hK
    obtain ⟨xs, hq, hx⟩ := hg
    obtain ⟨its, rv, p, hz⟩ := I.list hq
    obtain ⟨f0, f1, f2, f3, f4, f5⟩ := hf it (by simp)
    have hl := rv.length
    exact wpAny_pyNext_list_end (I.ok.hd hc) st p.isList (by simp; omega) fun h' eb => ⟨rfl, I.turned (t' := s.toks) (fun b o hb e => eb b o hb e) f0 f1 f3 f4 f5⟩
  self := fun _ _ _ _ _ st h => wpAny_pyIter_listiter st h
theorem turn_tuple {P : Program} {w : World} {K : PySem.W.Frag} {tg : Expr} (a it : Addr) : Turn P w K tg (Itt K a) [it] it (fun i h => h.IsTupleIter it a i) where
  mem := by simp
  obj := fun i h st b hb => by
    have e : b = it := by simpa using hb
    subst e
    obtain ⟨o, e, c, d⟩ := st
    exact ⟨o, e, fun v z => by rw [d] at z; cases z⟩
  keep := fun i h h' st k => st.at fun o e => k it (by simp) o e
  item := by
    intro X hP hw hK hc i pins s σ H E I hf st hg
    subst hP hw hK
    obtain ⟨xs, x, hq, hx⟩ := hg
    obtain ⟨its, rv, p, hz⟩ := I.tuple hq
    obtain ⟨u, hu, ru⟩ := rv.get hx
    obtain ⟨f0, f1, f2, f3, f4, f5⟩ := hf it (by simp)
    refine wpAny_pyNext_tuple_item st (show s.heap.IsTuple a its.toArray from p) (x := u) (by simpa using hu) fun h' st' sb => ?_
    have I1 : Inv X pins σ H { s with heap := h' } := I.turned (t' := s.toks) (fun b o hb e => (sb.2 b hb).trans e) f0 f1 f3 f4 f5
    obtain ⟨o, e, c, d⟩ := id st'
    exact ⟨u, rfl, go_of (s := { s with heap := h' }) e c d (by decide) ⟨x, H, I1, ru, ⟨rfl, fun ys hy => by rw [I.tuple_inj hy hq]; exact hx⟩, st', fun b hb => (hf b hb).1⟩⟩
  done := by
    intro X hP hw hK hc i pins s σ H E I hf st hg
    subst hP hw hK
    obtain ⟨xs, hq, hx⟩ := hg
    obtain ⟨its, rv, p, hz⟩ := I.tuple hq
    obtain ⟨f0, f1, f2, f3, f4, f5⟩ := hf it (by simp)
    have hl := rv.length
    exact wpAny_pyNext_tuple_end (I.ok.hd hc) st (show s.heap.IsTuple a its.toArray from p) (by simp; omega) fun h' eb => ⟨rfl, I.turned (t' := s.toks) (fun b o hb e => eb b o hb e) f0 f1 f3 f4 f5⟩
  self := fun _ _ _ _ _ st h => wpAny_pyIter_tupleiter st h
theorem turn_range {P : Program} {w : World} {K : PySem.W.Frag} {tg : Expr} (it : Addr) (lo : Int) (n : Nat) : Turn P w K tg (Itr lo n) [it] it (fun i h => IsRangeIter h it (lo + (i : Nat) * 1) ((n : Int) - (i : Nat)) 1) where
  mem := by simp
  obj := fun i h st b hb => by
    have e : b = it := by simpa using hb
    subst e
    exact ⟨_, st, fun v z => by
      have z' : Data.fields _ = Data.cell v := z
      cases z'⟩
  keep := fun i h h' st k => k it (by simp) _ st
  item := by
    intro X hP hw hK hc i pins s σ H E I hf st hg
    subst hP hw hK
    obtain ⟨f0, f1, f2, f3, f4, f5⟩ := hf it (by simp)
    have W := Walks.range (prog := X.prog) (w := X.w) (I.ok.hd hc) it lo 1 n
    refine W.item i s _ _ hg st fun v h' tk hv st' kk => ?_
    obtain ⟨t, rfl⟩ := hv
    have I1 : Inv X pins σ H { s with heap := h', toks := tk } := I.turned (fun b o hb e => kk b o (by simpa using hb) e) f0 f1 f3 f4 f5
    refine ⟨_, rfl, go_of (s := { s with heap := h', toks := tk }) (n := "range_iterator") st' rfl rfl (by decide) ⟨.int (lo + i), H, I1, ⟨t, ?_⟩, ⟨rfl, rfl⟩, st', fun b hb => (hf b hb).1⟩⟩
    rw [Int.mul_one]
  done := by
    intro X hP hw hK hc i pins s σ H E I hf st hg
    subst hP hw hK
    obtain ⟨f0, f1, f2, f3, f4, f5⟩ := hf it (by simp)
    exact wpAny_pyNext_range_end (I.ok.hd hc) st (by have : n ≤ i := hg; omega) fun h' eb => ⟨rfl, I.turned (t' := s.toks) (fun b o hb e => eb b o hb e) f0 f1 f3 f4 f5⟩
  self := fun _ _ _ _ _ st h => wpAny_pyIter_rangeiter st h
end L2

namespace L2
open PySem PySem.Spec PyProof.Rows
section
variable {X : Cx} {tg : Expr}
def iList (K : PySem.W.Frag) (tl : TE) : TI := fun σ H R => tl σ H fun x H1 => ∃ a, x = .ref a ∧ (∃ xs, SqL K H1 a xs) ∧ R (Itl K a) H1
def iTup (K : PySem.W.Frag) (tl : TE) : TI := fun σ H R => tl σ H fun x H1 => ∃ a, x = .ref a ∧ (∃ xs, SqT K H1 a xs) ∧ R (Itt K a) H1
theorem pi_list {l : Expr} {tl : TE} (hl : PE X l tl) : PI X tg l (iList X.K tl) := by
  intro pins s σ H R I h
  refine thn (hl pins s σ H _ I h) fun v s1 ⟨x, H1, I1, r1, q1⟩ => ?_
  obtain ⟨a, e, ⟨xs, hq⟩, q⟩ := q1
  subst e
  cases r1
  obtain ⟨its, rv, p, hz⟩ := I1.list hq
  refine wpAny_pyIter_list p.isList ?_
  refine ⟨s1.heap.objs.size, [s1.heap.objs.size], _, _, H1, rfl, I1.kept (t' := s1.toks) fun b o e => Heap.get?_push_of_some _ e, turn_list a _, ⟨_, Heap.get?_push_size _ rfl, rfl, rfl⟩, fun b hb => ?_, q⟩
  have e : b = s1.heap.objs.size := by simpa using hb
  subst e
  exact I1.fpOk (Nat.le_refl _) (I1.hok.fresh (Nat.le_refl _))
theorem pi_tup {l : Expr} {tl : TE} (hl : PE X l tl) : PI X tg l (iTup X.K tl) := by
  intro pins s σ H R I h
  refine thn (hl pins s σ H _ I h) fun v s1 ⟨x, H1, I1, r1, q1⟩ => ?_
  obtain ⟨a, e, ⟨xs, hq⟩, q⟩ := q1
  subst e
  cases r1
  obtain ⟨its, rv, p, hz⟩ := I1.tuple hq
  refine wpAny_pyIter_tuple (show s1.heap.IsTuple a its.toArray from p) ?_
  refine ⟨s1.heap.objs.size, [s1.heap.objs.size], _, _, H1, rfl, I1.kept (t' := s1.toks) fun b o e => Heap.get?_push_of_some _ e, turn_tuple a _, ⟨_, Heap.get?_push_size _ rfl, rfl, rfl⟩, fun b hb => ?_, q⟩
  have e : b = s1.heap.objs.size := by simpa using hb
  subst e
  exact I1.fpOk (Nat.le_refl _) (I1.hok.fresh (Nat.le_refl _))
/-- a range object just made, walked -/
theorem range_it {pins : List (Addr × Obj)} {σ : St} {H : Hp} {s : Shared} {R : It → Hp → Prop} {E : Value → Shared → Prop} {lo hi : Int} {t u v : Tok} {tk : Nat} (I : Inv X pins σ H s) (h1 : -(2 ^ 62) ≤ lo) (h2 : lo < 2 ^ 62) (h3 : -(2 ^ 62) ≤ hi) (h4 : hi < 2 ^ 62)
    (q : R (Itr lo (hi - lo).toNat) H) : wpAny (model X.prog X.w) X.A (pyIter (.ref s.heap.objs.size)) (PIE X pins σ tg R) E { s with heap := s.heap.push { cls := .type "range", data := .fields #[.int lo t, .int hi u, .int 1 v] }, toks := tk } := by
  refine wpAny_pyIter_range (IsRange.new ..) (small_one h1 h2 h3 h4) ?_
  have I1 : Inv X pins σ H { s with heap := s.heap.push { cls := .type "range", data := .fields #[.int lo t, .int hi u, .int 1 v] }, toks := tk } := I.kept fun b o e => Heap.get?_push_of_some _ e
  refine ⟨(s.heap.push { cls := .type "range", data := .fields #[.int lo t, .int hi u, .int 1 v] }).objs.size, [(s.heap.push { cls := .type "range", data := .fields #[.int lo t, .int hi u, .int 1 v] }).objs.size], _, _, H, rfl,
    I1.kept (t' := tk) fun b o e => Heap.get?_push_of_some _ e, turn_range _ lo (hi - lo).toNat, ?_, fun b hb => ?_, q⟩
  · have e1 : lo + ((0 : Nat) : Int) * 1 = lo := by simp
    have e2 : (((hi - lo).toNat : Nat) : Int) - ((0 : Nat) : Int) = Builtin.Range.rangeSize lo hi 1 := by rw [rangeSize_one]; split <;> omega
    show IsRangeIter _ _ (lo + ((0 : Nat) : Int) * 1) ((((hi - lo).toNat : Nat) : Int) - ((0 : Nat) : Int)) 1
    rw [e1, e2]
    exact Heap.get?_push_size _ rfl
  · have e : b = (s.heap.push { cls := .type "range", data := .fields #[.int lo t, .int hi u, .int 1 v] }).objs.size := by simpa using hb
    subst e
    exact I1.fpOk (Nat.le_refl _) (I1.hok.fresh (Nat.le_refl _))
def iRng1 (ta : TA) : TI := fun σ H R => ta σ H fun vs H1 => ∃ j : Int, vs = [.int j] ∧ -(2 ^ 62) ≤ j ∧ j < 2 ^ 62 ∧ R (Itr 0 j.toNat) H1
def iRng2 (ta : TA) : TI := fun σ H R => ta σ H fun vs H1 => ∃ i j : Int, vs = [.int i, .int j] ∧ (-(2 ^ 62) ≤ i ∧ i < 2 ^ 62 ∧ -(2 ^ 62) ≤ j ∧ j < 2 ^ 62) ∧ R (Itr i (j - i).toNat) H1
theorem pi_range1 {a : Expr} {ta : TA} {p pos : Pos} (hg : Gl X "range") (hm : X.mg "range" = none) (ha : PA X [a] ta) (hs : starEach [a] X.env = [(false, eval a X.env)] := by rfl) : PI X tg (.Call (.Name "range" p) [a] [] pos) (iRng1 ta) := by
  intro pins s σ H R I h
  refine Call_ (ld_blt I hg hm boot_range (PyProof.Rows.callWith_type1 (thn (ha pos pins s σ H _ I h) fun us s1 ⟨vs, H1, I1, r1, q1⟩ => ?_) hs rfl))
  obtain ⟨j, e, q1, q2, q⟩ := q1
  subst e
  cases r1 with
  | cons r rr =>
    cases rr
    obtain ⟨t, rfl⟩ := r
    exact call_range_1 (range_it I1 (by omega) (by omega) q1 q2 (by simpa using q))
theorem pi_range2 {a b : Expr} {ta : TA} {p pos : Pos} (hg : Gl X "range") (hm : X.mg "range" = none) (ha : PA X [a, b] ta) (hs : starEach [a, b] X.env = [(false, eval a X.env), (false, eval b X.env)] := by rfl) (hs2 : starEach [b] X.env = [(false, eval b X.env)] := by rfl) :
    PI X tg (.Call (.Name "range" p) [a, b] [] pos) (iRng2 ta) := by
  intro pins s σ H R I h
  refine Call_ (ld_blt I hg hm boot_range (PyProof.Rows.callWith_type1 (thn (ha pos pins s σ H _ I h) fun us s1 ⟨vs, H1, I1, r1, q1⟩ => ?_) (by rw [hs, hs2]) (by rw [hs2]; rfl)))
  obtain ⟨i, j, e, ⟨q1, q2, q3, q4⟩, q⟩ := q1
  subst e
  cases r1 with
  | cons r rr =>
    cases rr with
    | cons r' rr =>
      cases rr
      obtain ⟨t, rfl⟩ := r
      obtain ⟨t', rfl⟩ := r'
      exact call_range_2 (range_it I1 q1 q2 q3 q4 q)

/-! ### for -/
/-- W: the invariant by the turn and a measure; N: what the body is to reach -/
def tFor (wi : TI) (g : TG) (tb : TS) : TS := fun D σ H => wi σ H fun J H1 => ∃ W : Nat → Nat → St → Hp → Prop, (∃ m, W 0 m σ H1) ∧ ∀ i m σ H, W i m σ H →
  (J.stop i H ∧ D.nx σ H) ∨ (J.go i H ∧ ∃ N : St → Hp → Prop, (∀ σ' H', N σ' H' → ∃ m', m' < m ∧ W (i + 1) m' σ' H') ∧ ∀ x H', J.yld i H x H' → g x σ H' fun σ2 H2 => tb { D with nx := N, ct := N, bk := D.nx } σ2 H2)
/-- the records at fp as they stand -/
def pinsAt (fp : List Addr) (h : Heap) : List (Addr × Obj) := fp.filterMap fun b => (h.get? b).map fun o => (b, o)
theorem mem_pinsAt {fp : List Addr} {h : Heap} {b : Addr} {o : Obj} (hb : b ∈ fp) (e : h.get? b = some o) : (b, o) ∈ pinsAt fp h := List.mem_filterMap.mpr ⟨b, hb, by rw [e]; rfl⟩
theorem of_pinsAt {fp : List Addr} {h : Heap} {p : Addr × Obj} (hp : p ∈ pinsAt fp h) : p.1 ∈ fp ∧ h.get? p.1 = some p.2 := by
  obtain ⟨b, hb, e⟩ := List.mem_filterMap.mp hp
  cases q : h.get? b with
  | none => rw [q] at e; cases e
  | some o =>
    rw [q] at e
    have e' : (b, o) = p := Option.some.inj e
    subst e'
    exact ⟨hb, q⟩
theorem Inv.pinned {pins : List (Addr × Obj)} {σ : St} {H : Hp} {s : Shared} {fp : List Addr} (I : Inv X pins σ H s) (hf : ∀ b ∈ fp, FpOk X pins H b) (ho : ∀ b ∈ fp, ∃ o, s.heap.get? b = some o ∧ ∀ v, o.data ≠ .cell v) : Inv X (pins ++ pinsAt fp s.heap) σ H s :=
  I.pins_of fun p hp => (List.mem_append.mp hp).elim (fun z => I.pin p (List.mem_append_right _ z)) fun z => by
    obtain ⟨hb, e⟩ := of_pinsAt z
    obtain ⟨f0, f1, f2, _⟩ := hf p.1 hb
    obtain ⟨o, e', d⟩ := ho p.1 hb
    rw [e] at e'; cases e'
    exact ⟨e, f0, f1, f2, d⟩
theorem Inv.unpinned {pins pl : List (Addr × Obj)} {σ : St} {H : Hp} {s : Shared} (I : Inv X (pins ++ pl) σ H s) : Inv X pins σ H s := I.pins_of fun p hp => I.pin p (List.mem_append_right _ (List.mem_append_left _ hp))
theorem ps_for {iter : Expr} {body : List Stmt} {wi : TI} {g : TG} {tb : TS} {pos : Pos} (hp : PassesOwn (model X.prog X.w) X.A X.env X.xe) (hc : X.calm = true) (hi : PI X tg iter wi) (hg : PG X tg g) (hb : PSs X body tb)
    (hs : ∀ x, foldedSetIterable iter X.env x = pure x := by intro _; rfl) : PS X (.For tg iter body [] pos) (tFor wi g tb) := by
  intro pins s σ H D I h
  refine wpAny_For (thn (hi pins s σ H _ I h) fun v s1 h1 => thn h1 fun itv s2 h2 => ?_) hs
  obtain ⟨it, fp, tn, J, H2, e, I2, T, st2, f2, W, ⟨m0, w0⟩, turn⟩ := h2
  subst e
  -- what stays true of the iterator's objects through the loop
  have stat : ∀ {H' : Hp}, (∀ b ∈ fp, H' b = none) → ∀ b ∈ fp, FpOk X pins H' b := fun hn b hb => ⟨hn b hb, (f2 b hb).2⟩
  refine codeAny_forLoop_any (fun n s' => ∃ i σ' H', Inv X pins σ' H' s' ∧ tn i s'.heap ∧ (∀ b ∈ fp, H' b = none) ∧ W i n σ' H') ?_ m0 ⟨0, σ, H2, I2, st2, fun b hb => (f2 b hb).1, w0⟩
  rintro n s3 ⟨i, σ3, H3, I3, st3, fr3, w3⟩
  rcases turn i n σ3 H3 w3 with ⟨stop, qn⟩ | ⟨go, N, hN, step⟩
  · refine wpAny_passesOwn hp (thn (T.done X rfl rfl rfl hc i pins s3 σ3 H3 X.xe I3 (stat fr3) st3 stop) fun r s4 ⟨hr, I4⟩ => ?_)
    subst hr
    exact wpAny_execs_nil ⟨σ3, H3, I4, qn⟩
  · refine wpAny_passesOwn hp (thn (T.item X rfl rfl rfl hc i pins s3 σ3 H3 X.xe I3 (stat fr3) st3 go) fun r s4 ⟨u, hr, h4⟩ => ?_)
    subst hr
    refine wpAny_passesOwn hp (thn h4 fun _ s5 ⟨x, H5, I5, r5, y5, st5, fr5⟩ => ?_)
    have I5' := I5.pinned (stat fr5) (T.obj _ _ st5)
    refine wpAny_passesOwn hp (thn (hg _ s5 σ3 H5 x u _ I5' r5 (step x H5 y5)) fun _ s6 ⟨σ6, H6, I6, q6⟩ => ?_)
    refine wpAny_passesOwn hp (thn (hb _ s6 σ6 H6 _ I6 q6) fun f s7 q7 => ?_)
    have again : ∀ {σ7 : St} {H7 : Hp}, Inv X (pins ++ pinsAt fp s5.heap) σ7 H7 s7 → N σ7 H7 → ∃ m, m < n ∧ ∃ i σ' H', Inv X pins σ' H' s7 ∧ tn i s7.heap ∧ (∀ b ∈ fp, H' b = none) ∧ W i m σ' H' := fun {σ7 H7} I7 n7 => by
      obtain ⟨m', hm, w7⟩ := hN σ7 H7 n7
      refine ⟨m', hm, i + 1, σ7, H7, I7.unpinned, T.keep _ _ _ st5 fun b hb o e => (I7.pin (b, o) (List.mem_append_right _ (List.mem_append_right _ (mem_pinsAt hb e)))).1, fun b hb => ?_, w7⟩
      obtain ⟨o, e, d⟩ := T.obj _ _ st5 b hb
      exact (I7.pin (b, o) (List.mem_append_right _ (List.mem_append_right _ (mem_pinsAt hb e)))).2.1
    cases f with
    | next => obtain ⟨σ7, H7, I7, n7⟩ := q7; exact again I7 n7
    | cont => obtain ⟨σ7, H7, I7, n7⟩ := q7; exact again I7 n7
    | brk => obtain ⟨σ7, H7, I7, q7⟩ := q7; exact ⟨σ7, H7, I7.unpinned, q7⟩
    | ret v => obtain ⟨x7, σ7, H7, I7, r7, q7⟩ := q7; exact ⟨x7, σ7, H7, I7.unpinned, r7, q7⟩
end

/-! ### the forms one uses -/
/-- over a list that the body leaves as it is -/
theorem for_list {K : PySem.W.Frag} {a : Addr} {xs : List V} {g : TG} {tb : TS} {D : Ends} {σ : St} {H : Hp} (Pv : Nat → St → Hp → Prop) (h0 : Pv 0 σ H) (hl : ∀ i σ H, i ≤ xs.length → Pv i σ H → SqL K H a xs)
    (hs : ∀ i x σ H, xs[i]? = some x → Pv i σ H → g x σ H fun σ2 H2 => tb { D with nx := Pv (i + 1), ct := Pv (i + 1), bk := D.nx } σ2 H2) (hd : ∀ σ H, Pv xs.length σ H → D.nx σ H) :
    ∃ W : Nat → Nat → St → Hp → Prop, (∃ m, W 0 m σ H) ∧ ∀ i m σ H, W i m σ H →
      ((Itl K a).stop i H ∧ D.nx σ H) ∨ ((Itl K a).go i H ∧ ∃ N : St → Hp → Prop, (∀ σ' H', N σ' H' → ∃ m', m' < m ∧ W (i + 1) m' σ' H') ∧ ∀ x H', (Itl K a).yld i H x H' → g x σ H' fun σ2 H2 => tb { D with nx := N, ct := N, bk := D.nx } σ2 H2) := by
  refine ⟨fun i m σ H => m = xs.length - i ∧ i ≤ xs.length ∧ Pv i σ H, ⟨xs.length, by simp, Nat.zero_le _, h0⟩, ?_⟩
  rintro i m σ H ⟨rfl, hi, p⟩
  have q := hl i σ H hi p
  by_cases hlt : i < xs.length
  · refine .inr ⟨⟨xs, xs[i], q, by simp [hlt]⟩, Pv (i + 1), fun σ' H' p' => ⟨xs.length - (i + 1), by omega, rfl, hlt, p'⟩, fun x H' y => ?_⟩
    obtain ⟨e, y⟩ := y
    subst e
    exact hs i x σ _ (y xs q) p
  · have e : i = xs.length := by omega
    subst e
    exact .inl ⟨⟨xs, q, Nat.le_refl _⟩, hd σ H p⟩
theorem for_tup {K : PySem.W.Frag} {a : Addr} {xs : List V} {g : TG} {tb : TS} {D : Ends} {σ : St} {H : Hp} (Pv : Nat → St → Hp → Prop) (h0 : Pv 0 σ H) (hl : ∀ i σ H, i ≤ xs.length → Pv i σ H → SqT K H a xs)
    (hs : ∀ i x σ H, xs[i]? = some x → Pv i σ H → g x σ H fun σ2 H2 => tb { D with nx := Pv (i + 1), ct := Pv (i + 1), bk := D.nx } σ2 H2) (hd : ∀ σ H, Pv xs.length σ H → D.nx σ H) :
    ∃ W : Nat → Nat → St → Hp → Prop, (∃ m, W 0 m σ H) ∧ ∀ i m σ H, W i m σ H →
      ((Itt K a).stop i H ∧ D.nx σ H) ∨ ((Itt K a).go i H ∧ ∃ N : St → Hp → Prop, (∀ σ' H', N σ' H' → ∃ m', m' < m ∧ W (i + 1) m' σ' H') ∧ ∀ x H', (Itt K a).yld i H x H' → g x σ H' fun σ2 H2 => tb { D with nx := N, ct := N, bk := D.nx } σ2 H2) := by
  refine ⟨fun i m σ H => m = xs.length - i ∧ i ≤ xs.length ∧ Pv i σ H, ⟨xs.length, by simp, Nat.zero_le _, h0⟩, ?_⟩
  rintro i m σ H ⟨rfl, hi, p⟩
  have q := hl i σ H hi p
  by_cases hlt : i < xs.length
  · refine .inr ⟨⟨xs, xs[i], q, by simp [hlt]⟩, Pv (i + 1), fun σ' H' p' => ⟨xs.length - (i + 1), by omega, rfl, hlt, p'⟩, fun x H' y => ?_⟩
    obtain ⟨e, y⟩ := y
    subst e
    exact hs i x σ _ (y xs q) p
  · have e : i = xs.length := by omega
    subst e
    exact .inl ⟨⟨xs, q, Nat.le_refl _⟩, hd σ H p⟩
theorem for_range {lo : Int} {n : Nat} {g : TG} {tb : TS} {D : Ends} {σ : St} {H : Hp} (Pv : Nat → St → Hp → Prop) (h0 : Pv 0 σ H)
    (hs : ∀ i σ H, i < n → Pv i σ H → g (.int (lo + i)) σ H fun σ2 H2 => tb { D with nx := Pv (i + 1), ct := Pv (i + 1), bk := D.nx } σ2 H2) (hd : ∀ σ H, Pv n σ H → D.nx σ H) :
    ∃ W : Nat → Nat → St → Hp → Prop, (∃ m, W 0 m σ H) ∧ ∀ i m σ H, W i m σ H →
      ((Itr lo n).stop i H ∧ D.nx σ H) ∨ ((Itr lo n).go i H ∧ ∃ N : St → Hp → Prop, (∀ σ' H', N σ' H' → ∃ m', m' < m ∧ W (i + 1) m' σ' H') ∧ ∀ x H', (Itr lo n).yld i H x H' → g x σ H' fun σ2 H2 => tb { D with nx := N, ct := N, bk := D.nx } σ2 H2) := by
  refine ⟨fun i m σ H => m = n - i ∧ i ≤ n ∧ Pv i σ H, ⟨n, by simp, Nat.zero_le _, h0⟩, ?_⟩
  rintro i m σ H ⟨rfl, hi, p⟩
  by_cases hlt : i < n
  · refine .inr ⟨hlt, Pv (i + 1), fun σ' H' p' => ⟨n - (i + 1), by omega, rfl, hlt, p'⟩, fun x H' y => ?_⟩
    obtain ⟨e, y⟩ := y
    subst e y
    exact hs i σ _ hlt p
  · have e : i = n := by omega
    subst e
    exact .inl ⟨Nat.le_refl _, hd σ H p⟩
/-- while, by a word and a measure of the state -/
theorem while_by {c : TT} {tb : TS} {D : Ends} {σ : St} {H : Hp} (Pv : St → Hp → Prop) (μ : St → Hp → Nat) (h0 : Pv σ H)
    (hs : ∀ σ H, Pv σ H → c σ H fun b H1 => if b = true then tb { D with nx := fun σ' H' => Pv σ' H' ∧ μ σ' H' < μ σ H, ct := fun σ' H' => Pv σ' H' ∧ μ σ' H' < μ σ H, bk := D.nx } σ H1 else D.nx σ H1)
    (mono : ∀ σ H Q Q', (∀ b H1, Q b H1 → Q' b H1) → c σ H Q → c σ H Q') : tWhile c tb D σ H := by
  refine ⟨fun m σ H => m = μ σ H ∧ Pv σ H, ⟨_, rfl, h0⟩, ?_⟩
  rintro m σ H ⟨rfl, p⟩
  refine mono σ H _ _ (fun b H1 q => ?_) (hs σ H p)
  cases b with
  | true => exact ⟨_, fun σ' H' ⟨p', l⟩ => ⟨_, l, rfl, p'⟩, q⟩
  | false => exact q
end L2

namespace L2
open PySem PySem.Spec PyProof.Rows

abbrev R2 := V → V → Hp → VK → Prop
/-- a two-place operation on values: f is binaryOp op, inplaceOp op or compareOp op -/
def OpR (X : Cx) (f : Value → Value → Sem Value) (r : R2) : Prop :=
  ∀ (pins : List (Addr × Obj)) (s : Shared) (σ : St) (H : Hp) (x y : V) (v u : Value) (Q : VK), Inv X pins σ H s → RelV x v → RelV y u → r x y H Q →
    wpAny (model X.prog X.w) X.A (f v u) (EP X pins σ Q) X.xe s
/-- a one-place operation -/
def UnR (X : Cx) (f : Value → Sem Value) (r : V → Hp → VK → Prop) : Prop :=
  ∀ (pins : List (Addr × Obj)) (s : Shared) (σ : St) (H : Hp) (x : V) (v : Value) (Q : VK), Inv X pins σ H s → RelV x v → r x H Q →
    wpAny (model X.prog X.w) X.A (f v) (EP X pins σ Q) X.xe s
/-- a call of a value that is known (a builtin, a type) with values -/
def CallR (X : Cx) (f : Value) (r : List V → Hp → VK → Prop) : Prop :=
  ∀ (pins : List (Addr × Obj)) (s : Shared) (σ : St) (H : Hp) (xs : List V) (us : List Value) (Q : VK), Inv X pins σ H s → Vals xs us → r xs H Q →
    wpAny (model X.prog X.w) X.A (call f us) (EP X pins σ Q) X.xe s
/-- a value's truth -/
def TruR (X : Cx) (r : V → Hp → (Bool → Hp → Prop) → Prop) : Prop :=
  ∀ (pins : List (Addr × Obj)) (s : Shared) (σ : St) (H : Hp) (x : V) (v : Value) (Q : Bool → Hp → Prop), Inv X pins σ H s → RelV x v → r x H Q →
    wpAny (model X.prog X.w) X.A (truthy v) (TP X pins σ Q) X.xe s

def tOp (r : R2) (ta tb : TE) : TE := fun σ H Q => ta σ H fun x H1 => tb σ H1 fun y H2 => r x y H2 Q
def tUn (r : V → Hp → VK → Prop) (ta : TE) : TE := fun σ H Q => ta σ H fun x H1 => r x H1 Q
/-- ints in, under C, and a value out -/
def rI (C : Int → Int → Prop) (g : Int → Int → V) : R2 := fun x y H Q => ∃ i j, x = .int i ∧ y = .int j ∧ C i j ∧ Q (g i j) H
def rI0 (g : Int → Int → V) : R2 := fun x y H Q => ∃ i j, x = .int i ∧ y = .int j ∧ Q (g i j) H
def rU (g : Int → V) : V → Hp → VK → Prop := fun x H Q => ∃ i, x = .int i ∧ Q (g i) H

section
variable {X : Cx} {a b c : Expr} {ta tb tc : TE} {pos : Pos}

theorem binT (ha : PE X a ta) (hb : PE X b tb) {pins : List (Addr × Obj)} {s : Shared} {σ : St} {H : Hp} {R : V → V → Hp → Prop} (I : Inv X pins σ H s)
    (h : ta σ H fun x H1 => tb σ H1 fun y H2 => R x y H2) {Q : Value → Shared → Prop} {f : Value → Value → Sem Value}
    (hf : ∀ v u s2 x y H2, Inv X pins σ H2 s2 → RelV x v → RelV y u → R x y H2 → wpAny (model X.prog X.w) X.A (f v u) Q X.xe s2) :
    wpAny (model X.prog X.w) X.A (eval a X.env) (fun v s₁ => wpAny (model X.prog X.w) X.A (eval b X.env) (fun u s₂ => wpAny (model X.prog X.w) X.A (f v u) Q X.xe s₂) X.xe s₁) X.xe s := by
  refine thn (ha pins s σ H _ I h) fun v s1 ⟨x, H1, I1, r1, q1⟩ => ?_
  refine thn (hb pins s1 σ H1 _ I1 q1) fun u s2 ⟨y, H2, I2, r2, q2⟩ => ?_
  exact hf v u s2 x y H2 I2 r1 r2 q2

theorem pe_op {op : Operator} {r : R2} (ho : OpR X (binaryOp op) r) (ha : PE X a ta) (hb : PE X b tb) : PE X (.BinOp a op b pos) (tOp r ta tb) := by
  intro pins s σ H Q I h
  exact wpAny_BinOp (binT ha hb I h fun v u s2 x y H2 I2 rx ry q => ho pins s2 σ H2 x y v u Q I2 rx ry q)
theorem pe_un {op : UnaryOp} {r : V → Hp → VK → Prop} (ho : UnR X (unaryOp op) r) (ha : PE X a ta) : PE X (.UnaryOp op a pos) (tUn r ta) := by
  intro pins s σ H Q I h
  exact UnaryOp_ (thn (ha pins s σ H _ I h) fun v s1 ⟨x, H1, I1, r1, q1⟩ => ho pins s1 σ H1 x v Q I1 r1 q1)
/-- a op= e at a name: the name's slot i -/
theorem augR {op : Operator} {r : R2} (ho : OpR X (inplaceOp op) r) {pins : List (Addr × Obj)} {s : Shared} {σ : St} {H : Hp} {x y : V} {v u : Value} {Q : VK} (I : Inv X pins σ H s)
    (rx : RelV x v) (ry : RelV y u) (q : r x y H Q) : wpAny (model X.prog X.w) X.A (inplaceOp op v u) (EP X pins σ Q) X.xe s := ho pins s σ H x y v u Q I rx ry q

/-! ### ints -/
theorem opI {f : Value → Value → Sem Value} {C : Int → Int → Prop} {g : Int → Int → Int}
    (rule : ∀ (i j : Int) (t u : Tok) (s : Shared) (Q : Value → Shared → Prop) (E : Value → Shared → Prop), C i j → Q (.int (g i j) s.toks) { s with toks := s.toks + 1 } → wpAny (model X.prog X.w) X.A (f (.int i t) (.int j u)) Q E s) :
    OpR X f (rI C fun i j => .int (g i j)) := by
  intro pins s σ H x y v u Q I rx ry h
  obtain ⟨i, j, rfl, rfl, hc, q⟩ := h
  obtain ⟨t, rfl⟩ := rx
  obtain ⟨t', rfl⟩ := ry
  exact rule i j t t' s _ _ hc ⟨.int (g i j), H, I.tok _, ⟨_, rfl⟩, q⟩
theorem opI0 {f : Value → Value → Sem Value} {g : Int → Int → Int}
    (rule : ∀ (i j : Int) (t u : Tok) (s : Shared) (Q : Value → Shared → Prop) (E : Value → Shared → Prop), Q (.int (g i j) s.toks) { s with toks := s.toks + 1 } → wpAny (model X.prog X.w) X.A (f (.int i t) (.int j u)) Q E s) :
    OpR X f (rI0 fun i j => .int (g i j)) := by
  intro pins s σ H x y v u Q I rx ry h
  obtain ⟨i, j, rfl, rfl, q⟩ := h
  obtain ⟨t, rfl⟩ := rx
  obtain ⟨t', rfl⟩ := ry
  exact rule i j t t' s _ _ ⟨.int (g i j), H, I.tok _, ⟨_, rfl⟩, q⟩
theorem opB0 {f : Value → Value → Sem Value} {g : Int → Int → Bool}
    (rule : ∀ (i j : Int) (t u : Tok) (s : Shared) (Q : Value → Shared → Prop) (E : Value → Shared → Prop), Q (.bool (g i j)) s → wpAny (model X.prog X.w) X.A (f (.int i t) (.int j u)) Q E s) :
    OpR X f (rI0 fun i j => .bl (g i j)) := by
  intro pins s σ H x y v u Q I rx ry h
  obtain ⟨i, j, rfl, rfl, q⟩ := h
  obtain ⟨t, rfl⟩ := rx
  obtain ⟨t', rfl⟩ := ry
  exact rule i j t t' s _ _ ⟨.bl (g i j), H, I, rfl, q⟩

def CDiv (i j : Int) : Prop := 0 < j ∧ j < 1073741824
def CDivN (i j : Int) : Prop := j ≠ 0 ∧ j.natAbs < 1073741824
def CPow (i j : Int) : Prop := 0 ≤ j ∧ j ≤ 1000000 ∧ i.natAbs < 2 ^ 64
def CMul (i j : Int) : Prop := (-(2 ^ 64) < i ∧ i < 2 ^ 64) ∨ (-(2 ^ 64) < j ∧ j < 2 ^ 64)
theorem CMul.ok {i j : Int} (h : CMul i j) : IntMulOk i j := by
  rcases h with ⟨h1, h2⟩ | ⟨h1, h2⟩
  · exact .of_left (intBits_le_64 h1 h2)
  · exact .of_right (intBits_le_64 h1 h2)
theorem two_pow_nn (k : Nat) : (0 : Int) ≤ 2 ^ k := by
  rw [two_pow_cast]
  exact Int.natCast_nonneg _

theorem op_add : OpR X (binaryOp .Add) (rI0 fun i j => .int (i + j)) := opI0 fun _ _ _ _ _ _ _ q => add_int q
theorem op_sub : OpR X (binaryOp .Sub) (rI0 fun i j => .int (i - j)) := opI0 fun _ _ _ _ _ _ _ q => sub_int q
theorem op_mul : OpR X (binaryOp .Mult) (rI CMul fun i j => .int (i * j)) := opI fun _ _ _ _ _ _ _ hc q => mul_int q hc.ok
/-- // by a positive divisor -/
theorem op_fdiv : OpR X (binaryOp .FloorDiv) (rI CDiv fun i j => .int (i / j)) := opI fun i j _ _ _ _ _ hc q => by
  have h1 : (0 : Int) < j := hc.1
  have h2 : j < 1073741824 := hc.2
  exact floordiv_int (by omega) (by rw [Int.fdiv_eq_ediv_of_nonneg i (by omega)]; exact q) (.inl (PyProof.noPylong_small (by omega)))
theorem op_fdivN : OpR X (binaryOp .FloorDiv) (rI CDivN fun i j => .int (i.fdiv j)) := opI fun _ _ _ _ _ _ _ hc q => floordiv_int hc.1 q (.inl (PyProof.noPylong_small hc.2))
/-- % by a positive divisor of any size -/
theorem op_mod : OpR X (binaryOp .Mod) (rI (fun _ j => 0 < j) fun i j => .int (i % j)) := opI fun i j _ _ _ _ _ hc q => by
  have h1 : (0 : Int) < j := hc
  exact mod_int' (by omega) (by rw [Int.fmod_eq_emod_of_nonneg i (by omega)]; exact q)
theorem op_modN : OpR X (binaryOp .Mod) (rI (fun _ j => j ≠ 0) fun i j => .int (i.fmod j)) := opI fun _ _ _ _ _ _ _ hc q => mod_int' hc q
theorem op_pow : OpR X (binaryOp .Pow) (rI CPow fun i j => .int (i ^ j.toNat)) := opI fun _ _ _ _ _ _ _ hc q => pow_int_small hc.1 hc.2.1 hc.2.2 q
theorem op_shl : OpR X (binaryOp .LShift) (rI CPow fun i j => .int (i * 2 ^ j.toNat)) := opI fun _ _ _ _ _ _ _ hc q => lshift_int_small hc.1 hc.2.1 hc.2.2 q
theorem op_shr : OpR X (binaryOp .RShift) (rI (fun _ j => 0 ≤ j) fun i j => .int (i / 2 ^ j.toNat)) := opI fun i j _ _ _ _ _ hc q =>
  rshift_int hc (by rw [Int.fdiv_eq_ediv_of_nonneg i (two_pow_nn _)]; exact q)
theorem op_and : OpR X (binaryOp .BitAnd) (rI0 fun i j => .int (Builtin.bitAnd i j)) := opI0 fun _ _ _ _ _ _ _ q => and_int q
theorem op_or : OpR X (binaryOp .BitOr) (rI0 fun i j => .int (Builtin.bitOr i j)) := opI0 fun _ _ _ _ _ _ _ q => or_int q
theorem op_xor : OpR X (binaryOp .BitXor) (rI0 fun i j => .int (Builtin.bitXor i j)) := opI0 fun _ _ _ _ _ _ _ q => xor_int q

theorem iop_add : OpR X (inplaceOp .Add) (rI0 fun i j => .int (i + j)) := opI0 fun _ _ _ _ _ _ _ q => iadd_int q
theorem iop_sub : OpR X (inplaceOp .Sub) (rI0 fun i j => .int (i - j)) := opI0 fun _ _ _ _ _ _ _ q => isub_int q
theorem iop_mul : OpR X (inplaceOp .Mult) (rI CMul fun i j => .int (i * j)) := opI fun _ _ _ _ _ _ _ hc q => imul_int q hc.ok
theorem iop_fdiv : OpR X (inplaceOp .FloorDiv) (rI CDiv fun i j => .int (i / j)) := opI fun i j _ _ _ _ _ hc q => by
  have h1 : (0 : Int) < j := hc.1
  have h2 : j < 1073741824 := hc.2
  exact ifloordiv_int (by omega) (by rw [Int.fdiv_eq_ediv_of_nonneg i (by omega)]; exact q) (.inl (PyProof.noPylong_small (by omega)))
theorem iop_mod : OpR X (inplaceOp .Mod) (rI (fun _ j => 0 < j) fun i j => .int (i % j)) := opI fun i j _ _ _ _ _ hc q => by
  have h1 : (0 : Int) < j := hc
  exact imod_int (by omega) (by rw [Int.fmod_eq_emod_of_nonneg i (by omega)]; exact q)
theorem iop_shl : OpR X (inplaceOp .LShift) (rI CPow fun i j => .int (i * 2 ^ j.toNat)) := opI fun _ _ _ _ _ _ _ hc q => ilshift_int_small hc.1 hc.2.1 hc.2.2 q
theorem iop_shr : OpR X (inplaceOp .RShift) (rI (fun _ j => 0 ≤ j) fun i j => .int (i / 2 ^ j.toNat)) := opI fun i j _ _ _ _ _ hc q =>
  irshift_int hc (by rw [Int.fdiv_eq_ediv_of_nonneg i (two_pow_nn _)]; exact q)
theorem iop_and : OpR X (inplaceOp .BitAnd) (rI0 fun i j => .int (Builtin.bitAnd i j)) := opI0 fun _ _ _ _ _ _ _ q => iand_int q
theorem iop_or : OpR X (inplaceOp .BitOr) (rI0 fun i j => .int (Builtin.bitOr i j)) := opI0 fun _ _ _ _ _ _ _ q => ior_int q
theorem iop_xor : OpR X (inplaceOp .BitXor) (rI0 fun i j => .int (Builtin.bitXor i j)) := opI0 fun _ _ _ _ _ _ _ q => ixor_int q

theorem unI {f : Value → Sem Value} {g : Int → Int}
    (rule : ∀ (i : Int) (t : Tok) (s : Shared) (Q : Value → Shared → Prop) (E : Value → Shared → Prop), Q (.int (g i) s.toks) { s with toks := s.toks + 1 } → wpAny (model X.prog X.w) X.A (f (.int i t)) Q E s) :
    UnR X f (rU fun i => .int (g i)) := by
  intro pins s σ H x v Q I rx h
  obtain ⟨i, rfl, q⟩ := h
  obtain ⟨t, rfl⟩ := rx
  exact rule i t s _ _ ⟨.int (g i), H, I.tok _, ⟨_, rfl⟩, q⟩
theorem un_neg : UnR X (unaryOp .USub) (rU fun i => .int (-i)) := unI fun _ _ _ _ _ q => neg_int q
theorem un_inv : UnR X (unaryOp .Invert) (rU fun i => .int (Builtin.bitNot i)) := unI fun _ _ _ _ _ q => invert_int q

/-! ### bools among ints: n += (a < b) -/
theorem op_add_ib : OpR X (binaryOp .Add) (fun x y H Q => ∃ i k, x = .int i ∧ y = .bl k ∧ Q (.int (i + b2i k)) H) := by
  intro pins s σ H x y v u Q I rx ry h
  obtain ⟨i, k, rfl, rfl, q⟩ := h
  obtain ⟨t, rfl⟩ := rx
  cases ry
  exact add_int_bool ⟨.int (i + b2i k), H, I.tok _, ⟨_, rfl⟩, q⟩
end

/-! ### comparisons -/
/-- the scalars that == tells apart as data does -/
def scal : V → V → Bool
  | .non, .non => true | .non, .int _ => true | .int _, .non => true | .non, .bl _ => true | .bl _, .non => true | .non, .str _ => true | .str _, .non => true
  | .int _, .int _ => true | .bl _, .bl _ => true | .str _, .str _ => true | .byt _, .byt _ => true
  | .int _, .str _ => true | .str _, .int _ => true | .bl _, .str _ => true | .str _, .bl _ => true
  | _, _ => false
def rEq : R2 := fun x y H Q => scal x y = true ∧ Q (.bl (decide (x = y))) H
def rNe : R2 := fun x y H Q => scal x y = true ∧ Q (.bl (!decide (x = y))) H

theorem dec_int {i j : Int} : decide (V.int i = V.int j) = (i == j) := by
  rw [Bool.eq_iff_iff]
  simp
theorem dec_bl {i j : Bool} : decide (V.bl i = V.bl j) = (i == j) := by
  rw [Bool.eq_iff_iff]
  simp
theorem dec_str {i j : Str} : decide (V.str i = V.str j) = (i == j) := by
  rw [Bool.eq_iff_iff]
  simp
theorem dec_byt {i j : Array UInt8} : decide (V.byt i = V.byt j) = (i.toList == j.toList) := by
  rw [Bool.eq_iff_iff]
  cases i
  cases j
  simp

section
variable {X : Cx} {a b c : Expr} {ta tb tc : TE} {pos : Pos}
theorem fin_bl {pins : List (Addr × Obj)} {σ : St} {H : Hp} {s : Shared} {Q : VK} {k k' : Bool} (I : Inv X pins σ H s) (q : Q (.bl k) H) (e : k = k') : EP X pins σ Q (.bool k') s := by
  subst e
  exact ⟨.bl k, H, I, rfl, q⟩
theorem op_eq : OpR X (compareOp .Eq) rEq := by
  intro pins s σ H x y v u Q I rx ry h
  obtain ⟨hs, q⟩ := h
  cases x with
  | non =>
    cases rx
    cases y with
    | non => cases ry; exact PySem.EqNone.eq_none_none (fin_bl I q (by simp))
    | bl j => cases ry; exact PySem.EqNone.eq_none_bool (fin_bl I q (by simp))
    | int j => obtain ⟨t', rfl⟩ := ry; exact PySem.EqNone.eq_none_int (fin_bl I q (by simp))
    | str j => obtain ⟨t', rfl⟩ := ry; exact PySem.EqNone.eq_none_str (fin_bl I q (by simp))
    | _ => exact absurd (show false = true from hs) Bool.false_ne_true
  | bl i =>
    cases rx
    cases y with
    | non => cases ry; exact PySem.EqNone.eq_bool_none (fin_bl I q (by simp))
    | bl j => cases ry; exact eq_bool (fin_bl I q dec_bl)
    | str j => obtain ⟨t', rfl⟩ := ry; exact PySem.EqMixed.eq_bool_str (fin_bl I q (by simp))
    | _ => exact absurd (show false = true from hs) Bool.false_ne_true
  | int i =>
    obtain ⟨t, rfl⟩ := rx
    cases y with
    | non => cases ry; exact PySem.EqNone.eq_int_none (fin_bl I q (by simp))
    | int j => obtain ⟨t', rfl⟩ := ry; exact eq_int (fin_bl I q dec_int)
    | str j => obtain ⟨t', rfl⟩ := ry; exact PySem.EqMixed.eq_int_str (fin_bl I q (by simp))
    | _ => exact absurd (show false = true from hs) Bool.false_ne_true
  | str i =>
    obtain ⟨t, rfl⟩ := rx
    cases y with
    | non => cases ry; exact PySem.EqNone.eq_str_none (fin_bl I q (by simp))
    | bl j => cases ry; exact PySem.EqMixed.eq_str_bool (fin_bl I q (by simp))
    | int j => obtain ⟨t', rfl⟩ := ry; exact PySem.EqMixed.eq_str_int (fin_bl I q (by simp))
    | str j => obtain ⟨t', rfl⟩ := ry; exact eq_str (fin_bl I q dec_str)
    | _ => exact absurd (show false = true from hs) Bool.false_ne_true
  | byt i =>
    obtain ⟨t, rfl⟩ := rx
    cases y with
    | byt j => obtain ⟨t', rfl⟩ := ry; exact PySem.W.eq_bytes (fin_bl I q dec_byt)
    | _ => exact absurd (show false = true from hs) Bool.false_ne_true
  | _ => cases y <;> exact absurd (show false = true from hs) Bool.false_ne_true
theorem op_ne : OpR X (compareOp .NotEq) rNe := by
  intro pins s σ H x y v u Q I rx ry h
  obtain ⟨hs, q⟩ := h
  cases x with
  | non =>
    cases rx
    cases y with
    | non => cases ry; exact PySem.EqNone.ne_none_none (fin_bl I q (by simp))
    | bl j => cases ry; exact PySem.EqNone.ne_none_bool (fin_bl I q (by simp))
    | int j => obtain ⟨t', rfl⟩ := ry; exact PySem.EqNone.ne_none_int (fin_bl I q (by simp))
    | str j => obtain ⟨t', rfl⟩ := ry; exact PySem.EqNone.ne_none_str (fin_bl I q (by simp))
    | _ => exact absurd (show false = true from hs) Bool.false_ne_true
  | bl i =>
    cases rx
    cases y with
    | non => cases ry; exact PySem.EqNone.ne_bool_none (fin_bl I q (by simp))
    | bl j => cases ry; exact ne_bool (fin_bl I q (congrArg not dec_bl))
    | str j => obtain ⟨t', rfl⟩ := ry; exact PySem.EqMixed.ne_bool_str (fin_bl I q (by simp))
    | _ => exact absurd (show false = true from hs) Bool.false_ne_true
  | int i =>
    obtain ⟨t, rfl⟩ := rx
    cases y with
    | non => cases ry; exact PySem.EqNone.ne_int_none (fin_bl I q (by simp))
    | int j => obtain ⟨t', rfl⟩ := ry; exact ne_int (fin_bl I q (congrArg not dec_int))
    | str j => obtain ⟨t', rfl⟩ := ry; exact PySem.EqMixed.ne_int_str (fin_bl I q (by simp))
    | _ => exact absurd (show false = true from hs) Bool.false_ne_true
  | str i =>
    obtain ⟨t, rfl⟩ := rx
    cases y with
    | non => cases ry; exact PySem.EqNone.ne_str_none (fin_bl I q (by simp))
    | bl j => cases ry; exact PySem.EqMixed.ne_str_bool (fin_bl I q (by simp))
    | int j => obtain ⟨t', rfl⟩ := ry; exact PySem.EqMixed.ne_str_int (fin_bl I q (by simp))
    | str j => obtain ⟨t', rfl⟩ := ry; exact ne_str (fin_bl I q (congrArg not dec_str))
    | _ => exact absurd (show false = true from hs) Bool.false_ne_true
  | byt i =>
    obtain ⟨t, rfl⟩ := rx
    cases y with
    | byt j => obtain ⟨t', rfl⟩ := ry; exact PySem.W.ne_bytes (fin_bl I q (congrArg not dec_byt))
    | _ => exact absurd (show false = true from hs) Bool.false_ne_true
  | _ => cases y <;> exact absurd (show false = true from hs) Bool.false_ne_true

theorem op_lt : OpR X (compareOp .Lt) (rI0 fun i j => .bl (decide (i < j))) := opB0 fun _ _ _ _ _ _ _ q => lt_int q
theorem op_le : OpR X (compareOp .LtE) (rI0 fun i j => .bl (decide (i ≤ j))) := opB0 fun _ _ _ _ _ _ _ q => le_int q
theorem op_gt : OpR X (compareOp .Gt) (rI0 fun i j => .bl (decide (j < i))) := opB0 fun _ _ _ _ _ _ _ q => gt_int q
theorem op_ge : OpR X (compareOp .GtE) (rI0 fun i j => .bl (decide (j ≤ i))) := opB0 fun _ _ _ _ _ _ _ q => ge_int q
theorem op_lt_str : OpR X (compareOp .Lt) (fun x y H Q => ∃ i j, x = .str i ∧ y = .str j ∧ Q (.bl (decide (i.cps.toList < j.cps.toList))) H) := by
  intro pins s σ H x y v u Q I rx ry h
  obtain ⟨i, j, rfl, rfl, q⟩ := h
  obtain ⟨t, rfl⟩ := rx
  obtain ⟨t', rfl⟩ := ry
  exact lt_str (fin_bl I q rfl)
/-- the one string within the other -/
theorem op_in_str : OpR X (compareOp .In) (fun x y H Q => ∃ i j, x = .str i ∧ y = .str j ∧ Q (.bl (!(Builtin.Str.occurrences j i 0 j.length 1).isEmpty)) H) := by
  intro pins s σ H x y v u Q I rx ry h
  obtain ⟨i, j, rfl, rfl, q⟩ := h
  obtain ⟨t, rfl⟩ := rx
  obtain ⟨t', rfl⟩ := ry
  exact in_str (fin_bl I q rfl)

/-- is None, is not None: the right side a value none -/
theorem op_isN : OpR X (compareOp .Is) (fun x y H Q => y = .non ∧ Q (.bl (decide (x = .non))) H) := by
  intro pins s σ H x y v u Q I rx ry h
  obtain ⟨rfl, q⟩ := h
  cases ry
  refine is_none_gen (fin_bl I q ?_)
  cases x <;> first
    | (cases rx; rfl)
    | (obtain ⟨t, rfl⟩ := rx; rfl)
theorem op_notN : OpR X (compareOp .IsNot) (fun x y H Q => y = .non ∧ Q (.bl (!decide (x = .non))) H) := by
  intro pins s σ H x y v u Q I rx ry h
  obtain ⟨rfl, q⟩ := h
  cases ry
  refine isnot_none_gen (fin_bl I q ?_)
  cases x <;> first
    | (cases rx; rfl)
    | (obtain ⟨t, rfl⟩ := rx; rfl)

theorem op_notin_str : OpR X (compareOp .NotIn) (fun x y H Q => ∃ i j, x = .str i ∧ y = .str j ∧ Q (.bl (!(!(Builtin.Str.occurrences j i 0 j.length 1).isEmpty))) H) := by
  intro pins s σ H x y v u Q I rx ry h
  obtain ⟨i, j, rfl, rfl, q⟩ := h
  obtain ⟨t, rfl⟩ := rx
  obtain ⟨t', rfl⟩ := ry
  exact notIn_str (fin_bl I q rfl)
/-- is, is not of two objects that are tracked lists or instances -/
def isObj : HO → Bool
  | .lst _ => true
  | .ins _ _ _ => true
  | _ => false
theorem obj_there {pins : List (Addr × Obj)} {s : Shared} {σ : St} {H : Hp} {a : Addr} {o : HO} (I : Inv X pins σ H s) (h : H a = some o) (p : isObj o = true) : ∃ ob, s.heap.get? a = some ob ∧ ob.cls ≠ .type "tuple" := by
  cases o with
  | lst xs =>
    obtain ⟨_, its, n, _, e⟩ : xs.length ≤ sizeLine ∧ ∃ (its : List Value) (n : Nat), Vals xs its ∧ s.heap.get? a = some { cls := .type "list", data := .seq its.toArray n } := I.hok a _ h
    exact ⟨_, e, (by show Value.type "list" ≠ .type "tuple"; decide +kernel)⟩
  | ins C dx fs =>
    have x := I.hok a _ h
    obtain ⟨_, _, _, e, _⟩ := x
    exact ⟨_, e, (by show Value.ref C ≠ .type "tuple"; exact fun z => by cases z)⟩
  | _ => exact absurd (show false = true from p) Bool.false_ne_true
theorem op_is_ref : OpR X (compareOp .Is) (fun x y H Q => ∃ a b oa ob, x = .ref a ∧ y = .ref b ∧ H a = some oa ∧ isObj oa = true ∧ H b = some ob ∧ isObj ob = true ∧ Q (.bl (decide (a = b))) H) := by
  intro pins s σ H x y v u Q I rx ry h
  obtain ⟨a, b, oa, ob, rfl, rfl, ha, pa, hb, pb, q⟩ := h
  cases rx
  cases ry
  obtain ⟨o1, e1, n1⟩ := obj_there I ha pa
  obtain ⟨o2, e2, _⟩ := obj_there I hb pb
  by_cases z : a = b
  · subst z
    exact wpAny_is_ref_self (fin_bl I q (by simp))
  · exact wpAny_is_ref_other z e1 e2 n1 (fin_bl I q (by simp [z]))
theorem op_isnot_ref : OpR X (compareOp .IsNot) (fun x y H Q => ∃ a b oa ob, x = .ref a ∧ y = .ref b ∧ H a = some oa ∧ isObj oa = true ∧ H b = some ob ∧ isObj ob = true ∧ Q (.bl (!decide (a = b))) H) := by
  intro pins s σ H x y v u Q I rx ry h
  obtain ⟨a, b, oa, ob, rfl, rfl, ha, pa, hb, pb, q⟩ := h
  cases rx
  cases ry
  obtain ⟨o1, e1, n1⟩ := obj_there I ha pa
  obtain ⟨o2, e2, _⟩ := obj_there I hb pb
  by_cases z : a = b
  · subst z
    exact wpAny_isNot_ref_self (fin_bl I q (by simp))
  · exact wpAny_isNot_ref_other z e1 e2 n1 (fin_bl I q (by simp [z]))

/-- two rules for one operation: by cases -/
theorem OpR.or {f : Value → Value → Sem Value} {r r' : R2} (h : OpR X f r) (h' : OpR X f r') : OpR X f (fun x y H Q => r x y H Q ∨ r' x y H Q) := by
  intro pins s σ H x y v u Q I rx ry q
  rcases q with q | q
  · exact h pins s σ H x y v u Q I rx ry q
  · exact h' pins s σ H x y v u Q I rx ry q

theorem nomark (b : Expr) {op : CmpOp} (h : op ≠ .In := by decide) (h2 : op ≠ .NotIn := by decide) : behindInMarks op b = false := by
  have e1 : (op == CmpOp.In) = false := by cases op <;> first | rfl | exact absurd rfl h
  have e2 : (op == CmpOp.NotIn) = false := by cases op <;> first | rfl | exact absurd rfl h2
  cases b <;> simp [behindInMarks, e1, e2]
/-- a comparison as a value; hm: nomark b, or (for in, not in) by with_unfolding_all rfl -/
theorem pe_cmpR {op : CmpOp} {r : R2} (ho : OpR X (compareOp op) r) (ha : PE X a ta) (hb : PE X b tb) (hm : behindInMarks op b = false) : PE X (.Compare a [op] [b] pos) (tOp r ta tb) := by
  intro pins s σ H Q I h
  exact wpAny_Compare1 (binT ha hb I h fun v u s2 x y H2 I2 rx ry q => ho pins s2 σ H2 x y v u Q I2 rx ry q) hm
/-- a reading of a value as a test -/
def tTest (t : TE) : TT := fun σ H Q => t σ H fun x H' => ∃ k, x = .bl k ∧ Q k H'
theorem pt_cmpR {op : CmpOp} {r : R2} (ho : OpR X (compareOp op) r) (ha : PE X a ta) (hb : PE X b tb) (hm : behindInMarks op b = false) : PT X (.Compare a [op] [b] pos) (tTest (tOp r ta tb)) := by
  intro pins s σ H Q I h
  refine wpAny_isTrue_Compare1 (thn (ha pins s σ H _ I h) fun v s1 ⟨x, H1, I1, r1, q1⟩ => thn (hb pins s1 σ H1 _ I1 q1) fun u s2 ⟨y, H2, I2, r2, q2⟩ =>
    thn (ho pins s2 σ H2 x y v u _ I2 r1 r2 q2) fun c s3 ⟨z, H3, I3, r3, k, e, q3⟩ => ?_) hm
  subst e
  cases r3
  exact wpAny_truthy_bool ⟨H3, I3, q3⟩
/-- a op1 b op2 c -/
def tChain (r r' : R2) (ta tb tc : TE) : TE := fun σ H Q => ta σ H fun x H1 => tb σ H1 fun y H2 => r x y H2 fun z H3 => ∃ k, z = .bl k ∧
  (if k = true then tc σ H3 fun w' H4 => r' y w' H4 Q else Q (.bl false) H3)
theorem pe_chain {op op' : CmpOp} {r r' : R2} (ho : OpR X (compareOp op) r) (ho' : OpR X (compareOp op') r') (ha : PE X a ta) (hb : PE X b tb) (hc : PE X c tc)
    (hm : lastMarks [op, op'] [b, c] = false := by with_unfolding_all rfl) : PE X (.Compare a [op, op'] [b, c] pos) (tChain r r' ta tb tc) := by
  intro pins s σ H Q I h
  refine Compare_chain (thn (ha pins s σ H _ I h) fun v s1 ⟨x, H1, I1, r1, q1⟩ => chain_link (thn (hb pins s1 σ H1 _ I1 q1) fun u s2 ⟨y, H2, I2, r2, q2⟩ =>
    thn (ho pins s2 σ H2 x y v u _ I2 r1 r2 q2) fun d s3 ⟨z, H3, I3, r3, k, e, q3⟩ => ?_)) hm
  subst e
  cases r3
  refine wpAny_truthy_bool ?_
  cases k with
  | false => exact ite_ff ⟨.bl false, H3, I3, rfl, q3⟩
  | true => exact ite_tt (chain_last (thn (hc pins s3 σ H3 _ I3 q3) fun w' s4 ⟨z', H4, I4, r4, q4⟩ => ho' pins s4 σ H4 y z' u w' Q I4 r2 r4 q4))
theorem pt_chain {op op' : CmpOp} {r r' : R2} (ho : OpR X (compareOp op) r) (ho' : OpR X (compareOp op') r') (ha : PE X a ta) (hb : PE X b tb) (hc : PE X c tc)
    (hm : lastMarks [op, op'] [b, c] = false := by with_unfolding_all rfl) : PT X (.Compare a [op, op'] [b, c] pos) (tTest (tChain r r' ta tb tc)) := by
  intro pins s σ H Q I h
  refine isTrue_chain (thn (ha pins s σ H _ I h) fun v s1 ⟨x, H1, I1, r1, q1⟩ => test_link (thn (hb pins s1 σ H1 _ I1 q1) fun u s2 ⟨y, H2, I2, r2, q2⟩ =>
    thn (ho pins s2 σ H2 x y v u _ I2 r1 r2 q2) fun d s3 ⟨z, H3, I3, r3, k, e, q3⟩ => ?_)) hm
  subst e
  cases r3
  refine wpAny_truthy_bool ?_
  cases k with
  | false =>
    obtain ⟨k', e', q'⟩ := q3
    cases e'
    exact ite_ff ⟨H3, I3, q'⟩
  | true =>
    refine ite_tt (test_last (thn (hc pins s3 σ H3 _ I3 q3) fun w' s4 ⟨z', H4, I4, r4, q4⟩ => thn (ho' pins s4 σ H4 y z' u w' _ I4 r2 r4 q4) fun d' s5 ⟨z2, H5, I5, r5, k2, e2, q5⟩ => ?_))
    subst e2
    cases r5
    exact wpAny_truthy_bool ⟨H5, I5, q5⟩

/-! ### truth -/
/-- a value's truth by the abstract heap -/
def TruV (K : PySem.W.Frag) (x : V) (H : Hp) (k : Bool) : Prop :=
  match x with
  | .non => k = false
  | .bl b => k = b
  | .int i => k = (i != 0)
  | .str y => y.length ≤ sizeLine ∧ k = ((y.length : Int) != 0)
  | .byt y => y.size ≤ sizeLine ∧ k = ((y.size : Int) != 0)
  | .ref p => (∃ xs, SqL K H p xs ∧ k = !xs.isEmpty) ∨ (∃ xs, SqT K H p xs ∧ k = !xs.isEmpty) ∨ ∃ kvs, H p = some (.dK kvs) ∧ k = !kvs.isEmpty
  | _ => False
theorem isEmpty_kv {κ : Type} {kvs : List (κ × V)} {vs : List (κ × Value)} (r : KV kvs vs) : (!vs.isEmpty) = !kvs.isEmpty := by
  cases r <;> rfl
theorem isEmpty_of {xs : List V} {its : List Value} (r : Vals xs its) : (!its.toArray.isEmpty) = !xs.isEmpty := by
  cases r <;> simp
theorem line63 : (sizeLine : Nat) < 2 ^ 63 := by rw [sizeLine_eq]; decide
theorem tru_ok : TruR X (fun x H Q => ∃ k, TruV X.K x H k ∧ Q k H) := by
  intro pins s σ H x v Q I rx h
  obtain ⟨k, e, q⟩ := h
  have hl := line63
  have hs : sizeLine = 16777216 := sizeLine_eq
  cases x with
  | non =>
    cases rx
    have e' : k = false := e
    subst e'
    exact truthy_none ⟨H, I, q⟩
  | bl b =>
    cases rx
    have e' : k = b := e
    subst e'
    exact wpAny_truthy_bool ⟨H, I, q⟩
  | int i =>
    obtain ⟨t, rfl⟩ := rx
    have e' : k = (i != 0) := e
    subst e'
    exact PySem.P.truthy_int ⟨H, I, q⟩
  | str y =>
    obtain ⟨t, rfl⟩ := rx
    obtain ⟨hy, e'⟩ : y.length ≤ sizeLine ∧ k = ((y.length : Int) != 0) := e
    subst e'
    exact PySem.P.truthy_str (by omega) ⟨H, I.tok _, q⟩
  | byt y =>
    obtain ⟨t, rfl⟩ := rx
    obtain ⟨hy, e'⟩ : y.size ≤ sizeLine ∧ k = ((y.size : Int) != 0) := e
    subst e'
    exact PySem.W.truthy_bytes (by omega) ⟨H, I.tok _, q⟩
  | ref p =>
    cases rx
    have e' : (∃ xs, SqL X.K H p xs ∧ k = !xs.isEmpty) ∨ (∃ xs, SqT X.K H p xs ∧ k = !xs.isEmpty) ∨ ∃ kvs, H p = some (.dK kvs) ∧ k = !kvs.isEmpty := e
    rcases e' with ⟨xs, hx, e'⟩ | ⟨xs, hx, e'⟩ | ⟨kvs, hx, e'⟩
    · subst e'
      obtain ⟨its, r, pl, hz⟩ := I.list hx
      have hlen := r.length
      exact wpAny_truthy_list pl.isList (by simp only [List.size_toArray]; omega) ⟨H, I.tok _, by rw [isEmpty_of r]; exact q⟩
    · subst e'
      obtain ⟨its, r, pl, hz⟩ := I.tuple hx
      have hlen := r.length
      exact truthy_tuple pl (by simp only [List.size_toArray]; omega) ⟨H, I.tok _, by rw [isEmpty_of r]; exact q⟩
    · subst e'
      obtain ⟨hz, hS, vs, r, m⟩ : kvs.length ≤ sizeLine ∧ (p == sysModules) = false ∧ ∃ vs, KV kvs vs ∧ s.heap.DictOf (mixKind X.prog X.w) p vs := I.hok p _ hx
      have hlen : kvs.length = vs.length := Paired.length r
      exact wpAny_truthy_dict hS m (by omega) ⟨H, I.tok _, by rw [isEmpty_kv r]; exact q⟩
  | _ => exact (show False from e).elim
/-- any expression whose test is its value's truth (a name, a call, a subscript, a field ..: he by fun _ => rfl) -/
theorem pt_truth (ha : PE X a ta) (he : ∀ whole, isTrue a X.env whole = (do let v ← whole; standAt a.pos; holding [v] (truthy v))) :
    PT X a (fun σ H Q => ta σ H fun x H' => ∃ k, TruV X.K x H' k ∧ Q k H') := by
  intro pins s σ H Q I h
  exact isTrue_plain (thn (ha pins s σ H _ I h) fun v s1 ⟨x, H1, I1, r1, q1⟩ => tru_ok pins s1 σ H1 x v Q I1 r1 q1) (he _)

/-! ### strs and bytes -/
theorem pe_byt {x : List UInt8} {k : Nat} : PE X (.Constant (.bytes x) k pos) (fun _ H Q => Q (.byt x.toArray) H) := fun _ _ _ H _ I h => PySem.W.Constant_bytes ⟨.byt x.toArray, H, I.tok _, ⟨_, rfl⟩, h⟩
theorem op_add_str : OpR X (binaryOp .Add) (fun x y H Q => ∃ i j, x = .str i ∧ y = .str j ∧ i.length + j.length ≤ sizeLine ∧ Q (.str (i ++ j)) H) := by
  intro pins s σ H x y v u Q I rx ry h
  obtain ⟨i, j, rfl, rfl, hz, q⟩ := h
  obtain ⟨t, rfl⟩ := rx
  obtain ⟨t', rfl⟩ := ry
  exact add_str (fun t' tk => ⟨.str (i ++ j), H, I.tok _, ⟨_, rfl⟩, q⟩) hz
theorem iop_add_str : OpR X (inplaceOp .Add) (fun x y H Q => ∃ i j, x = .str i ∧ y = .str j ∧ i.length + j.length ≤ sizeLine ∧ Q (.str (i ++ j)) H) := by
  intro pins s σ H x y v u Q I rx ry h
  obtain ⟨i, j, rfl, rfl, hz, q⟩ := h
  obtain ⟨t, rfl⟩ := rx
  obtain ⟨t', rfl⟩ := ry
  exact iadd_str (fun t' tk => ⟨.str (i ++ j), H, I.tok _, ⟨_, rfl⟩, q⟩) hz
theorem op_add_byt : OpR X (binaryOp .Add) (fun x y H Q => ∃ i j, x = .byt i ∧ y = .byt j ∧ i.size + j.size ≤ 16777216 ∧ Q (.byt (i ++ j)) H) := by
  intro pins s σ H x y v u Q I rx ry h
  obtain ⟨i, j, rfl, rfl, hz, q⟩ := h
  obtain ⟨t, rfl⟩ := rx
  obtain ⟨t', rfl⟩ := ry
  exact PySem.W.KBy.add_bytes hz (fun t' tk => ⟨.byt (i ++ j), H, I.tok _, ⟨_, rfl⟩, q⟩)

def PlainIxT (b : Expr) : Prop := ∀ o i, subscripted b false o i = operate [o, i] (getItem o i)
/-- s[i], 0 ≤ i < len -/
theorem pe_item_str (ha : PE X a ta) (hb : PE X b tb) (hs : PlainIxT b) :
    PE X (.Subscript a b pos) (tOp (fun x y H Q => ∃ z i c, x = .str z ∧ y = .int i ∧ 0 ≤ i ∧ i < 2 ^ 63 ∧ i < z.length ∧ z.cps[i.toNat]? = some c ∧ Q (.str ⟨#[c]⟩) H) ta tb) := by
  intro pins s σ H Q I h
  refine Subscript_ (binT ha hb I h fun v u s2 x y H2 I2 rx ry q => ?_)
  obtain ⟨z, i, c, rfl, rfl, h0, h63, h1, hc, q⟩ := q
  obtain ⟨t, rfl⟩ := rx
  obtain ⟨t', rfl⟩ := ry
  have e : seqIndex? i z.length = some i.toNat := PySem.StrLaws.seqIndex_nonneg h0 h1
  exact tail_any (typeIs_str s2 z t) slot_str_getitem.lookup (getItem_str (c := c) (by
    have e1 : decide (i < -(2 ^ 63 : Int)) = false := decide_eq_false (by omega)
    have e2 : decide (i ≥ 2 ^ 63) = false := decide_eq_false (by omega)
    rw [e1, e2] <;> rfl) (by rw [e]; exact hc) ⟨.str ⟨#[c]⟩, H2, I2.tok _, ⟨_, rfl⟩, q⟩) (hs _ _)
/-- b[i], 0 ≤ i < len -/
theorem pe_item_byt (ha : PE X a ta) (hb : PE X b tb) (hs : PlainIxT b) :
    PE X (.Subscript a b pos) (tOp (fun x y H Q => ∃ (z : List UInt8) (i : Int), x = .byt z.toArray ∧ y = .int i ∧ z.length ≤ sizeLine ∧ 0 ≤ i ∧ i < z.length ∧ Q (.int ((z.getD i.toNat 0).toNat : Nat)) H) ta tb) := by
  intro pins s σ H Q I h
  refine Subscript_ (binT ha hb I h fun v u s2 x y H2 I2 rx ry q => ?_)
  obtain ⟨z, i, rfl, rfl, hz, h0, h1, q⟩ := q
  obtain ⟨t, rfl⟩ := rx
  obtain ⟨t', rfl⟩ := ry
  have hl : sizeLine = 16777216 := sizeLine_eq
  exact tail_any (PySem.W.typeIs_bytes s2 z.toArray t) PySem.W.FB.slot_bytes_getitem.lookup (PySem.W.getItem_bytes (by omega) h0 h1 ⟨.int ((z.getD i.toNat 0).toNat : Nat), H2, I2.tok _, ⟨_, rfl⟩, q⟩) (hs _ _)

/-! ### scalar builtins, by CallR -/
theorem vals1 {x : V} {us : List Value} (r : Vals [x] us) : ∃ u, us = [u] ∧ RelV x u := by
  cases r with
  | cons r1 r2 => cases r2; exact ⟨_, rfl, r1⟩
theorem vals2 {x y : V} {us : List Value} (r : Vals [x, y] us) : ∃ u w', us = [u, w'] ∧ RelV x u ∧ RelV y w' := by
  cases r with
  | cons r1 r2 =>
    cases r2 with
    | cons r3 r4 => cases r4; exact ⟨_, _, rfl, r1, r3⟩
theorem call_abs : CallR X (.builtin "abs") (fun xs H Q => ∃ i, xs = [.int i] ∧ Q (.int (if i < 0 then -i else i)) H) := by
  intro pins s σ H xs us Q I r h
  obtain ⟨i, rfl, q⟩ := h
  obtain ⟨u, rfl, t, rfl⟩ := vals1 r
  exact call_abs_int fun u tk => ⟨.int (if i < 0 then -i else i), H, I.tok _, ⟨_, rfl⟩, q⟩
theorem call_max2 (hc : X.calm = true) : CallR X (.builtin "max") (fun xs H Q => ∃ i j, xs = [.int i, .int j] ∧ Q (.int (if j > i then j else i)) H) := by
  intro pins s σ H xs us Q I r h
  obtain ⟨i, j, rfl, q⟩ := h
  obtain ⟨u, w', rfl, ⟨t, rfl⟩, ⟨t', rfl⟩⟩ := vals2 r
  refine max_two_ints (I.ok.hd hc) fun h' tk k => ⟨_, H, I.kept k, ?_, q⟩
  by_cases hj : j > i
  · rw [if_pos hj, if_pos hj]; exact ⟨_, rfl⟩
  · rw [if_neg hj, if_neg hj]; exact ⟨_, rfl⟩
theorem call_min2 (hc : X.calm = true) : CallR X (.builtin "min") (fun xs H Q => ∃ i j, xs = [.int i, .int j] ∧ Q (.int (if j < i then j else i)) H) := by
  intro pins s σ H xs us Q I r h
  obtain ⟨i, j, rfl, q⟩ := h
  obtain ⟨u, w', rfl, ⟨t, rfl⟩, ⟨t', rfl⟩⟩ := vals2 r
  refine min_two_ints (I.ok.hd hc) fun h' tk k => ⟨_, H, I.kept k, ?_, q⟩
  by_cases hj : j < i
  · rw [if_pos hj, if_pos hj]; exact ⟨_, rfl⟩
  · rw [if_neg hj, if_neg hj]; exact ⟨_, rfl⟩
theorem call_int1 : CallR X (.type "int") (fun xs H Q => (∃ i, xs = [.int i] ∧ Q (.int i) H) ∨ ∃ k, xs = [.bl k] ∧ Q (.int (if k then 1 else 0)) H) := by
  intro pins s σ H xs us Q I r h
  rcases h with ⟨i, rfl, q⟩ | ⟨k, rfl, q⟩
  · obtain ⟨u, rfl, t, rfl⟩ := vals1 r
    exact call_int_int ⟨.int i, H, I, ⟨_, rfl⟩, q⟩
  · obtain ⟨u, rfl, r1⟩ := vals1 r
    cases r1
    exact call_int_bool ⟨.int (if k then 1 else 0), H, I.tok _, ⟨_, rfl⟩, q⟩
theorem call_bool1 : CallR X (.type "bool") (fun xs H Q => (∃ i, xs = [.int i] ∧ Q (.bl (i != 0)) H) ∨ ∃ k, xs = [.bl k] ∧ Q (.bl k) H) := by
  intro pins s σ H xs us Q I r h
  rcases h with ⟨i, rfl, q⟩ | ⟨k, rfl, q⟩
  · obtain ⟨u, rfl, t, rfl⟩ := vals1 r
    exact call_bool_int ⟨.bl (i != 0), H, I, rfl, q⟩
  · obtain ⟨u, rfl, r1⟩ := vals1 r
    cases r1
    exact call_bool_bool ⟨.bl k, H, I, rfl, q⟩
theorem call_str_int : CallR X (.type "str") (fun xs H Q => ∃ i, xs = [.int i] ∧ i.natAbs.log2 < 1920 ∧ Q (.str (toString i)) H) := by
  intro pins s σ H xs us Q I r h
  obtain ⟨i, rfl, hz, q⟩ := h
  obtain ⟨u, rfl, t, rfl⟩ := vals1 r
  exact PySem.P.str_of_int hz ⟨.str _, H, I.tok _, ⟨_, rfl⟩, q⟩
theorem call_ord : CallR X (.builtin "ord") (fun xs H Q => ∃ x, xs = [.str x] ∧ x.length = 1 ∧ Q (.int (x.cps.getD 0 0 : Nat)) H) := by
  intro pins s σ H xs us Q I r h
  obtain ⟨x, rfl, hz, q⟩ := h
  obtain ⟨u, rfl, t, rfl⟩ := vals1 r
  exact ord_of_one hz ⟨.int _, H, I.tok _, ⟨_, rfl⟩, q⟩
theorem call_chr : CallR X (.builtin "chr") (fun xs H Q => ∃ i, xs = [.int i] ∧ 0 ≤ i ∧ i ≤ 1114111 ∧ Q (.str ⟨#[i.toNat]⟩) H) := by
  intro pins s σ H xs us Q I r h
  obtain ⟨i, rfl, h0, h1, q⟩ := h
  obtain ⟨u, rfl, t, rfl⟩ := vals1 r
  exact chr_of_range h0 h1 ⟨.str _, H, I.tok _, ⟨_, rfl⟩, q⟩
/-- len of a str, a bytes, a list, a tuple -/
def LenV (K : PySem.W.Frag) (x : V) (H : Hp) (n : Nat) : Prop :=
  match x with
  | .str y => y.length ≤ sizeLine ∧ n = y.length
  | .byt y => y.size ≤ sizeLine ∧ n = y.size
  | .ref p => (∃ xs, SqL K H p xs ∧ n = xs.length) ∨ ∃ xs, SqT K H p xs ∧ n = xs.length
  | _ => False
theorem call_len : CallR X (.builtin "len") (fun xs H Q => ∃ x n, xs = [x] ∧ LenV X.K x H n ∧ Q (.int n) H) := by
  intro pins s σ H xs us Q I r h
  obtain ⟨x, n, rfl, e, q⟩ := h
  obtain ⟨u, rfl, rx⟩ := vals1 r
  have hl := line63
  have hs : sizeLine = 16777216 := sizeLine_eq
  cases x with
  | str y =>
    obtain ⟨t, rfl⟩ := rx
    obtain ⟨hy, e'⟩ : y.length ≤ sizeLine ∧ n = y.length := e
    subst e'
    exact len_str (by omega) ⟨.int _, H, I.tok _, ⟨_, rfl⟩, q⟩
  | byt y =>
    obtain ⟨t, rfl⟩ := rx
    obtain ⟨hy, e'⟩ : y.size ≤ sizeLine ∧ n = y.size := e
    subst e'
    exact PySem.W.len_bytes (by omega) ⟨.int _, H, I.tok _, ⟨_, rfl⟩, q⟩
  | ref p =>
    cases rx
    have e' : (∃ xs, SqL X.K H p xs ∧ n = xs.length) ∨ ∃ xs, SqT X.K H p xs ∧ n = xs.length := e
    rcases e' with ⟨xs, hx, e'⟩ | ⟨xs, hx, e'⟩
    · subst e'
      obtain ⟨its, r', pl, hz⟩ := I.list hx
      have hlen := r'.length
      exact Calls.call_len_list pl.isList (by simp only [List.size_toArray]; omega) ⟨.int xs.length, H, I.tok _, ⟨_, by simp only [List.size_toArray]; rw [hlen]⟩, q⟩
    · subst e'
      obtain ⟨its, r', pl, hz⟩ := I.tuple hx
      have hlen := r'.length
      exact len_tuple pl (by simp only [List.size_toArray]; omega) ⟨.int xs.length, H, I.tok _, ⟨_, by simp only [List.size_toArray]; rw [hlen]⟩, q⟩
  | _ => exact (show False from e).elim
/-- divmod: a new tuple -/
theorem call_divmod : CallR X (.builtin "divmod") (fun xs H Q => ∃ i j, xs = [.int i, .int j] ∧ CDiv i j ∧ ∀ p, H p = none → Q (.ref p) (upd H p (.tup [.int (i / j), .int (i % j)]))) := by
  intro pins s σ H xs us Q I r h
  obtain ⟨i, j, rfl, ⟨h1, h2⟩, q⟩ := h
  obtain ⟨u, w', rfl, ⟨t, rfl⟩, ⟨t', rfl⟩⟩ := vals2 r
  refine divmod_int (by omega) ?_ (.inl (PyProof.noPylong_small (by omega)))
  rw [Int.fdiv_eq_ediv_of_nonneg i (by omega), Int.fmod_eq_emod_of_nonneg i (by omega)]
  have hn : H s.heap.objs.size = none := I.hok.fresh (Nat.le_refl _)
  refine ⟨.ref s.heap.objs.size, _, ?_, rfl, q _ hn⟩
  refine I.laid (fun b o e => Heap.get?_push_of_some _ e) (Nat.le_refl _) ⟨by simp only [List.length_cons, List.length_nil]; rw [sizeLine_eq]; decide, [.int (i / j) s.toks, .int (i % j) (s.toks + 1)], .cons ⟨_, rfl⟩ (.cons ⟨_, rfl⟩ .nil), ?_⟩
  exact ⟨_, Heap.get?_push_size s.heap rfl, rfl, 0, rfl⟩
end
end L2

namespace L2
open PySem PySem.Spec PyProof.Rows

/-! ### an instance, its attributes a map -/
structure ObjM (h : Heap) (x dx C : Addr) (mA : Str → Option Value) : Prop where
  obj : h.get? x = some (PySem.W.instObj C dx)
  ns : h.Ns1 dx mA
  ne : dx ≠ x

theorem lookIn_ns {h : Heap} {dx : Addr} {mA : Str → Option Value} (n : h.Ns1 dx mA) : ∃ od, h.get? dx = some od ∧ ∀ name, PySem.W.lookIn name od = some (mA name) := by
  obtain ⟨o, es, ep, ho, hd, hk, _, hm⟩ := n
  refine ⟨o, ho, fun name => ?_⟩
  have e := hm name
  unfold nsFind findBy at e
  rw [← Array.find?_toList] at e
  unfold PySem.W.lookIn
  rw [hd]
  dsimp only
  split
  · rename_i y q
    rw [q] at e
    exact congrArg some e
  · rename_i q
    rw [q] at e
    have a : es.toList.any (·.refKey) = false := by
      rw [List.any_eq_false]
      intro y hy
      obtain ⟨z, t, hkey⟩ := hk y (Array.mem_toList_iff.mp hy)
      simp [DictEntry.refKey, hkey]
    have a' : ¬ es.toList.any (·.refKey) = true := by rw [a]; exact Bool.false_ne_true
    rw [if_neg a']
    exact congrArg some e

theorem ObjM.look {h : Heap} {x dx C : Addr} {mA : Str → Option Value} (I : ObjM h x dx C mA) : ∃ od, PySem.W.InstAt h x (PySem.W.instObj C dx) C (some od) ∧ ∀ name, PySem.W.lookIn name od = some (mA name) :=
  let ⟨od, ho, hl⟩ := lookIn_ns I.ns
  ⟨od, ⟨I.obj, rfl, rfl, ho⟩, hl⟩

section
variable {prog : Program} {w : World} {A : Around} {E : Value → Shared → Prop} {s : Shared} {K : PySem.W.Frag} {x dx C f : Addr} {mA : Str → Option Value} {name : Str} {v : Value}

theorem get_map {expr : Bool} {Q : Value → Shared → Prop} (X : K.In s.heap) (I : ObjM s.heap x dx C mA) (hg : PySem.W.plainGet K C name = true) (hh : PySem.W.hasDictIn K C = true)
    (ha : PySem.W.findIn K (.ref C) name = some none) (hv : mA name = some v) (hv' : PySem.W.handedIn v = true) (h : Q v { s with toks := s.toks + 1 }) :
    wpAny (model prog w) A (getAttr (.ref x) name expr) Q E s := by
  obtain ⟨od, J, hl⟩ := I.look
  exact PySem.W.get_value X J (PySem.W.plainGet_of hg).1 (PySem.W.findObj_own hh ha rfl (by rw [hl, hv])) hv' h

theorem get_const {expr : Bool} {a : Value} {Q : Value → Shared → Prop} (X : K.In s.heap) (I : ObjM s.heap x dx C mA) (hg : PySem.W.plainGet K C name = true) (hh : PySem.W.hasDictIn K C = true)
    (ha : PySem.W.findIn K (.ref C) name = some (some a)) (hn : PySem.W.specialIn K a "__get__" = some none) (hc : PySem.W.copiedNames.contains name = false) (hv : mA name = none) (hv' : PySem.W.handedIn a = true)
    (h : Q a { s with toks := s.toks + 1 }) : wpAny (model prog w) A (getAttr (.ref x) name expr) Q E s := by
  obtain ⟨od, J, hl⟩ := I.look
  exact PySem.W.get_value X J (PySem.W.plainGet_of hg).1 (PySem.W.findObj_cls hh ha hn hv' hc (by rw [hl, hv])) hv' h

theorem get_meth {pl : Sem Bool} {Q : Value × List Value → Shared → Prop} (X : K.In s.heap) (I : ObjM s.heap x dx C mA) (hg : PySem.W.plainGet K C name = true)
    (hf : PySem.W.findIn K (.ref C) name = some (some (.ref f))) (ht : PySem.W.isFn K (.ref f) = true) (hv : mA name = none) (h : Q (.ref f, [.ref x]) s) :
    wpAny (model prog w) A (getMethod (.ref x) name pl) Q E s := by
  obtain ⟨od, J, hl⟩ := I.look
  exact PySem.W.method_fn X J (PySem.W.plainGet_of hg).1 (PySem.W.plainGet_of hg).2 hf (beq_iff_eq.mp ht) (by show (PySem.W.lookIn name od).map (·.isSome) = some false; rw [hl, hv]; rfl) h

theorem set_map {ns : List Str} {Q : Unit → Shared → Prop} (X : K.In s.heap) (I : ObjM s.heap x dx C mA)
    (hs : PySem.W.findIn K (.ref C) "__setattr__" = some (some (.builtin "object.__setattr__"))) (hp : PySem.W.plainOver K C = true) (ht : PySem.W.takerIn K C name = some none) (hh : PySem.W.hasDictIn K C = true)
    (hw : PySem.Within mA ns) (hsz : ns.length ≤ sizeLine)
    (h : ∀ h', ObjM h' x dx C (fun y => if y = name then some v else mA y) → Heap.SameBut dx s.heap h' → Q () { s with heap := h', toks := s.toks + 2 }) :
    wpAny (model prog w) A (setAttr (.ref x) name v) Q E s := by
  obtain ⟨od, J, hl⟩ := I.look
  refine PySem.W.set_plain X J hs (PySem.W.osa_open (s := { s with toks := s.toks + 1 }) (r := none) X J hp ht fun b => ?_)
  obtain ⟨cd, hc, hd'⟩ := PySem.W.any_some hh
  have hx : s.heap.get? x = some ⟨.ref C, some dx, .plain, #[]⟩ := I.obj
  refine wpAny_bind (wpAny_pure (wpAny_bind (wpAny_bind (wpAny_loadPart hx (wpAny_bind (PySem.W.Looks.here (s := { s with toks := s.toks + 1 }) (PySem.W.looks_clsIn X hc) ?_))))))
  rw [hd']
  refine wpAny_pure (a := some dx) (wpAny_bind (wpAny_pure (wpAny_bind ?_)))
  refine wpAny_nsSet1 (s := { s with toks := s.toks + 1 }) I.ns fun h' hn2 hs2 => ?_
  obtain ⟨oD, esD, epD, hoD, hdD, hcD⟩ := hn2.count (PySem.Within.cons name v hw)
  refine wpAny_bind (wpAny_lookBehind hoD (by rw [hdD]; exact pastItsLine_dict (Nat.le_trans hcD (by rw [List.length_cons]; omega))) ?_)
  exact wpAny_pure (h _ ⟨(hs2.2 _ (Ne.symm I.ne)).trans I.obj, hn2, I.ne⟩ hs2)

/-- C(..): the dict at the heap's end, the instance behind it; then its __init__ -/
theorem make_map {R : Result → Shared → Prop} {vs : List Value} {kw : List (Str × Value)} (X : K.In s.heap) (hm : PySem.W.makesIn K C = true)
    (hi : PySem.W.findIn K (.ref C) "__init__" = some (some (.ref f))) (hf : PySem.W.typeIn K (.ref f) = some (.type "function"))
    (h : codeAny (model prog w) (A.under (.builtin "type.__call__" ⟨.ref C :: vs, kw⟩)) (.call (.ref f) ⟨.ref (s.heap.objs.size + 1) :: vs, kw⟩) (PySem.W.InitBack (s.heap.objs.size + 1) R)
      { s with heap := (s.heap.push PySem.W.emptyDict).push (PySem.W.instObj C s.heap.objs.size) }) :
    codeAny (model prog w) A (.call (.ref C) ⟨vs, kw⟩) R s := by
  obtain ⟨hh, g, d, t, os⟩ := s
  exact PySem.W.make_core (PySem.W.makes_of X hm) (PySem.W.looks_findIn X hi) (fun self => PySem.W.bind_fn X self hf) (.inl rfl) h
/-- C() where there is no __init__ but object's -/
theorem make_map0 {R : Result → Shared → Prop} (X : K.In s.heap) (hm : PySem.W.makesIn K C = true)
    (hi : PySem.W.findIn K (.ref C) "__init__" = some (some (.builtin "object.__init__")))
    (hb : ∀ self, PySem.W.Looks (model prog w) s.heap (bindSpecial (.builtin "object.__init__") self) (.builtin "object.__init__", [self]))
    (h : codeAny (model prog w) (A.under (.builtin "type.__call__" ⟨[.ref C], []⟩)) (.call (.builtin "object.__init__") ⟨[.ref (s.heap.objs.size + 1)], []⟩) (PySem.W.InitBack (s.heap.objs.size + 1) R)
      { s with heap := (s.heap.push PySem.W.emptyDict).push (PySem.W.instObj C s.heap.objs.size) }) :
    codeAny (model prog w) A (.call (.ref C) ⟨[], []⟩) R s := by
  obtain ⟨hh, g, d, t, os⟩ := s
  exact PySem.W.make_core (PySem.W.makes_of X hm) (PySem.W.looks_findIn X hi) hb (.inr ⟨rfl, rfl⟩) h
end

/-! ### the attributes as a list of pairs -/
def putF (f : Str) (v : V) : List (Str × V) → List (Str × V)
  | [] => [(f, v)]
  | (g, x) :: r => if g = f then (g, v) :: r else (g, x) :: putF f v r
theorem lookup_putF (f g : Str) (v : V) : ∀ fs : List (Str × V), (putF f v fs).lookup g = if g = f then some v else fs.lookup g
  | [] => by
    show List.lookup g [(f, v)] = _
    by_cases h : g = f
    · have hb : (g == f) = true := beq_iff_eq.mpr h
      simp only [List.lookup, hb, if_pos h]
    · have hb : (g == f) = false := beq_eq_false_iff_ne.mpr h
      simp only [List.lookup, hb, if_neg h]
  | (k, x) :: r => by
    have ih := lookup_putF f g v r
    rw [show putF f v ((k, x) :: r) = (if k = f then (k, v) :: r else (k, x) :: putF f v r) from rfl]
    by_cases hk : k = f
    · rw [if_pos hk]
      by_cases h : g = k
      · have hb : (g == k) = true := beq_iff_eq.mpr h
        simp only [List.lookup, hb, if_pos (h.trans hk)]
      · have hb : (g == k) = false := beq_eq_false_iff_ne.mpr h
        simp only [List.lookup, hb, if_neg (fun e : g = f => h (e.trans hk.symm))]
    · rw [if_neg hk]
      by_cases h : g = k
      · have hb : (g == k) = true := beq_iff_eq.mpr h
        simp only [List.lookup, hb, if_neg (fun e : g = f => hk (h.symm.trans e))]
      · have hb : (g == k) = false := beq_eq_false_iff_ne.mpr h
        simp only [List.lookup, hb]
        exact ih
theorem keys_putF (f : Str) (v : V) : ∀ fs : List (Str × V), f ∈ (putF f v fs).map (·.1) ∧ ∀ g, g ∈ fs.map (·.1) → g ∈ (putF f v fs).map (·.1)
  | [] => ⟨by simp [putF], fun g h => by simp at h⟩
  | (k, x) :: r => by
    obtain ⟨i1, i2⟩ := keys_putF f v r
    rw [show putF f v ((k, x) :: r) = (if k = f then (k, v) :: r else (k, x) :: putF f v r) from rfl]
    by_cases hk : k = f
    · rw [if_pos hk]
      subst hk
      exact ⟨by simp, fun g h => by simpa using h⟩
    · rw [if_neg hk]
      refine ⟨?_, fun g h => ?_⟩
      · rw [List.map_cons]
        exact List.mem_cons_of_mem _ i1
      · rw [List.map_cons] at h ⊢
        rcases List.mem_cons.mp h with e | e
        · exact List.mem_cons.mpr (.inl e)
        · exact List.mem_cons_of_mem _ (i2 g e)
theorem length_putF (f : Str) (v : V) : ∀ fs : List (Str × V), (putF f v fs).length ≤ fs.length + 1
  | [] => by simp [putF]
  | (k, x) :: r => by
    have ih := length_putF f v r
    rw [show putF f v ((k, x) :: r) = (if k = f then (k, v) :: r else (k, x) :: putF f v r) from rfl]
    by_cases hk : k = f
    · rw [if_pos hk, List.length_cons, List.length_cons]; omega
    · rw [if_neg hk, List.length_cons, List.length_cons]; omega

theorem RelO.some_of {v : V} {o : Option Value} (r : RelO (some v) o) : ∃ u, o = some u ∧ RelV v u := by
  cases o with
  | none => exact (show False from r).elim
  | some u => exact ⟨u, rfl, r⟩
theorem RelO.none_of {o : Option Value} (r : RelO none o) : o = none := by
  cases o with
  | none => rfl
  | some u => exact (show False from r).elim
theorem handed_of {v : V} {u : Value} (r : RelV v u) : PySem.W.handedIn u = true := by
  cases v with
  | non => cases (show u = Value.none from r); rfl
  | bl b => cases (show u = Value.bool b from r); rfl
  | int i => obtain ⟨t, e⟩ := (show ∃ t, u = Value.int i t from r); cases e; rfl
  | str x => obtain ⟨t, e⟩ := (show ∃ t, u = Value.str x t from r); cases e; rfl
  | byt b => obtain ⟨t, e⟩ := (show ∃ t, u = Value.bytes b t from r); cases e; rfl
  | flt b => obtain ⟨t, e⟩ := (show ∃ t, u = Value.float b t from r); cases e; rfl
  | ref a => cases (show u = Value.ref a from r); rfl
  | ty n => cases (show u = Value.type n from r); rfl

section
variable {P : Program} {w : World} {H H' : Hp} {h h' : Heap} {a C dx : Addr} {fs fs' : List (Str × V)}
theorem ins_get (hok : HOk P w H h) (e : H a = some (.ins C dx fs)) : ∃ mA, ObjM h a dx C mA ∧ (∀ f, RelO (fs.lookup f) (mA f)) ∧ PySem.Within mA (fs.map (·.1)) ∧ fs.length ≤ 1000 ∧ H dx = some (.own a) := by
  obtain ⟨d, z, ne, ob, mA, n, r, q⟩ := (show ObjOk P w H h a (.ins C dx fs) from hok a _ e)
  exact ⟨mA, ⟨ob, n, ne⟩, r, q, z, d⟩
end

/-! ### what of the text a class must have -/
structure Cls (K : PySem.W.Frag) (C : Addr) : Prop where
  pg : PySem.W.plainGet K C Str.empty = true
  hd : PySem.W.hasDictIn K C = true
  po : PySem.W.plainOver K C = true
  sa : PySem.W.findIn K (.ref C) "__setattr__" = some (some (.builtin "object.__setattr__"))
theorem Cls.get {K : PySem.W.Frag} {C : Addr} (c : Cls K C) (f : Str) : PySem.W.plainGet K C f = true := c.pg
/-- no class of it has the name -/
def NoAttr (K : PySem.W.Frag) (C : Addr) (f : Str) : Prop := PySem.W.findIn K (.ref C) f = some none
theorem NoAttr.taker {K : PySem.W.Frag} {C : Addr} {f : Str} (n : NoAttr K C f) : PySem.W.takerIn K C f = some none := by
  unfold PySem.W.takerIn
  rw [show PySem.W.findIn K (.ref C) f = some none from n]
  rfl
/-- a constant of the class -/
structure Con (K : PySem.W.Frag) (C : Addr) (f : Str) (v : V) (u : Value) : Prop where
  at_ : PySem.W.findIn K (.ref C) f = some (some u)
  rel : RelV v u
  get : PySem.W.specialIn K u "__get__" = some none
  cp : PySem.W.copiedNames.contains f = false
/-- a method: a plain def of the class or of one above it -/
structure Meth (K : PySem.W.Frag) (C : Addr) (m : Str) (f : Addr) : Prop where
  at_ : PySem.W.findIn K (.ref C) m = some (some (.ref f))
  fn : PySem.W.isFn K (.ref f) = true
  kp : PySem.W.keepIn K (.ref f) = true

section
variable {X : Cx} {pins : List (Addr × Obj)} {σ : St} {H : Hp} {s : Shared} {a C dx : Addr} {fs : List (Str × V)} {f : Str} {v : V} {A : Around} {E : Value → Shared → Prop}

theorem getattr_ok {b : Bool} {Q : Value → Shared → Prop} (I : Inv X pins σ H s) (e : H a = some (.ins C dx fs)) (c : Cls X.K C) (n : NoAttr X.K C f) (l : fs.lookup f = some v)
    (h : ∀ u s', Inv X pins σ H s' → RelV v u → Q u s') : wpAny (model X.prog X.w) A (getAttr (.ref a) f b) Q E s := by
  obtain ⟨mA, O, r, _, _, _⟩ := ins_get I.hok e
  obtain ⟨u, hu, ru⟩ := RelO.some_of (v := v) (o := mA f) (by rw [← l]; exact r f)
  exact get_map I.kIn O (c.get f) c.hd n hu (handed_of ru) (h u _ (I.tok _) ru)

theorem getcon_ok {b : Bool} {u : Value} {Q : Value → Shared → Prop} (I : Inv X pins σ H s) (e : H a = some (.ins C dx fs)) (c : Cls X.K C) (k : Con X.K C f v u) (l : fs.lookup f = none)
    (h : ∀ s', Inv X pins σ H s' → Q u s') : wpAny (model X.prog X.w) A (getAttr (.ref a) f b) Q E s := by
  obtain ⟨mA, O, r, _, _, _⟩ := ins_get I.hok e
  have hn : mA f = none := RelO.none_of (by rw [← l]; exact r f)
  exact get_const I.kIn O (c.get f) c.hd k.at_ k.get k.cp hn (handed_of k.rel) (h _ (I.tok _))

theorem getmeth_ok {m : Str} {g : Addr} {pl : Sem Bool} {Q : Value × List Value → Shared → Prop} (I : Inv X pins σ H s) (e : H a = some (.ins C dx fs)) (c : Cls X.K C) (k : Meth X.K C m g) (l : fs.lookup m = none)
    (h : Q (.ref g, [.ref a]) s) : wpAny (model X.prog X.w) A (getMethod (.ref a) m pl) Q E s := by
  obtain ⟨mA, O, r, _, _, _⟩ := ins_get I.hok e
  have hn : mA m = none := RelO.none_of (by rw [← l]; exact r m)
  exact get_meth I.kIn O (c.get m) k.at_ k.fn hn h

theorem setattr_ok {y : V} {u : Value} {Q : Unit → Shared → Prop} (I : Inv X pins σ H s) (e : H a = some (.ins C dx fs)) (c : Cls X.K C) (n : NoAttr X.K C f) (hl : fs.length < 1000) (ry : RelV y u)
    (h : ∀ s', Inv X pins σ (upd H a (.ins C dx (putF f y fs))) s' → Q () s') : wpAny (model X.prog X.w) A (setAttr (.ref a) f u) Q E s := by
  obtain ⟨mA, O, r, wi, _, ho⟩ := ins_get I.hok e
  have hz : (fs.map (·.1)).length ≤ sizeLine := by rw [List.length_map, sizeLine_eq]; omega
  refine set_map I.kIn O c.sa c.po n.taker c.hd wi hz fun h' O' sb => h _ ?_
  have hd : ∃ o, h'.get? dx = some o := let ⟨o, _, _, e', _⟩ := O'.ns; ⟨o, e'⟩
  refine I.write (x := a) (e := dx) (by rw [e]; exact True.intro) (.inr ho) (fun b q hb z => (sb.2 b hb).trans z) hd ?_
  refine ⟨by rw [upd_ne O.ne]; exact ho, ?_, O.ne, O'.obj, _, O'.ns, fun g => ?_, fun g hg => ?_⟩
  · have := length_putF f y fs; omega
  · show RelO ((putF f y fs).lookup g) (if g = f then some u else mA g)
    rw [lookup_putF]
    by_cases q : g = f
    · rw [if_pos q, if_pos q]; exact ry
    · rw [if_neg q, if_neg q]; exact r g
  · by_cases q : g = f
    · rw [q]; exact (keys_putF f y fs).1
    · refine (keys_putF f y fs).2 g (wi g fun z => hg ?_)
      show (if g = f then some u else mA g) = none
      rw [if_neg q]; exact z

/-- a new instance, tracked, without attributes -/
theorem Inv.made (I : Inv X pins σ H s) : Inv X pins σ (upd (upd H s.heap.objs.size (.own (s.heap.objs.size + 1))) (s.heap.objs.size + 1) (.ins C s.heap.objs.size []))
    { s with heap := (s.heap.push PySem.W.emptyDict).push (PySem.W.instObj C s.heap.objs.size) } := by
  have e1 : (s.heap.push PySem.W.emptyDict).get? s.heap.objs.size = some PySem.W.emptyDict := Heap.get?_push_size s.heap rfl
  have e2 : ((s.heap.push PySem.W.emptyDict).push (PySem.W.instObj C s.heap.objs.size)).get? (s.heap.objs.size + 1) = some (PySem.W.instObj C s.heap.objs.size) := by
    have := Heap.get?_push_size (s.heap.push PySem.W.emptyDict) (o := PySem.W.instObj C s.heap.objs.size) rfl
    rwa [Heap.size_push] at this
  have e3 : (s.heap.push PySem.W.emptyDict).Ns s.heap.objs.size (fun _ => none) := ⟨PySem.W.emptyDict, #[], _, e1, rfl, (fun e he => absurd he (by simp)), fun _ => rfl⟩
  have I1 := I.laid (a := s.heap.objs.size) (o := .own (s.heap.objs.size + 1)) (h' := s.heap.push PySem.W.emptyDict) (t' := s.toks) (fun b u q => Heap.get?_push_of_some _ q) (Nat.le_refl _) ⟨_, e1⟩
  refine I1.laid (a := s.heap.objs.size + 1) (o := .ins C s.heap.objs.size []) (t' := s.toks) (fun b u q => Heap.get?_push_of_some _ q) (Nat.le_of_eq (Heap.size_push _ _)) ?_
  have ne : s.heap.objs.size ≠ s.heap.objs.size + 1 := Nat.ne_of_lt (Nat.lt_succ_self _)
  refine ⟨by rw [upd_ne ne, upd_same], Nat.zero_le _, ne, e2, fun _ => none, (Heap.Ns1.of_empty e3).at fun o q => Heap.get?_push_of_some _ q, fun _ => True.intro, fun y hy => absurd rfl hy⟩

/-- e.f where nothing but the object is asked: through attributeBase (super) and the last hold -/
theorem attr_of {prog : Program} {w : World} {env : Env} {e : Expr} {f : Str} {pos : Pos} {s : Shared} {Q : Value → Shared → Prop} (hb : attributeBase e f env (eval e env) = eval e env)
    (h : wpAny (model prog w) A (eval e env) (fun o s₁ => wpAny (model prog w) A (getAttr o f true) Q E s₁) E s) : wpAny (model prog w) A (eval (.Attribute e f pos) env) Q E s :=
  Attribute_any_ h (by rw [arm_eval_Attribute, hb])
end

/-! ### readings and rules -/
/-- e.f, an attribute of the instance -/
def tFld (K : PySem.W.Frag) (ta : TE) (f : Str) : TE := fun σ H Q => ta σ H fun x H1 => ∃ a C dx fs v, x = .ref a ∧ H1 a = some (.ins C dx fs) ∧ Cls K C ∧ NoAttr K C f ∧ fs.lookup f = some v ∧ Q v H1
/-- e.f, a constant of the class -/
def tCon (K : PySem.W.Frag) (ta : TE) (f : Str) : TE := fun σ H Q => ta σ H fun x H1 => ∃ a C dx fs v u, x = .ref a ∧ H1 a = some (.ins C dx fs) ∧ Cls K C ∧ Con K C f v u ∧ fs.lookup f = none ∧ Q v H1
/-- e.f = value -/
def sFld (K : PySem.W.Frag) (ta tv : TE) (f : Str) : TS := fun D σ H => tv σ H fun y H1 => ta σ H1 fun x H2 => ∃ a C dx fs, x = .ref a ∧ H2 a = some (.ins C dx fs) ∧ Cls K C ∧ NoAttr K C f ∧ fs.length < 1000 ∧
  D.nx σ (upd H2 a (.ins C dx (putF f y fs)))
/-- an augmented operator on two values -/
def InOp (X : Cx) (op : Operator) (rd : V → V → Hp → VK → Prop) : Prop :=
  ∀ (pins : List (Addr × Obj)) (s : Shared) (σ : St) (H : Hp) (x y : V) (u v : Value) (Q : VK), Inv X pins σ H s → RelV x u → RelV y v → rd x y H Q → wpAny (model X.prog X.w) X.A (inplaceOp op u v) (EP X pins σ Q) X.xe s
/-- e.f op= value -/
def sFldAug (K : PySem.W.Frag) (ta tv : TE) (rd : V → V → Hp → VK → Prop) (f : Str) : TS := fun D σ H => ta σ H fun x H1 => ∃ a C dx fs v, x = .ref a ∧ H1 a = some (.ins C dx fs) ∧ Cls K C ∧ NoAttr K C f ∧ fs.lookup f = some v ∧
  tv σ H1 fun y H2 => rd v y H2 fun z H3 => ∃ dx' fs', H3 a = some (.ins C dx' fs') ∧ fs'.length < 1000 ∧ D.nx σ (upd H3 a (.ins C dx' (putF f z fs')))

section
variable {X : Cx} {o e value : Expr} {f : Str} {pos pos' tpos : Pos} {ta tv : TE}
theorem pe_fld (he : PE X e ta) (hb : attributeBase e f X.env (eval e X.env) = eval e X.env) : PE X (.Attribute e f pos) (tFld X.K ta f) := by
  intro pins s σ H Q I h
  refine attr_of hb (thn (he pins s σ H _ I h) fun u s1 ⟨x, H1, I1, rx, a, C, dx, fs, v, ex, ea, c, n, l, q⟩ => ?_)
  subst ex
  obtain rfl : u = Value.ref a := rx
  exact getattr_ok I1 ea c n l fun u' s2 I2 ru => ⟨v, H1, I2, ru, q⟩
theorem pe_con (he : PE X e ta) (hb : attributeBase e f X.env (eval e X.env) = eval e X.env) : PE X (.Attribute e f pos) (tCon X.K ta f) := by
  intro pins s σ H Q I h
  refine attr_of hb (thn (he pins s σ H _ I h) fun u s1 ⟨x, H1, I1, rx, a, C, dx, fs, v, u0, ex, ea, c, k, l, q⟩ => ?_)
  subst ex
  obtain rfl : u = Value.ref a := rx
  exact getcon_ok I1 ea c k l fun s2 I2 => ⟨v, H1, I2, k.rel, q⟩
theorem ps_fld (ha : PE X o ta) (hv : PE X value tv) (hs : swapsWith value (some (.Attribute o f pos')) pos.line X.env = pure false) : PS X (.Assign [.Attribute o f pos'] value pos) (sFld X.K ta tv f) := by
  intro pins s σ H D I h
  refine plainObj_wpAny_Assign_Attribute (thn (hv pins s σ H _ I h) fun u s1 ⟨y, H1, I1, ry, q⟩ => thn (ha pins s1 σ H1 _ I1 q) fun ov s2 ⟨x, H2, I2, rx, a, C, dx, fs, ex, ea, c, n, l, q2⟩ => ?_) hs
  subst ex
  obtain rfl : ov = Value.ref a := rx
  exact setattr_ok I2 ea c n l ry fun s3 I3 => ⟨σ, _, I3, q2⟩
theorem ps_fldaug {op : Operator} {rd : V → V → Hp → VK → Prop} (ha : PE X o ta) (hv : PE X value tv) (hop : InOp X op rd) : PS X (.AugAssign (.Attribute o f tpos) op value pos) (sFldAug X.K ta tv rd f) := by
  intro pins s σ H D I h
  refine wpAny_AugAssign_AttributeAny (thn (ha pins s σ H _ I h) fun ov s1 ⟨x, H1, I1, rx, a, C, dx, fs, v, ex, ea, c, n, l, q⟩ => ?_)
  subst ex
  obtain rfl : ov = Value.ref a := rx
  refine getattr_ok I1 ea c n l fun u s2 I2 ru => thn (hv pins s2 σ H1 _ I2 q) fun w3 s3 ⟨y, H2, I3, ry, q3⟩ => thn (hop pins s3 σ H2 v y u w3 _ I3 ru ry q3) fun w4 s4 ⟨z, H3, I4, rz, dx', fs', ea', l', q4⟩ => ?_
  exact setattr_ok I4 ea' c n l' rz fun s5 I5 => ⟨σ, _, I5, q4⟩
def rAdd : V → V → Hp → VK → Prop := fun x y H Q => ∃ i j, x = .int i ∧ y = .int j ∧ Q (.int (i + j)) H
def rSub : V → V → Hp → VK → Prop := fun x y H Q => ∃ i j, x = .int i ∧ y = .int j ∧ Q (.int (i - j)) H
theorem in_add : InOp X .Add rAdd := by
  rintro pins s σ H x y u v Q I rx ry ⟨i, j, rfl, rfl, q⟩
  obtain ⟨t, rfl⟩ := (show ∃ t, u = Value.int i t from rx)
  obtain ⟨t', rfl⟩ := (show ∃ t', v = Value.int j t' from ry)
  exact PyProof.Rows.iadd_int ⟨.int (i + j), H, I.tok _, ⟨_, rfl⟩, q⟩
theorem in_sub : InOp X .Sub rSub := by
  rintro pins s σ H x y u v Q I rx ry ⟨i, j, rfl, rfl, q⟩
  obtain ⟨t, rfl⟩ := (show ∃ t, u = Value.int i t from rx)
  obtain ⟨t', rfl⟩ := (show ∃ t', v = Value.int j t' from ry)
  exact PyProof.Rows.isub_int ⟨.int (i - j), H, I.tok _, ⟨_, rfl⟩, q⟩

/-- what is between an instance and its method: the tree of a method call -/
theorem methcall_of {pl : Sem Bool} {m : Str} {apos : Pos} {args : List Expr} {pins : List (Addr × Obj)} {s : Shared} {σ : St} {H : Hp} {Q : Value → Shared → Prop} {te : TE} (he : PE X e te) (I : Inv X pins σ H s)
    (h : te σ H fun x H1 => ∃ a C dx fs g, x = .ref a ∧ H1 a = some (.ins C dx fs) ∧ Cls X.K C ∧ Meth X.K C m g ∧ fs.lookup m = none ∧
      ∀ s1, Inv X pins σ H1 s1 → wpAny (model X.prog X.w) X.A (callWith pos (.ref g) [.ref a] (backTo pos (starEach args X.env)) (backToKw pos (keywordEach [] X.env))) Q X.xe s1)
    (ht : eval (.Call (.Attribute e m apos) args [] pos) X.env = (do
      let ov ← eval e X.env
      standAt apos.atName
      let (f, first) ← holding [ov] (getMethod ov m pl)
      callWith pos f first (backTo pos (starEach args X.env)) (backToKw pos (keywordEach [] X.env)))) :
    wpAny (model X.prog X.w) X.A (eval (.Call (.Attribute e m apos) args [] pos) X.env) Q X.xe s := by
  refine PySem.W.methodCall_KW (pl := pl) (thn (he pins s σ H _ I h) fun u s1 ⟨x, H1, I1, rx, a, C, dx, fs, g, ex, ea, c, k, l, q⟩ => ?_) ht
  subst ex
  obtain rfl : u = Value.ref a := rx
  exact getmeth_ok I1 ea c k l (q s1 I1)
end

/-! ### isinstance -/
section
variable {X : Cx} {pins : List (Addr × Obj)} {σ : St} {H : Hp} {s : Shared} {A : Around} {E : Value → Shared → Prop} {Q : Value → Shared → Prop} {c : Value} {b : Bool}
/-- the type of a value, as the fragment's deciders take it; for an instance its class -/
inductive TyOf (K : PySem.W.Frag) (H : Hp) : V → Value → Prop where
  | non : TyOf K H .non (.type "NoneType")
  | bl (x : Bool) : TyOf K H (.bl x) (.type "bool")
  | int (i : Int) : TyOf K H (.int i) (.type "int")
  | str (x : Str) : TyOf K H (.str x) (.type "str")
  | flt (x : UInt64) : TyOf K H (.flt x) (.type "float")
  | lst {a : Addr} {xs : List V} (e : H a = some (.lst xs)) : TyOf K H (.ref a) (.type "list")
  | frz {a : Addr} {o : Obj} {xs : List V} (e : H a = some (.frz o (.lst xs))) : TyOf K H (.ref a) (.type "list")
  | tup {a : Addr} {xs : List V} (e : H a = some (.tup xs)) : TyOf K H (.ref a) (.type "tuple")
  | dK {a : Addr} {kvs : List (Key × V)} (e : H a = some (.dK kvs)) : TyOf K H (.ref a) (.type "dict")
  | dT {a : Addr} {kvs : List (List Key × V)} (e : H a = some (.dT kvs)) : TyOf K H (.ref a) (.type "dict")
  | ins {a C dx : Addr} {fs : List (Str × V)} (e : H a = some (.ins C dx fs)) (cl : Cls K C) (ha : PySem.W.findIn K (.ref C) "__class__" = some (some (.builtin "object.__class__")))
      (hn : PySem.W.specialIn K (.builtin "object.__class__") "__get__" = some (some (.builtin "getset_descriptor.__get__"))) (htk : PySem.W.takesIn K (.builtin "object.__class__") = some true)
      (hm : PySem.W.mroIn K C (.type "object") = some true) : TyOf K H (.ref a) (.ref C)
/-- isinstance(x, c) for one class c, a built-in or an own one: kitOne's answer -/
theorem isinst_ok {x : V} {u t : Value} (I : Inv X pins σ H s) (rx : RelV x u) (ty : TyOf X.K H x t) (e : PySem.W.kitOne X.K t c = some b) (h : ∀ tk, Q (.bool b) { s with toks := tk }) :
    wpAny (model X.prog X.w) A (call (.builtin "isinstance") [u, c]) Q E s := by
  cases ty with
  | non => cases (show u = Value.none from rx); exact PySem.W.kia_one PySem.W.kitx_none I.kIn True.intro e (fun z => nomatch z) h
  | bl y => cases (show u = Value.bool y from rx); exact PySem.W.kia_one PySem.W.kitx_bool I.kIn True.intro e (fun z => nomatch z) h
  | int i => obtain ⟨t, q⟩ := (show ∃ t, u = Value.int i t from rx); cases q; exact PySem.W.kia_one PySem.W.kitx_int I.kIn True.intro e (fun z => nomatch z) h
  | str y => obtain ⟨t, q⟩ := (show ∃ t, u = Value.str y t from rx); cases q; exact PySem.W.kia_one PySem.W.kitx_str I.kIn True.intro e (fun z => nomatch z) h
  | flt y => obtain ⟨t, q⟩ := (show ∃ t, u = Value.float y t from rx); cases q; exact PySem.W.kia_one PySem.W.kitx_float I.kIn True.intro e (fun z => nomatch z) h
  | @lst a xs ea =>
    cases (show u = Value.ref a from rx)
    obtain ⟨_, _, n, _, h1⟩ := (show ObjOk X.prog X.w H s.heap a (.lst xs) from I.hok a _ ea)
    exact PySem.W.kia_one PySem.W.kitx_list I.kIn ⟨_, h1, rfl⟩ e (fun z => nomatch z) h
  | @frz a ob xs ea =>
    cases (show u = Value.ref a from rx)
    obtain ⟨_, _, _, n, _, h1⟩ := (show ObjOk X.prog X.w H s.heap a (.frz ob (.lst xs)) from I.hok a _ ea)
    exact PySem.W.kia_one PySem.W.kitx_list I.kIn ⟨_, h1, rfl⟩ e (fun z => nomatch z) h
  | @tup a xs ea =>
    cases (show u = Value.ref a from rx)
    obtain ⟨_, _, _, p⟩ := (show ObjOk X.prog X.w H s.heap a (.tup xs) from I.hok a _ ea)
    obtain ⟨o, h1, h2, _⟩ := p
    exact PySem.W.kia_one PySem.W.kitx_tuple I.kIn ⟨o, h1, h2⟩ e (fun z => nomatch z) h
  | @dK a kvs ea =>
    cases (show u = Value.ref a from rx)
    obtain ⟨_, _, vs, _, p⟩ := (show ObjOk X.prog X.w H s.heap a (.dK kvs) from I.hok a _ ea)
    obtain ⟨o, es, ep, h1, h2, _⟩ := p
    exact PySem.W.kia_one PySem.W.kitx_dict I.kIn ⟨o, h1, h2.1⟩ e (fun z => nomatch z) h
  | @dT a kvs ea =>
    cases (show u = Value.ref a from rx)
    obtain ⟨_, _, xs, _, o, es, ep, h1, h2, _⟩ := (show ObjOk X.prog X.w H s.heap a (.dT kvs) from I.hok a _ ea)
    exact PySem.W.kia_one PySem.W.kitx_dict I.kIn ⟨o, h1, h2.1⟩ e (fun z => nomatch z) h
  | @ins a C dx fs ea cl ha hn htk hm =>
    cases (show u = Value.ref a from rx)
    obtain ⟨mA, O, _⟩ := ins_get I.hok ea
    obtain ⟨od, J, _⟩ := O.look
    exact PySem.W.kia_one (PySem.W.kitx_own (cl.get _) cl.hd ha hn htk hm) I.kIn J e (fun z => nomatch z) h
end
end L2

namespace L2
open PySem PySem.Spec PyProof.Rows

/-! ### room -/
structure Room (k : Nat) (A : Around) : Prop where
  hd : A.handled = none
  dp : A.depth + 3 * k + 5 < recursionLimit
  un : A.units + 16 * k + 200 < cLine
theorem Room.mono {j k : Nat} {A : Around} (r : Room k A) (h : j ≤ k) : Room j A := ⟨r.hd, by have := r.dp; omega, by have := r.un; omega⟩
theorem Room.deeper {k : Nat} {A : Around} (r : Room (k + 1) A) (env : Env) : Room k (A.deeper env) :=
  ⟨r.hd, by have := r.dp; show A.depth + 1 + 3 * k + 5 < _; omega, by have := r.un; show A.units + 3 + 16 * k + 200 < _; omega⟩
theorem Room.in1 {k : Nat} {A : Around} (r : Room (k + 1) A) : Room k A.in1 :=
  ⟨r.hd, by have := r.dp; show A.depth + 3 * k + 5 < _; omega, by have := r.un; show A.units + 1 + 16 * k + 200 < _; omega⟩
theorem make_depth {A : Around} {C : Addr} {us : List Value} {kw : List (Str × Value)} : (A.under (.builtin "type.__call__" ⟨.ref C :: us, kw⟩)).depth = A.depth + 1 := by
  first | rfl | simp [Around.under, Code.weight, Code.isCreation, Code.isGuard, Code.isCaller, Code.frames, Code.isFrame, guardIds]
theorem make_units {A : Around} {C : Addr} {us : List Value} {kw : List (Str × Value)} : (A.under (.builtin "type.__call__" ⟨.ref C :: us, kw⟩)).units = A.units + 1 := by
  first | rfl | simp [Around.under, Code.cUnits, Code.frames, Code.isFrame]
theorem Room.make {k : Nat} {A : Around} (r : Room (k + 1) A) (C : Addr) (us : List Value) (kw : List (Str × Value)) : Room k (A.under (.builtin "type.__call__" ⟨.ref C :: us, kw⟩)) :=
  ⟨r.hd, by have := r.dp; rw [make_depth]; omega, by have := r.un; rw [make_units]; omega⟩
theorem Room.depth {k : Nat} {A : Around} (r : Room k A) : A.depth < recursionLimit := by have := r.dp; omega
theorem Room.units {k : Nat} {A : Around} (r : Room k A) : A.units + 64 < cLine := by have := r.un; omega
theorem Room.units0 {k : Nat} {A : Around} (r : Room k A) : A.units < cLine := by have := r.un; omega

/-! ### argument lists and displays -/
def tNil : TA := fun _ H Q => Q [] H
def tCons (ta : TE) (tr : TA) : TA := fun σ H Q => ta σ H fun x H1 => tr σ H1 fun xs H2 => Q (x :: xs) H2
section
variable {X : Cx} {e : Expr} {es : List Expr} {te : TE} {t : TA} {pos : Pos}
theorem pa_nil : PA X [] tNil := fun _ _ _ _ H Q I h => Calls.spliced_nil ⟨[], H, I, .nil, h⟩
theorem pa_cons (ha : PE X e te) (hr : PA X es t) (hs : starEach (e :: es) X.env = (false, eval e X.env) :: starEach es X.env := by rfl) : PA X (e :: es) (tCons te t) := by
  intro pos pins s σ H Q I h
  rw [hs]
  show wpAny _ _ (spliced ((false, eval e X.env) :: backTo pos (starEach es X.env))) _ _ s
  refine Calls.spliced_cons (thn (ha pins s σ H _ I h) fun u s1 ⟨x, H1, I1, r1, q1⟩ => ?_)
  exact thn (hr pos pins s1 σ H1 _ I1 q1) fun us s2 ⟨xs, H2, I2, r2, q2⟩ => ⟨x :: xs, H2, I2, .cons r1 r2, q2⟩

/-- a tuple, a list of written items -/
def tTup (t : TA) : TE := fun σ H Q => t σ H fun xs H1 => xs.length ≤ sizeLine ∧ ∀ p, H1 p = none → Q (.ref p) (upd H1 p (.tup xs))
def tLst (t : TA) : TE := fun σ H Q => t σ H fun xs H1 => xs.length ≤ sizeLine ∧ ∀ p, H1 p = none → Q (.ref p) (upd H1 p (.lst xs))
theorem pe_tup {x1} (h : PA X es t) : PE X (.Tuple es x1 pos) (tTup t) := by
  intro pins s σ H Q I hq
  refine wpAny_Tuple_spliced (thn (h pos pins s σ H _ I hq) fun us s1 ⟨xs, H1, I1, r, z, q⟩ => ⟨by rw [← r.length]; exact z, ?_⟩)
  have hf : H1 s1.heap.objs.size = none := I1.hok.fresh (Nat.le_refl _)
  refine ⟨.ref s1.heap.objs.size, upd H1 s1.heap.objs.size (.tup xs), I1.laid (t' := s1.toks) (fun b u e => Heap.get?_push_of_some _ e) (Nat.le_refl _) ?_, rfl, q _ hf⟩
  exact ⟨z, us, r, ⟨_, Heap.get?_push_size _ rfl, rfl, _, rfl⟩⟩
theorem pe_lst (h : PA X es t) : PE X (.List es pos) (tLst t) := by
  intro pins s σ H Q I hq
  refine wpAny_List_spliced (thn (h pos pins s σ H _ I hq) fun us s1 ⟨xs, H1, I1, r, z, q⟩ => ⟨by rw [← r.length]; exact z, ?_⟩)
  have hf : H1 s1.heap.objs.size = none := I1.hok.fresh (Nat.le_refl _)
  refine ⟨.ref s1.heap.objs.size, upd H1 s1.heap.objs.size (.lst xs), I1.laid (t' := s1.toks) (fun b u e => Heap.get?_push_of_some _ e) (Nat.le_refl _) ?_, rfl, q _ hf⟩
  exact ⟨z, us, 0, r, Heap.get?_push_size _ rfl⟩
end

/-! ### what a def promises -/
/-- a def's promise: the bound arguments in the parameters' order, the heap, the wanted end, the wanted exception -/
abbrev Sp := List V → Hp → VK → XK → Prop
/-- how an exception lies behind a call (file 08 gives it): the callers' frames, abstract heap and state ahead of the call, the wish, the exception, the state -/
abbrev CXT := List Env → Hp → Shared → XK → Value → Shared → Prop

/-- the state at a call -/
structure Env0 (P : Program) (w : World) (K : PySem.W.Frag) (mg : Str → Option Value) (base : Heap) (A : Around) (outer : List Env) (s : Shared) (H : Hp) : Prop where
  frames : A.frames = some outer
  mod : Mod K mg base
  bs : ∀ b o, base.get? b = some o → s.heap.get? b = some o ∧ H b = none
  bsz : base.objs.size ≤ s.heap.objs.size
  funs : s.heap.FunFrames base outer
  frf : ∀ b ∈ frs outer, H b = none
  hok : HOk P w H s.heap
  bare : AllBare s.gens
/-- a call's end -/
def CE (outer : List Env) (P : Program) (w : World) (H : Hp) (s : Shared) (Q : VK) (u : Value) (s' : Shared) : Prop :=
  ∃ v H', s'.os = s.os ∧ AllBare s'.gens ∧ Un (frs outer) [] H H' s.heap s'.heap ∧ HOk P w H' s'.heap ∧ RelV v u ∧ Q v H'
def CR (CX : CXT) (outer : List Env) (P : Program) (w : World) (H : Hp) (s : Shared) (Q : VK) (E : XK) (r : Result) (s' : Shared) : Prop :=
  match r with
  | .ok (.ret u) => CE outer P w H s Q u s'
  | .ok _ => False
  | .error e => CX outer H s E e s'
structure FnOk (P : Program) (w : World) (K : PySem.W.Frag) (mg : Str → Option Value) (base : Heap) (CX : CXT) (k : Nat) (f : Addr) (fd : FuncData) (ps : List Str) (sp : Sp) : Prop where
  len : ∀ vs H Q E, sp vs H Q E → vs.length = ps.length
  run : ∀ (A : Around) (outer : List Env) (s : Shared) (H : Hp) (args : Args) (us : List Value) (vs : List V) (Q : VK) (E : XK), Room k A → Env0 P w K mg base A outer s H → BindsTo s fd args (ps.zip us) → Vals vs us → sp vs H Q E →
    codeAny (model P w) A (.call (.ref f) args) (CR CX outer P w H s Q E) s
theorem FnOk.mono {P : Program} {w : World} {K : PySem.W.Frag} {mg : Str → Option Value} {base : Heap} {CX : CXT} {j k : Nat} {f : Addr} {fd : FuncData} {ps : List Str} {sp : Sp} (F : FnOk P w K mg base CX j f fd ps sp) (h : j ≤ k) :
    FnOk P w K mg base CX k f fd ps sp := ⟨F.len, fun A outer s H args us vs Q E hr => F.run A outer s H args us vs Q E (hr.mono h)⟩
/-- a weaker promise -/
theorem FnOk.imp {P : Program} {w : World} {K : PySem.W.Frag} {mg : Str → Option Value} {base : Heap} {CX : CXT} {k : Nat} {f : Addr} {fd : FuncData} {ps : List Str} {sp sp' : Sp} (F : FnOk P w K mg base CX k f fd ps sp)
    (h : ∀ vs H Q E, sp' vs H Q E → sp vs H Q E) : FnOk P w K mg base CX k f fd ps sp' :=
  ⟨fun vs H Q E q => F.len vs H Q E (h _ _ _ _ q), fun A outer s H args us vs Q E hr he hb hv hs => F.run A outer s H args us vs Q E hr he hb hv (h _ _ _ _ hs)⟩

theorem Env0.make {P : Program} {w : World} {K : PySem.W.Frag} {mg : Str → Option Value} {base : Heap} {A : Around} {outer : List Env} {s : Shared} {H : Hp} (e : Env0 P w K mg base A outer s H) (C : Addr) (us : List Value) (kw : List (Str × Value)) :
    Env0 P w K mg base (A.under (.builtin "type.__call__" ⟨.ref C :: us, kw⟩)) outer s H := ⟨by first | exact e.frames | (simpa [Around.under, Code.envs, Code.isFrame, pushEnvs] using e.frames), e.mod, e.bs, e.bsz, e.funs, e.frf, e.hok, e.bare⟩
theorem Env0.in1 {P : Program} {w : World} {K : PySem.W.Frag} {mg : Str → Option Value} {base : Heap} {A : Around} {outer : List Env} {s : Shared} {H : Hp} (e : Env0 P w K mg base A outer s H) :
    Env0 P w K mg base A.in1 outer s H := ⟨e.frames, e.mod, e.bs, e.bsz, e.funs, e.frf, e.hok, e.bare⟩

section
variable {X : Cx} {pins : List (Addr × Obj)} {σ : St} {H : Hp} {s s' : Shared}
/-- from a body: what a callee wants -/
theorem Inv.env0 (I : Inv X pins σ H s) : Env0 X.prog X.w X.K X.mg X.base X.A X.stack s H :=
  ⟨I.ok.frames, I.ok.mod, I.bs, Nat.le_trans I.ok.bsz I.sz, I.stack, I.stkFree, I.hok, I.bare⟩
/-- behind a call -/
theorem Inv.after {Q : VK} {u : Value} (I : Inv X pins σ H s) (h : CE X.stack X.prog X.w H s Q u s') : EP X pins σ Q u s' := by
  obtain ⟨v, H', os, bare, un, hok, r, q⟩ := h
  obtain ⟨hh, g, d, t, os'⟩ := s'
  obtain rfl : os' = s.os := os
  exact ⟨v, H', I.call (h' := hh) (g' := g) (d' := d) (t' := t) (ch := []) un hok bare (fun b z => absurd z (by simp)), r, q⟩
end

/-! ### calls -/
/-- f(..): the written arguments, then the defaults dvs; E: what is wanted of an exception -/
def tCall (sp : Sp) (dvs : List V) (E : XK) (t : TA) : TE := fun σ H Q => t σ H fun vs H1 => sp (vs ++ dvs) H1 Q E
/-- o.m(..) of an instance of the class at C -/
def tMeth (C : Addr) (m : Str) (sp : Sp) (dvs : List V) (E : XK) (ta : TE) (t : TA) : TE := fun σ H Q => ta σ H fun x H1 => ∃ a dx fs, x = .ref a ∧ H1 a = some (.ins C dx fs) ∧ fs.lookup m = none ∧
  t σ H1 fun vs H2 => sp (x :: (vs ++ dvs)) H2 Q E
/-- C(..): a new instance and its dict, then __init__ -/
def tMake (C : Addr) (sp : Sp) (dvs : List V) (E : XK) (t : TA) : TE := fun σ H Q => t σ H fun vs H1 => ∀ x dx, H1 x = none → H1 dx = none → dx ≠ x →
  sp (.ref x :: (vs ++ dvs)) (upd (upd H1 dx (.own x)) x (.ins C dx [])) (fun v H2 => v = .non ∧ Q (.ref x) H2) E

/-- how the parameters are bound: us the positional arguments, kw the keywords' values by name, ds the defaults that fill up -/
def Binds (K : PySem.W.Frag) (fd : FuncData) (ps : List Str) (ds : List Value) : Prop :=
  ∀ (s : Shared) (us : List Value), K.In s.heap → (us ++ ds).length = ps.length → BindsTo s fd ⟨us, []⟩ (ps.zip (us ++ ds))
/-- every parameter is given -/
theorem Binds.all {K : PySem.W.Frag} {fd : FuncData} {ps : List Str} (h : ∀ us : List Value, us.length = ps.length → bindArgs fd ⟨us, []⟩ = pure (ps.zip us)) : Binds K fd ps [] := fun s us _ hl => by
  rw [List.append_nil] at hl ⊢
  exact .of_eq (h us hl)

/-- an exception of a callee reaches what this body wants of exceptions -/
def Passes (CX : CXT) (X : Cx) (E : XK) : Prop := ∀ (pins : List (Addr × Obj)) (σ : St) (H : Hp) (s : Shared) (e : Value) (s' : Shared), Inv X pins σ H s → CX X.stack H s E e s' → X.xe e s'

section
variable {X : Cx} {CX : CXT} {k : Nat} {f C : Addr} {fd : FuncData} {ps : List Str} {sp : Sp} {dvs : List V} {ds : List Value} {E : XK} {x m : Str} {p pos apos : Pos} {e o : Expr} {es : List Expr} {ta : TE} {t : TA}

/-- the callee runs -/
theorem run_fn {pins : List (Addr × Obj)} {σ : St} {H : Hp} {s : Shared} {Q : VK} {us : List Value} {vs : List V} (F : FnOk X.prog X.w X.K X.mg X.base CX k f fd ps sp) (hr : Room k X.A) (hb : Binds X.K fd ps ds) (hd : Vals dvs ds) (hx : Passes CX X E)
    (I : Inv X pins σ H s) (r : Vals vs us) (h : sp (vs ++ dvs) H Q E) : wpAny (model X.prog X.w) X.A (call (.ref f) us) (EP X pins σ Q) X.xe s := by
  have r2 : Vals (vs ++ dvs) (us ++ ds) := r.append hd
  have hl : (us ++ ds).length = ps.length := by rw [← r2.length]; exact F.len _ _ _ _ h
  refine wpAny_call (codeAny_mono (F.run X.A X.stack s H ⟨us, []⟩ (us ++ ds) (vs ++ dvs) Q E hr I.env0 (hb s us I.kIn hl) r2 h) fun r s' hq => ?_)
  cases r with
  | error e => exact hx pins σ H s e s' I hq
  | ok fl =>
    cases fl with
    | ret u => exact I.after hq
    | next => exact False.elim hq
    | brk => exact False.elim hq
    | cont => exact False.elim hq

theorem pe_call (F : FnOk X.prog X.w X.K X.mg X.base CX k f fd ps sp) (hr : Room k X.A) (hg : Gl X x) (hm : X.mg x = some (.ref f)) (hk : PySem.W.keepIn X.K (.ref f) = true) (hb : Binds X.K fd ps ds) (hd : Vals dvs ds) (hx : Passes CX X E)
    (ha : PA X (e :: es) t) (hdb : (x == ("__debug__" : Str)) = false := by decide) (he : starEach (e :: es) X.env = (false, eval e X.env) :: starEach es X.env := by rfl) (hpl : (backTo pos (starEach es X.env)).any (·.1) = false := by rfl) :
    PE X (.Call (.Name x p) (e :: es) [] pos) (tCall sp dvs E t) := by
  intro pins s σ H Q I h
  refine wpAny_Call_Name_kw (ld_glob I hg hm ?_ hdb)
  refine PySem.W.callWith_K (h₀ := X.base) I.ok.mod.kin hk (thn (ha pos pins s σ H _ I h) fun us s1 ⟨vs, H1, I1, r, q⟩ => ⟨I1.kIn, ?_⟩) he hpl
  exact run_fn F hr hb hd hx I1 r q
theorem pe_call0 (F : FnOk X.prog X.w X.K X.mg X.base CX k f fd ps sp) (hr : Room k X.A) (hg : Gl X x) (hm : X.mg x = some (.ref f)) (hk : PySem.W.keepIn X.K (.ref f) = true) (hb : Binds X.K fd ps ds) (hd : Vals dvs ds) (hx : Passes CX X E)
    (hdb : (x == ("__debug__" : Str)) = false := by decide) : PE X (.Call (.Name x p) [] [] pos) (tCall sp dvs E tNil) := by
  intro pins s σ H Q I h
  refine wpAny_Call_Name_kw (ld_glob I hg hm ?_ hdb)
  exact PySem.W.callWith_K0 I.kIn hk (run_fn (us := []) F hr hb hd hx I .nil h)

/-- o.m(e, ..) -/
theorem pe_meth {pl : Sem Bool} (he : PE X o ta) (c : Cls X.K C) (hm : Meth X.K C m f) (F : FnOk X.prog X.w X.K X.mg X.base CX k f fd ps sp) (hr : Room k X.A) (hb : Binds X.K fd ps ds) (hd : Vals dvs ds) (hx : Passes CX X E) (ha : PA X (e :: es) t)
    (hst : starEach (e :: es) X.env = (false, eval e X.env) :: starEach es X.env := by rfl) (hpl : (backTo pos (starEach es X.env)).any (·.1) = false := by rfl)
    (ht : eval (.Call (.Attribute o m apos) (e :: es) [] pos) X.env = (do
      let ov ← eval o X.env
      standAt apos.atName
      let (f, first) ← holding [ov] (getMethod ov m pl)
      callWith pos f first (backTo pos (starEach (e :: es) X.env)) (backToKw pos (keywordEach [] X.env))) := by rfl) :
    PE X (.Call (.Attribute o m apos) (e :: es) [] pos) (tMeth C m sp dvs E ta t) := by
  intro pins s σ H Q I h
  refine PySem.W.methodCall_KW (pl := pl) (thn (he pins s σ H _ I h) fun u s1 ⟨x, H1, I1, rx, a, dx, fs, ex, ea, l, q⟩ => ?_) ht
  subst ex
  obtain rfl : u = Value.ref a := rx
  refine getmeth_ok I1 ea c hm l ?_
  refine PySem.W.callWith_K (first := [.ref a]) (h₀ := X.base) I.ok.mod.kin hm.kp (thn (ha pos pins s1 σ H1 _ I1 q) fun us s2 ⟨vs, H2, I2, r, q2⟩ => ⟨I2.kIn, ?_⟩) hst hpl
  exact run_fn (us := .ref a :: us) (vs := .ref a :: vs) F hr hb hd hx I2 (.cons rfl r) q2
/-- o.m() -/
theorem pe_meth0 {pl : Sem Bool} (he : PE X o ta) (c : Cls X.K C) (hm : Meth X.K C m f) (F : FnOk X.prog X.w X.K X.mg X.base CX k f fd ps sp) (hr : Room k X.A) (hb : Binds X.K fd ps ds) (hd : Vals dvs ds) (hx : Passes CX X E)
    (ht : eval (.Call (.Attribute o m apos) [] [] pos) X.env = (do
      let ov ← eval o X.env
      standAt apos.atName
      let (f, first) ← holding [ov] (getMethod ov m pl)
      callWith pos f first (backTo pos (starEach [] X.env)) (backToKw pos (keywordEach [] X.env))) := by rfl) :
    PE X (.Call (.Attribute o m apos) [] [] pos) (tMeth C m sp dvs E ta tNil) := by
  intro pins s σ H Q I h
  refine PySem.W.methodCall_KW (pl := pl) (thn (he pins s σ H _ I h) fun u s1 ⟨x, H1, I1, rx, a, dx, fs, ex, ea, l, q⟩ => ?_) ht
  subst ex
  obtain rfl : u = Value.ref a := rx
  refine getmeth_ok I1 ea c hm l ?_
  exact PySem.W.callWith_K0 (first := [.ref a]) I1.kIn hm.kp (run_fn (us := [.ref a]) (vs := [.ref a]) F hr hb hd hx I1 (.cons rfl .nil) q)

/-- what a class must have to be made -/
structure Mk (K : PySem.W.Frag) (C f : Addr) : Prop where
  makes : PySem.W.makesIn K C = true
  init : PySem.W.findIn K (.ref C) "__init__" = some (some (.ref f))
  fn : PySem.W.isFn K (.ref f) = true
  kp : PySem.W.keepIn K (.ref C) = true

theorem run_make {pins : List (Addr × Obj)} {σ : St} {H : Hp} {s : Shared} {Q : VK} {us : List Value} {vs : List V} (M : Mk X.K C f) (F : FnOk X.prog X.w X.K X.mg X.base CX k f fd ps sp) (hr : Room (k + 1) X.A) (hb : Binds X.K fd ps ds) (hd : Vals dvs ds)
    (hx : Passes CX X E) (I : Inv X pins σ H s) (r : Vals vs us)
    (h : ∀ x dx, H x = none → H dx = none → dx ≠ x → sp (.ref x :: (vs ++ dvs)) (upd (upd H dx (.own x)) x (.ins C dx [])) (fun v H2 => v = .non ∧ Q (.ref x) H2) E) :
    wpAny (model X.prog X.w) X.A (call (.ref C) us) (EP X pins σ Q) X.xe s := by
  have hq := h (s.heap.objs.size + 1) s.heap.objs.size (I.hok.fresh (Nat.le_succ _)) (I.hok.fresh (Nat.le_refl _)) (Nat.ne_of_lt (Nat.lt_succ_self _))
  have I2 := Inv.made (C := C) I
  have r2 : Vals (V.ref (s.heap.objs.size + 1) :: (vs ++ dvs)) (Value.ref (s.heap.objs.size + 1) :: (us ++ ds)) := .cons rfl (r.append hd)
  have hl : (Value.ref (s.heap.objs.size + 1) :: us ++ ds).length = ps.length := by
    have e := r2.length
    rw [F.len _ _ _ _ hq] at e
    exact e.symm
  refine wpAny_call (make_map (f := f) I.kIn M.makes M.init (beq_iff_eq.mp M.fn) (codeAny_mono (F.run _ X.stack _ _ ⟨Value.ref (s.heap.objs.size + 1) :: us, []⟩ (Value.ref (s.heap.objs.size + 1) :: (us ++ ds)) _ _ E (hr.make C us [])
    (I2.env0.make C us []) (hb _ (Value.ref (s.heap.objs.size + 1) :: us) I2.kIn hl) r2 hq) fun r s' hq' => ?_))
  cases r with
  | error e => exact hx pins σ _ _ e s' I2 hq'
  | ok fl =>
    cases fl with
    | ret u =>
      obtain ⟨v, H', I3, rv, ev, q3⟩ := I2.after hq'
      subst ev
      exact ⟨rv, ⟨V.ref (s.heap.objs.size + 1), H', I3, rfl, q3⟩⟩
    | next => exact False.elim hq'
    | brk => exact False.elim hq'
    | cont => exact False.elim hq'
theorem pe_make (M : Mk X.K C f) (F : FnOk X.prog X.w X.K X.mg X.base CX k f fd ps sp) (hr : Room (k + 1) X.A) (hg : Gl X x) (hm : X.mg x = some (.ref C)) (hb : Binds X.K fd ps ds) (hd : Vals dvs ds) (hx : Passes CX X E)
    (ha : PA X (e :: es) t) (hdb : (x == ("__debug__" : Str)) = false := by decide) (he : starEach (e :: es) X.env = (false, eval e X.env) :: starEach es X.env := by rfl) (hpl : (backTo pos (starEach es X.env)).any (·.1) = false := by rfl) :
    PE X (.Call (.Name x p) (e :: es) [] pos) (tMake C sp dvs E t) := by
  intro pins s σ H Q I h
  refine wpAny_Call_Name_kw (ld_glob I hg hm ?_ hdb)
  refine PySem.W.callWith_K (h₀ := X.base) I.ok.mod.kin M.kp (thn (ha pos pins s σ H _ I h) fun us s1 ⟨vs, H1, I1, r, q⟩ => ⟨I1.kIn, ?_⟩) he hpl
  exact run_make M F hr hb hd hx I1 r q
theorem pe_make0 (M : Mk X.K C f) (F : FnOk X.prog X.w X.K X.mg X.base CX k f fd ps sp) (hr : Room (k + 1) X.A) (hg : Gl X x) (hm : X.mg x = some (.ref C)) (hb : Binds X.K fd ps ds) (hd : Vals dvs ds) (hx : Passes CX X E)
    (hdb : (x == ("__debug__" : Str)) = false := by decide) : PE X (.Call (.Name x p) [] [] pos) (tMake C sp dvs E tNil) := by
  intro pins s σ H Q I h
  refine wpAny_Call_Name_kw (ld_glob I hg hm ?_ hdb)
  exact PySem.W.callWith_K0 I.kIn M.kp (run_make (us := []) M F hr hb hd hx I .nil h)
end

/-! ### keywords -/
/-- the values of the keywords, from the left -/
def PK (X : Cx) (kws : List Keyword) (t : TA) : Prop :=
  ∀ (pos : Pos) (pins : List (Addr × Obj)) (s : Shared) (σ : St) (H : Hp) (Q : List V → Hp → Prop), Inv X pins σ H s → t σ H Q → wpAny (model X.prog X.w) X.A (evalAll ((backToKw pos (keywordEach kws X.env)).map (·.2))) (AP X pins σ Q) X.xe s
section
variable {X : Cx} {CX : CXT} {k : Nat} {f C : Addr} {fd : FuncData} {ps ks : List Str} {sp : Sp} {E : XK} {x m : Str} {p pos apos kpos : Pos} {e o : Expr} {es : List Expr} {kws : List Keyword} {te ta : TE} {t tk : TA} {nm : Option Str}
theorem pk_nil : PK X [] tNil := fun _ _ _ _ H Q I h => wpAny_evalAll_nil ⟨[], H, I, .nil, h⟩
theorem pk_cons (ha : PE X e te) (hr : PK X kws t) : PK X (⟨nm, e, kpos⟩ :: kws) (tCons te t) := by
  intro pos pins s σ H Q I h
  show wpAny _ _ (evalAll ((do let v ← eval e X.env; standAt pos; pure v) :: (backToKw pos (keywordEach kws X.env)).map (·.2))) _ _ s
  refine wpAny_evalAll_cons (wpAny_bind (thn (ha pins s σ H _ I h) fun u s1 ⟨x, H1, I1, r1, q1⟩ => wpAny_bind (wpAny_standAt (wpAny_pure ?_))))
  exact thn (hr pos pins s1 σ H1 _ I1 q1) fun us s2 ⟨xs, H2, I2, r2, q2⟩ => ⟨x :: xs, H2, I2, .cons r1 r2, q2⟩

/-- how a call with keywords binds: g puts the positional values us and the keywords' values ws (names ks) in the parameters' order, defaults among them -/
structure KBinds (K : PySem.W.Frag) (fd : FuncData) (ps ks : List Str) (g : List Value → List Value → List Value) (gV : List V → List V → List V) : Prop where
  to : ∀ (s : Shared) (us ws : List Value), K.In s.heap → (g us ws).length = ps.length → BindsTo s fd ⟨us, ks.zip ws⟩ (ps.zip (g us ws))
  rel : ∀ {vs : List V} {us : List Value} {zs : List V} {ws : List Value}, Vals vs us → Vals zs ws → Vals (gV vs zs) (g us ws)
def tCallK (sp : Sp) (gV : List V → List V → List V) (E : XK) (t tk : TA) : TE := fun σ H Q => t σ H fun vs H1 => tk σ H1 fun zs H2 => sp (gV vs zs) H2 Q E
variable {g : List Value → List Value → List Value} {gV : List V → List V → List V}
theorem run_fnk {pins : List (Addr × Obj)} {σ : St} {H : Hp} {s : Shared} {Q : VK} {us ws : List Value} {vs zs : List V} (F : FnOk X.prog X.w X.K X.mg X.base CX k f fd ps sp) (hr : Room k X.A) (hb : KBinds X.K fd ps ks g gV) (hx : Passes CX X E)
    (I : Inv X pins σ H s) (r : Vals vs us) (rz : Vals zs ws) (h : sp (gV vs zs) H Q E) : wpAny (model X.prog X.w) X.A (call (.ref f) us (ks.zip ws)) (EP X pins σ Q) X.xe s := by
  have r2 := hb.rel r rz
  have hl : (g us ws).length = ps.length := by rw [← r2.length]; exact F.len _ _ _ _ h
  refine wpAny_call (codeAny_mono (F.run X.A X.stack s H ⟨us, ks.zip ws⟩ (g us ws) (gV vs zs) Q E hr I.env0 (hb.to s us ws I.kIn hl) r2 h) fun r s' hq => ?_)
  cases r with
  | error e => exact hx pins σ H s e s' I hq
  | ok fl =>
    cases fl with
    | ret u => exact I.after hq
    | next => exact False.elim hq
    | brk => exact False.elim hq
    | cont => exact False.elim hq
/-- f(e, .., k = v, ..) -/
theorem pe_callK (F : FnOk X.prog X.w X.K X.mg X.base CX k f fd ps sp) (hr : Room k X.A) (hg : Gl X x) (hm : X.mg x = some (.ref f)) (hk : PySem.W.keepIn X.K (.ref f) = true) (hb : KBinds X.K fd ps ks g gV) (hx : Passes CX X E)
    (ha : PA X (e :: es) t) (hkw : PK X kws tk) (hall : (backToKw pos (keywordEach kws X.env)).all (·.1.isSome) = true := by rfl) (hks : (backToKw pos (keywordEach kws X.env)).filterMap (·.1) = ks := by rfl)
    (hdb : (x == ("__debug__" : Str)) = false := by decide) (he : starEach (e :: es) X.env = (false, eval e X.env) :: starEach es X.env := by rfl)
    (hpl : ((backTo pos (starEach (e :: es) X.env)).any (·.1) || (backToKw pos (keywordEach kws X.env)).any (·.1.isNone)) = false := by rfl) :
    PE X (.Call (.Name x p) (e :: es) kws pos) (tCallK sp gV E t tk) := by
  intro pins s σ H Q I h
  refine wpAny_Call_Name_kw (ld_glob I hg hm ?_ hdb)
  refine PySem.W.callWith_KW (h₀ := X.base) I.ok.mod.kin hk hall (thn (ha pos pins s σ H _ I h) fun us s1 ⟨vs, H1, I1, r, q⟩ => ?_) hpl he
  refine thn (hkw pos pins s1 σ H1 _ I1 q) fun ws s2 ⟨zs, H2, I2, rz, q2⟩ => ⟨I2.kIn, ?_⟩
  rw [hks]
  exact run_fnk F hr hb hx I2 r rz q2
end

/-! ### a def's body keeps its promise -/
/-- names: the parameters first -/
structure FnScope (N P : List Str) (sc : Scope) : Prop where
  kind : sc.kind = .function
  co : sc.isCoroutine = false
  gen : sc.isGenerator = false
  nd : N.Nodup
  pre : N.take P.length = P
  par : ∀ x ∈ P, sc.names.lookup x = some .local ∨ sc.names.lookup x = some .cell
  nofree : ∀ y ∈ sc.names, y.2 ≠ .free

theorem bindL_out {kindOf : Str → Option NameKind} {x : Str} : ∀ {binds : List (Str × Value)} {m : Str → Option Value}, (∀ v, (x, v) ∉ binds) → bindL kindOf binds m x = m x
  | [], _, _ => rfl
  | (n, v) :: r, m, h => by
    unfold bindL
    rw [bindL_out fun w hw => h w (List.mem_cons_of_mem _ hw)]
    split
    · have : x ≠ n := by rintro rfl; exact h v List.mem_cons_self
      simp [this]
    · rfl
theorem bindC_out {kindOf : Str → Option NameKind} {x : Str} : ∀ {binds : List (Str × Value)} {m : Str → Option Value}, (∀ v, (x, v) ∉ binds) → bindC kindOf binds m x = m x
  | [], _, _ => rfl
  | (n, v) :: r, m, h => by
    unfold bindC
    rw [bindC_out fun w hw => h w (List.mem_cons_of_mem _ hw)]
    split
    · rfl
    · have : x ≠ n := by rintro rfl; exact h v List.mem_cons_self
      simp [this]
theorem bindL_get {kindOf : Str → Option NameKind} {x : Str} {v : Value} : ∀ {P : List Str} {vs : List Value} {i : Nat} {m : Str → Option Value}, P.Nodup → P[i]? = some x → vs[i]? = some v → kindOf x = some .local →
    bindL kindOf (P.zip vs) m x = some v
  | [], _, _, _, _, h, _, _ => by simp at h
  | _ :: _, [], _, _, _, _, h, _ => by simp at h
  | p :: P, w :: vs, 0, m, nd, h1, h2, hk => by
    simp at h1 h2; subst h1; subst h2
    show bindL kindOf ((p, w) :: P.zip vs) m p = _
    unfold bindL
    rw [bindL_out fun v hv => (List.nodup_cons.mp nd).1 (List.of_mem_zip hv).1, if_pos hk]
    simp
  | p :: P, w :: vs, i + 1, m, nd, h1, h2, hk => by
    show bindL kindOf ((p, w) :: P.zip vs) m x = _
    unfold bindL
    exact bindL_get (i := i) (List.nodup_cons.mp nd).2 (by simpa using h1) (by simpa using h2) hk
theorem bindC_get {kindOf : Str → Option NameKind} {x : Str} {v : Value} : ∀ {P : List Str} {vs : List Value} {i : Nat} {m : Str → Option Value}, P.Nodup → P[i]? = some x → vs[i]? = some v → kindOf x ≠ some .local →
    bindC kindOf (P.zip vs) m x = some v
  | [], _, _, _, _, h, _, _ => by simp at h
  | _ :: _, [], _, _, _, _, h, _ => by simp at h
  | p :: P, w :: vs, 0, m, nd, h1, h2, hk => by
    simp at h1 h2; subst h1; subst h2
    show bindC kindOf ((p, w) :: P.zip vs) m p = _
    unfold bindC
    rw [bindC_out fun v hv => (List.nodup_cons.mp nd).1 (List.of_mem_zip hv).1, if_neg hk]
    simp
  | p :: P, w :: vs, i + 1, m, nd, h1, h2, hk => by
    show bindC kindOf ((p, w) :: P.zip vs) m x = _
    unfold bindC
    exact bindC_get (i := i) (List.nodup_cons.mp nd).2 (by simpa using h1) (by simpa using h2) hk

/-- the names' values at the entry -/
def start (N : List Str) (vs : List V) : St := vs.map some ++ List.replicate (N.length - vs.length) none

/-- the context of a def's body, at its entry; an exception leaves the frame, then lies as CX says -/
def cxOf (CX : CXT) (P : Program) (w : World) (K : PySem.W.Frag) (mg : Str → Option Value) (base : Heap) (N : List Str) (qual : Str) (scope : Scope) (f : Addr) (cd : Value) (A : Around) (outer : List Env) (s : Shared) (H : Hp) (E : XK) : Cx where
  prog := P
  w := w
  K := K
  mg := mg
  base := base
  A := A.deeper (envOfC qual scope s.heap.objs.size f cd)
  N := N
  s_0 := s
  H_0 := H
  env := envOfC qual scope s.heap.objs.size f cd
  outer := outer
  stack := envOfC qual scope s.heap.objs.size f cd :: outer
  ex := []
  calm := true
  fn := fun _ => true
  pn := []
  xe := fun e s' => wpAny (model P w) (A.deeper (envOfC qual scope s.heap.objs.size f cd)) (leaving (envOfC qual scope s.heap.objs.size f cd) e) (fun _ s'' => CX outer H s E e s'') (fun e' s'' => CX outer H s E e' s'') s'

theorem cell_has {sc : Scope} {n : Nat} {x : Str} (h : sc.names.lookup x = some .cell) : ∃ c, (cellsFrom n sc.names []).lookup x = some c := by
  have q := PySem.W.cellsFrom_some sc.names n [] (.inl h)
  exact Option.isSome_iff_exists.mp q

theorem inv_start {CX : CXT} {P : Program} {w : World} {K : PySem.W.Frag} {mg : Str → Option Value} {base : Heap} {N ps : List Str} {qual : Str} {scope : Scope} {f : Addr} {cd : Value} {A : Around} {outer : List Env} {s s1 : Shared} {H : Hp} {E : XK} {us : List Value} {vs : List V}
    (S : FnScope N ps scope) (hd : A.handled = none) (e0 : Env0 P w K mg base A outer s H) (hl : vs.length = ps.length) (r : Vals vs us)
    (x : InCallC s s.heap.objs.size (bindL (envOfC qual scope s.heap.objs.size f cd).kindOf (ps.zip us) fun _ => none) (cellsFrom (s.heap.objs.size + 1) scope.names []) (bindC (envOfC qual scope s.heap.objs.size f cd).kindOf (ps.zip us) fun _ => none) s1) :
    Inv (cxOf CX P w K mg base N qual scope f cd A outer s H E) [] (start N vs) H s1 := by
  have hpl : ps.length ≤ N.length := by have := congrArg List.length S.pre; rw [List.length_take] at this; omega
  obtain ⟨h1, tk, rfl, hk⟩ := x.done
  have noA : ∀ b : Addr, b ∉ (cxOf CX P w K mg base N qual scope f cd A outer s H E).ex := fun b z => absurd (show b ∈ ([] : List Addr) from z) (by simp)
  refine ⟨⟨e0.mod, S.kind, rfl, rfl, Nat.le_refl _, fun y z c h1 h2 => ?_, fun y hy => ?_, fun y c _ h => ?_, fun _ => hd, Around.frames_deeper e0.frames, .inr ⟨rfl, rfl⟩, fun b z => absurd z (noA b), e0.bs, e0.bsz, fun b _ _ => noA b, fun b z => absurd z (noA b), e0.funs, e0.frf⟩,
    rfl, e0.bare, Un.kept hk, ⟨_, x.toInCall.ns, fun i y v h1 h2 h3 => ?_⟩, fun y c h => ⟨_, x.cell y c h⟩, e0.hok.fresh (Nat.le_refl _), fun y c h => ?_, fun p hp => absurd (show p ∈ ([] : List (Addr × Obj)) from hp) (by simp), e0.hok.kept hk, ?_⟩
  · exact name_of_addr x.apart (PySem.mem_of_lookup h1) (PySem.mem_of_lookup h2)
  · have hy : scope.names.lookup y = some .cell ∨ scope.names.lookup y = some .free := hy
    rcases hy with hy | hy
    · exact cell_has hy
    · exact absurd rfl (S.nofree _ (PySem.mem_of_lookup hy))
  · exact Nat.le_of_lt (x.above y c (PySem.mem_of_lookup h))
  · have hi : i < vs.length := by
      unfold start at h2
      by_cases hi : i < vs.length
      · exact hi
      · rw [List.getElem?_append_right (by simpa using hi)] at h2
        rw [List.getElem?_replicate] at h2
        split at h2 <;> cases h2
    have ha : vs[i]? = some v := by
      unfold start at h2
      rw [List.getElem?_append_left (by simpa using hi), List.getElem?_map] at h2
      cases e : vs[i]? with
      | none => rw [e] at h2; cases h2
      | some a => rw [e] at h2; cases h2; rfl
    obtain ⟨u, hu, rv⟩ := r.get ha
    have hp : ps[i]? = some y := by
      rw [← S.pre, List.getElem?_take_of_lt (by omega)]; exact h1
    have ndP : ps.Nodup := by rw [← S.pre]; exact S.nd.sublist (List.take_sublist _ _)
    refine ⟨u, rv, ?_⟩
    rcases S.par y (List.mem_of_getElem? hp) with k | k
    · exact .inl ⟨k, bindL_get ndP hp hu k⟩
    · obtain ⟨c, e⟩ := cell_has (n := s.heap.objs.size + 1) k
      refine .inr ⟨.inl k, c, e, ?_⟩
      have q := x.cell y c e
      rw [bindC_get ndP hp hu (by show scope.names.lookup y ≠ _; rw [k]; decide)] at q
      exact q
  · exact e0.hok.fresh (Nat.le_of_lt (x.above y c (PySem.mem_of_lookup h)))
  · unfold start
    show _ = N.length
    rw [List.length_append, List.length_map, List.length_replicate]
    omega

/-- THE RULE: a def (or a method) of the text, by its body. The body's reading t is chosen for each entry; it is run at the parameters' values -/
theorem fn_of {CX : CXT} {P : Program} {w : World} {K : PySem.W.Frag} {mg : Str → Option Value} {base : Heap} {k : Nat} {f : Addr} {name qual : Str} {params : Arguments} {body : List Stmt} {scope : Scope} {dV kV doc pm cdv ct oc : Value} {an od : Option Addr}
    {osl : Array (Option Value)} {N ps : List Str} {sp : Sp} (lk : K.lookup f = some ⟨oc, od, .func (PySem.W.fnOf name qual params body scope dV kV doc pm an cdv ct), osl⟩) (hcd : PySem.W.codeIn K cdv qual = true) (S : FnScope N ps scope)
    (len : ∀ vs H Q E, sp vs H Q E → vs.length = ps.length)
    (hbody : ∀ (A : Around) (outer : List Env) (s : Shared) (H : Hp) (vs : List V) (Q : VK) (E : XK), Room k (A.deeper (envOfC qual scope s.heap.objs.size f cdv)) → sp vs H Q E →
      ∃ t, PSs (cxOf CX P w K mg base N qual scope f cdv A outer s H E) body t ∧ t { nx := fun _ H' => Q .non H', rt := Q } (start N vs) H) :
    FnOk P w K mg base CX (k + 1) f (PySem.W.fnOf name qual params body scope dV kV doc pm an cdv ct) ps sp := by
  refine ⟨len, fun A outer s H args us vs Q E hr e0 hb r hsp => ?_⟩
  have hl := len _ _ _ _ hsp
  have KX : K.In s.heap := e0.mod.kin.keeps fun b o e => (e0.bs b o e).1
  have lim : s.heap.NoLimit := e0.mod.nolimit.keeps fun b o e => (e0.bs b o e).1
  have hkind : ∀ y ∈ ps.zip us, scope.names.lookup y.1 = some .local ∨ (scope.names.lookup y.1 = some .cell ∧ ((cellsFrom (s.heap.objs.size + 1) scope.names []).lookup y.1).isSome = true) := fun ⟨n, v⟩ hy => by
    rcases S.par n (List.of_mem_zip hy).1 with q | q
    · exact .inl q
    · exact .inr ⟨q, PySem.W.cellsFrom_some _ _ _ (.inl q)⟩
  refine codeAny_call_function hr.depth (KX _ _ lk) rfl S.co S.gen rfl (PySem.W.codeRec_of KX hcd) (hb _ _ _ _ ?_)
  refine wpAny_newFunctionEnv_cells S.kind hkind fun env he s1 x => ?_
  subst he
  refine ⟨lim.keeps x.toInCall.keep, codeAny_func ?_⟩
  obtain ⟨t, ht, hq⟩ := hbody A outer s H vs Q E (hr.deeper _) hsp
  have I : Inv (cxOf CX P w K mg base N qual scope f cdv A outer s H E) [] (start N vs) H s1 := inv_start S hr.hd e0 hl r x
  refine wpAny_mono (ht [] s1 (start N vs) H _ I hq) (fun fl s' hs => ?_) fun e s' hs => hs
  have fin : ∀ {σ' : St} {H' : Hp} {v : V} {u : Value}, Inv (cxOf CX P w K mg base N qual scope f cdv A outer s H E) [] σ' H' s' → RelV v u → Q v H' → CE outer P w H s Q u s' :=
    fun {σ' H' v u} J rv q => ⟨v, H', J.os, J.bare, J.base, J.hok, rv, q⟩
  cases fl with
  | ret u =>
    obtain ⟨v, σ', H', J, rv, q⟩ := hs
    exact fin J rv q
  | next =>
    obtain ⟨σ', H', J, q⟩ := hs
    exact fin (v := V.non) (u := Value.none) J rfl q
  | brk =>
    obtain ⟨_, _, _, q⟩ := hs
    exact False.elim q
  | cont =>
    obtain ⟨_, _, _, q⟩ := hs
    exact False.elim q
end L2

namespace L2
open PySem PySem.Spec PyProof.Rows
section
variable {X : Cx} {x : Str} {p pos : Pos} {e : Expr} {es : List Expr} {t : TA} {id T : String} {r : List V → Hp → VK → Prop}

def tCB (r : List V → Hp → VK → Prop) (t : TA) : TE := fun σ H Q => t σ H fun vs H1 => r vs H1 Q
/-- f(e, ..), f a built-in function -/
theorem pe_callB (hc : CallR X (.builtin id) r) (hg : Gl X x) (hm : X.mg x = none) (hv : bootBuiltins x = some (.builtin id)) (ha : PA X (e :: es) t) (hn : x ≠ "__name__" := by decide) (hdb : (x == ("__debug__" : Str)) = false := by decide)
    (he : starEach (e :: es) X.env = (false, eval e X.env) :: starEach es X.env := by rfl) (hpl : (backTo pos (starEach es X.env)).any (·.1) = false := by rfl) : PE X (.Call (.Name x p) (e :: es) [] pos) (tCB r t) := by
  intro pins s σ H Q I h
  refine wpAny_Call_Name_kw (ld_blt I hg hm hv ?_ hn hdb)
  exact PyProof.Rows.callWith_builtin1 (thn (ha pos pins s σ H _ I h) fun us s1 ⟨vs, H1, I1, r1, q1⟩ => hc pins s1 σ H1 vs us Q I1 r1 q1) he hpl
/-- T(e, ..), T a built-in type -/
theorem pe_callTy (hc : CallR X (.type T) r) (hg : Gl X x) (hm : X.mg x = none) (hv : bootBuiltins x = some (.type T)) (ha : PA X (e :: es) t) (hn : x ≠ "__name__" := by decide) (hdb : (x == ("__debug__" : Str)) = false := by decide)
    (he : starEach (e :: es) X.env = (false, eval e X.env) :: starEach es X.env := by rfl) (hpl : (backTo pos (starEach es X.env)).any (·.1) = false := by rfl) : PE X (.Call (.Name x p) (e :: es) [] pos) (tCB r t) := by
  intro pins s σ H Q I h
  refine wpAny_Call_Name_kw (ld_blt I hg hm hv ?_ hn hdb)
  exact PyProof.Rows.callWith_type1 (thn (ha pos pins s σ H _ I h) fun us s1 ⟨vs, H1, I1, r1, q1⟩ => hc pins s1 σ H1 vs us Q I1 r1 q1) he hpl
/-- T() -/
theorem pe_callTy0 (hc : CallR X (.type T) r) (hg : Gl X x) (hm : X.mg x = none) (hv : bootBuiltins x = some (.type T)) (hn : x ≠ "__name__" := by decide) (hdb : (x == ("__debug__" : Str)) = false := by decide) :
    PE X (.Call (.Name x p) [] [] pos) (tCB r tNil) := by
  intro pins s σ H Q I h
  refine wpAny_Call_Name_kw (ld_blt I hg hm hv ?_ hn hdb)
  exact PyProof.Rows.callWith_type0 (hc pins s σ H [] [] Q I .nil h)
end
end L2

namespace HT
open PySem PyProof.Rows

/-- t < u of tuples of ints -/
def lexLt : List Int → List Int → Bool
  | [], [] => false
  | [], _ :: _ => true
  | _ :: _, [] => false
  | x :: xs, y :: ys => if x = y then lexLt xs ys else decide (x < y)
theorem lexLt_cons (x y : Int) (xs ys : List Int) : lexLt (x :: xs) (y :: ys) = if x = y then lexLt xs ys else decide (x < y) := rfl
theorem lexLt_nil_nil : lexLt [] [] = false := rfl
theorem lexLt_nil_cons (y : Int) (ys : List Int) : lexLt [] (y :: ys) = true := rfl
theorem lexLt_cons_nil (x : Int) (xs : List Int) : lexLt (x :: xs) [] = false := rfl

theorem eqAt_int (A : Around) (s : Shared) (a : Int) (t : Tok) (c : Int) (u : Tok) : ∃ e, SeqAt.EqAt A s (.int a t) (.int c u) e ∧ (e = true ↔ a = c) :=
  ⟨(a == c), SeqAt.EqAt.int_int a t c u, by simp⟩
theorem rcLt_int (A : Around) (s : Shared) (a : Int) (t : Tok) (c : Int) (u : Tok) (prog : Program) (w : World) (E : Value → Shared → Prop) (Q : Value → Shared → Prop) (h : Q (.bool (decide (a < c))) s) :
    wpAny (model prog w) A (richCompare .Lt (.int a t) (.int c u)) Q E s :=
  (PyProof.Rows.lt_int h : wpAny (model prog w) A (compareOp .Lt (.int a t) (.int c u)) Q E s)

section
open PySem.SeqAt
open PySem.AutoSeq1 (wpAny_loadPart')
open PySem.MeetsSeq PySem.MeetsSeq2 PySem.MeetsSeq3

theorem tuple_lt_ints (l b : Addr) (items items2 : Array Value) (n n2 : Nat) (dd dd2 : Option Addr) (sl sl2 : Array (Option Value)) (ns ms : List Int) (hi : IntsAre items.toList ns) (hj : IntsAre items2.toList ms) :
    Meets (Builtin.«tuple.__lt__» ⟨[.ref l, .ref b], []⟩)
      (fun _ R s => s.heap.get? l = some { cls := .type "tuple", dict := dd, data := .seq items n, slots := sl } ∧ s.heap.get? b = some { cls := .type "tuple", dict := dd2, data := .seq items2 n2, slots := sl2 } ∧
        R (.ok (.ret (.bool (lexLt ns ms)))) s) :=
  .of_wp fun prog w A R s h => by
    obtain ⟨hp, g, d, tk, os⟩ := s; obtain ⟨hl, hb, h⟩ := h
    have f2 := AutoSeq1.sub_tuple_tuple
    have z1 : items.size = ns.length := by rw [← hi.length]; simp
    have z2 : items2.size = ms.length := by rw [← hj.length]; simp
    wp_walk using wpAny_loadPart' hl, wpAny_loadPart' hb, wpAny_forIn_list _ (fun rest b s' => b.1 = none ∧ s' = ⟨hp, g, d, tk, os⟩ ∧ ∃ (vs ws : List Value) (ns' ms' : List Int), rest = vs.zip ws ∧
      IntsAre vs ns' ∧ IntsAre ws ms' ∧ ns'.length + items2.size = ms'.length + items.size ∧ R (.ok (.ret (.bool (lexLt ns' ms')))) ⟨hp, g, d, tk, os⟩) _
    case turn =>
      rintro ⟨y, x⟩ rest b s' ⟨hb', rfl, vs, ws, ns', ms', hz, hvi, hwi, hlen, hR⟩
      cases hvi with
      | nil => rw [List.zip_nil_left] at hz; cases hz
      | cons a t hvi' =>
        cases hwi with
        | nil => rw [List.zip_nil_right] at hz; cases hz
        | cons c u hwi' =>
          rw [List.zip_cons_cons] at hz
          injection hz with hyx hrest
          injection hyx with hy hx
          subst hy hx
          rw [lexLt_cons] at hR
          simp only [List.length_cons] at hlen
          obtain ⟨e, he, hiff⟩ := eqAt_int A.in1 ⟨hp, g, d, tk, os⟩ a t c u
          refine wpAny_bind (he prog w _ _ ?_)
          cases e with
          | true =>
            rw [if_pos (hiff.mp rfl)] at hR
            wp_walk
            exact ⟨rfl, rfl, _, _, _, _, hrest, hvi', hwi', by omega, hR⟩
          | false =>
            rw [if_neg (fun q => absurd (hiff.mpr q) Bool.false_ne_true)] at hR
            have hri := rcLt_int A.in1 ⟨hp, g, d, tk, os⟩ a t c u prog w
            wp_walk using hri
            exact ⟨_, rfl, by simpa using hR⟩
    case fin =>
      rintro ⟨b1, b2⟩ s' ⟨hb', rfl, vs, ws, ns', ms', hz, hvi, hwi, hlen, hR⟩
      simp only at hb'
      subst hb'
      have hv : lexLt ns' ms' = decide (items.size < items2.size) := by
        cases hvi with
        | nil =>
          cases hwi with
          | nil =>
            simp only [List.length_nil] at hlen
            rw [lexLt_nil_nil]
            exact (decide_eq_false (by omega)).symm
          | cons c u hw =>
            simp only [List.length_nil, List.length_cons] at hlen
            rw [lexLt_nil_cons]
            exact (decide_eq_true (by omega)).symm
        | cons a t hv =>
          cases hwi with
          | nil =>
            simp only [List.length_nil, List.length_cons] at hlen
            rw [lexLt_cons_nil]
            exact (decide_eq_false (by omega)).symm
          | cons c u hw =>
            rw [List.zip_cons_cons] at hz
            cases hz
      rw [hv] at hR
      wp_walk
      exact ⟨_, rfl, by simpa [Builtin.Tuple.tupleCompareSizes] using hR⟩
    case h =>
      exact ⟨rfl, rfl, items.toList, items2.toList, ns, ms, rfl, hi, hj, by omega, h⟩
end

section
variable {prog : Program} {w : World} {A : Around} {E : Value → Shared → Prop} {s : Shared}

theorem lt_tupInts {l b : Addr} {items items2 : Array Value} {ns ms : List Int} {Q : Value → Shared → Prop} (hl : IsTup s.heap l items) (hb : IsTup s.heap b items2) (hi : IntsAre items.toList ns) (hj : IntsAre items2.toList ms)
    (hu : A.units < cLine) (h : Q (.bool (lexLt ns ms)) s) : wpAny (model prog w) A (compareOp .Lt (.ref l) (.ref b)) Q E s := by
  obtain ⟨⟨cls, dd, data, sl⟩, ho, hc, n, hd⟩ := id hl
  obtain ⟨⟨cls2, dd2, data2, sl2⟩, ho2, hc2, n2, hd2⟩ := id hb
  simp only at hc hd hc2 hd2
  subst hc hd hc2 hd2
  exact richCompare_meets_room (op := .Lt) ⟨_, ho, rfl⟩ ⟨_, ho2, rfl⟩ PySem.F.slot_tuple_lt PySem.F.entry_tuple_lt (PySem.F.args_tuple_lt_2 _ _) (tuple_lt_ints l b items items2 n n2 dd dd2 sl sl2 ns ms hi hj)
    ⟨ho, ho2, show Value.bool (lexLt ns ms) ≠ Value.notImplemented ∧ Q (.bool (lexLt ns ms)) s from ⟨(fun x => nomatch x), h⟩⟩ hu

/-- t + u, t not empty -/
theorem cat_tup {t b : Addr} {vs ws : List Value} {Q : Value → Shared → Prop} (ht : IsTup s.heap t vs.toArray) (hb : IsTup s.heap b ws.toArray) (hv : vs ≠ [])
    (h1 : ws = [] → Q (.ref t) s) (h2 : ws ≠ [] → Q (.ref s.heap.objs.size) { s with heap := s.heap.push { cls := .type "tuple", data := .seq (vs ++ ws).toArray } })
    (hsz : vs.length + ws.length ≤ sizeLine) : wpAny (model prog w) A (binaryOp .Add (.ref t) (.ref b)) Q E s := by
  obtain ⟨⟨cls, dd, data, sl⟩, ho, hc, n, hd⟩ := id ht
  obtain ⟨⟨cls2, dd2, data2, sl2⟩, ho2, hc2, n2, hd2⟩ := id hb
  simp only at hc hd hc2 hd2
  subst hc hd hc2 hd2
  have e : vs.toArray ++ ws.toArray = (vs ++ ws).toArray := by simp
  by_cases hw : ws = []
  · exact concat_meets ⟨_, ho, rfl⟩ ⟨_, ho2, rfl⟩ noFill_tuple_add seq_tuple_add PySem.F.slot_tuple_add PySem.F.entry_tuple_add (PySem.F.args_tuple_add_2 _ _)
      (tuple_addW1 t b vs.toArray ws.toArray n n2 dd dd2 sl sl2 (by simpa using hv) (by simp [hw])) ⟨ho, ho2, h1 hw⟩
  · refine concat_meets ⟨_, ho, rfl⟩ ⟨_, ho2, rfl⟩ noFill_tuple_add seq_tuple_add PySem.F.slot_tuple_add PySem.F.entry_tuple_add (PySem.F.args_tuple_add_2 _ _)
      (tuple_addW2 t b vs.toArray ws.toArray n n2 dd dd2 sl sl2 (by simpa using hv) (by simpa using hw) (by rw [List.size_toArray, List.size_toArray]; exact hsz)) ⟨ho, ho2, ?_⟩
    rw [e]
    exact h2 hw

/-! ### t[a:b], not the whole -/
/-- a slice's bound as a place among n (d where it is left out) -/
def sIx (n d : Nat) : Option Int → Nat
  | none => d
  | some v => if v < 0 then (v + (n : Int)).toNat else min v.toNat n
theorem sIx_none (n d : Nat) : sIx n d none = d := rfl
theorem sIx_nat (n d k : Nat) : sIx n d (some (k : Int)) = min k n := by
  show (if (k : Int) < 0 then ((k : Int) + (n : Int)).toNat else min (k : Int).toNat n) = min k n
  rw [if_neg (by omega), Int.toNat_natCast]
theorem sIx_le (n d : Nat) (hd : d ≤ n) (o : Option Int) : sIx n d o ≤ n := by
  cases o with
  | none => exact hd
  | some v =>
    show (if v < 0 then (v + (n : Int)).toNat else min v.toNat n) ≤ n
    by_cases hv : v < 0
    · rw [if_pos hv]; omega
    · rw [if_neg hv]; exact Nat.min_le_right _ _
theorem clip_eq (v : Int) (n d : Nat) : (if v < 0 then max (v + (n : Int)) 0 else min v (n : Int)) = ((sIx n d (some v) : Nat) : Int) := by
  show (if v < 0 then max (v + (n : Int)) 0 else min v (n : Int)) = (((if v < 0 then (v + (n : Int)).toNat else min v.toNat n) : Nat) : Int)
  by_cases hv : v < 0
  · simp only [if_pos hv]; omega
  · simp only [if_neg hv]; omega
theorem adjust_gen (lo hi : Option Int) (n : Nat) : Builtin.Slice.sliceAdjust lo hi 1 (n : Int) = (((sIx n 0 lo : Nat) : Int), ((sIx n n hi : Nat) : Int)) := by
  have h1 : ¬ ((1 : Int) < 0) := by omega
  unfold Builtin.Slice.sliceAdjust
  simp only [h1, if_false]
  refine Prod.ext ?_ ?_
  · cases lo with
    | none => rfl
    | some v => exact clip_eq v n 0
  · cases hi with
    | none => rfl
    | some v => exact clip_eq v n n
theorem places_gen (i j : Nat) : Builtin.Slice.slicePlaces (i : Int) (j : Int) 1 = j - i := by
  unfold Builtin.Slice.slicePlaces
  have h1 : (1 : Int) > 0 := by omega
  simp only [h1, if_true, Int.ediv_one]
  split <;> omega
theorem slicePart_ {v : Value} {o : Option Int} {Q : Option Int → Shared → Prop} (p : IsPart v o) (h : Q o s) : wpAny (model prog w) A (Builtin.Slice.slicePartIndex v) Q E s := by
  cases p with
  | none => exact slicePart_none h
  | int i t => exact slicePart_int h
theorem sliceApplied_gen {sl : Addr} {vl vu : Value} {lo hi : Option Int} {n : Nat} {Q : Int × Int × Nat → Shared → Prop} (hs : s.heap.IsSliceOf sl vl vu .none) (pl : IsPart vl lo) (pu : IsPart vu hi)
    (h : Q (((sIx n 0 lo : Nat) : Int), 1, sIx n n hi - sIx n 0 lo) s) : wpAny (model prog w) A (Builtin.Slice.sliceApplied (.ref sl) (pure (n : Int))) Q E s := by
  obtain ⟨os, hos, hcs, hds⟩ := id hs
  unfold Builtin.Slice.sliceApplied Builtin.Slice.sliceFields
  refine wpAny_bind (wpAny_bind (wpAny_field hos hds (x := vl) rfl (wpAny_bind (wpAny_field hos hds (x := vu) rfl (wpAny_bind (wpAny_field hos hds (x := .none) rfl (wpAny_pure ?_)))))))
  refine wpAny_bind (slicePart_none ?_)
  show wpAny _ _ (if ((1 : Int) == 0) = true then _ else _) _ _ s
  rw [if_neg (by decide)]
  refine wpAny_bind (slicePart_ pl (wpAny_bind (slicePart_ pu (wpAny_bind (wpAny_pure ?_)))))
  show wpAny _ _ (match Builtin.Slice.sliceAdjust lo hi 1 (n : Int) with | (lo, hi) => pure (lo, (1 : Int), Builtin.Slice.slicePlaces lo hi 1)) _ _ s
  rw [adjust_gen lo hi n]
  show wpAny _ _ (pure (((sIx n 0 lo : Nat) : Int), (1 : Int), Builtin.Slice.slicePlaces ((sIx n 0 lo : Nat) : Int) ((sIx n n hi : Nat) : Int) 1)) _ _ s
  rw [places_gen]
  exact wpAny_pure h
theorem pick_gen (xs : Array Value) (i k : Nat) : ((List.range k).filterMap fun (m : Nat) => xs[((i : Int) + (m : Int) * 1).toNat]?).toArray = ((xs.toList.drop i).take k).toArray := by
  have e : (fun (m : Nat) => xs[((i : Int) + (m : Int) * 1).toNat]?) = fun m => xs[i + m]? := by
    funext m
    have : ((i : Int) + (m : Int) * 1).toNat = i + m := by omega
    rw [this]
  rw [e]
  have := pick_run xs i k
  rw [List.filterMap_map] at this
  have e2 : ((fun x => xs[x]?) ∘ fun x => i + x) = fun m => xs[i + m]? := rfl
  rw [e2] at this
  rw [this]

theorem getItem_tuple_cut {t sl : Addr} {items : Array Value} {vl vu : Value} {lo hi : Option Int} {Q : Value → Shared → Prop} (ht : IsTup s.heap t items) (hs : s.heap.IsSliceOf sl vl vu .none) (pl : IsPart vl lo) (pu : IsPart vu hi)
    (hw : ¬ (sIx items.size 0 lo = 0 ∧ sIx items.size items.size hi = items.size))
    (h : Q (.ref s.heap.objs.size) { s with heap := s.heap.push { cls := .type "tuple", data := .seq ((items.toList.drop (sIx items.size 0 lo)).take (sIx items.size items.size hi - sIx items.size 0 lo)).toArray } })
    (hsz : items.size ≤ sizeLine) : wpAny (model prog w) A (getItem (.ref t) (.ref sl)) Q E s := by
  have htake : sizeOk (.seq ((items.toList.drop (sIx items.size 0 lo)).take (sIx items.size items.size hi - sIx items.size 0 lo)).toArray) := by
    show ((items.toList.drop (sIx items.size 0 lo)).take (sIx items.size items.size hi - sIx items.size 0 lo)).toArray.size ≤ sizeLine
    rw [List.size_toArray, List.length_take, List.length_drop, Array.length_toList]
    omega
  have hj : sIx items.size items.size hi ≤ items.size := sIx_le _ _ (Nat.le_refl _) hi
  obtain ⟨os, hos, hcs, hds⟩ := id hs
  have hTs : s.TypeIs (.ref sl) "slice" := ⟨os, hos, hcs⟩
  unfold getItem
  try with_reducible refine wpAny_holding ?_
  first | refine wpAny_bind (wpAny_pure ?_) | skip
  refine wpAny_bind (wpAny_sequenceKey ht.typeIs (by decide) ?_)
  refine wpAny_bind (wpAny_callSpecial?_slot (name := Str.ofString "__getitem__") ht.typeIs PyProof.Rows.slot_tuple_getitem
    (wpAny_call_entry PyProof.Rows.slot_tuple_getitem ht.typeIs entry_tuple_getitem ?_ (args_tuple_getitem _ _)))
  show wpAny _ _ (Builtin.Tuple.tupleItemsOf (.ref t) >>= _) _ _ s
  refine wpAny_bind (tupleItemsOf_ ht ?_)
  refine wpAny_bind (wpAny_typeOf hTs ?_)
  rw [if_pos (by decide)]
  refine wpAny_bind (sliceApplied_gen hs pl pu ?_)
  have hno : ¬ ((((sIx items.size 0 lo : Nat) : Int) == 0 && (1 : Int) == 1 && (sIx items.size items.size hi - sIx items.size 0 lo) == items.size) = true) := by
    intro q
    rw [Bool.and_eq_true, Bool.and_eq_true] at q
    have q1 : ((sIx items.size 0 lo : Nat) : Int) = 0 := eq_of_beq q.1.1
    have q2 : sIx items.size items.size hi - sIx items.size 0 lo = items.size := eq_of_beq q.2
    exact hw ⟨by omega, by omega⟩
  show wpAny _ _ (if (((sIx items.size 0 lo : Nat) : Int) == 0 && (1 : Int) == 1 && (sIx items.size items.size hi - sIx items.size 0 lo) == items.size) = true then _ else _) _ _ s
  rw [if_neg hno, pick_gen]
  first
    | exact wpAny_bind (m := Builtin.Tuple.tupleExact _) (wpAny_newObj_type (wpAny_pure ⟨_, rfl, wpAny_pure h⟩) htake)
    | exact wpAny_bind (m := Builtin.Tuple.tupleExact _) (wpAny_newObj_type (wpAny_bind (wpAny_pure (wpAny_pure ⟨_, rfl, wpAny_pure h⟩))) htake)
    | exact wpAny_bind (wpAny_bind (m := Builtin.Tuple.tupleExact _) (wpAny_newObj_type (wpAny_pure (wpAny_pure ⟨_, rfl, wpAny_pure h⟩)) htake))
    | exact wpAny_bind (wpAny_bind (m := Builtin.Tuple.tupleExact _) (wpAny_newObj_type (wpAny_pure ⟨_, rfl, wpAny_pure h⟩) htake))
end
end HT

namespace L2
open PySem PySem.Spec PyProof.Rows

/-! ### the parts of a slice -/
abbrev TO := St → Hp → (Option Int → Hp → Prop) → Prop
/-- a slice's part (left out, or an int) -/
def PO (X : Cx) (e : Option Expr) (t : TO) : Prop :=
  ∀ (pins : List (Addr × Obj)) (s : Shared) (σ : St) (H : Hp) (Q : Option Int → Hp → Prop), Inv X pins σ H s → t σ H Q →
    wpAny (model X.prog X.w) X.A (evalPart e X.env) (fun u s' => ∃ o H', Inv X pins σ H' s' ∧ IsPart u o ∧ Q o H') X.xe s
def tNoPart : TO := fun _ H Q => Q none H
def tPart (t : TE) : TO := fun σ H Q => t σ H fun x H1 => ∃ i, x = .int i ∧ Q (some i) H1

theorem intsAre_of {ns : List Int} : ∀ {us : List Value}, Vals (ns.map V.int) us → IntsAre us ns := by
  induction ns with
  | nil => intro us r; rw [List.map_nil] at r; cases r; exact .nil
  | cons n ns ih =>
    intro us r
    rw [List.map_cons] at r
    cases r with
    | cons r1 r2 =>
      obtain ⟨t, e⟩ := r1
      subst e
      exact .cons n t (ih r2)

section
variable {X : Cx} {e : Expr} {te : TE} {lo hi : Option Expr} {tl th : TO} {pos p2 : Pos}

theorem po_none : PO X none tNoPart := by
  intro pins s σ H Q I h
  rw [evalPart_none]
  exact wpAny_pure ⟨none, H, I, .none, h⟩
theorem po_some (h : PE X e te) : PO X (some e) (tPart te) := by
  intro pins s σ H Q I hw
  rw [evalPart_some]
  refine thn (h pins s σ H _ I hw) fun u s1 ⟨x, H1, I1, r1, q1⟩ => ?_
  obtain ⟨i, rfl, q⟩ := q1
  obtain ⟨t, rfl⟩ := r1
  exact ⟨some i, H1, I1, .int i t, q⟩

/-- what a slice of a value is, by values: the slice object stands at sl -/
def SlR (X : Cx) (r : V → Option Int → Option Int → Hp → VK → Prop) : Prop :=
  ∀ (pins : List (Addr × Obj)) (s : Shared) (σ : St) (H : Hp) (x : V) (v vl vu : Value) (lo hi : Option Int) (sl : Addr) (Q : VK), Inv X pins σ H s → RelV x v → s.heap.IsSliceOf sl vl vu .none → IsPart vl lo → IsPart vu hi → r x lo hi H Q →
    ∃ T id, typeLookup (.type T) "__getitem__" = pure (some (.builtin id)) ∧ s.TypeIs v T ∧ wpAny (model X.prog X.w) X.A (getItem v (.ref sl)) (EP X pins σ Q) X.xe s
theorem SlR.or {r r' : V → Option Int → Option Int → Hp → VK → Prop} (h : SlR X r) (h' : SlR X r') : SlR X (fun x lo hi H Q => r x lo hi H Q ∨ r' x lo hi H Q) := by
  intro pins s σ H x v vl vu lo hi sl Q I rx hs pl pu q
  rcases q with q | q
  · exact h pins s σ H x v vl vu lo hi sl Q I rx hs pl pu q
  · exact h' pins s σ H x v vl vu lo hi sl Q I rx hs pl pu q
def tSl (r : V → Option Int → Option Int → Hp → VK → Prop) (te : TE) (tl th : TO) : TE := fun σ H Q => te σ H fun x H1 => tl σ H1 fun l H2 => th σ H2 fun u H3 => r x l u H3 Q
/-- a[lo:hi], any a -/
theorem pe_slice {r : V → Option Int → Option Int → Hp → VK → Prop} (hr : SlR X r) (he : PE X e te) (hl : PO X lo tl) (hu : PO X hi th) : PE X (.Subscript e (.Slice lo hi none p2) pos) (tSl r te tl th) := by
  intro pins s σ H Q I h
  refine Subscript_ (thn (he pins s σ H _ I h) fun v s1 ⟨x, H1, I1, r1, q1⟩ => ?_)
  refine wpAny_Slice (thn (hl pins s1 σ H1 _ I1 q1) fun vl s2 ⟨l, H2, I2, pl, q2⟩ => thn (hu pins s2 σ H2 _ I2 q2) fun vu s3 ⟨u, H3, I3, pu, q3⟩ => ?_)
  rw [evalPart_none]
  refine wpAny_pure ?_
  have I4 : Inv X pins σ H3 { s3 with heap := s3.heap.push { cls := .type "slice", data := .fields #[vl, vu, .none] } } := I3.kept (t' := s3.toks) fun b ob q => Heap.get?_push_of_some _ q
  obtain ⟨T, id, hT, ht, hg⟩ := hr pins { s3 with heap := s3.heap.push { cls := .type "slice", data := .fields #[vl, vu, .none] } } σ H3 x v vl vu l u s3.heap.objs.size Q I4 r1 (Heap.IsSliceOf.new ..) pl pu q3
  show wpAny (model X.prog X.w) X.A (subscriptTail e (.Slice lo hi none p2) v (.ref s3.heap.objs.size)) (EP X pins σ Q) X.xe { s3 with heap := s3.heap.push { cls := .type "slice", data := .fields #[vl, vu, .none] } }
  exact tail_any (ops := [.ref s3.heap.objs.size, v]) ht hT hg (by with_unfolding_all rfl)

/-- the items of xs[lo:hi] -/
def cutV (xs : List V) (lo hi : Option Int) : List V := (xs.drop (HT.sIx xs.length 0 lo)).take (HT.sIx xs.length xs.length hi - HT.sIx xs.length 0 lo)
theorem cutV_length (xs : List V) (lo hi : Option Int) : (cutV xs lo hi).length ≤ xs.length := by
  unfold cutV
  rw [List.length_take, List.length_drop]
  omega
/-- t[lo:hi], not the whole of it (the whole would be t itself) -/
def rSlT (K : PySem.W.Frag) : V → Option Int → Option Int → Hp → VK → Prop := fun x lo hi H Q => ∃ a xs, x = .ref a ∧ SqT K H a xs ∧
  ¬ (HT.sIx xs.length 0 lo = 0 ∧ HT.sIx xs.length xs.length hi = xs.length) ∧ ∀ p, H p = none → Q (.ref p) (upd H p (.tup (cutV xs lo hi)))
theorem sl_tup : SlR X (rSlT X.K) := by
  intro pins s σ H x v vl vu lo hi sl Q I rx hs pl pu h
  obtain ⟨a, xs, rfl, hx, hw, q⟩ := h
  cases rx
  obtain ⟨its, r, ht, hz⟩ := I.tuple hx
  have hlen : its.toArray.size = xs.length := by rw [List.size_toArray]; exact r.length.symm
  refine ⟨"tuple", _, PyProof.Rows.slot_tuple_getitem.lookup, ht.typeIs, ?_⟩
  refine HT.getItem_tuple_cut ht hs pl pu (by rw [hlen]; exact hw) ?_ (by rw [hlen]; exact hz)
  rw [hlen]
  refine ⟨.ref s.heap.objs.size, _, I.laid (t' := s.toks) (o := .tup (cutV xs lo hi)) (fun b ob q => Heap.get?_push_of_some _ q) (Nat.le_refl _) ?_, rfl, q _ (I.hok.fresh (Nat.le_refl _))⟩
  exact ⟨Nat.le_trans (cutV_length xs lo hi) hz, _, (r.drop (HT.sIx xs.length 0 lo)).take (HT.sIx xs.length xs.length hi - HT.sIx xs.length 0 lo), IsTup.new _ _⟩

/-! ### t < u, t + u -/
def rLtT (K : PySem.W.Frag) : R2 := fun x y H Q => ∃ a b ns ms, x = .ref a ∧ y = .ref b ∧ SqT K H a (ns.map V.int) ∧ SqT K H b (ms.map V.int) ∧ Q (.bl (HT.lexLt ns ms)) H
theorem op_ltT (hu : X.A.units < cLine) : OpR X (compareOp .Lt) (rLtT X.K) := by
  intro pins s σ H x y v u Q I rx ry h
  obtain ⟨a, b, ns, ms, rfl, rfl, ha, hb, q⟩ := h
  cases rx
  cases ry
  obtain ⟨its, r1, p1, _⟩ := I.tuple ha
  obtain ⟨its2, r2, p2, _⟩ := I.tuple hb
  have i1 : IntsAre its.toArray.toList ns := intsAre_of r1
  have i2 : IntsAre its2.toArray.toList ms := intsAre_of r2
  exact HT.lt_tupInts p1 p2 i1 i2 hu ⟨.bl (HT.lexLt ns ms), H, I, rfl, q⟩
/-- t + u, t not empty: u empty gives t itself -/
def rCatT (K : PySem.W.Frag) : R2 := fun x y H Q => ∃ a b xs ys, x = .ref a ∧ y = .ref b ∧ SqT K H a xs ∧ SqT K H b ys ∧ xs ≠ [] ∧ xs.length + ys.length ≤ sizeLine ∧
  (ys = [] → Q (.ref a) H) ∧ (ys ≠ [] → ∀ p, H p = none → Q (.ref p) (upd H p (.tup (xs ++ ys))))
theorem Vals.nil_iff {xs : List V} {us : List Value} (r : Vals xs us) : us = [] ↔ xs = [] := by
  cases r with
  | nil => simp
  | cons _ _ => simp
theorem op_catT : OpR X (binaryOp .Add) (rCatT X.K) := by
  intro pins s σ H x y v u Q I rx ry h
  obtain ⟨a, b, xs, ys, rfl, rfl, ha, hb, hx, hz, q1, q2⟩ := h
  cases rx
  cases ry
  obtain ⟨its, r1, p1, _⟩ := I.tuple ha
  obtain ⟨its2, r2, p2, _⟩ := I.tuple hb
  refine HT.cat_tup p1 p2 (fun z => hx (r1.nil_iff.mp z)) (fun z => ⟨.ref a, H, I, rfl, q1 (r2.nil_iff.mp z)⟩) (fun z => ?_) (by rw [← r1.length, ← r2.length]; exact hz)
  refine ⟨.ref s.heap.objs.size, _, I.laid (t' := s.toks) (o := .tup (xs ++ ys)) (fun b ob q => Heap.get?_push_of_some _ q) (Nat.le_refl _) ?_, rfl, q2 (fun w => z (r2.nil_iff.mpr w)) _ (I.hok.fresh (Nat.le_refl _))⟩
  exact ⟨by rw [List.length_append]; exact hz, _, r1.append r2, IsTup.new _ _⟩
/-- tuple(t) -/
theorem call_tupleT : CallR X (.type "tuple") (fun xs H Q => ∃ a ys, xs = [.ref a] ∧ SqT X.K H a ys ∧ Q (.ref a) H) := by
  intro pins s σ H xs us Q I r h
  obtain ⟨a, ys, rfl, ha, q⟩ := h
  obtain ⟨u, rfl, ru⟩ := vals1 r
  cases ru
  obtain ⟨its, _, p1, _⟩ := I.tuple ha
  exact call_tuple_same (items := its.toArray) p1 ⟨.ref a, H, I, rfl, q⟩
end
end L2

namespace L2
open PySem PySem.Spec PyProof.Rows

/-! ### places -/
/-- the place that an index of any sign means -/
def ixN (n : Nat) (i : Int) : Option Nat := if 0 ≤ i then (if i < n then some i.toNat else none) else if -(n : Int) ≤ i then some (i + n).toNat else none
def atI {α : Type} (xs : List α) (i : Int) : Option α := (ixN xs.length i).bind fun j => xs[j]?
theorem ixN_seq {n : Nat} {i : Int} {j : Nat} (h : ixN n i = some j) : seqIndex? i n = some j ∧ j < n ∧ -(n : Int) ≤ i ∧ i < n := by
  unfold ixN at h
  by_cases h0 : 0 ≤ i
  · rw [if_pos h0] at h
    by_cases h1 : i < n
    · rw [if_pos h1] at h
      have e : i.toNat = j := Option.some.inj h
      exact ⟨by rw [seqIndex_of h0 h1, e], by omega, by omega, h1⟩
    · rw [if_neg h1] at h; cases h
  · rw [if_neg h0] at h
    by_cases h1 : -(n : Int) ≤ i
    · rw [if_pos h1] at h
      have e : (i + n).toNat = j := Option.some.inj h
      exact ⟨by rw [seqIndex_neg (by omega) h1, e], by omega, h1, by omega⟩
    · rw [if_neg h1] at h; cases h
theorem atI_get {α : Type} {xs : List α} {i : Int} {v : α} (h : atI xs i = some v) : ∃ j, seqIndex? i xs.length = some j ∧ xs[j]? = some v ∧ j < xs.length ∧ -(xs.length : Int) ≤ i ∧ i < xs.length := by
  unfold atI at h
  cases e : ixN xs.length i with
  | none => rw [e] at h; cases h
  | some j =>
    rw [e] at h
    obtain ⟨h1, h2, h3, h4⟩ := ixN_seq e
    exact ⟨j, h1, h, h2, h3, h4⟩
theorem atI_nat {α : Type} {xs : List α} {j : Nat} {v : α} (h : xs[j]? = some v) : atI xs (j : Int) = some v := by
  have hj : j < xs.length := (List.getElem?_eq_some_iff.mp h).1
  have e : ixN xs.length (j : Int) = some j := by
    unfold ixN
    rw [if_pos (by omega), if_pos (by omega)]; simp
  unfold atI; rw [e]; exact h
theorem atI_last {α : Type} (xs : List α) (v : α) : atI (xs ++ [v]) (-1) = some v := by
  have hl : (xs ++ [v]).length = xs.length + 1 := by simp
  have e : ixN (xs ++ [v]).length (-1) = some xs.length := by
    unfold ixN
    rw [hl, if_neg (by decide), if_pos (by omega)]
    congr 1
    omega
  unfold atI
  rw [e]
  show (xs ++ [v])[xs.length]? = some v
  simp

/-! ### what may be subscripted -/
/-- what stands as an index of a plain subscript -/
def PlainIx (b : Expr) : Prop := ∀ o i, subscripted b false o i = operate [o, i] (getItem o i)
/-- a subscript by values -/
def IxR (X : Cx) (r : R2) : Prop :=
  ∀ (value slice : Expr) (pins : List (Addr × Obj)) (s : Shared) (σ : St) (H : Hp) (x y : V) (v u : Value) (Q : VK), Inv X pins σ H s → RelV x v → RelV y u → r x y H Q →
    subscripted slice false v u = operate [v, u] (getItem v u) → wpAny (model X.prog X.w) X.A (subscriptTail value slice v u) (EP X pins σ Q) X.xe s
/-- a call of a builtin's method by values: the receiver, the arguments -/
def MtR (X : Cx) (id : String) (r : V → List V → Hp → VK → Prop) : Prop :=
  ∀ (pins : List (Addr × Obj)) (s : Shared) (σ : St) (H : Hp) (x : V) (xs : List V) (v : Value) (us : List Value) (Q : VK), Inv X pins σ H s → RelV x v → Vals xs us → r x xs H Q →
    wpAny (model X.prog X.w) X.A (call (.builtin id) (v :: us)) (EP X pins σ Q) X.xe s
section
variable {X : Cx} {a b : Expr} {ta tb : TE} {pos : Pos}
theorem IxR.or {r r' : R2} (h : IxR X r) (h' : IxR X r') : IxR X (fun x y H Q => r x y H Q ∨ r' x y H Q) := by
  intro value slice pins s σ H x y v u Q I rx ry q hs
  rcases q with q | q
  · exact h value slice pins s σ H x y v u Q I rx ry q hs
  · exact h' value slice pins s σ H x y v u Q I rx ry q hs
theorem MtR.or {id : String} {r r' : V → List V → Hp → VK → Prop} (h : MtR X id r) (h' : MtR X id r') : MtR X id (fun x xs H Q => r x xs H Q ∨ r' x xs H Q) := by
  intro pins s σ H x xs v us Q I rx rs q
  rcases q with q | q
  · exact h pins s σ H x xs v us Q I rx rs q
  · exact h' pins s σ H x xs v us Q I rx rs q
/-- a[b] -/
theorem pe_ix {r : R2} (hr : IxR X r) (ha : PE X a ta) (hb : PE X b tb) (hs : PlainIx b) : PE X (.Subscript a b pos) (tOp r ta tb) := by
  intro pins s σ H Q I h
  exact Subscript_ (binT ha hb I h fun v u s2 x y H2 I2 rx ry q => hr a b pins s2 σ H2 x y v u Q I2 rx ry q (hs _ _))

def rIxL (K : PySem.W.Frag) : R2 := fun x y H Q => ∃ p xs i v, x = .ref p ∧ y = .int i ∧ SqL K H p xs ∧ atI xs i = some v ∧ Q v H
def rIxT (K : PySem.W.Frag) : R2 := fun x y H Q => ∃ p xs i v, x = .ref p ∧ y = .int i ∧ SqT K H p xs ∧ atI xs i = some v ∧ Q v H
def rIxS : R2 := fun x y H Q => ∃ z i c, x = .str z ∧ y = .int i ∧ z.length ≤ sizeLine ∧ atI z.cps.toList i = some c ∧ Q (.str ⟨#[c]⟩) H
theorem ix_list : IxR X (rIxL X.K) := by
  intro value slice pins s σ H x y v u Q I rx ry h hs
  obtain ⟨p, xs, i, z, rfl, rfl, hq, he, q⟩ := h
  cases rx
  obtain ⟨t, rfl⟩ := ry
  obtain ⟨its, r, pl, hz⟩ := I.list hq
  obtain ⟨j, h1, h2, h3, h4, h5⟩ := atI_get he
  obtain ⟨w, ew, rw'⟩ := r.get h2
  have hl := r.length
  have hn := line63
  have fin : EP X pins σ Q w s := ⟨z, H, I, rw', q⟩
  by_cases h0 : 0 ≤ i
  · have hj : i.toNat = j := by
      rw [seqIndex_of h0 h5] at h1
      exact Option.some.inj h1
    exact item_listR pl.isList h0 (by omega) (by rw [hj]; simpa using ew) fin hs
  · have hj : (i + (its.toArray.size : Int)).toNat = j := by
      rw [seqIndex_neg (by omega) h4] at h1
      rw [List.size_toArray, ← hl]
      exact Option.some.inj h1
    exact subscriptTail_builtinR (x := w) pl.isList.typeIs slot_list_getitem.lookup
      (wpAny_getItem_list_neg (Q := fun r s' => r = w ∧ EP X pins σ Q r s') pl.isList (by omega) (by rw [List.size_toArray] <;> omega) (by omega) (by rw [hj]; simpa using ew) ⟨rfl, fin⟩) hs
theorem ix_tup : IxR X (rIxT X.K) := by
  intro value slice pins s σ H x y v u Q I rx ry h hs
  obtain ⟨p, xs, i, z, rfl, rfl, hq, he, q⟩ := h
  cases rx
  obtain ⟨t, rfl⟩ := ry
  obtain ⟨its, r, pl, hz⟩ := I.tuple hq
  obtain ⟨j, h1, h2, h3, h4, h5⟩ := atI_get he
  obtain ⟨w, ew, rw'⟩ := r.get h2
  have hl := r.length
  have hn := line63
  have fin : EP X pins σ Q w s := ⟨z, H, I, rw', q⟩
  exact subscriptTail_builtinR (x := w) pl.typeIs slot_tuple_getitem.lookup
    (getItem_tuple (j := j) (Q := fun r s' => r = w ∧ EP X pins σ Q r s') pl (by omega) (by omega) (by rw [List.size_toArray, ← hl]; exact h1) (by simpa using ew) ⟨rfl, fin⟩) hs
theorem ix_str : IxR X rIxS := by
  intro value slice pins s σ H x y v u Q I rx ry h hs
  obtain ⟨z, i, c, rfl, rfl, hz, he, q⟩ := h
  obtain ⟨t, rfl⟩ := rx
  obtain ⟨t', rfl⟩ := ry
  obtain ⟨j, h1, h2, h3, h4, h5⟩ := atI_get he
  have hl : z.cps.toList.length = z.length := by simp [Str.length]
  rw [hl] at h1 h4 h5
  have hn := line63
  exact tail_any (typeIs_str s z t) slot_str_getitem.lookup (getItem_str (c := c) (by
    have e1 : decide (i < -(2 ^ 63 : Int)) = false := decide_eq_false (by omega)
    have e2 : decide (i ≥ 2 ^ 63) = false := decide_eq_false (by omega)
    rw [e1, e2, Bool.or_false]) (by rw [h1]; simpa using h2) ⟨.str ⟨#[c]⟩, H, I.tok _, ⟨_, rfl⟩, q⟩) hs
/-- list, tuple or str -/
def rIx (K : PySem.W.Frag) : R2 := fun x y H Q => rIxL K x y H Q ∨ rIxT K x y H Q ∨ rIxS x y H Q
theorem ix_seq : IxR X (rIx X.K) := ix_list.or (ix_tup.or ix_str)

/-! ### xs[i] = v, any sign -/
/-- the list's object behind a store -/
theorem mapSeq_set (its : List Value) (n j : Nat) (u : Value) : Obj.mapSeq (·.setIfInBounds j u) { cls := .type "list", data := .seq its.toArray n } = { cls := .type "list", data := .seq (its.set j u).toArray n } := by
  simp [Obj.mapSeq]
theorem Inv.lst {pins : List (Addr × Obj)} {σ : St} {H : Hp} {s : Shared} {p : Addr} {xs : List V} (I : Inv X pins σ H s) (h : H p = some (.lst xs)) :
    ∃ (its : List Value) (n : Nat), Vals xs its ∧ s.heap.get? p = some { cls := .type "list", data := .seq its.toArray n } ∧ xs.length ≤ sizeLine := by
  obtain ⟨z, its, n, r, e⟩ := I.hok p _ h
  exact ⟨its, n, r, e, z⟩
/-- the list at p is written by an update of its object -/
theorem Inv.lstUpd {pins : List (Addr × Obj)} {σ : St} {H : Hp} {s : Shared} {p : Addr} {xs ys : List V} {its its' : List Value} {n n' : Nat} {f : Obj → Obj} (I : Inv X pins σ H s) (h : H p = some (.lst xs))
    (ho : s.heap.get? p = some { cls := .type "list", data := .seq its.toArray n }) (hf : f { cls := .type "list", data := .seq its.toArray n } = { cls := .type "list", data := .seq its'.toArray n' }) (r : Vals ys its') (hz : ys.length ≤ sizeLine) (t : Nat) :
    Inv X pins σ (upd H p (.lst ys)) { s with heap := s.heap.update p f, toks := t } := by
  have e : (s.heap.update p f).get? p = some { cls := .type "list", data := .seq its'.toArray n' } := by
    rw [Heap.get?_update_self f ho (by rw [hf] <;> rfl), hf]
  refine I.write (x := p) (e := p) (by rw [h]; trivial) (.inl rfl) (fun b u hb q => (Heap.get?_update_other _ _ (Ne.symm hb)).trans q) ⟨_, e⟩ ?_
  exact ⟨hz, its', n', r, e⟩
def rSetL : V → V → V → Hp → (Hp → Prop) → Prop := fun o i v H Q => ∃ p xs k j, o = .ref p ∧ i = .int k ∧ H p = some (.lst xs) ∧ ixN xs.length k = some j ∧ Q (upd H p (.lst (xs.set j v)))
theorem set_list : PSet X rSetL := by
  intro pins s σ H o i v ov iv u Q I ro ri rv h
  obtain ⟨p, xs, k, j, rfl, rfl, hp, hj, q⟩ := h
  cases ro
  obtain ⟨t, rfl⟩ := ri
  obtain ⟨its, n, r, ho, hz⟩ := I.lst hp
  obtain ⟨h1, h2, h3, h4⟩ := ixN_seq hj
  have hl := r.length
  have hn := line63
  have I' : Inv X pins σ (upd H p (.lst (xs.set j v))) { s with heap := s.heap.update p (Obj.mapSeq (·.setIfInBounds j u)) } :=
    I.lstUpd hp ho (mapSeq_set its n j u) (r.set rv j) (by rw [List.length_set]; exact hz) s.toks
  by_cases h0 : 0 ≤ k
  · have hk : k.toNat = j := by
      rw [seqIndex_of h0 h4] at h1
      exact Option.some.inj h1
    exact PySem.W.ki_setAt ho h0 (by omega) (by rw [List.size_toArray, ← hl]; exact h4) (by rw [hk]; exact ⟨_, I', q⟩)
  · have hk : (k + (its.toArray.size : Int)).toNat = j := by
      rw [seqIndex_neg (by omega) h3] at h1
      rw [List.size_toArray, ← hl]
      exact Option.some.inj h1
    exact PySem.W.ki_setBack ho (by omega) (by rw [List.size_toArray, ← hl]; exact h3) (by omega) (by rw [hk]; exact ⟨_, I', q⟩)

/-! ### slices -/
theorem slice_bounds (lo hi : Option Int) (n : Nat) : (sliceBounds lo hi none n).1 = ((HT.sIx n 0 lo : Nat) : Int) ∧ (sliceBounds lo hi none n).2.1 = ((HT.sIx n n hi : Nat) : Int) ∧ (sliceBounds lo hi none n).2.2 = 1 := by
  refine ⟨?_, ?_, rfl⟩
  · cases lo with
    | none => simp [sliceBounds, HT.sIx]
    | some i =>
      simp only [sliceBounds, HT.sIx, Option.getD_none, show (1 : Int) > 0 by decide, if_true]
      by_cases h : i < 0
      · simp only [h, if_true] <;> omega
      · simp only [h, if_false] <;> omega
  · cases hi with
    | none => simp [sliceBounds, HT.sIx]
    | some i =>
      simp only [sliceBounds, HT.sIx, Option.getD_none, show (1 : Int) > 0 by decide, if_true]
      by_cases h : i < 0
      · simp only [h, if_true] <;> omega
      · simp only [h, if_false] <;> omega
theorem slicePick_cut (its : List Value) (lo hi : Option Int) : slicePick its.toArray lo hi none = ((its.drop (HT.sIx its.length 0 lo)).take (HT.sIx its.length its.length hi - HT.sIx its.length 0 lo)).toArray := by
  obtain ⟨h1, h2, h3⟩ := slice_bounds lo hi its.toArray.size
  unfold slicePick
  rw [h1, h2, h3]
  simp only [sliceRange_one, pick_run, List.size_toArray] <;> rfl
/-- xs[lo:hi] of a list: a new list -/
def rSlL (K : PySem.W.Frag) : V → Option Int → Option Int → Hp → VK → Prop := fun x lo hi H Q => ∃ a xs, x = .ref a ∧ SqL K H a xs ∧ ∀ p, H p = none → Q (.ref p) (upd H p (.lst (cutV xs lo hi)))
theorem sl_list : SlR X (rSlL X.K) := by
  intro pins s σ H x v vl vu lo hi sl Q I rx hs pl pu h
  obtain ⟨a, xs, rfl, hx, q⟩ := h
  cases rx
  obtain ⟨its, r, ht, hz⟩ := I.list hx
  have hlen := r.length
  refine ⟨"list", _, slot_list_getitem.lookup, ht.isList.typeIs, ?_⟩
  refine wpAny_getItem_list_slice ht.isList hs pl pu .none (by simp) ?_ (by rw [List.size_toArray] <;> omega)
  rw [slicePick_cut, ← hlen]
  refine ⟨.ref s.heap.objs.size, _, I.laid (t' := s.toks) (o := .lst (cutV xs lo hi)) (fun b ob q => Heap.get?_push_of_some _ q) (Nat.le_refl _) ?_, rfl, q _ (I.hok.fresh (Nat.le_refl _))⟩
  exact ⟨Nat.le_trans (cutV_length xs lo hi) hz, _, 0, (r.drop (HT.sIx xs.length 0 lo)).take (HT.sIx xs.length xs.length hi - HT.sIx xs.length 0 lo), Heap.get?_push_size _ rfl⟩

/-! ### in, not in: flat items -/
def flatV : V → Bool
  | .non => true
  | .bl _ => true
  | .int _ => true
  | .str _ => true
  | _ => false
/-- == of flat values -/
def eqV : V → V → Bool
  | .non, .non => true
  | .bl a, .bl b => a == b
  | .bl a, .int b => (if a then 1 else 0) == b
  | .int a, .bl b => a == (if b then 1 else 0)
  | .int a, .int b => a == b
  | .str a, .str b => a == b
  | _, _ => false
theorem eqAt_V {A : Around} {s : Shared} {y x : V} {u v : Value} (ry : RelV y u) (rx : RelV x v) (fy : flatV y = true) (fx : flatV x = true) : SeqAt.EqAt A s u v (eqV y x) := by
  cases y with
  | non =>
    cases ry
    cases x with
    | non => cases rx; exact SeqAt.EqAt.same _
    | bl b => cases rx; exact SeqAt.EqAt.none_bool b
    | int b => obtain ⟨t, rfl⟩ := rx; exact SeqAt.EqAt.none_int b t
    | str b => obtain ⟨t, rfl⟩ := rx; exact SeqAt.EqAt.none_str b t
    | _ => exact absurd (show false = true from fx) Bool.false_ne_true
  | bl a =>
    cases ry
    cases x with
    | non => cases rx; exact SeqAt.EqAt.bool_none a
    | bl b => cases rx; exact SeqAt.EqAt.bool_bool a b
    | int b => obtain ⟨t, rfl⟩ := rx; exact SeqAt.EqAt.bool_int a b t
    | str b => obtain ⟨t, rfl⟩ := rx; exact SeqAt.EqAt.bool_str a b t
    | _ => exact absurd (show false = true from fx) Bool.false_ne_true
  | int a =>
    obtain ⟨t', rfl⟩ := ry
    cases x with
    | non => cases rx; exact SeqAt.EqAt.int_none a t'
    | bl b => cases rx; exact SeqAt.EqAt.int_bool a t' b
    | int b => obtain ⟨t, rfl⟩ := rx; exact SeqAt.EqAt.int_int a t' b t
    | str b => obtain ⟨t, rfl⟩ := rx; exact SeqAt.EqAt.int_str a t' b t
    | _ => exact absurd (show false = true from fx) Bool.false_ne_true
  | str a =>
    obtain ⟨t', rfl⟩ := ry
    cases x with
    | non => cases rx; exact SeqAt.EqAt.str_none a t'
    | bl b => cases rx; exact SeqAt.EqAt.str_bool a t' b
    | int b => obtain ⟨t, rfl⟩ := rx; exact SeqAt.EqAt.str_int a t' b t
    | str b => obtain ⟨t, rfl⟩ := rx; exact SeqAt.EqAt.str_str a t' b t
    | _ => exact absurd (show false = true from fx) Bool.false_ne_true
  | _ => exact absurd (show false = true from fy) Bool.false_ne_true
/-- the items' answers, read off the values (a value's own answer does not lean on its token) -/
def eqU (x : V) (u : Value) : Bool := match u with
  | .none => eqV .non x
  | .bool b => eqV (.bl b) x
  | .int i _ => eqV (.int i) x
  | .str z _ => eqV (.str z) x
  | _ => false
theorem eqU_of {x y : V} {u : Value} (r : RelV y u) (f : flatV y = true) : eqU x u = eqV y x := by
  cases y with
  | non => cases r; rfl
  | bl b => cases r; rfl
  | int i => obtain ⟨t, rfl⟩ := r; rfl
  | str z => obtain ⟨t, rfl⟩ := r; rfl
  | _ => exact absurd (show false = true from f) Bool.false_ne_true
theorem any_eqU {x : V} : ∀ {xs : List V} {us : List Value}, Vals xs us → xs.all flatV = true → us.any (eqU x) = xs.any fun y => eqV y x
  | _, _, .nil, _ => rfl
  | y :: xs, u :: us, .cons r t, f => by
    rw [List.all_cons, Bool.and_eq_true] at f
    rw [List.any_cons, List.any_cons, eqU_of r f.1, any_eqU t f.2]
theorem mem_eqAt {A : Around} {s : Shared} {x : V} {v : Value} (rx : RelV x v) (fx : flatV x = true) : ∀ {xs : List V} {us : List Value}, Vals xs us → xs.all flatV = true → ∀ u ∈ us, SeqAt.EqAt A s u v (eqU x u)
  | _, _, .nil, _ => fun u hu => by cases hu
  | y :: xs, u :: us, .cons r t, f => fun u' hu => by
    rw [List.all_cons, Bool.and_eq_true] at f
    rcases List.mem_cons.mp hu with rfl | hu
    · rw [eqU_of r f.1]; exact eqAt_V r rx f.1 fx
    · exact mem_eqAt rx fx t f.2 u' hu
def inV (x : V) (xs : List V) : Bool := xs.any fun y => eqV y x
/-- x in a list or tuple of flat items -/
def rIn (K : PySem.W.Frag) (neg : Bool) : R2 := fun x y H Q => ∃ p xs, y = .ref p ∧ (SqL K H p xs ∨ SqT K H p xs) ∧ flatV x = true ∧ xs.all flatV = true ∧ Q (.bl (if neg then !inV x xs else inV x xs)) H
theorem op_in_seq : OpR X (compareOp .In) (rIn X.K false) := by
  intro pins s σ H x y v u Q I rx ry h
  obtain ⟨p, xs, rfl, hq, fx, fs, q⟩ := h
  cases ry
  rcases hq with hq | hq
  · obtain ⟨its, r, pl, hz⟩ := I.list hq
    refine SeqAt.in_listAt (eqU x) pl.isList (fun w hw => mem_eqAt rx fx r fs w (by simpa using hw)) ⟨.bl _, H, I, rfl, ?_⟩
    rw [show its.toArray.any (eqU x) = its.any (eqU x) by simp, any_eqU r fs]
    exact q
  · obtain ⟨its, r, pl, hz⟩ := I.tuple hq
    refine SeqAt.in_tupleAt (eqU x) pl (fun w hw => mem_eqAt rx fx r fs w (by simpa using hw)) ⟨.bl _, H, I, rfl, ?_⟩
    rw [show its.toArray.any (eqU x) = its.any (eqU x) by simp, any_eqU r fs]
    exact q
theorem op_notIn_seq : OpR X (compareOp .NotIn) (rIn X.K true) := by
  intro pins s σ H x y v u Q I rx ry h
  obtain ⟨p, xs, rfl, hq, fx, fs, q⟩ := h
  cases ry
  rcases hq with hq | hq
  · obtain ⟨its, r, pl, hz⟩ := I.list hq
    refine SeqAt.notIn_listAt (eqU x) pl.isList (fun w hw => mem_eqAt rx fx r fs w (by simpa using hw)) ⟨.bl _, H, I, rfl, ?_⟩
    rw [show its.toArray.any (eqU x) = its.any (eqU x) by simp, any_eqU r fs]
    exact q
  · obtain ⟨its, r, pl, hz⟩ := I.tuple hq
    refine SeqAt.notIn_tupleAt (eqU x) pl (fun w hw => mem_eqAt rx fx r fs w (by simpa using hw)) ⟨.bl _, H, I, rfl, ?_⟩
    rw [show its.toArray.any (eqU x) = its.any (eqU x) by simp, any_eqU r fs]
    exact q
theorem op_notIn_str : OpR X (compareOp .NotIn) (fun x y H Q => ∃ i j, x = .str i ∧ y = .str j ∧ Q (.bl (!(!(Builtin.Str.occurrences j i 0 j.length 1).isEmpty))) H) := by
  intro pins s σ H x y v u Q I rx ry h
  obtain ⟨i, j, rfl, rfl, q⟩ := h
  obtain ⟨t, rfl⟩ := rx
  obtain ⟨t', rfl⟩ := ry
  exact notIn_str ⟨.bl _, H, I, rfl, q⟩

/-! ### len, list(x), tuple(x) of any list or tuple that is read -/
theorem call_len_seq : CallR X (.builtin "len") (fun xs H Q => ∃ p ys, xs = [.ref p] ∧ (SqL X.K H p ys ∨ SqT X.K H p ys) ∧ Q (.int ys.length) H) := by
  intro pins s σ H xs us Q I r h
  obtain ⟨p, ys, rfl, hq, q⟩ := h
  obtain ⟨u, rfl, rx⟩ := vals1 r
  cases rx
  have hn := line63
  rcases hq with hq | hq
  · obtain ⟨its, r', pl, hz⟩ := I.list hq
    have hlen := r'.length
    exact Calls.call_len_list pl.isList (by simp only [List.size_toArray] <;> omega) ⟨.int ys.length, H, I.tok _, ⟨s.toks + 1, by rw [List.size_toArray, hlen]⟩, q⟩
  · obtain ⟨its, r', pl, hz⟩ := I.tuple hq
    have hlen := r'.length
    exact len_tuple pl (by simp only [List.size_toArray] <;> omega) ⟨.int ys.length, H, I.tok _, ⟨s.toks + 1, by rw [List.size_toArray, hlen]⟩, q⟩
theorem call_len_str : CallR X (.builtin "len") (fun xs H Q => ∃ z, xs = [.str z] ∧ z.length ≤ sizeLine ∧ Q (.int z.length) H) := by
  intro pins s σ H xs us Q I r h
  obtain ⟨z, rfl, hz, q⟩ := h
  obtain ⟨u, rfl, t, rfl⟩ := vals1 r
  have hn := line63
  exact len_str (by omega) ⟨.int z.length, H, I.tok _, ⟨_, rfl⟩, q⟩
theorem CallR.or {f : Value} {r r' : List V → Hp → VK → Prop} (h : CallR X f r) (h' : CallR X f r') : CallR X f (fun xs H Q => r xs H Q ∨ r' xs H Q) := by
  intro pins s σ H xs us Q I rs q
  rcases q with q | q
  · exact h pins s σ H xs us Q I rs q
  · exact h' pins s σ H xs us Q I rs q
theorem call_list_of : CallR X (.type "list") (fun xs H Q => ∃ p ys, xs = [.ref p] ∧ (SqL X.K H p ys ∨ SqT X.K H p ys) ∧ ∀ l, H l = none → Q (.ref l) (upd H l (.lst ys))) := by
  intro pins s σ H xs us Q I r h
  obtain ⟨p, ys, rfl, hq, q⟩ := h
  obtain ⟨u, rfl, rx⟩ := vals1 r
  cases rx
  have fin : ∀ (its : List Value), Vals ys its → ys.length ≤ sizeLine → ∀ (h' : Heap) (c' : Nat), (∀ b o', s.heap.get? b = some o' → h'.get? b = some o') →
      h'.get? s.heap.objs.size = some { cls := .type "list", dict := none, data := .seq its.toArray c', slots := #[] } → EP X pins σ Q (.ref s.heap.objs.size) { s with heap := h' } := fun its r' hz h' c' kp e =>
    ⟨.ref s.heap.objs.size, _, I.laid (t' := s.toks) kp (Nat.le_refl _) (show ObjOk X.prog X.w _ h' _ (.lst ys) from ⟨hz, its, c', r', e⟩), rfl, q _ (I.hok.fresh (Nat.le_refl _))⟩
  rcases hq with hq | hq
  · obtain ⟨its, r', pl, hz⟩ := I.list hq
    have hlen := r'.length
    obtain ⟨o, ho, hc, n, hd⟩ := pl.isList
    exact call_list_seq p (.inl rfl) ho hc hd (fun h' c' kp e => fin its r' hz h' c' kp e) (by simp only [List.size_toArray] <;> omega)
  · obtain ⟨its, r', pl, hz⟩ := I.tuple hq
    have hlen := r'.length
    obtain ⟨o, ho, hc, n, hd⟩ := pl
    exact call_list_seq p (.inr rfl) ho hc hd (fun h' c' kp e => fin its r' hz h' c' kp e) (by simp only [List.size_toArray] <;> omega)
theorem call_tuple_of : CallR X (.type "tuple") (fun xs H Q => ∃ p ys, xs = [.ref p] ∧ ((SqL X.K H p ys ∧ ∀ l, H l = none → Q (.ref l) (upd H l (.tup ys))) ∨ (SqT X.K H p ys ∧ Q (.ref p) H))) := by
  intro pins s σ H xs us Q I r h
  obtain ⟨p, ys, rfl, h⟩ := h
  obtain ⟨u, rfl, rx⟩ := vals1 r
  cases rx
  rcases h with ⟨hq, q⟩ | ⟨hq, q⟩
  · obtain ⟨its, r', pl, hz⟩ := I.list hq
    have hlen := r'.length
    refine call_tuple_list pl.isList (fun h' kp => ?_) (by simp only [List.size_toArray] <;> omega)
    have I1 : Inv X pins σ H { s with heap := h' } := I.kept (t' := s.toks) kp
    have I2 : Inv X pins σ (upd H h'.objs.size (.tup ys)) { s with heap := h'.push { cls := .type "tuple", data := .seq its.toArray } } :=
      I1.laid (t' := s.toks) (fun b o e => Heap.get?_push_of_some _ e) (Nat.le_refl _) (show ObjOk X.prog X.w _ _ _ (.tup ys) from ⟨hz, its, r', IsTup.new _ _⟩)
    exact ⟨.ref h'.objs.size, _, I2, rfl, q _ (I1.hok.fresh (Nat.le_refl _))⟩
  · obtain ⟨its, r', pl, hz⟩ := I.tuple hq
    exact call_tuple_same pl ⟨.ref p, H, I, rfl, q⟩

/-! ### the call of a builtin's method: o.m(..) -/
/-- the value is of that builtin type -/
def tyV (K : PySem.W.Frag) (T : String) (x : V) (H : Hp) : Prop := match x with
  | .str _ => T = "str"
  | .int _ => T = "int"
  | .ref p => (T = "list" ∧ ∃ xs, SqL K H p xs) ∨ (T = "tuple" ∧ ∃ o, K.lookup p = some o ∧ o.cls = .type "tuple" ∧ o.dict = none) ∨
      (T = "dict" ∧ ((∃ kvs, H p = some (.dK kvs)) ∨ ∃ kvs, H p = some (.dT kvs))) ∨ (T = "set" ∧ ∃ S n, H p = some (.set S n))
  | _ => False
theorem tyV_is {pins : List (Addr × Obj)} {σ : St} {H : Hp} {s : Shared} {T : String} {x : V} {v : Value} (I : Inv X pins σ H s) (r : RelV x v) (ty : tyV X.K T x H) :
    s.TypeIs v T ∧ ∀ a, v = .ref a → ∃ ob, s.heap.get? a = some ob ∧ ob.dict = none := by
  cases x with
  | str z =>
    obtain ⟨t, rfl⟩ := r
    cases (show T = "str" from ty)
    exact ⟨typeIs_str s z t, fun _ e => nomatch e⟩
  | int i =>
    obtain ⟨t, rfl⟩ := r
    cases (show T = "int" from ty)
    exact ⟨typeIs_int s i t, fun _ e => nomatch e⟩
  | ref p =>
    cases r
    rcases ty with ⟨rfl, xs, hq⟩ | ⟨rfl, o, hk, hc, hd⟩ | ⟨rfl, hk⟩ | ⟨rfl, S, n, hk⟩
    · obtain ⟨its, _, pl, _⟩ := I.list hq
      refine ⟨pl.isList.typeIs, fun a e => ?_⟩
      cases e
      obtain ⟨o, n, e, c, hd, _⟩ := pl
      exact ⟨o, e, hd⟩
    · refine ⟨⟨o, I.kIn p o hk, hc⟩, fun a e => ?_⟩
      cases e
      exact ⟨o, I.kIn _ o hk, hd⟩
    · have z : ∃ o, s.heap.get? p = some o ∧ o.ExactDict := by
        rcases hk with ⟨kvs, hk⟩ | ⟨kvs, hk⟩
        · obtain ⟨_, _, _, _, o, _, _, e, ex, _⟩ := I.hok p _ hk
          exact ⟨o, e, ex⟩
        · obtain ⟨_, _, _, _, o, _, _, e, ex, _⟩ := I.hok p _ hk
          exact ⟨o, e, ex⟩
      obtain ⟨o, e, ex⟩ := z
      refine ⟨⟨o, e, ex.1⟩, fun a e2 => ?_⟩
      cases e2
      exact ⟨o, e, ex.2.1⟩
    · obtain ⟨o, _, _, _, e, ex, _⟩ := I.hok p _ hk
      refine ⟨⟨o, e, ex.1⟩, fun a e2 => ?_⟩
      cases e2
      exact ⟨o, e, ex.2.1⟩
  | _ => exact False.elim ty
def tBM0 (K : PySem.W.Frag) (T : String) (r : V → List V → Hp → VK → Prop) (to : TE) : TE := fun σ H Q => to σ H fun x H1 => tyV K T x H1 ∧ r x [] H1 Q
def tBM (K : PySem.W.Frag) (T : String) (r : V → List V → Hp → VK → Prop) (to : TE) (t : TA) : TE := fun σ H Q => to σ H fun x H1 => tyV K T x H1 ∧ t σ H1 fun xs H2 => r x xs H2 Q
variable {o e : Expr} {es : List Expr} {to : TE} {t : TA} {name : Str} {apos cpos : Pos} {T id : String} {r : V → List V → Hp → VK → Prop}
theorem pe_bm0 (pa : PlainAttrs T) (slot : Slot T name id) (hty : typeOf (.builtin id) = pure (.type "method_descriptor")) (hm : MtR X id r) (ho : PE X o to)
    (hbase : attributeBase o name X.env (eval o X.env) = eval o X.env := by rfl) (hline : (apos.endLine == cpos.line) = true := by rfl) : PE X (.Call (.Attribute o name apos) [] [] cpos) (tBM0 X.K T r to) := by
  intro pins s σ H Q I h
  refine wpAny_Call_method0_late hbase hline (thn (ho pins s σ H _ I h) fun v s1 ⟨x, H1, I1, r1, ty, q1⟩ => ?_)
  obtain ⟨h1, h2⟩ := tyV_is I1 r1 ty
  exact ⟨T, id, pa, slot, hty, h1, h2, Calls.callWith_builtin rfl (PySem.evalArgs_none (hm pins s1 σ H1 x [] v [] Q I1 r1 .nil q1))⟩
theorem pe_bm (pa : PlainAttrs T) (slot : Slot T name id) (hty : typeOf (.builtin id) = pure (.type "method_descriptor")) (hm : MtR X id r) (ho : PE X o to) (ha : PA X (e :: es) t)
    (hbase : attributeBase o name X.env (eval o X.env) = eval o X.env := by rfl)
    (hfew : ((backTo cpos (starEach (e :: es) X.env)).all (fun x => !x.1) && (backToKw cpos (keywordEach [] X.env)).all (fun x => x.1.isSome)
      && decide ((e :: es).length + ([] : List Keyword).length + (if ([] : List Keyword).isEmpty then 0 else 1) < 30)) = true := by rfl)
    (hline : (apos.endLine == cpos.line) = true := by rfl) (hs : starEach (e :: es) X.env = (false, eval e X.env) :: starEach es X.env := by rfl) (hplain : (backTo cpos (starEach es X.env)).any (·.1) = false := by rfl) :
    PE X (.Call (.Attribute o name apos) (e :: es) [] cpos) (tBM X.K T r to t) := by
  intro pins s σ H Q I h
  refine wpAny_Call_method_late hbase hfew hline rfl (thn (ho pins s σ H _ I h) fun v s1 ⟨x, H1, I1, r1, ty, q1⟩ => ?_)
  obtain ⟨h1, h2⟩ := tyV_is I1 r1 ty
  refine ⟨T, id, pa, slot, hty, h1, h2, ?_⟩
  have hA := ha cpos pins s1 σ H1 _ I1 q1
  rw [hs] at hA ⊢
  refine Calls.callWith_builtin (by show (false || (backTo cpos (starEach es X.env)).any (·.1)) = false; rw [hplain] <;> rfl) (Calls.evalArgs_plain ?_)
  exact thn hA fun us s2 ⟨vs, H2, I2, r2, q2⟩ => hm pins s2 σ H2 x vs v us Q I2 r1 r2 q2
/- xs.append(e), list.index on a module's tuple .. are MtR facts of 06m -/
end
end L2

namespace L2
open PySem PySem.Spec PyProof.Rows

def MtM (X : Cx) (id : String) (r : V → List V → Hp → VK → Prop) : Prop :=
  ∀ (pins : List (Addr × Obj)) (s : Shared) (σ : St) (H : Hp) (x : V) (xs : List V) (v : Value) (us : List Value) (Q : VK), Inv X pins σ H s → RelV x v → Vals xs us → r x xs H Q →
    wpAny (model X.prog X.w) X.A (call (.builtin id) (v :: us)) (EP X pins σ Q) X.xe s

/-! ### lists of values -/
theorem Vals.one : ∀ {x : V} {us : List Value}, Vals [x] us → ∃ u, us = [u] ∧ RelV x u
  | _, _, .cons r .nil => ⟨_, rfl, r⟩
theorem Vals.two : ∀ {x y : V} {us : List Value}, Vals [x, y] us → ∃ u v, us = [u, v] ∧ RelV x u ∧ RelV y v
  | _, _, _, .cons r (.cons q .nil) => ⟨_, _, rfl, r, q⟩
theorem Vals.zero : ∀ {us : List Value}, Vals [] us → us = []
  | _, .nil => rfl
theorem Vals.dropLast {xs : List V} {us : List Value} (h : Vals xs us) : Vals xs.dropLast us.dropLast := by
  induction h with
  | nil => exact .nil
  | cons r t ih =>
    cases t with
    | nil => exact .nil
    | cons q t' => exact .cons r ih
theorem Vals.eraseIdx : ∀ {xs : List V} {us : List Value} (i : Nat), Vals xs us → Vals (xs.eraseIdx i) (us.eraseIdx i)
  | _, _, _, .nil => .nil
  | _, _, 0, .cons _ t => t
  | _, _, i + 1, .cons r t => .cons r (Vals.eraseIdx i t)
theorem Vals.reverse {xs : List V} {us : List Value} (h : Vals xs us) : Vals xs.reverse us.reverse := by
  induction h with
  | nil => exact .nil
  | cons r t ih => rw [List.reverse_cons, List.reverse_cons]; exact Vals.append ih (.cons r .nil)
theorem Vals.rep {xs : List V} {us : List Value} (h : Vals xs us) : ∀ k : Nat, Vals (List.replicate k xs).flatten (List.replicate k us).flatten
  | 0 => .nil
  | k + 1 => by
    rw [List.replicate_succ, List.replicate_succ, List.flatten_cons, List.flatten_cons]
    exact Vals.append h (Vals.rep h k)
theorem erase_last {α : Type} (l : List α) : l.eraseIdx (l.length - 1) = l.dropLast := by
  induction l with
  | nil => rfl
  | cons a r ih =>
    cases r with
    | nil => rfl
    | cons b r =>
      have e : (a :: b :: r).length - 1 = ((b :: r).length - 1) + 1 := by
        have h1 : (a :: b :: r).length = r.length + 2 := rfl
        have h2 : (b :: r).length = r.length + 1 := rfl
        omega
      rw [e, List.eraseIdx_cons_succ, ih]
      all_goals rfl
theorem len_erase {α : Type} : ∀ (l : List α) (i : Nat), (l.eraseIdx i).length ≤ l.length
  | [], _ => Nat.le_refl _
  | _ :: _, 0 => Nat.le_succ _
  | _ :: r, i + 1 => Nat.succ_le_succ (len_erase r i)
theorem foldl_rep (its : List Value) : ∀ (k : Nat) (acc : List Value),
    List.foldl (fun x1 x2 => x1 ++ x2) acc.toArray (List.replicate k its.toArray) = (acc ++ (List.replicate k its).flatten).toArray
  | 0, acc => by simp
  | k + 1, acc => by
    have e : acc.toArray ++ its.toArray = (acc ++ its).toArray := by simp
    have e2 : (acc ++ its) ++ (List.replicate k its).flatten = acc ++ (List.replicate (k + 1) its).flatten := by
      rw [List.replicate_succ, List.flatten_cons, List.append_assoc]
    rw [← e2, ← foldl_rep its k (acc ++ its), ← e, List.replicate_succ, List.foldl_cons]

section
variable {X : Cx} {pins : List (Addr × Obj)} {σ : St} {H : Hp} {s : Shared} {l b : Addr} {xs ys zs : List V}

/-! ### the two steps: a tracked list is rewritten, a new list is laid -/
theorem Inv.lset {its its' : List Value} {n : Nat} {f : Array Value → Array Value} {t' : Nat} (I : Inv X pins σ H s) (hH : H l = some (.lst xs))
    (e : s.heap.get? l = some { cls := .type "list", data := .seq its.toArray n }) (hf : f its.toArray = its'.toArray) (hv : Vals ys its') (hz : ys.length ≤ sizeLine) :
    Inv X pins σ (upd H l (.lst ys)) { s with heap := s.heap.update l (Obj.mapSeq f), toks := t' } := by
  have q := PySem.IsL.update e f
  rw [hf] at q
  refine I.write (x := l) (e := l) (by rw [hH]; exact trivial) (.inl rfl) (fun b' u hb hu => (Heap.get?_update_other s.heap (Obj.mapSeq f) (Ne.symm hb)).trans hu) ⟨_, q⟩ ?_
  exact ⟨hz, its', _, hv, q⟩
theorem Inv.lnew {its : List Value} {t' : Nat} (I : Inv X pins σ H s) (hv : Vals ys its) (hz : ys.length ≤ sizeLine) :
    Inv X pins σ (upd H s.heap.objs.size (.lst ys)) { s with heap := s.heap.push { cls := .type "list", data := .seq its.toArray }, toks := t' } :=
  I.laid (fun _ _ q => Heap.get?_push_of_some _ q) (Nat.le_refl _) ⟨hz, its, 0, hv, Heap.get?_push_size _ rfl⟩
theorem Inv.fresh (I : Inv X pins σ H s) : H s.heap.objs.size = none := I.hok.fresh (Nat.le_refl _)
theorem Inv.lstM (I : Inv X pins σ H s) (hH : H l = some (.lst xs)) : xs.length ≤ sizeLine ∧ ∃ (its : List Value) (n : Nat), Vals xs its ∧ xs.length = its.length ∧ s.heap.get? l = some { cls := .type "list", data := .seq its.toArray n } := by
  obtain ⟨z, its, n, r, e⟩ := I.hok l _ hH
  exact ⟨z, its, n, r, r.length, e⟩

theorem notLongL {n : Nat} (h : n ≤ sizeLine) : Builtin.List.listTooLong n = false := by
  unfold Builtin.List.listTooLong
  exact decide_eq_false (by omega)
end

section
variable {X : Cx}

/-! ### methods -/
def rAppend : V → List V → Hp → VK → Prop := fun x vs H Q => ∃ l xs y, x = .ref l ∧ vs = [y] ∧ H l = some (.lst xs) ∧ xs.length < sizeLine ∧ Q .non (upd H l (.lst (xs ++ [y])))
theorem mt_append : MtM X "list.append" rAppend := by
  intro pins s σ H x vs v us Q I rx rv h
  obtain ⟨l, xs, y, rfl, rfl, hH, hz, q⟩ := h
  cases rx
  obtain ⟨u, rfl, ru⟩ := rv.one
  obtain ⟨z, its, n, r, hl, e⟩ := I.lstM hH
  refine call_meets F.slot_list_append ⟨_, e, rfl⟩ F.entry_list_append (F.args_list_append_2 _ _) (PySem.list_append l its.toArray n u (by rw [List.size_toArray]; omega)) ⟨e, ?_⟩
  refine ⟨.non, _, I.lset (its' := its ++ [u]) hH e (by simp) (r.append (.cons ru .nil)) ?_, rfl, q⟩
  rw [List.length_append, List.length_singleton]
  omega

def rExtend : V → List V → Hp → VK → Prop := fun x vs H Q => ∃ l b xs zs, x = .ref l ∧ vs = [.ref b] ∧ H l = some (.lst xs) ∧ H b = some (.lst zs) ∧ xs.length + zs.length ≤ sizeLine ∧ Q .non (upd H l (.lst (xs ++ zs)))
theorem mt_extend : MtM X "list.extend" rExtend := by
  intro pins s σ H x vs v us Q I rx rv h
  obtain ⟨l, b, xs, zs, rfl, rfl, hH, hB, hz, q⟩ := h
  cases rx
  obtain ⟨u, rfl, ru⟩ := rv.one
  cases ru
  obtain ⟨z, its, n, r, hl, e⟩ := I.lstM hH
  obtain ⟨z2, its2, n2, r2, hl2, e2⟩ := I.lstM hB
  have hsz : its.toArray.size + its2.toArray.size ≤ sizeLine := by rw [List.size_toArray, List.size_toArray]; omega
  have hlong : ¬ (!its.toArray.isEmpty && Builtin.List.listTooLong (its.toArray.size + its2.toArray.size)) = true := by
    rw [notLongL hsz, Bool.and_false]
    exact Bool.false_ne_true
  refine call_meets F.slot_list_extend ⟨_, e, rfl⟩ F.entry_list_extend (F.args_list_extend_2 _ _)
    (AutoSeq1.list_extend_list_list_0 l its.toArray n b its2.toArray n2 hlong (by rw [List.size_toArray]; omega) (by omega)) ⟨e, e2, ?_⟩
  refine ⟨.non, _, I.lset (its' := its ++ its2) hH e (by simp) (r.append r2) ?_, rfl, q⟩
  rw [List.length_append]
  omega

def rPop : V → List V → Hp → VK → Prop := fun x vs H Q => ∃ l xs y, x = .ref l ∧ vs = [] ∧ H l = some (.lst xs) ∧ xs[xs.length - 1]? = some y ∧ Q y (upd H l (.lst xs.dropLast))
theorem mt_pop : MtM X "list.pop" rPop := by
  intro pins s σ H x vs v us Q I rx rv h
  obtain ⟨l, xs, y, rfl, rfl, hH, hy, q⟩ := h
  cases rx
  have hus := rv.zero
  subst hus
  obtain ⟨z, its, n, r, hl, e⟩ := I.lstM hH
  obtain ⟨u, hu, ru⟩ := r.get hy
  have hy' : its.toArray[its.toArray.size - 1]? = some u := by
    show its.toArray[its.length - 1]? = some u
    rw [← Array.getElem?_toList, ← hl]
    exact hu
  refine call_meets F.slot_list_pop ⟨_, e, rfl⟩ F.entry_list_pop (F.args_list_pop_1 _) (MeetsSeq.list_pop_last l its.toArray n u hy' (by rw [List.size_toArray]; omega)) ⟨e, ?_⟩
  refine ⟨y, _, I.lset (its' := its.dropLast) hH e ?_ r.dropLast ?_, ru, q⟩
  · show its.toArray.eraseIdxIfInBounds (its.toArray.size - 1) = its.dropLast.toArray
    rw [List.size_toArray, List.eraseIdxIfInBounds_toArray, erase_last]
  · rw [List.length_dropLast]
    omega

def rPopAt : V → List V → Hp → VK → Prop := fun x vs H Q => ∃ l xs i k y, x = .ref l ∧ vs = [.int i] ∧ H l = some (.lst xs) ∧ -(2 ^ 63) ≤ i ∧ i < 2 ^ 63 ∧ seqIndex? i xs.length = some k ∧ xs[k]? = some y ∧ Q y (upd H l (.lst (xs.eraseIdx k)))
theorem mt_popAt : MtM X "list.pop" rPopAt := by
  intro pins s σ H x vs v us Q I rx rv h
  obtain ⟨l, xs, i, k, y, rfl, rfl, hH, h1, h2, hk, hy, q⟩ := h
  cases rx
  obtain ⟨u, rfl, ru⟩ := rv.one
  obtain ⟨t, rfl⟩ := ru
  obtain ⟨z, its, n, r, hl, e⟩ := I.lstM hH
  obtain ⟨w, hw, rw'⟩ := r.get hy
  refine call_meets F.slot_list_pop ⟨_, e, rfl⟩ F.entry_list_pop (F.args_list_pop_2 _ _)
    (MeetsSeq.list_pop_at l its.toArray n i t k w (fitsIndex_both h1 h2) (by rw [List.size_toArray, ← hl]; exact hk) (by rw [← Array.getElem?_toList]; exact hw) (by rw [List.size_toArray]; omega)) ⟨e, ?_⟩
  refine ⟨y, _, I.lset (its' := its.eraseIdx k) hH e ?_ (r.eraseIdx k) ?_, rw', q⟩
  · show its.toArray.eraseIdxIfInBounds k = (its.eraseIdx k).toArray
    rw [List.eraseIdxIfInBounds_toArray]
  · have := len_erase xs k
    omega

def rReverse : V → List V → Hp → VK → Prop := fun x vs H Q => ∃ l xs, x = .ref l ∧ vs = [] ∧ H l = some (.lst xs) ∧ Q .non (upd H l (.lst xs.reverse))
theorem mt_reverse : MtM X "list.reverse" rReverse := by
  intro pins s σ H x vs v us Q I rx rv h
  obtain ⟨l, xs, rfl, rfl, hH, q⟩ := h
  cases rx
  have hus := rv.zero
  subst hus
  obtain ⟨z, its, n, r, hl, e⟩ := I.lstM hH
  refine call_meets F.slot_list_reverse ⟨_, e, rfl⟩ F.entry_list_reverse (F.args_list_reverse_1 _) (AutoSeq1.list_reverse_list_0 l its.toArray n (by rw [List.size_toArray]; omega)) ⟨e, ?_⟩
  refine ⟨.non, _, I.lset (its' := its.reverse) hH e (by simp) r.reverse ?_, rfl, q⟩
  rw [List.length_reverse]
  omega

def rClear : V → List V → Hp → VK → Prop := fun x vs H Q => ∃ l xs, x = .ref l ∧ vs = [] ∧ H l = some (.lst xs) ∧ Q .non (upd H l (.lst []))
theorem mt_clear : MtM X "list.clear" rClear := by
  intro pins s σ H x vs v us Q I rx rv h
  obtain ⟨l, xs, rfl, rfl, hH, q⟩ := h
  cases rx
  have hus := rv.zero
  subst hus
  obtain ⟨z, its, n, r, hl, e⟩ := I.lstM hH
  refine call_meets F.slot_list_clear ⟨_, e, rfl⟩ F.entry_list_clear (F.args_list_clear_1 _) (AutoSeq1.list_clear_list_0 l its.toArray n (by rw [List.size_toArray]; omega)) ⟨e, ?_⟩
  exact ⟨.non, _, I.lset (its' := []) (ys := []) hH e rfl .nil (Nat.zero_le _), rfl, q⟩

/-! ### list + list, list += list, list * int -/
def rCat : R2 := fun x y H Q => ∃ l b xs zs, x = .ref l ∧ y = .ref b ∧ H l = some (.lst xs) ∧ H b = some (.lst zs) ∧ xs.length + zs.length ≤ sizeLine ∧ ∀ p, H p = none → Q (.ref p) (upd H p (.lst (xs ++ zs)))
theorem op_cat : OpR X (binaryOp .Add) rCat := by
  intro pins s σ H x y v u Q I rx ry h
  obtain ⟨l, b, xs, zs, rfl, rfl, hH, hB, hz, q⟩ := h
  cases rx
  cases ry
  obtain ⟨z, its, n, r, hl, e⟩ := I.lstM hH
  obtain ⟨z2, its2, n2, r2, hl2, e2⟩ := I.lstM hB
  refine PySem.P.add_list e e2 ?_ (by rw [List.size_toArray, List.size_toArray]; omega)
  have ea : its.toArray ++ its2.toArray = (its ++ its2).toArray := by simp
  rw [ea]
  exact ⟨.ref _, _, I.lnew (t' := s.toks) (r.append r2) (by rw [List.length_append]; omega), rfl, q _ I.fresh⟩
/-- a list times an int (a negative one is nothing) -/
def rRep : R2 := fun x y H Q => ∃ l k xs, x = .ref l ∧ y = .int k ∧ H l = some (.lst xs) ∧ -(2 ^ 63) ≤ k ∧ k < 2 ^ 63 ∧ xs.length * k.toNat ≤ sizeLine ∧
  ∀ p, H p = none → Q (.ref p) (upd H p (.lst (List.replicate k.toNat xs).flatten))
theorem len_rep {α : Type} (xs : List α) (k : Nat) : (List.replicate k xs).flatten.length = k * xs.length := by
  induction k with
  | zero => simp
  | succ k ih => rw [List.replicate_succ, List.flatten_cons, List.length_append, ih, Nat.succ_mul, Nat.add_comm]
theorem op_rep : OpR X (binaryOp .Mult) rRep := by
  intro pins s σ H x y v u Q I rx ry h
  obtain ⟨l, k, xs, rfl, rfl, hH, h1, h2, hz, q⟩ := h
  cases rx
  obtain ⟨t, rfl⟩ := ry
  obtain ⟨z, its, n, r, hl, e⟩ := I.lstM hH
  have hlen : its.toArray.size * k.toNat ≤ sizeLine := by rw [List.size_toArray, ← hl]; exact hz
  have hcap : ¬ its.toArray.size * k.toNat > (2 ^ 63 - 1) / 8 := by
    have : (sizeLine : Nat) ≤ (2 ^ 63 - 1) / 8 := by decide
    omega
  have hfit : ¬ (!Builtin.List.listFitsIndex k) = true := by
    rw [fitsIndex_both h1 h2]
    exact Bool.false_ne_true
  have hlong : ¬ Builtin.List.listTooLong (its.toArray.size * k.toNat) = true := by
    rw [notLongL hlen]
    exact Bool.false_ne_true
  have hnew : List.foldl (fun x1 x2 => x1 ++ x2) #[] (List.replicate (if its.toArray.isEmpty = true then 0 else k.toNat) its.toArray) = (List.replicate k.toNat its).flatten.toArray := by
    have f0 : ∀ m : Nat, List.foldl (fun x1 x2 => x1 ++ x2) #[] (List.replicate m its.toArray) = (List.replicate m its).flatten.toArray := fun m => by
      have := foldl_rep its m []
      rw [List.nil_append] at this
      exact this
    rw [f0]
    cases its with
    | nil => simp
    | cons a r' => rw [if_neg (by simp)]
  refine wpAny_binaryOp_repeat_ref (T := "list") (U := "int") (by decide) ⟨_, e, rfl⟩ (fun s' => typeIs_int s' k t) noFill_list_mul F.fills_int_mul F.slot_int_rmul repeat_list F.slot_int_index.lookup
    (call_meets F.slot_int_rmul (typeIs_int s k t) F.entry_int_rmul (F.args_int_rmul_2 _ _) (int___rmul___int_list k t l its.toArray n)
      ⟨e, rfl, ⟨_, e, rfl⟩, call_meets F.slot_list_mul ⟨_, e, rfl⟩ F.entry_list_mul (F.args_list_mul_2 _ _) (AutoListH.list___mul___list_int_3 l its.toArray n k t hfit hcap hlong) ⟨e, ?_⟩⟩)
  rw [hnew]
  exact ⟨.ref _, _, I.lnew (t' := s.toks) (r.rep k.toNat) (by rw [len_rep, Nat.mul_comm]; exact hz), rfl, q _ I.fresh⟩

/-! ### del xs[i] -/
theorem del_list {pins : List (Addr × Obj)} {s : Shared} {σ : St} {H : Hp} {l : Addr} {xs : List V} {i : Int} {t : Tok} {k : Nat} {Q : Unit → Shared → Prop} (I : Inv X pins σ H s) (hH : H l = some (.lst xs))
    (h1 : -(2 ^ 63) ≤ i) (h2 : i < 2 ^ 63) (hk : seqIndex? i xs.length = some k) (h : ∀ s', Inv X pins σ (upd H l (.lst (xs.eraseIdx k))) s' → Q () s') :
    wpAny (model X.prog X.w) X.A (delItem (.ref l) (.int i t)) Q X.xe s := by
  obtain ⟨z, its, n, r, hl, e⟩ := I.lstM hH
  refine PySem.P.delItem_list (k := k) e (fitsIndex_both h1 h2) (by rw [List.size_toArray, ← hl]; exact hk) (h _ ?_) (by rw [List.size_toArray]; omega)
  refine I.lset (its' := its.eraseIdx k) (t' := s.toks) hH e ?_ (r.eraseIdx k) ?_
  · show its.toArray.eraseIdxIfInBounds k = (its.eraseIdx k).toArray
    rw [List.eraseIdxIfInBounds_toArray]
  · have := len_erase xs k
    omega
end

/-! ### xs[a:b] = ys -/
section
variable {prog : Program} {w : World} {A : Around} {E : Value → Shared → Prop} {s : Shared}
theorem splice_eq (its its2 : List Value) (a c : Nat) : its.toArray.extract 0 a ++ its2.toArray ++ its.toArray.extract c its.toArray.size = (its.take a ++ its2 ++ its.drop c).toArray := by
  apply Array.toList_inj.mp
  first
    | (simp
       exact List.take_of_length_le (by simp))
    | simp [List.take_of_length_le]
    | simp
theorem bounds_run {a c n : Nat} (hac : a ≤ c) (hc : c ≤ n) : sliceBounds (some (a : Int)) (some (c : Int)) none n = ((a : Int), (c : Int), 1) := by
  simp only [sliceBounds, Option.getD_none]
  have h1 : ¬ ((a : Int) < 0) := by omega
  have h2 : ¬ ((c : Int) < 0) := by omega
  simp only [h1, h2, if_false, show (1 : Int) > 0 by decide, if_true]
  congr 1
  · omega
  · congr 1; omega
set_option maxRecDepth 100000 in
/-- list.__setitem__ with a slice of step one and another list -/
theorem setItem_slice {l b sl : Addr} {items new : Array Value} {n n2 : Nat} {vl vu : Value} {a c : Nat} {Q : Unit → Shared → Prop}
    (e : s.heap.get? l = some { cls := .type "list", data := .seq items n }) (e2 : s.heap.get? b = some { cls := .type "list", data := .seq new n2 }) (hne : l ≠ b)
    (hs : s.heap.IsSliceOf sl vl vu .none) (pl : IsPart vl (some (a : Int))) (pu : IsPart vu (some (c : Int))) (hac : a ≤ c) (hc : c ≤ items.size)
    (hsz : items.size + new.size ≤ sizeLine) (h : Q () { s with heap := s.heap.update l (Obj.mapSeq fun xs => xs.extract 0 a ++ new ++ xs.extract c xs.size) }) :
    wpAny (model prog w) A (setItem (.ref l) (.ref sl) (.ref b)) Q E s := by
  have hl : s.heap.IsList l items := PySem.IsL.isList e
  have hb : s.heap.IsList b new := PySem.IsL.isList e2
  obtain ⟨os, hos, hcs, hds⟩ := id hs
  have hTs : s.TypeIs (.ref sl) "slice" := ⟨os, hos, hcs⟩
  have hstep : ¬ ((rawPart none == rawInt 0) = true) := Bool.false_ne_true
  have hsame : Builtin.List.listSameRef (.ref l) (.ref b) = false := by
    unfold Builtin.List.listSameRef
    exact beq_eq_false_iff_ne.mpr hne
  have hmax : (max (a : Int) (c : Int)).toNat = c := by omega
  have hz' : ((fun xs : Array Value => xs.extract 0 a ++ new ++ xs.extract c xs.size) items).size ≤ sizeLine + 1 := by
    simp only [Array.size_append, Array.size_extract]
    omega
  unfold setItem
  try with_reducible refine wpAny_holding ?_
  first | refine wpAny_bind (wpAny_pure ?_) | skip
  refine wpAny_bind (wpAny_sequenceKey hl.typeIs (by decide) ?_)
  refine wpAny_bind (wpAny_callSpecial?_slot (name := Str.ofString "__setitem__") hl.typeIs slot_list_setitem
    (wpAny_call_entry slot_list_setitem hl.typeIs entry_list_setitem ?_ (args_list_setitem _ _ _)))
  show wpAny _ _ (Builtin.List.listSubscript? (.ref sl) >>= _) _ _ s
  refine wpAny_bind ?_
  unfold Builtin.List.listSubscript?
  refine wpAny_bind (wpAny_specialOf hTs slice_no_index ?_)
  simp only [Option.isNone_none, if_true]
  refine wpAny_pure ?_
  show wpAny _ _ (typeOf (.ref sl) >>= _) _ _ s
  refine wpAny_bind (wpAny_typeOf hTs ?_)
  first
    | rw [if_neg (by decide)]
    | refine PySem.W.KFB.if_not (by decide) ?_
  rw [listSliceParts_eq]
  refine wpAny_bind (wpAny_bind (wpAny_field hos hds (x := .none) rfl (wpAny_bind (wpAny_listPart .none ?_))))
  rw [if_neg hstep]
  refine wpAny_bind (wpAny_field hos hds (x := vl) rfl (wpAny_bind (wpAny_listPart pl ?_)))
  refine wpAny_bind (wpAny_field hos hds (x := vu) rfl (wpAny_bind (wpAny_listPart pu (wpAny_pure ?_))))
  first
    | simp only [hsame, Bool.false_eq_true, if_false]
    | refine PySem.W.KFB.if_not hsame ?_
    | (dsimp only
       rw [if_neg (by rw [hsame]; exact Bool.false_ne_true)])
  refine wpAny_bind (m := Builtin.List.listAllItems (.ref b) "must assign iterable to extended slice") ?_
  unfold Builtin.List.listAllItems
  refine wpAny_bind (wpAny_typeOf hb.typeIs ?_)
  first
    | refine PySem.W.KFB.if_so (by decide) ?_
    | rw [if_pos (by decide)]
    | simp only [beq_self_eq_true, Bool.true_or, if_true]
  unfold Builtin.List.listItems
  refine wpAny_bind (wpAny_seqItems e2 rfl (wpAny_pure ?_))
  refine wpAny_bind (wpAny_bind (wpAny_seqItems e rfl (wpAny_pure ?_)))
  refine wpAny_bind (wpAny_of_eq ((sliceIndices_raw (some (a : Int)) (some (c : Int)) none items.size (by simp)).trans (congrArg (pure : Int × Int × Int → Sem (Int × Int × Int)) (bounds_run hac hc))) ?_)
  show wpAny _ _ (if ((1 : Int) == 1) = true then _ else _) _ _ s
  rw [if_pos (by decide)]
  refine wpAny_bind (wpAny_rule ?_)
  first
    | simp only [notLongL hsz, Bool.false_eq_true, if_false]
    | refine PySem.W.KFB.if_not (notLongL hsz) ?_
  first | refine wpAny_bind (wpAny_pure ?_) | skip
  show wpAny _ _ (updateSeq l (fun xs => xs.extract 0 ((a : Int)).toNat ++ new ++ xs.extract (max (a : Int) (c : Int)).toNat xs.size) >>= _) _ _ s
  rw [hmax, Int.toNat_natCast]
  refine wpAny_bind (wpAny_updateSeq (hz := Nat.le_trans (Nat.le_add_right _ _) hsz) (_hz' := hz') e rfl ?_)
  refine wpAny_bind (wpAny_letGo ?_)
  first
    | exact wpAny_bind (wpAny_pure (wpAny_pure ⟨.none, rfl, wpAny_pure h⟩))
    | exact wpAny_pure ⟨.none, rfl, wpAny_pure h⟩
end

section
variable {X : Cx}
/-- xs[a:c] = ys of another list, at the value level: sl is the slice object that was just made -/
theorem set_slice {pins : List (Addr × Obj)} {s : Shared} {σ : St} {H : Hp} {l b sl : Addr} {xs ys : List V} {a c : Int} {vl vu : Value} {Q : Unit → Shared → Prop} (I : Inv X pins σ H s)
    (hH : H l = some (.lst xs)) (hB : H b = some (.lst ys)) (hne : l ≠ b) (hs : s.heap.IsSliceOf sl vl vu .none) (ra : RelV (.int a) vl) (rc : RelV (.int c) vu) (h0 : 0 ≤ a) (hac : a ≤ c) (hc : c ≤ xs.length)
    (hz : xs.length + ys.length ≤ sizeLine) (h : ∀ s', Inv X pins σ (upd H l (.lst (xs.take a.toNat ++ ys ++ xs.drop c.toNat))) s' → Q () s') :
    wpAny (model X.prog X.w) X.A (setItem (.ref l) (.ref sl) (.ref b)) Q X.xe s := by
  obtain ⟨ta, rfl⟩ := ra
  obtain ⟨tc, rfl⟩ := rc
  obtain ⟨z, its, n, r, hl, e⟩ := I.lstM hH
  obtain ⟨z2, its2, n2, r2, hl2, e2⟩ := I.lstM hB
  obtain ⟨a', rfl⟩ := Int.eq_ofNat_of_zero_le h0
  obtain ⟨c', rfl⟩ := Int.eq_ofNat_of_zero_le (Int.le_trans h0 hac)
  simp only [Int.toNat_natCast] at h
  refine setItem_slice (a := a') (c := c') e e2 hne hs (.int _ _) (.int _ _) (by omega) (by rw [List.size_toArray]; omega) (by rw [List.size_toArray, List.size_toArray]; omega) (h _ ?_)
  refine I.lset (its' := its.take a' ++ its2 ++ its.drop c') (t' := s.toks) hH e ?_ (Vals.append (Vals.append (r.take _) r2) (r.drop _)) ?_
  · exact splice_eq its its2 a' c'
  · rw [List.length_append, List.length_append, List.length_take, List.length_drop]
    omega
end
end L2

namespace Att
open PySem PySem.W PySem.Calls PyProof.Rows

/-! ### the script -/
theorem ints_of_wellAll {P : Params} {h : Heap} : ∀ (ns : List Int) (vs : List Value), WellAll P h vs (ns.map WData.int) → IntsAre vs ns := by
  intro ns
  induction ns with
  | nil =>
    intro vs w
    rw [List.map_nil] at w
    cases w
    exact .nil
  | cons n ns ih =>
    intro vs w
    rw [List.map_cons] at w
    cases w with
    | cons a b =>
      cases a
      exact .cons _ _ (ih _ b)

theorem script_of {l : OpenLaw} {n : Nat} (hn : l.most = some n) {P : Params} {h : Heap} {args : List WData} {vals : List Value}
    (hpre : l.row.toRowW.claim.pre args = true) (hwl : WellAll P h vals args) :
    ∃ a vs ns, vals = [Value.ref a] ∧ args = [WData.list (ns.map WData.int)] ∧ h.get? a = some { cls := .type "list", data := .seq vs.toArray } ∧ IntsAre vs ns ∧ ns.length ≤ n := by
  have hsh : WShape.hasAll [] args [.list .int] = true := (pre_splitW hpre).1
  have hc : l.pre.holds [] { args := args } = true := (pre_splitW hpre).2
  obtain ⟨d, r, rfl, h1, h2⟩ := hasAllW_cons hsh
  obtain rfl := hasAllW_nil h2
  obtain ⟨xs, rfl, h3⟩ := hasW_list h1
  obtain ⟨ns, rfl⟩ := items_int h3
  have hlen : ns.length ≤ n := by
    unfold OpenLaw.pre at hc
    have h4 : (WTm.not (.lt (.lit (.int (n : Int))) (.len (.arg 0)))).holds [] { args := [.list (ns.map .int)] } = true := by
      have h4 := (holds_andW hc).1
      rw [hn] at h4
      exact h4
    have h5 := condW_of h4 (w_not (w_lt w_lit (w_len_list (w_arg rfl))))
    rw [List.length_map] at h5
    refine Nat.le_of_not_lt fun q => ?_
    have q' : (n : Int) < ((ns.length : Nat) : Int) := by omega
    first
      | (rw [decide_eq_true q'] at h5; exact absurd h5 (by decide))
      | (simp at h5; omega)
  cases hwl with
  | cons w1 w2 =>
    cases w2
    cases w1 with
    | list ho hall => exact ⟨_, _, ns, rfl, rfl, ho, ints_of_wellAll ns _ hall, hlen⟩

theorem post_true (l : OpenLaw) (args : List WData) : l.row.toRowW.claim.post args (.bool true) args = true :=
  postW_of (r := l.row.toRowW) (X := (true == true))
    (show WShape.has [] (.bool true) .bool = true by first | rfl | decide | simp [WShape.has, WShape.arms, WShape.armsAll])
    (show (WTm.eq .res (.lit (.bool true))).value [] { args := args, res := some (.bool true), after := args } = some (.bool (true == true)) from w_eq_bool (w_res rfl) w_lit) rfl

/-! ### the attachment: holds_open's last premise (the goal 'hc' behind k_head) from a wpAny of the law's body -/
theorem attach {l : OpenLaw} {n : Nat} {q : Program} {loose : List Str} {XP : (Str → Option Value) → Heap → Prop} {YP : World → Heap → Prop} {d : DefRec} {x : Str}
    (hn : l.most = some n) (hdf : d.params.defaults = [])
    (hbind : ∀ pm cd doc v : Value, bindArgs (docDef d.name d.params d.body d.scope pm cd doc) ⟨[v], []⟩ = pure [(x, v)])
    (hx : d.scope.names.lookup x = some .local ∨ d.scope.names.lookup x = some .cell)
    (hk : d.scope.kind = .function) (hco : d.scope.isCoroutine = false) (hgen : d.scope.isGenerator = false)
    (body : ∀ (w : World) (s₀ s₁ s : Shared) (mg mb : Str → Option Value) (fa : Addr) (o : Obj) (pm cd doc : Value) (a : Addr) (vs : List Value) (ns : List Int),
      Ground q loose [] XP w s₀ mg mb s₁.heap → YP w s₁.heap →
      s₁.heap.get? fa = some o → o.data = .func (docDef d.name d.params d.body d.scope pm cd doc) → s₁.heap.CodeRec cd d.name → mg d.name = some (.ref fa) →
      s₁.heap.get? a = some { cls := .type "list", data := .seq vs.toArray } → IntsAre vs ns → ns.length ≤ n →
      s.gens = #[] → s.os = s₁.os →
      Fr s₁.heap s₁.heap.objs.size s.heap (bindL (envOfC d.name d.scope s₁.heap.objs.size fa cd).kindOf [(x, .ref a)] fun _ => none) →
      Cl s₁.heap.objs.size (cellsFrom (s₁.heap.objs.size + 1) d.scope.names []) s.heap (bindC (envOfC d.name d.scope s₁.heap.objs.size fa cd).kindOf [(x, .ref a)] fun _ => none) →
      wpAny (model l.prog w) (callerA.deeper (envOfC d.name d.scope s₁.heap.objs.size fa cd)) (execs d.body (envOfC d.name d.scope s₁.heap.objs.size fa cd))
        (fun f s' => f = .ret (.bool true) ∧ OldK s₁.heap s'.heap ∧ s'.os = s₁.os ∧ AllBare s'.gens) (fun _ _ => False) s) :
    WalkO q loose XP YP l.row.toRowW d [] (fun f vs => PySem.call f vs) := by
  intro w s₀ s₁ mg mb G Y fa o pm cd doc dV kV ho hd hcd hD hmg hg args vals as hpre hlay hrd hwl hlo
  obtain rfl : dV = .none := Dflts.none hD hdf
  obtain rfl : kV = .none := Dflts.noKw hD
  obtain ⟨a, vs, ns, rfl, rfl, hobj, hints, hlen⟩ := script_of hn hpre hwl
  refine enter_call ?_
  refine call_cells_ret (o := o) (by rw [depth_caller]; decide) ho (fd_plain hd) G.T.nolimit hcd (hbind pm cd doc (.ref a)) (fun y hy => ?_) (fun h₁ tk F X => ?_) hco hgen hk
  · obtain rfl : y = (x, Value.ref a) := List.mem_singleton.mp hy
    rcases hx with e | e
    · exact .inl e
    · exact .inr ⟨e, cellsFrom_some _ _ _ (.inl e)⟩
  · refine wpAny_mono (body w s₀ s₁ { s₁ with heap := h₁, toks := tk } mg mb fa o pm cd doc a vs ns G Y ho (fd_plain hd) hcd hmg hobj hints hlen hg rfl F X) (fun f s' hq => ?_) (fun _ _ hq => hq)
    obtain ⟨rfl, h2, h3, h4⟩ := hq
    exact ⟨.inl ⟨.bool true, .bool true, [], rfl, fun _ => rfl, .bool true, post_true l _, fun _ => ⟨List.Pairwise.nil, fun _ hm => (nomatch hm)⟩⟩, h2, h3, h4⟩

/-- the same from a codeAny of the CALL (for a layer whose function contracts speak of calls) -/
theorem attach_call {l : OpenLaw} {n : Nat} {q : Program} {loose : List Str} {XP : (Str → Option Value) → Heap → Prop} {YP : World → Heap → Prop} {d : DefRec}
    (hn : l.most = some n) (hdf : d.params.defaults = [])
    (call : ∀ (w : World) (s₀ s₁ : Shared) (mg mb : Str → Option Value) (fa : Addr) (o : Obj) (pm cd doc : Value) (a : Addr) (vs : List Value) (ns : List Int),
      Ground q loose [] XP w s₀ mg mb s₁.heap → YP w s₁.heap →
      s₁.heap.get? fa = some o → o.data = .func (docDef d.name d.params d.body d.scope pm cd doc) → s₁.heap.CodeRec cd d.name → mg d.name = some (.ref fa) →
      s₁.heap.get? a = some { cls := .type "list", data := .seq vs.toArray } → IntsAre vs ns → ns.length ≤ n → s₁.gens = #[] →
      codeAny (model l.prog w) callerA (.call (.ref fa) ⟨[.ref a], []⟩) (fun r s' => r = .ok (.ret (.bool true)) ∧ OldK s₁.heap s'.heap ∧ s'.os = s₁.os ∧ AllBare s'.gens) s₁) :
    WalkO q loose XP YP l.row.toRowW d [] (fun f vs => PySem.call f vs) := by
  intro w s₀ s₁ mg mb G Y fa o pm cd doc dV kV ho hd hcd hD hmg hg args vals as hpre hlay hrd hwl hlo
  obtain rfl : dV = .none := Dflts.none hD hdf
  obtain rfl : kV = .none := Dflts.noKw hD
  obtain ⟨a, vs, ns, rfl, rfl, hobj, hints, hlen⟩ := script_of hn hpre hwl
  refine enter_call (codeAny_mono (call w s₀ s₁ mg mb fa o pm cd doc a vs ns G Y ho (fd_plain hd) hcd hmg hobj hints hlen hg) fun r s' hq => ?_)
  obtain ⟨rfl, h2, h3, h4⟩ := hq
  exact ⟨.inl ⟨.bool true, .bool true, [], rfl, fun _ => rfl, .bool true, post_true l _, fun _ => ⟨List.Pairwise.nil, fun _ hm => (nomatch hm)⟩⟩, h2, h3, h4⟩

/-- the same where the top left finished generators (o_head chose holds_openN): nothing may have changed at all and no generator may be left -/
theorem attachN {l : OpenLaw} {n : Nat} {q : Program} {loose : List Str} {XP : (Str → Option Value) → Heap → Prop} {YP : World → Heap → Prop} {d : DefRec} {x : Str}
    (hn : l.most = some n) (hdf : d.params.defaults = [])
    (hbind : ∀ pm cd doc v : Value, bindArgs (docDef d.name d.params d.body d.scope pm cd doc) ⟨[v], []⟩ = pure [(x, v)])
    (hx : d.scope.names.lookup x = some .local ∨ d.scope.names.lookup x = some .cell)
    (hk : d.scope.kind = .function) (hco : d.scope.isCoroutine = false) (hgen : d.scope.isGenerator = false)
    (body : ∀ (w : World) (s₀ s₁ s : Shared) (mg mb : Str → Option Value) (fa : Addr) (o : Obj) (pm cd doc : Value) (a : Addr) (vs : List Value) (ns : List Int),
      Ground q loose [] XP w s₀ mg mb s₁.heap → YP w s₁.heap →
      s₁.heap.get? fa = some o → o.data = .func (docDef d.name d.params d.body d.scope pm cd doc) → s₁.heap.CodeRec cd d.name → mg d.name = some (.ref fa) →
      s₁.heap.get? a = some { cls := .type "list", data := .seq vs.toArray } → IntsAre vs ns → ns.length ≤ n →
      s.gens = #[] → s.os = s₁.os →
      Fr s₁.heap s₁.heap.objs.size s.heap (bindL (envOfC d.name d.scope s₁.heap.objs.size fa cd).kindOf [(x, .ref a)] fun _ => none) →
      Cl s₁.heap.objs.size (cellsFrom (s₁.heap.objs.size + 1) d.scope.names []) s.heap (bindC (envOfC d.name d.scope s₁.heap.objs.size fa cd).kindOf [(x, .ref a)] fun _ => none) →
      wpAny (model l.prog w) (callerA.deeper (envOfC d.name d.scope s₁.heap.objs.size fa cd)) (execs d.body (envOfC d.name d.scope s₁.heap.objs.size fa cd))
        (fun f s' => f = .ret (.bool true) ∧ (∀ b o, s₁.heap.get? b = some o → s'.heap.get? b = some o) ∧ s'.os = s₁.os ∧ s'.gens = #[]) (fun _ _ => False) s) :
    WalkN q loose XP YP l.row.toRowW d [] (fun f vs => PySem.call f vs) := by
  intro w s₀ s₁ mg mb G Y fa o pm cd doc dV kV ho hd hcd hD hmg hg args vals as hpre hlay hrd hwl hlo
  obtain rfl : dV = .none := Dflts.none hD hdf
  obtain rfl : kV = .none := Dflts.noKw hD
  obtain ⟨a, vs, ns, rfl, rfl, hobj, hints, hlen⟩ := script_of hn hpre hwl
  refine enter_callW ?_
  refine call_cells_ret (o := o) (by rw [depth_caller]; decide) ho (fd_plain hd) G.T.nolimit hcd (hbind pm cd doc (.ref a)) (fun y hy => ?_) (fun h₁ tk F X => ?_) hco hgen hk
  · obtain rfl : y = (x, Value.ref a) := List.mem_singleton.mp hy
    rcases hx with e | e
    · exact .inl e
    · exact .inr ⟨e, cellsFrom_some _ _ _ (.inl e)⟩
  · refine wpAny_mono (body w s₀ s₁ { s₁ with heap := h₁, toks := tk } mg mb fa o pm cd doc a vs ns G Y ho (fd_plain hd) hcd hmg hobj hints hlen hg rfl F X) (fun f s' hq => ?_) (fun _ _ hq => hq)
    obtain ⟨rfl, h2, h3, h4⟩ := hq
    exact ⟨.inl ⟨.bool true, .bool true, [], rfl, fun _ => rfl, .bool true, post_true l _, fun _ => ⟨List.Pairwise.nil, fun _ hm => (nomatch hm)⟩⟩, h2, h3, h4⟩

/-! ### rules over ANY heap (no ledger) from facts about the written part K: the library's own take a ledger (News) for what they write -/
section
variable {prog : Program} {w : World} {A : Around} {E : Value → Shared → Prop} {s : Shared} {K : Frag}

/-- a def of the module, or a method (qual 'C.m'), entered: the frame is the next address; cells behind it -/
theorem call_fn {R : Result → Shared → Prop} {name qual : Str} {params : Arguments} {body : List Stmt} {scope : Scope} {dV kV doc pm cdv ct oc : Value} {an od : Option Addr} {osl : Array (Option Value)} {f : Addr} {args : Args} {binds : List (Str × Value)}
    (X : K.In s.heap) (hlim : s.heap.NoLimit) (ho : K.lookup f = some ⟨oc, od, .func (fnOf name qual params body scope dV kV doc pm an cdv ct), osl⟩) (hcd : codeIn K cdv qual = true) (hroom : A.depth < recursionLimit)
    (hbind : BindsTo s (fnOf name qual params body scope dV kV doc pm an cdv ct) args binds)
    (hkind : (binds.all fun y => scope.names.lookup y.1 == some .local || scope.names.lookup y.1 == some .cell) = true)
    (h : ∀ s₁, InCallC s s.heap.objs.size (bindL (envOfC qual scope s.heap.objs.size f cdv).kindOf binds fun _ => none) (cellsFrom (s.heap.objs.size + 1) scope.names [])
        (bindC (envOfC qual scope s.heap.objs.size f cdv).kindOf binds fun _ => none) s₁ →
      wpAny (model prog w) (A.deeper (envOfC qual scope s.heap.objs.size f cdv)) (execs body (envOfC qual scope s.heap.objs.size f cdv))
        (fun fl s' => R (.ok (.ret (match fl with | .ret v => v | _ => .none))) s')
        (fun e s' => wpAny (model prog w) (A.deeper (envOfC qual scope s.heap.objs.size f cdv)) (leaving (envOfC qual scope s.heap.objs.size f cdv) e) (fun _ s'' => R (.error e) s'') (fun e' s'' => R (.error e') s'') s') s₁)
    (hco : scope.isCoroutine = false) (hgen : scope.isGenerator = false) (hk : scope.kind = .function) : codeAny (model prog w) A (.call (.ref f) args) R s := by
  refine codeAny_call_function hroom (X _ _ ho) rfl hco hgen rfl (codeRec_of X hcd) (hbind _ _ _ _ ?_)
  refine wpAny_newFunctionEnv_cells hk (kindsX hkind _) fun env he s₁ x => ?_
  subst he
  exact ⟨hlim.keeps x.toInCall.keep, codeAny_func (h s₁ x)⟩

/-- C(..): dict at size, instance at size + 1, then __init__ -/
theorem make_obj {R : Result → Shared → Prop} {C fI : Addr} {rest : List Value} {kw : List (Str × Value)}
    (X : K.In s.heap) (hm : makesIn K C = true) (hi : findIn K (.ref C) "__init__" = some (some (.ref fI))) (hf : isFn K (.ref fI) = true)
    (h : codeAny (model prog w) (A.under (.builtin "type.__call__" ⟨.ref C :: rest, kw⟩)) (.call (.ref fI) ⟨.ref (s.heap.objs.size + 1) :: rest, kw⟩) (InitBack (s.heap.objs.size + 1) R)
      { s with heap := (s.heap.push emptyDict).push (instObj C s.heap.objs.size) }) : codeAny (model prog w) A (.call (.ref C) ⟨rest, kw⟩) R s := by
  obtain ⟨hh, g, d, t, os⟩ := s
  exact make_core (makes_of X hm) (looks_findIn X hi) (fun self => bind_fn X self (beq_iff_eq.mp hf)) (.inl rfl) h

/-- x.name where the instance's dict holds the name and the class does not -/
theorem get_field {x C : Addr} {ox : Obj} {es : List DictEntry} {n : Nat} {name : Str} {expr : Bool} {v : Value} {Q : Value → Shared → Prop}
    (X : K.In s.heap) (I : PySem.W.InstAt s.heap x ox C (some (dictOf es n))) (hg : plainGet K C name = true) (hh : hasDictIn K C = true) (ha : findIn K (.ref C) name = some none)
    (hl : getL name es = some (some v)) (hv : handedIn v = true) (h : Q v { s with toks := s.toks + 1 }) : wpAny (model prog w) A (getAttr (.ref x) name expr) Q E s :=
  get_value X I (plainGet_of hg).1 (findObj_own hh ha rfl hl) hv h

/-- x.m(..): the method found in the class -/
theorem get_method {x C f : Addr} {ox : Obj} {es : List DictEntry} {n : Nat} {name : Str} {pl : Sem Bool} {Q : Value × List Value → Shared → Prop}
    (X : K.In s.heap) (I : PySem.W.InstAt s.heap x ox C (some (dictOf es n))) (hg : plainGet K C name = true) (hf : findIn K (.ref C) name = some (some (.ref f))) (ht : isFn K (.ref f) = true)
    (hl : getL name es = some none) (h : Q (.ref f, [.ref x]) s) : wpAny (model prog w) A (getMethod (.ref x) name pl) Q E s :=
  method_fn X I (plainGet_of hg).1 (plainGet_of hg).2 hf (beq_iff_eq.mp ht) (by show (lookIn name (dictOf es n)).map _ = _; rw [lookIn_dict, hl]; rfl) h

/-! the whole heap as the ledger: makes every rule that writes through a ledger a rule over any heap -/
def noObjs (h : Heap) : Heap := { h with objs := #[] }
theorem noObjs_get (h : Heap) (b : Addr) : (noObjs h).get? b = none := by
  cases e : (noObjs h).get? b with
  | none => rfl
  | some o => exact absurd (Heap.lt_size e) (Nat.not_lt_zero _)
def ledger (h : Heap) (L d : Addr) : List (Addr × Obj) := (List.range h.objs.size).filterMap fun a => if a = L ∨ a = d then none else (h.get? a).map fun o => (a, o)
theorem mem_ledger {h : Heap} {L d a : Addr} {o : Obj} : (a, o) ∈ ledger h L d ↔ a ≠ L ∧ a ≠ d ∧ h.get? a = some o := by
  unfold ledger
  rw [List.mem_filterMap]
  constructor
  · rintro ⟨b, _, e⟩
    split at e
    · cases e
    · rename_i hb
      obtain ⟨o', ho, e'⟩ := Option.map_eq_some_iff.mp e
      cases e'
      exact ⟨fun q => hb (.inl q), fun q => hb (.inr q), ho⟩
  · rintro ⟨n1, n2, ho⟩
    refine ⟨a, List.mem_range.mpr (Heap.lt_size ho), ?_⟩
    rw [if_neg (show ¬ (a = L ∨ a = d) from fun q => q.elim n1 n2), ho] <;> rfl
theorem news_ledger {h : Heap} {L d : Addr} {od : Obj} (hne : d ≠ L) (ho : h.get? d = some od) : News (noObjs h) L h ([] ++ (d, od) :: ledger h L d) := by
  rintro ⟨a, o⟩ hp
  rcases List.mem_cons.mp hp with e | hp
  · cases e
    exact ⟨ho, hne, noObjs_get _ _⟩
  · obtain ⟨n1, n2, e⟩ := mem_ledger.mp hp
    exact ⟨e, n1, noObjs_get _ _⟩
theorem fr_all {h : Heap} {L : Addr} {m : Str → Option Value} (n : h.Ns L m) : Fr (noObjs h) L h m :=
  ⟨n, fun b o e => (by rw [noObjs_get] at e; cases e), Nat.zero_le _⟩
/-- Upd of the head entry (for append_K, setItem_K ..) -/
theorem upd_ledger {h : Heap} {L d : Addr} {o o' : Obj} : Upd d o o' ((d, o) :: ledger h L d) ((d, o') :: ledger h L d) :=
  .head fun ⟨_, _⟩ hp => (mem_ledger.mp hp).2.1

/-- x.name = v over any heap: L is any namespace of the heap (the frame's, say): its map stays, its object is not told; all else but the dict stays -/
theorem set_field {x C dx L : Addr} {ox : Obj} {m : Str → Option Value} {es es' : List DictEntry} {n n' : Nat} {name : Str} {v : Value} {Q : Unit → Shared → Prop}
    (X : K.In s.heap) (I : PySem.W.InstAt s.heap x ox C (some (dictOf es n))) (hd : ox.dict = some dx) (hL : s.heap.Ns L m) (hne : dx ≠ L)
    (hs : findIn K (.ref C) "__setattr__" = some (some (.builtin "object.__setattr__"))) (hp : plainOver K C = true) (ht : takerIn K C name = some none) (hh : hasDictIn K C = true) (hl : (getL name es).isSome = true)
    (e : (putL name (PyData.keyHash w.params name) (.str name (s.toks + 1)) v es, putN name es n) = (es', n')) (hz : es'.length ≤ 1000)
    (h : ∀ h' : Heap, h'.Ns L m → h'.get? dx = some (dictOf es' n') → (∀ b o, b ≠ dx → b ≠ L → s.heap.get? b = some o → h'.get? b = some o) → Q () { s with heap := h', toks := s.toks + 2 }) :
    wpAny (model prog w) A (setAttr (.ref x) name v) Q E s := by
  obtain ⟨e1, e2⟩ := Prod.mk.inj e
  have hdx : s.heap.get? dx = some (dictOf es n) := by
    have := I.dict
    rw [hd] at this
    exact this
  refine set_plain X I hs (osa_dict (s := { s with toks := s.toks + 1 }) (h₀ := noObjs s.heap) (L := L) (m := m) (od := dictOf es n) (od' := dictOf es' n') (es := es') (n := n') (pre := []) (post := ledger s.heap L dx)
    (fr_all hL) (news_ledger hne hdx) X I hd hp ht hh hl (fun _ q => nomatch q) (fun ⟨_, _⟩ q => (mem_ledger.mp q).2.1) (by rw [putName_dict, e1, e2]) rfl hz fun h' F' N' => ?_)
  exact h h' F'.ns (N'.get (List.Mem.head _)) fun b o n1 n2 ho => N'.get (List.Mem.tail _ (mem_ledger.mpr ⟨n2, n1, ho⟩))
end
end Att

namespace L2
open PySem PySem.Spec PyProof.Rows

theorem vals_ints : ∀ {vs : List Value} {ns : List Int}, IntsAre vs ns → Vals (ns.map V.int) vs
  | _, _, .nil => .nil
  | _, _, .cons n t h => .cons ⟨t, rfl⟩ (vals_ints h)

/-- nothing is tracked but the script, known to the object (or it is an object of the module) -/
def Only (H : Hp) : Prop := ∀ b, H b = none ∨ ∃ o xs, H b = some (.frz o (.lst xs))

/-- THE HEAD: the law's promise, at the heap behind the top. F, the promise of the law's def, may use that base is part of the heap (so K.In base, base.Ns mainGlobals mg stand in Mod) -/
theorem law_call {P : Program} {w : World} {K : PySem.W.Frag} {mg mb : Str → Option Value} {CX : CXT} {k : Nat} {fa a : Addr} {fd : FuncData} {x : Str} {sp : Sp} {s₁ : Shared} {vs : List Value} {ns : List Int}
    (KX : K.In s₁.heap) (hns : s₁.heap.Ns mainGlobals mg) (hb : s₁.heap.Ns builtinsNs mb) (hbb : ∀ x : Str, x ≠ "__name__" → mb x = bootBuiltins x) (hlim : s₁.heap.NoLimit) (hg : s₁.gens = #[])
    (ha : s₁.heap.get? a = some { cls := .type "list", data := .seq vs.toArray }) (hi : IntsAre vs ns) (hl : ns.length ≤ sizeLine) (hr : Room k callerA)
    (F : ∀ base : Heap, K.In base → base.Ns mainGlobals mg → FnOk P w K mg base CX k fa fd [x] sp) (hbind : ∀ (s : Shared) (u : Value), BindsTo s fd ⟨[u], []⟩ [(x, u)])
    (hsp : ∀ H : Hp, Only H → SqL K H a (ns.map V.int) → sp [.ref a] H (fun v _ => v = .bl true) fun _ _ _ => False)
    (hCX : ∀ H e s', CX [] H s₁ (fun _ _ _ => False) e s' → False) :
    codeAny (model P w) callerA (.call (.ref fa) ⟨[.ref a], []⟩) (fun r s' => r = .ok (.ret (.bool true)) ∧ OldK s₁.heap s'.heap ∧ s'.os = s₁.os ∧ AllBare s'.gens) s₁ := by
  have rv := vals_ints hi
  have lenV := hi.length
  -- from an abstract heap in which nothing but the script may be tracked
  have core : ∀ H : Hp, Only H → SqL K H a (ns.map V.int) → HOk P w H s₁.heap → (∀ b, H b ≠ none → b = a) → (H a ≠ none → K.lookup a = none) →
      codeAny (model P w) callerA (.call (.ref fa) ⟨[.ref a], []⟩) (fun r s' => r = .ok (.ret (.bool true)) ∧ OldK s₁.heap s'.heap ∧ s'.os = s₁.os ∧ AllBare s'.gens) s₁ := by
    intro H hO hS hok hA hK
    have base_of : ∀ {b : Addr} {o : Obj}, s₁.heap.get? b = some o → H b = none → (hidT s₁.heap H).get? b = some o := fun e n => hidT_get e n
    have noA : ∀ {b : Addr} {o : Obj} {es : Array DictEntry} {ep : Nat}, s₁.heap.get? b = some o → o.data = .dict es ep → H b = none := fun {b o es ep} e d => by
      cases q : H b with
      | none => rfl
      | some u =>
        have e' : b = a := hA b (by rw [q]; simp)
        subst e'
        rw [ha] at e; cases e
        have d' : Data.seq vs.toArray _ = Data.dict es ep := d
        cases d'
    have nsK : ∀ {b : Addr} {m : Str → Option Value}, s₁.heap.Ns b m → (hidT s₁.heap H).Ns b m := fun {b m} ⟨o, es, ep, e, d, r⟩ => ⟨o, es, ep, base_of e (noA e d), d, r⟩
    have hKb : K.In (hidT s₁.heap H) := fun b o e => base_of (KX b o e) (by
      cases q : H b with
      | none => rfl
      | some u =>
        have e' : b = a := hA b (by rw [q]; simp)
        subst e'
        rw [hK (by rw [q]; simp)] at e; cases e)
    have hM : Mod K mg (hidT s₁.heap H) := ⟨hKb, nsK hns, ⟨mb, nsK hb, hbb⟩, let ⟨mc, h1, h2⟩ := hlim; ⟨mc, nsK h1, h2⟩⟩
    have e0 : Env0 P w K mg (hidT s₁.heap H) callerA [] s₁ H := ⟨rfl, hM, fun b o e => of_hidT e, Nat.le_of_eq (hidT_size _ _), trivial, fun b hb => absurd (show b ∈ ([] : List Addr) from hb) (by simp), hok, .of_eq hg⟩
    refine codeAny_mono ((F _ hKb (nsK hns)).run callerA [] s₁ H ⟨[.ref a], []⟩ [.ref a] [.ref a] _ _ hr e0 (hbind s₁ (.ref a)) (.cons rfl .nil) (hsp H hO hS)) fun r s' h => ?_
    cases r with
    | error e => exact (hCX H e s' h).elim
    | ok fl =>
      cases fl with
      | next => exact False.elim h
      | brk => exact False.elim h
      | cont => exact False.elim h
      | ret u =>
        obtain ⟨v, H', os, bare, un, hok', r', q⟩ := h
        have q' : v = .bl true := q
        subst q'
        obtain rfl : u = Value.bool true := r'
        refine ⟨rfl, OldK.of_keep fun b o e => ?_, os, bare⟩
        cases q : H b with
        | none => exact un.keep b o e q (by intro z; exact absurd (show b ∈ ([] : List Addr) from z) (by simp)) (by simp)
        | some u =>
          rcases hO b with z | ⟨ob, xs, z⟩
          · rw [q] at z; cases z
          · have z2 := un.frzs b ob _ z
            obtain ⟨e1, _⟩ := hok b _ z
            obtain ⟨e2, _⟩ := hok' b _ z2
            rw [e] at e1; cases e1
            exact e2
  cases hk : K.lookup a with
  | some o =>
    -- the script is one of the module's own objects
    have e := KX a o hk
    rw [ha] at e
    cases e
    refine core (fun _ => none) (fun _ => .inl rfl) (.inr ⟨_, vs.toArray, _, hk, rfl, rfl, rfl, by rw [List.size_toArray, lenV]; exact hl, by simpa using rv⟩) (fun b u z => by have z' : (none : Option HO) = some u := z; cases z') (fun b z => absurd rfl z) fun z => absurd rfl z
  | none =>
    refine core (fun b => if b = a then some (.frz { cls := .type "list", data := .seq vs.toArray } (.lst (ns.map V.int))) else none) (fun b => ?_) (.inl (.inr ⟨{ cls := .type "list", data := .seq vs.toArray }, if_pos rfl⟩)) (fun b u z => ?_) (fun b z => ?_) fun _ => hk
    · by_cases hb : b = a
      · exact .inr ⟨_, _, if_pos hb⟩
      · exact .inl (if_neg hb)
    · by_cases hb : b = a
      · have z' := (if_pos hb).symm.trans z
        cases z'
        subst hb
        exact ⟨ha, by rw [List.length_map]; exact hl, vs, _, rv, ha⟩
      · have z' := (if_neg hb).symm.trans z
        cases z'
    · by_cases hb : b = a
      · exact hb
      · exact absurd (if_neg hb) z
end L2

namespace L2
open PySem PySem.Spec PyProof.Rows

abbrev KOf {K : PySem.W.Frag} {h : Heap} (_ : K.In h) : PySem.W.Frag := K

/-- the goal that k_head leaves (case hc), from the law's promise. F gives the function object fd (K's own) once, then the promise over every base -/
theorem walk_of {l : PySem.W.OpenLaw} {n k : Nat} {q : Program} {loose : List Str} {XP : (Str → Option Value) → Heap → Prop} {YP : World → Heap → Prop} {d : DefRec} {K : Params → PySem.W.Frag} {CX : World → CXT} {sp : World → Sp} {x : Str}
    (hn : l.most = some n) (hn2 : n ≤ sizeLine) (hdf : d.params.defaults = []) (hr : Room k callerA)
    (hY : ∀ (w : World) (h : Heap), YP w h → (K w.params).In h)
    (F : ∀ (w : World) (mg : Str → Option Value) (fa : Addr) (h : Heap), (K w.params).In h → h.Ns mainGlobals mg → mg d.name = some (.ref fa) →
      ∃ fd : FuncData, (∀ (s : Shared) (u : Value), BindsTo s fd ⟨[u], []⟩ [(x, u)]) ∧
        ∀ base : Heap, (K w.params).In base → base.Ns mainGlobals mg → FnOk l.prog w (K w.params) mg base (CX w) k fa fd [x] (sp w))
    (hsp : ∀ (w : World) (H : Hp) (a : Addr) (ns : List Int), ns.length ≤ n → Only H → SqL (K w.params) H a (ns.map V.int) → sp w [.ref a] H (fun v _ => v = .bl true) fun _ _ _ => False)
    (hCX : ∀ (w : World) (H : Hp) (s : Shared) (e : Value) (s' : Shared), CX w [] H s (fun _ _ _ => False) e s' → False) :
    PySem.W.WalkO q loose XP YP l.row.toRowW d [] (fun f vs => PySem.call f vs) := by
  refine Att.attach_call hn hdf fun w s₀ s₁ mg mb fa o pm cd doc a vs ns G Y ho hd hcd hmg hobj hints hlen hg => ?_
  have KX := hY w _ Y
  obtain ⟨fd, hb, hF⟩ := F w mg fa _ KX G.T.g hmg
  exact law_call KX G.T.g G.T.b G.T.builtins G.T.nolimit hg hobj hints (Nat.le_trans hlen hn2) hr hF hb (fun H hO hS => hsp w H a ns hlen hO hS) fun H e s' => hCX w H s₁ e s'
/-- the same where the promise hangs on the written part alone: (sp := My.sp_law), no hole under a binder -/
theorem walk_ofK {l : PySem.W.OpenLaw} {n k : Nat} {q : Program} {loose : List Str} {XP : (Str → Option Value) → Heap → Prop} {YP : World → Heap → Prop} {d : DefRec} {K : Params → PySem.W.Frag} {CX : CXT} {sp : PySem.W.Frag → Sp} {x : Str}
    (hn : l.most = some n) (hn2 : n ≤ sizeLine) (hdf : d.params.defaults = []) (hr : Room k callerA)
    (hY : ∀ (w : World) (h : Heap), YP w h → (K w.params).In h)
    (F : ∀ (w : World) (mg : Str → Option Value) (fa : Addr) (h : Heap), (K w.params).In h → h.Ns mainGlobals mg → mg d.name = some (.ref fa) →
      ∃ fd : FuncData, (∀ (s : Shared) (u : Value), BindsTo s fd ⟨[u], []⟩ [(x, u)]) ∧
        ∀ base : Heap, (K w.params).In base → base.Ns mainGlobals mg → FnOk l.prog w (K w.params) mg base CX k fa fd [x] (sp (K w.params)))
    (hsp : ∀ (K : PySem.W.Frag) (H : Hp) (a : Addr) (ns : List Int), ns.length ≤ n → Only H → SqL K H a (ns.map V.int) → sp K [.ref a] H (fun v _ => v = .bl true) fun _ _ _ => False)
    (hCX : ∀ (H : Hp) (s : Shared) (e : Value) (s' : Shared), CX [] H s (fun _ _ _ => False) e s' → False) :
    PySem.W.WalkO q loose XP YP l.row.toRowW d [] (fun f vs => PySem.call f vs) :=
  walk_of (K := K) (CX := fun _ => CX) (sp := fun w => sp (K w.params)) hn hn2 hdf hr hY F (fun w H a ns h1 h2 h3 => hsp (K w.params) H a ns h1 h2 h3) fun _ H s e s' => hCX H s e s'
end L2

/- THE LAST THEOREM (shape; LID, My.* are yours):
   My.Adr: a structure of the addresses that your layer names (classes, functions); My.Txt K t: a structure (Prop) of the equations over K;
   My.txt_mk : {K} {implicit addresses ..} (e1 : nsIn K mainGlobals "law" = some (some (.ref f))) (e2 : K.lookup f = some ⟨oc, od, .func (fnOf "law" "law" params body scope dV kV doc pm an cdv ct), sl⟩) (e3 : codeIn K cdv "law" = true) .. : ∃ t, My.Txt K t

set_option maxRecDepth 100000 in
set_option maxHeartbeats 0 in
theorem PySem.Challenge.cw_LID_holds : PySem.Challenge.rw_LID.Holds := by
  w_on; o_law; k_head; (case hw => w_witness2)
  k_fill
  refine L2.walk_of (l := PySem.Challenge.rw_LID) (n := 63) (k := 40) (x := "script") (CX := fun w => ..) (sp := fun _ => My.sp_law) rfl (by decide) rfl ⟨rfl, by decide, by decide⟩ (fun w h Y => PySem.W.kIn_of Y) ?F ?S ?C
  case F =>
    intro w mg fa h KX G hmg
    have T : ∃ t, My.Txt (L2.KOf KX) t := by
      dsimp only [L2.KOf]                          -- K must stand as «<heap const> w.params» for k_is
      refine' My.txt_mk ?e1 ?e2 ?e3 ..
      (case e1 => PySem.W.k_is)                    -- in the order: a name -> its address -> its object -> its parts
      (case e2 => PySem.W.k_is)
      ..
    obtain ⟨t, T⟩ := T
    have e0 := hmg.symm.trans (PySem.W.mg_of KX G T.law)
    cases e0                                       -- fa is the law's own address
    exact ⟨_, fun s u => .of_eq rfl, fun base kb nb => My.law_fn T kb nb⟩     -- if «.of_eq rfl» comes too early: refine' ⟨_, ?b, fun base kb nb => My.law_fn T kb nb⟩; exact fun s u => .of_eq rfl
  case S => exact fun w H a ns hl hO hS => ..
  case C => exact ..
(the tactic k_is has no namespace: write k_is) -/

/-! SHORT WORDS over the layer: a def of the text, its body, what a loop and a test want. -/
namespace L2
open PySem PySem.Spec PyProof.Rows

/-! ### the text by places -/
/-- the j-th statement of a class's body -/
def inClass (s : Stmt) (j : Nat) : Stmt := match s with
  | .ClassDef _ _ _ body _ _ _ _ _ _ _ => body.getD j (.Pass ⟨0, 0, 0, 0⟩)
  | _ => .Pass ⟨0, 0, 0, 0⟩
def defArgs (s : Stmt) : Arguments := match s with
  | .FunctionDef _ a _ _ _ _ _ _ _ _ => a
  | _ => { posonlyargs := [], args := [], vararg := none, kwonlyargs := [], kw_defaults := [], kwarg := none, defaults := [] }
def defBody (s : Stmt) : List Stmt := match s with
  | .FunctionDef _ _ b _ _ _ _ _ _ _ => b
  | _ => []
def defScope (s : Stmt) : Scope := match s with
  | .FunctionDef _ _ _ _ _ _ sc _ _ _ => sc
  | _ => { kind := .function, names := [], isGenerator := false, isCoroutine := false }

/-! ### no exception leaves a def -/
abbrev CX0 : CXT := fun _ _ _ _ _ _ => False
abbrev E0 : XK := fun _ _ _ => False
theorem pass0 {X : Cx} : Passes CX0 X E0 := fun _ _ _ _ _ _ _ h => h.elim

/-! ### a def (or method) of the text as it stands behind the top -/
structure Fun (K : PySem.W.Frag) (x qual : Str) (st : Stmt) (f : Addr) (fd : FuncData) : Prop where
  ex : ∃ (oc : Value) (od : Option Addr) (kV doc pm : Value) (an : Option Addr) (cdv ct : Value) (osl : Array (Option Value)),
    fd = PySem.W.fnOf x qual (defArgs st) (defBody st) (defScope st) .none kV doc pm an cdv ct ∧ K.lookup f = some ⟨oc, od, .func fd, osl⟩ ∧ PySem.W.codeIn K cdv qual = true
  kp : PySem.W.keepIn K (.ref f) = true
section
variable {P : Program} {w : World} {K : PySem.W.Frag} {mg : Str → Option Value} {base : Heap}
/-- THE RULE for a def: its body as a term of rules, and the reading of that term -/
theorem Fun.ok {x qual : Str} {st : Stmt} {f : Addr} {fd : FuncData} {N ps : List Str} {k : Nat} {sp : Sp} (F : Fun K x qual st f fd) (S : FnScope N ps (defScope st)) (len : ∀ vs H Q E, sp vs H Q E → vs.length = ps.length)
    (hbody : ∀ (cdv : Value) (A : Around) (outer : List Env) (s : Shared) (H : Hp) (vs : List V) (Q : VK) (E : XK), Room k (A.deeper (envOfC qual (defScope st) s.heap.objs.size f cdv)) → sp vs H Q E →
      ∃ t, PSs (cxOf CX0 P w K mg base N qual (defScope st) f cdv A outer s H E).nox (defBody st) t ∧ t { nx := fun _ H' => Q .non H', rt := Q } (start N vs) H) : FnOk P w K mg base CX0 (k + 1) f fd ps sp := by
  obtain ⟨oc, od, kV, doc, pm, an, cdv, ct, osl, rfl, lk, hcd⟩ := F.ex
  refine fn_of lk hcd S len fun A outer s H vs Q E hr hsp => ?_
  obtain ⟨t, h, q⟩ := hbody cdv A outer s H vs Q E hr hsp
  exact ⟨t, h.nox, q⟩
/-- how its arguments bind (no defaults): h is «fun _ _ _ _ _ _ us hl => match us, hl with | [_, _], _ => rfl», one _ a parameter -/
theorem Fun.binds {x qual : Str} {st : Stmt} {f : Addr} {fd : FuncData} {ps : List Str} (F : Fun K x qual st f fd)
    (h : ∀ (kV doc pm : Value) (an : Option Addr) (cdv ct : Value) (us : List Value), us.length = ps.length → bindArgs (PySem.W.fnOf x qual (defArgs st) (defBody st) (defScope st) .none kV doc pm an cdv ct) ⟨us, []⟩ = pure (ps.zip us)) : Binds K fd ps [] := by
  obtain ⟨oc, od, kV, doc, pm, an, cdv, ct, osl, rfl, lk, hcd⟩ := F.ex
  exact .all (h kV doc pm an cdv ct)
theorem fun_mk {x qual : Str} {st : Stmt} {f : Addr} {oc : Value} {od an : Option Addr} {osl : Array (Option Value)} {kV doc pm cdv ct : Value} (l : K.lookup f = some ⟨oc, od, .func (PySem.W.fnOf x qual (defArgs st) (defBody st) (defScope st) .none kV doc pm an cdv ct), osl⟩)
    (c : PySem.W.codeIn K cdv qual = true) (k : PySem.W.keepIn K (.ref f) = true) : Fun K x qual st f (PySem.W.fnOf x qual (defArgs st) (defBody st) (defScope st) .none kV doc pm an cdv ct) := ⟨⟨oc, od, kV, doc, pm, an, cdv, ct, osl, rfl, l, c⟩, k⟩
end
theorem hu_of {A : Around} {k : Nat} (hr : Room k A) : A.units + 1 < cLine := Nat.lt_of_le_of_lt (Nat.add_le_add_left (by decide : 1 ≤ 64) _) hr.units
theorem small1000 {n : Nat} (h : n ≤ 1000) : n < sizeLine := Nat.lt_of_le_of_lt h (by decide)

/-! ### expressions in short: the name that stands in the i-th slot -/
section
variable {X : Cx}
theorem pv (i : Nat) {x : Str} {pos : Pos} (hN : X.N[i]? = some x := by rfl) (hv : Vis X.env.scope x := by first | exact Or.inl rfl | exact Or.inr (Or.inl rfl) | exact Or.inr (Or.inr rfl)) (hd : (x == ("__debug__" : Str)) = false := by decide)
    (hcd : (x == ("__classdict__" : Str)) = false := by decide) : PE X (.Name x pos) (tVar i) := pe_var hN hv hd hcd
end

/-! ### tests -/
theorem iteF {A B : Prop} (h : B) : if false = true then A else B := by
  rw [if_neg Bool.false_ne_true]
  exact h
theorem iteT {A B : Prop} (h : A) : if true = true then A else B := by
  rw [if_pos rfl]
  exact h
theorem ite2 {c A B : Prop} [Decidable c] (h1 : c → A) (h2 : ¬ c → B) : if c then A else B := by
  by_cases h : c
  · rw [if_pos h]
    exact h1 h
  · rw [if_neg h]
    exact h2 h
theorem iteNS {c A B : Prop} [Decidable c] (hc : c) (h : B) : if (!decide c) = true then A else B := by
  rw [decide_eq_true hc]
  exact iteF h

/-! ### heaps -/
/-- all that was tracked is as it was -/
def Same (H H' : Hp) : Prop := ∀ b o, H b = some o → H' b = some o
theorem Same.refl (H : Hp) : Same H H := fun _ _ h => h
theorem Same.trans {H H1 H2 : Hp} (a : Same H H1) (b : Same H1 H2) : Same H H2 := fun c o h => b c o (a c o h)
theorem Same.free {H H' : Hp} (e : Same H H') {l : Addr} (h : H' l = Option.none) : H l = Option.none := by
  cases q : H l with
  | none => rfl
  | some o =>
    rw [e l o q] at h
    cases h
theorem Same.seq {K : PySem.W.Frag} {H H' : Hp} {a : Addr} {xs : List V} (e : Same H H') (h : SqL K H a xs) : SqL K H' a xs := by
  rcases h with (h | ⟨o, h⟩) | h
  · exact .inl (.inl (e _ _ h))
  · exact .inl (.inr ⟨o, e _ _ h⟩)
  · exact .inr h

/-! ### lists -/
theorem at_of {xs : List V} {z : Int} {j : Nat} {v : V} (e : z = (j : Int)) (h : xs[j]? = some v) : atI xs z = some v := by
  rw [e]
  exact atI_nat h
theorem nd_ix {α : Type} {l : List α} (hN : l.Nodup) {i j : Nat} {x : α} (a : l[i]? = some x) (b : l[j]? = some x) : i = j := by
  obtain ⟨h1, e1⟩ := List.getElem?_eq_some_iff.mp a
  obtain ⟨h2, e2⟩ := List.getElem?_eq_some_iff.mp b
  exact (List.getElem_inj hN).mp (e1.trans e2.symm)
theorem sum_set : ∀ {l : List Int} {j : Nat} {z y : Int}, l[j]? = some z → (l.set j y).sum = l.sum - z + y
  | [], j, z, y, h => by simp at h
  | a :: r, 0, z, y, h => by
    have e : a = z := Option.some.inj h
    subst e
    show (y :: r).sum = (a :: r).sum - a + y
    rw [List.sum_cons, List.sum_cons]
    omega
  | a :: r, j + 1, z, y, h => by
    have ih := sum_set (l := r) (j := j) (z := z) (y := y) h
    show (a :: r.set j y).sum = (a :: r).sum - z + y
    rw [List.sum_cons, List.sum_cons, ih]
    omega
theorem sum_take : ∀ {l : List Int} {i : Nat} {z : Int}, l[i]? = some z → (l.take (i + 1)).sum = (l.take i).sum + z
  | [], i, z, h => by simp at h
  | a :: r, 0, z, h => by
    have e : a = z := Option.some.inj h
    subst e
    show ([a] : List Int).sum = ([] : List Int).sum + a
    rw [List.sum_cons]
    exact Int.add_comm _ _
  | a :: r, i + 1, z, h => by
    have ih := sum_take (l := r) (i := i) (z := z) h
    show (a :: r.take (i + 1)).sum = (a :: r.take i).sum + z
    rw [List.sum_cons, List.sum_cons, ih]
    omega
/-- a new instance and its __init__ leave all that was tracked as it was -/
theorem Same.made {H H1 : Hp} {x dx C : Addr} (nx : H x = Option.none) (nd : H dx = Option.none) (k : ∀ b o, (upd (upd H dx (.own x)) x (.ins C dx [])) b = some o → b ≠ x → H1 b = some o) : Same H H1 := fun b o e =>
  k b o (by rw [upd_ne (ne_of_none e nx), upd_ne (ne_of_none e nd)]; exact e) (ne_of_none e nx)
end L2
end
section
section
set_option Elab.async false
set_option linter.all false
set_option maxRecDepth 100000
set_option maxHeartbeats 2000000
namespace L2
open PySem PySem.Spec PyProof.Rows
open PySem.W (WData Codec OpenSpec Well WellAll ReadsW ReadsAllW)
/-! ### an answer as data -/
mutual
/-- x stands for the datum d, lists and tuples all the way -/
inductive Dw (K : PySem.W.Frag) (H : Hp) : V → WData → Prop
  | non : Dw K H .non .none
  | bl (b : Bool) : Dw K H (.bl b) (.bool b)
  | int (i : Int) : Dw K H (.int i) (.int i)
  | str (x : Str) : Dw K H (.str x) (.str x)
  | byt (b : Array UInt8) : Dw K H (.byt b) (.bytes b.toList)
  | lst {a : Addr} {xs : List V} {ds : List WData} : SqL K H a xs → DwAll K H xs ds → Dw K H (.ref a) (.list ds)
  | tup {a : Addr} {xs : List V} {ds : List WData} : SqT K H a xs → DwAll K H xs ds → Dw K H (.ref a) (.tuple ds)
inductive DwAll (K : PySem.W.Frag) (H : Hp) : List V → List WData → Prop
  | nil : DwAll K H [] []
  | cons {v : V} {vs : List V} {d : WData} {ds : List WData} : Dw K H v d → DwAll K H vs ds → DwAll K H (v :: vs) (d :: ds)
end
theorem dw_ints {K : PySem.W.Frag} {H : Hp} : ∀ ns : List Int, DwAll K H (ns.map V.int) (ns.map WData.int)
  | [] => .nil
  | n :: r => .cons (.int n) (dw_ints r)
theorem ints_dw {K : PySem.W.Frag} {H : Hp} : ∀ (ns : List Int) (xs : List V), DwAll K H xs (ns.map WData.int) → xs = ns.map V.int
  | [], xs, h => by
    cases h
    rfl
  | n :: r, xs, h => by
    cases h with
    | cons h1 h2 =>
      cases h1
      rw [ints_dw r _ h2] <;> rfl
section
variable {P : Program} {w : World} {K : PySem.W.Frag} {H : Hp} {h : Heap} {R : PySem.W.WRecords} {cl : Str → Option Addr}
theorem sqL_at {a : Addr} {xs : List V} (hok : HOk P w H h) (KX : K.In h) (q : SqL K H a xs) : ∃ (its : List Value) (o : Obj) (n : Nat), Vals xs its ∧ h.get? a = some o ∧ o.cls = .type "list" ∧ o.data = .seq its.toArray n := by
  rcases q with q | ⟨o, its, n, e, hc, _, hd, _, hv⟩
  · obtain ⟨_, its, n, hv, e⟩ := (show ObjOk P w H h a (.lst xs) from q.ok hok)
    exact ⟨its, _, n, hv, e, rfl, rfl⟩
  · exact ⟨its.toList, o, n, hv, KX _ _ e, hc, by simp [hd]⟩
theorem sqT_at {a : Addr} {xs : List V} (hok : HOk P w H h) (KX : K.In h) (q : SqT K H a xs) : ∃ (its : List Value) (o : Obj) (n : Nat), Vals xs its ∧ h.get? a = some o ∧ o.cls = .type "tuple" ∧ o.data = .seq its.toArray n := by
  rcases q with q | ⟨o, its, n, e, hc, hd, _, hv⟩
  · obtain ⟨_, its, hv, o, e, hc, n, hd⟩ := (show ObjOk P w H h a (.tup xs) from q.ok hok)
    exact ⟨its, o, n, hv, e, hc, hd⟩
  · exact ⟨its.toList, o, n, hv, KX _ _ e, hc, by simp [hd]⟩
mutual
theorem Dw.reads (hok : HOk P w H h) (KX : K.In h) : ∀ (d : WData) (v : V) (u : Value), Dw K H v d → RelV v u → ∃ as, ReadsW R cl h u d as
  | .none, _, _, x, r => by
    cases x
    cases r
    exact ⟨_, ReadsW.none⟩
  | .bool b, _, _, x, r => by
    cases x
    cases r
    exact ⟨_, ReadsW.bool b⟩
  | .int i, _, _, x, r => by
    cases x
    obtain ⟨t, rfl⟩ := r
    exact ⟨_, ReadsW.int i t⟩
  | .str s, _, _, x, r => by
    cases x
    obtain ⟨t, rfl⟩ := r
    exact ⟨_, ReadsW.str s t⟩
  | .bytes b, _, _, x, r => by
    cases x
    obtain ⟨t, rfl⟩ := r
    exact ⟨_, ReadsW.bytes _ t⟩
  | .list ds, _, _, x, r => by
    cases x with
    | lst hs ha =>
      cases r
      obtain ⟨its, o, n, rv, ho, hc, hd⟩ := sqL_at hok KX hs
      obtain ⟨as, hr⟩ := Dw.readsAll hok KX ds _ its ha rv
      exact ⟨_, ReadsW.list ho hc hd hr⟩
  | .tuple ds, _, _, x, r => by
    cases x with
    | tup hs ha =>
      cases r
      obtain ⟨its, o, n, rv, ho, hc, hd⟩ := sqT_at hok KX hs
      obtain ⟨as, hr⟩ := Dw.readsAll hok KX ds _ its ha rv
      exact ⟨_, ReadsW.tuple ho hc hd hr⟩
  | .float _, _, _, x, _ => by cases x
  | .dict _, _, _, x, _ => by cases x
  | .bytearray _, _, _, x, _ => by cases x
  | .set _, _, _, x, _ => by cases x
  | .frozenset _, _, _, x, _ => by cases x
  | .obj _ _, _, _, x, _ => by cases x
theorem Dw.readsAll (hok : HOk P w H h) (KX : K.In h) : ∀ (ds : List WData) (vs : List V) (us : List Value), DwAll K H vs ds → Vals vs us → ∃ as, ReadsAllW R cl h us ds as
  | [], _, _, x, r => by
    cases x
    cases r
    exact ⟨_, ReadsAllW.nil⟩
  | d :: ds, _, _, x, r => by
    cases x with
    | cons h1 h2 =>
      cases r with
      | cons r1 r2 =>
        obtain ⟨as, q1⟩ := Dw.reads hok KX d _ _ h1 r1
        obtain ⟨bs, q2⟩ := Dw.readsAll hok KX ds _ _ h2 r2
        exact ⟨_, ReadsAllW.cons q1 q2⟩
end
end
/-! ### the arguments -/
mutual
/-- data that a codec tells -/
def plW : WData → Bool
  | .none => true
  | .bool _ => true
  | .int _ => true
  | .str _ => true
  | .bytes _ => true
  | .list xs => plWs xs
  | .tuple xs => plWs xs
  | _ => false
def plWs : List WData → Bool
  | [] => true
  | x :: r => plW x && plWs r
end
theorem plWs_map {α : Type} {f : α → WData} (h : ∀ a, plW (f a) = true) : ∀ l : List α, plWs (l.map f) = true
  | [] => rfl
  | x :: r => by
    show (plW (f x) && plWs (r.map f)) = true
    rw [h x, plWs_map h r] <;> rfl
theorem pl_enc : ∀ (c : Codec) (a : c.denote), plW (c.enc a) = true
  | .unit, _ => rfl
  | .bool, _ => rfl
  | .int _ _, _ => rfl
  | .nat _ _, _ => rfl
  | .u8, _ => rfl
  | .bytes _ _, _ => rfl
  | .text _ _ _ _, _ => rfl
  | .list _ _ c, a => plWs_map (fun x => pl_enc c x) a
  | .pair c d, a => by
    show (plW (c.enc a.1) && (plW (d.enc a.2) && true)) = true
    rw [pl_enc c a.1, pl_enc d a.2] <;> rfl
  | .triple c d e, a => by
    show (plW (c.enc a.1) && (plW (d.enc a.2.1) && (plW (e.enc a.2.2) && true))) = true
    rw [pl_enc c a.1, pl_enc d a.2.1, pl_enc e a.2.2] <;> rfl
  | .option c, none => rfl
  | .option c, some x => pl_enc c x
theorem pl_encAll : ∀ (cs : List Codec) (a : Codec.denoteAll cs), plWs (Codec.encAll cs a) = true
  | [], _ => rfl
  | c :: cs, a => by
    show (plW (c.enc a.1) && plWs (Codec.encAll cs a.2)) = true
    rw [pl_enc c a.1, pl_encAll cs a.2] <;> rfl
theorem weight_mem : ∀ {xs : List WData} {d : WData}, d ∈ xs → d.weight ≤ WData.weightAll xs
  | [], d, h => absurd h (by simp)
  | x :: r, d, h => by
    show d.weight ≤ x.weight + 1 + WData.weightAll r
    rcases List.mem_cons.mp h with e | m
    · rw [e]
      omega
    · have z := weight_mem m
      omega
def toV : Value → V
  | .none => .non
  | .bool b => .bl b
  | .int i _ => .int i
  | .str x _ => .str x
  | .bytes b _ => .byt b
  | .ref a => .ref a
  | _ => .non
/-- a value of the arguments, its objects among A -/
def OkU (A : List Addr) : Value → Prop
  | .none => True
  | .bool _ => True
  | .int _ _ => True
  | .str _ _ => True
  | .bytes _ _ => True
  | .ref a => a ∈ A
  | _ => False
theorem OkU.mono {A B : List Addr} (h : ∀ a ∈ A, a ∈ B) : ∀ {u : Value}, OkU A u → OkU B u := fun {u} x => by
  cases u with
  | ref a => exact h a x
  | none => trivial
  | bool b => trivial
  | int i t => trivial
  | str s t => trivial
  | bytes b t => trivial
  | _ => exact False.elim x
theorem relV_toV {A : List Addr} {u : Value} (x : OkU A u) : RelV (toV u) u := by
  cases u with
  | ref a => rfl
  | none => rfl
  | bool b => rfl
  | int i t => exact ⟨t, rfl⟩
  | str s t => exact ⟨t, rfl⟩
  | bytes b t => exact ⟨t, rfl⟩
  | _ => exact False.elim x
theorem vals_toV {A : List Addr} : ∀ {vs : List Value}, (∀ u ∈ vs, OkU A u) → Vals (vs.map toV) vs
  | [], _ => .nil
  | u :: r, h => .cons (relV_toV (h u (List.mem_cons_self ..))) (vals_toV fun x hx => h x (List.mem_cons_of_mem _ hx))
/-- an object of the arguments -/
def ArgOb (h : Heap) (A : List Addr) (a : Addr) : Prop := ∃ vs : List Value, vs.length ≤ sizeLine ∧ (∀ u ∈ vs, OkU A u) ∧
  (h.get? a = some { cls := .type "list", data := .seq vs.toArray } ∨ h.get? a = some { cls := .type "tuple", data := .seq vs.toArray })
theorem ArgOb.mono {h : Heap} {A B : List Addr} {a : Addr} (k : ∀ a ∈ A, a ∈ B) (x : ArgOb h A a) : ArgOb h B a := by
  obtain ⟨vs, h1, h2, h3⟩ := x
  exact ⟨vs, h1, fun u hu => (h2 u hu).mono k, h3⟩
theorem wellAll_len {P : Params} {h : Heap} : ∀ {vs : List Value} {ds : List WData}, WellAll P h vs ds → vs.length = ds.length
  | _, _, .nil => rfl
  | _, _, .cons _ b => by
    show _ + 1 = _ + 1
    rw [wellAll_len b]
theorem well_list {P : Params} {h : Heap} {v : Value} {ds : List WData} (x : Well P h v (.list ds)) : ∃ (a : Addr) (vs : List Value), v = .ref a ∧ h.get? a = some { cls := .type "list", data := .seq vs.toArray } ∧ WellAll P h vs ds := by
  cases x with
  | list ho hall => exact ⟨_, _, rfl, ho, hall⟩
theorem well_tuple {P : Params} {h : Heap} {v : Value} {ds : List WData} (x : Well P h v (.tuple ds)) : ∃ (a : Addr) (vs : List Value), v = .ref a ∧ h.get? a = some { cls := .type "tuple", data := .seq vs.toArray } ∧ WellAll P h vs ds := by
  cases x with
  | tuple ho hall => exact ⟨_, _, rfl, ho, hall⟩
theorem well_cons {P : Params} {h : Heap} {us : List Value} {d : WData} {ds : List WData} (x : WellAll P h us (d :: ds)) : ∃ (v : Value) (vs : List Value), us = v :: vs ∧ Well P h v d ∧ WellAll P h vs ds := by
  cases x with
  | cons a b => exact ⟨_, _, rfl, a, b⟩
theorem line_of {n : Nat} (h : n ≤ 1048576) : n ≤ sizeLine := Nat.le_trans h (by decide)
section
variable {P : Params} {h : Heap}
mutual
theorem area_one : ∀ (d : WData) (v : Value), Well P h v d → plW d = true → d.weight ≤ 1048576 → ∃ A : List Addr, OkU A v ∧ ∀ a ∈ A, ArgOb h A a
  | .none, _, x, _, _ => by
    cases x
    exact ⟨[], trivial, fun a m => absurd m (by simp)⟩
  | .bool b, _, x, _, _ => by
    cases x
    exact ⟨[], trivial, fun a m => absurd m (by simp)⟩
  | .int i, _, x, _, _ => by
    cases x
    exact ⟨[], trivial, fun a m => absurd m (by simp)⟩
  | .str s, _, x, _, _ => by
    cases x
    exact ⟨[], trivial, fun a m => absurd m (by simp)⟩
  | .bytes b, _, x, _, _ => by
    cases x
    exact ⟨[], trivial, fun a m => absurd m (by simp)⟩
  | .list ds, _, x, p, z => by
    obtain ⟨a, vs, rfl, ho, hall⟩ := well_list x
    have z2 : WData.weightAll ds ≤ 1048576 := z
    obtain ⟨A, h1, h2⟩ := area_all ds _ hall p fun d hd => Nat.le_trans (weight_mem hd) z2
    have k : ∀ b ∈ A, b ∈ a :: A := fun b hb => List.mem_cons_of_mem _ hb
    refine ⟨a :: A, List.mem_cons_self .., fun b hb => ?_⟩
    rcases List.mem_cons.mp hb with e | m
    · rw [e]
      exact ⟨vs, line_of (by rw [wellAll_len hall]; exact Nat.le_trans (PySem.W.length_le_weightAllW ds) z2), fun u hu => (h1 u hu).mono k, .inl ho⟩
    · exact (h2 b m).mono k
  | .tuple ds, _, x, p, z => by
    obtain ⟨a, vs, rfl, ho, hall⟩ := well_tuple x
    have z2 : WData.weightAll ds ≤ 1048576 := z
    obtain ⟨A, h1, h2⟩ := area_all ds _ hall p fun d hd => Nat.le_trans (weight_mem hd) z2
    have k : ∀ b ∈ A, b ∈ a :: A := fun b hb => List.mem_cons_of_mem _ hb
    refine ⟨a :: A, List.mem_cons_self .., fun b hb => ?_⟩
    rcases List.mem_cons.mp hb with e | m
    · rw [e]
      exact ⟨vs, line_of (by rw [wellAll_len hall]; exact Nat.le_trans (PySem.W.length_le_weightAllW ds) z2), fun u hu => (h1 u hu).mono k, .inr ho⟩
    · exact (h2 b m).mono k
  | .float _, _, _, p, _ => Bool.noConfusion (show false = true from p)
  | .dict _, _, _, p, _ => Bool.noConfusion (show false = true from p)
  | .bytearray _, _, _, p, _ => Bool.noConfusion (show false = true from p)
  | .set _, _, _, p, _ => Bool.noConfusion (show false = true from p)
  | .frozenset _, _, _, p, _ => Bool.noConfusion (show false = true from p)
  | .obj _ _, _, _, p, _ => Bool.noConfusion (show false = true from p)
theorem area_all : ∀ (ds : List WData) (vs : List Value), WellAll P h vs ds → plWs ds = true → (∀ d ∈ ds, d.weight ≤ 1048576) → ∃ A : List Addr, (∀ u ∈ vs, OkU A u) ∧ ∀ a ∈ A, ArgOb h A a
  | [], _, x, _, _ => by
    cases x
    exact ⟨[], fun u m => absurd m (by simp), fun a m => absurd m (by simp)⟩
  | d :: ds, _, x, p, z => by
    obtain ⟨v, vs, rfl, x1, x2⟩ := well_cons x
    have q : plW d = true ∧ plWs ds = true := Bool.and_eq_true_iff.mp p
    obtain ⟨A, a1, a2⟩ := area_one d v x1 q.1 (z d (List.mem_cons_self ..))
    obtain ⟨B, b1, b2⟩ := area_all ds vs x2 q.2 fun e he => z e (List.mem_cons_of_mem _ he)
    have kA : ∀ b ∈ A, b ∈ A ++ B := fun b hb => List.mem_append.mpr (.inl hb)
    have kB : ∀ b ∈ B, b ∈ A ++ B := fun b hb => List.mem_append.mpr (.inr hb)
    refine ⟨A ++ B, fun u hu => ?_, fun b hb => ?_⟩
    · rcases List.mem_cons.mp hu with e | m
      · rw [e]
        exact a1.mono kA
      · exact (b1 u m).mono kB
    · rcases List.mem_append.mp hb with m | m
      · exact (a2 b m).mono kA
      · exact (b2 b m).mono kB
end
end
/-- what is tracked of an argument's object -/
def hoOf (o : Obj) : Option HO := match o.data with
  | .seq vs _ => if (o.cls == Value.type "list") = true then some (.frz o (.lst (vs.toList.map toV))) else some (.frz o (.tup (vs.toList.map toV)))
  | _ => none
def argH (K : PySem.W.Frag) (h : Heap) (A : List Addr) : Hp := fun b => if b ∈ A then (if (K.lookup b).isNone = true then (h.get? b).bind hoOf else none) else none
/-- nothing is tracked but what is known to the object -/
def OnlyF (H : Hp) : Prop := ∀ b, H b = none ∨ ∃ o u, H b = some (.frz o u)
theorem hoOf_lst (vs : List Value) : hoOf { cls := .type "list", data := .seq vs.toArray } = some (.frz { cls := .type "list", data := .seq vs.toArray } (.lst (vs.map toV))) := by
  show (if (Value.type "list" == Value.type "list") = true then some (HO.frz { cls := .type "list", data := .seq vs.toArray } (.lst (vs.toArray.toList.map toV))) else some (HO.frz { cls := .type "list", data := .seq vs.toArray } (.tup (vs.toArray.toList.map toV)))) = _
  rw [if_pos (beq_self_eq_true _)]
theorem hoOf_tup (vs : List Value) : hoOf { cls := .type "tuple", data := .seq vs.toArray } = some (.frz { cls := .type "tuple", data := .seq vs.toArray } (.tup (vs.map toV))) := by
  show (if (Value.type "tuple" == Value.type "list") = true then some (HO.frz { cls := .type "tuple", data := .seq vs.toArray } (.lst (vs.toArray.toList.map toV))) else some (HO.frz { cls := .type "tuple", data := .seq vs.toArray } (.tup (vs.toArray.toList.map toV)))) = _
  rw [if_neg (by decide)]
section
variable {P : Program} {w : World} {K : PySem.W.Frag} {h : Heap} {A : List Addr}
theorem argH_at {b : Addr} {o : Obj} (hb : b ∈ A) (hk : K.lookup b = none) (e : h.get? b = some o) : argH K h A b = hoOf o := by
  unfold argH
  rw [if_pos hb, hk, if_pos (show (none : Option Obj).isNone = true from rfl), e] <;> rfl
theorem of_argH {b : Addr} {u : HO} (q : argH K h A b = some u) : b ∈ A ∧ K.lookup b = none := by
  unfold argH at q
  by_cases hb : b ∈ A
  · rw [if_pos hb] at q
    cases hk : K.lookup b with
    | none => exact ⟨hb, rfl⟩
    | some o =>
      rw [hk, if_neg (by simp)] at q
      cases q
  · rw [if_neg hb] at q
    cases q
/-- what stands tracked -/
theorem argH_is (ar : ∀ a ∈ A, ArgOb h A a) {b : Addr} {u : HO} (q : argH K h A b = some u) : K.lookup b = none ∧ ∃ vs : List Value, vs.length ≤ sizeLine ∧ (∀ u ∈ vs, OkU A u) ∧
    ((h.get? b = some { cls := .type "list", data := .seq vs.toArray } ∧ u = .frz { cls := .type "list", data := .seq vs.toArray } (.lst (vs.map toV))) ∨
     (h.get? b = some { cls := .type "tuple", data := .seq vs.toArray } ∧ u = .frz { cls := .type "tuple", data := .seq vs.toArray } (.tup (vs.map toV)))) := by
  obtain ⟨hb, hk⟩ := of_argH q
  obtain ⟨vs, h1, h2, h3⟩ := ar b hb
  refine ⟨hk, vs, h1, h2, ?_⟩
  rcases h3 with e | e
  · rw [argH_at hb hk e, hoOf_lst] at q
    exact .inl ⟨e, (Option.some.inj q).symm⟩
  · rw [argH_at hb hk e, hoOf_tup] at q
    exact .inr ⟨e, (Option.some.inj q).symm⟩
theorem argH_only (ar : ∀ a ∈ A, ArgOb h A a) : OnlyF (argH K h A) := fun b => by
  cases q : argH K h A b with
  | none => exact .inl rfl
  | some u =>
    obtain ⟨_, vs, _, _, ⟨_, e⟩ | ⟨_, e⟩⟩ := argH_is ar q
    · exact .inr ⟨_, _, by rw [e]⟩
    · exact .inr ⟨_, _, by rw [e]⟩
theorem argH_ok (ar : ∀ a ∈ A, ArgOb h A a) : HOk P w (argH K h A) h := fun b u q => by
  obtain ⟨_, vs, h1, h2, ⟨e, rfl⟩ | ⟨e, rfl⟩⟩ := argH_is ar q
  · exact ⟨e, by rw [List.length_map]; exact h1, vs, _, vals_toV h2, e⟩
  · exact ⟨e, by rw [List.length_map]; exact h1, vs, vals_toV h2, _, e, rfl, _, rfl⟩
theorem seq_inj {c c' : Value} {vs us : List Value} (e : (some { cls := c, data := .seq vs.toArray } : Option Obj) = some { cls := c', data := .seq us.toArray }) : c = c' ∧ vs = us := by
  have e1 := Option.some.inj e
  have e2 : c = c' := congrArg Obj.cls e1
  have e3 : Data.seq vs.toArray = Data.seq us.toArray := congrArg Obj.data e1
  injection e3 with e4
  refine ⟨e2, ?_⟩
  have e5 := congrArg Array.toList e4
  simpa using e5
/-- a list argument -/
theorem argL (KX : K.In h) (ar : ∀ a ∈ A, ArgOb h A a) {a : Addr} {vs : List Value} (ha : a ∈ A) (e : h.get? a = some { cls := .type "list", data := .seq vs.toArray }) : (∀ u ∈ vs, OkU A u) ∧ SqL K (argH K h A) a (vs.map toV) := by
  obtain ⟨us, h1, h2, h3⟩ := ar a ha
  have hu : us = vs := by
    rcases h3 with q | q
    · rw [e] at q
      exact (seq_inj q).2.symm
    · rw [e] at q
      exact absurd (Value.type.inj (seq_inj q).1) (by decide)
  subst hu
  refine ⟨h2, ?_⟩
  cases hk : K.lookup a with
  | none => exact .inl (.inr ⟨_, by rw [argH_at ha hk e, hoOf_lst]⟩)
  | some o =>
    have e2 := KX a o hk
    rw [e] at e2
    obtain rfl := Option.some.inj e2
    exact .inr ⟨_, us.toArray, _, hk, rfl, rfl, rfl, by rw [List.size_toArray]; exact h1, by simpa using vals_toV h2⟩
theorem argT (KX : K.In h) (ar : ∀ a ∈ A, ArgOb h A a) {a : Addr} {vs : List Value} (ha : a ∈ A) (e : h.get? a = some { cls := .type "tuple", data := .seq vs.toArray }) : (∀ u ∈ vs, OkU A u) ∧ SqT K (argH K h A) a (vs.map toV) := by
  obtain ⟨us, h1, h2, h3⟩ := ar a ha
  have hu : us = vs := by
    rcases h3 with q | q
    · rw [e] at q
      exact absurd (Value.type.inj (seq_inj q).1) (by decide)
    · rw [e] at q
      exact (seq_inj q).2.symm
  subst hu
  refine ⟨h2, ?_⟩
  cases hk : K.lookup a with
  | none => exact .inl (.inr ⟨_, by rw [argH_at ha hk e, hoOf_tup]⟩)
  | some o =>
    have e2 := KX a o hk
    rw [e] at e2
    obtain rfl := Option.some.inj e2
    exact .inr ⟨_, us.toArray, _, hk, rfl, rfl, by rw [List.size_toArray]; exact h1, by simpa using vals_toV h2⟩
mutual
theorem dw_one {Pm : Params} (KX : K.In h) (ar : ∀ a ∈ A, ArgOb h A a) : ∀ (d : WData) (v : Value), Well Pm h v d → plW d = true → OkU A v → Dw K (argH K h A) (toV v) d
  | .none, _, x, _, _ => by
    cases x
    exact .non
  | .bool b, _, x, _, _ => by
    cases x
    exact .bl b
  | .int i, _, x, _, _ => by
    cases x
    exact .int i
  | .str s, _, x, _, _ => by
    cases x
    exact .str s
  | .bytes b, _, x, _, _ => by
    cases x
    have z := Dw.byt (K := K) (H := argH K h A) b.toArray
    exact z
  | .list ds, _, x, p, hu => by
    obtain ⟨a, vs, rfl, ho, hall⟩ := well_list x
    obtain ⟨h2, hs⟩ := argL KX ar hu ho
    exact .lst hs (dw_all KX ar ds _ hall p h2)
  | .tuple ds, _, x, p, hu => by
    obtain ⟨a, vs, rfl, ho, hall⟩ := well_tuple x
    obtain ⟨h2, hs⟩ := argT KX ar hu ho
    exact .tup hs (dw_all KX ar ds _ hall p h2)
  | .float _, _, _, p, _ => Bool.noConfusion (show false = true from p)
  | .dict _, _, _, p, _ => Bool.noConfusion (show false = true from p)
  | .bytearray _, _, _, p, _ => Bool.noConfusion (show false = true from p)
  | .set _, _, _, p, _ => Bool.noConfusion (show false = true from p)
  | .frozenset _, _, _, p, _ => Bool.noConfusion (show false = true from p)
  | .obj _ _, _, _, p, _ => Bool.noConfusion (show false = true from p)
theorem dw_all {Pm : Params} (KX : K.In h) (ar : ∀ a ∈ A, ArgOb h A a) : ∀ (ds : List WData) (vs : List Value), WellAll Pm h vs ds → plWs ds = true → (∀ u ∈ vs, OkU A u) → DwAll K (argH K h A) (vs.map toV) ds
  | [], _, x, _, _ => by
    cases x
    exact .nil
  | d :: ds, _, x, p, hu => by
    obtain ⟨v, vs, rfl, x1, x2⟩ := well_cons x
    have q : plW d = true ∧ plWs ds = true := Bool.and_eq_true_iff.mp p
    exact .cons (dw_one KX ar d v x1 q.1 (hu _ (List.mem_cons_self ..))) (dw_all KX ar ds vs x2 q.2 fun u m => hu u (List.mem_cons_of_mem _ m))
end
end
/-! ### the call -/
theorem spec_call {P : Program} {w : World} {K : PySem.W.Frag} {mg mb : Str → Option Value} {CX : CXT} {k : Nat} {fa : Addr} {fd : FuncData} {ps : List Str} {sp : Sp} {s₁ : Shared} {vals : List Value} {ds : List WData} {R : PySem.W.WRecords} {cl : Str → Option Addr} {d0 : WData}
    (KX : K.In s₁.heap) (hns : s₁.heap.Ns mainGlobals mg) (hb : s₁.heap.Ns builtinsNs mb) (hbb : ∀ x : Str, x ≠ "__name__" → mb x = bootBuiltins x) (hlim : s₁.heap.NoLimit) (hg : s₁.gens = #[])
    (hwl : WellAll w.params s₁.heap vals ds) (hpl : plWs ds = true) (hwt : ∀ d ∈ ds, d.weight ≤ 1048576) (hr : Room k callerA)
    (F : ∀ base : Heap, K.In base → base.Ns mainGlobals mg → FnOk P w K mg base CX k fa fd ps sp) (hbind : ∀ (s : Shared) (us : List Value), us.length = ps.length → BindsTo s fd ⟨us, []⟩ (ps.zip us)) (hlen : ds.length = ps.length)
    (hsp : ∀ (H : Hp) (xs : List V), OnlyF H → DwAll K H xs ds → sp xs H (fun v H' => Dw K H' v d0) fun _ _ _ => False)
    (hCX : ∀ H e s', CX [] H s₁ (fun _ _ _ => False) e s' → False) :
    codeAny (model P w) callerA (.call (.ref fa) ⟨vals, []⟩) (fun r s' => ∃ u as, r = .ok (.ret u) ∧ ReadsW R cl s'.heap u d0 as ∧ OldK s₁.heap s'.heap ∧ s'.os = s₁.os ∧ AllBare s'.gens) s₁ := by
  obtain ⟨A, ho, ar⟩ := area_all ds vals hwl hpl hwt
  have hO : OnlyF (argH K s₁.heap A) := argH_only ar
  have hok : HOk P w (argH K s₁.heap A) s₁.heap := argH_ok ar
  have hS := dw_all KX ar ds vals hwl hpl ho
  have hV := vals_toV ho
  have hK : ∀ b u, argH K s₁.heap A b = some u → K.lookup b = none := fun b u q => (argH_is ar q).1
  have noA : ∀ {b : Addr} {o : Obj} {es : Array DictEntry} {ep : Nat}, s₁.heap.get? b = some o → o.data = .dict es ep → argH K s₁.heap A b = none := fun {b o es ep} e d => by
    cases q : argH K s₁.heap A b with
    | none => rfl
    | some u =>
      obtain ⟨_, vs, _, _, ⟨e2, _⟩ | ⟨e2, _⟩⟩ := argH_is ar q
      · rw [e2] at e
        cases e
        have d' : Data.seq vs.toArray _ = Data.dict es ep := d
        cases d'
      · rw [e2] at e
        cases e
        have d' : Data.seq vs.toArray _ = Data.dict es ep := d
        cases d'
  generalize argH K s₁.heap A = H at hO hok hS hK noA
  have base_of : ∀ {b : Addr} {o : Obj}, s₁.heap.get? b = some o → H b = none → (hidT s₁.heap H).get? b = some o := fun e n => hidT_get e n
  have nsK : ∀ {b : Addr} {m : Str → Option Value}, s₁.heap.Ns b m → (hidT s₁.heap H).Ns b m := fun {b m} ⟨o, es, ep, e, d, r⟩ => ⟨o, es, ep, base_of e (noA e d), d, r⟩
  have nK : ∀ b o, K.lookup b = some o → H b = none := fun b o e => by
    cases q : H b with
    | none => rfl
    | some u =>
      rw [hK b u q] at e
      cases e
  have hKb : K.In (hidT s₁.heap H) := fun b o e => base_of (KX b o e) (nK b o e)
  have hM : Mod K mg (hidT s₁.heap H) := ⟨hKb, nsK hns, ⟨mb, nsK hb, hbb⟩, let ⟨mc, h1, h2⟩ := hlim; ⟨mc, nsK h1, h2⟩⟩
  have e0 : Env0 P w K mg (hidT s₁.heap H) callerA [] s₁ H := ⟨rfl, hM, fun b o e => of_hidT e, Nat.le_of_eq (hidT_size _ _), trivial, fun b hb => absurd (show b ∈ ([] : List Addr) from hb) (by simp), hok, .of_eq hg⟩
  have hl : vals.length = ps.length := by rw [wellAll_len hwl]; exact hlen
  refine codeAny_mono ((F _ hKb (nsK hns)).run callerA [] s₁ H ⟨vals, []⟩ vals (vals.map toV) _ _ hr e0 (hbind s₁ vals hl) hV (hsp H _ hO hS)) fun r s' x => ?_
  cases r with
  | error e => exact (hCX H e s' x).elim
  | ok fl =>
    cases fl with
    | next => exact False.elim x
    | brk => exact False.elim x
    | cont => exact False.elim x
    | ret u =>
      obtain ⟨v, H', os, bare, un, hok', r', q⟩ := x
      have kept : ∀ b o, s₁.heap.get? b = some o → s'.heap.get? b = some o := fun b o e => by
        cases q2 : H b with
        | none => exact un.keep b o e q2 (by intro z; exact absurd (show b ∈ ([] : List Addr) from z) (by simp)) (by simp)
        | some u2 =>
          rcases hO b with z | ⟨ob, u3, z⟩
          · rw [q2] at z
            cases z
          · have z2 := un.frzs b ob _ z
            obtain ⟨e1, _⟩ := hok b _ z
            obtain ⟨e2, _⟩ := hok' b _ z2
            rw [e] at e1
            cases e1
            exact e2
      have KX' : K.In s'.heap := fun b o e => kept b o (KX b o e)
      obtain ⟨as, hrd⟩ := Dw.reads (R := R) (cl := cl) hok' KX' d0 v u q r'
      exact ⟨u, as, rfl, hrd, OldK.of_keep kept, os, bare⟩
/-! ### the row -/
theorem layable_weight {ds : List WData} (h : WData.layableAll ds = true) : ∀ d ∈ ds, d.weight ≤ 1048576 := fun d hd =>
  (PySem.W.layableW_iff.mp (List.all_eq_true.mp h d hd)).2.2
theorem encAll_len : ∀ (cs : List Codec) (a : Codec.denoteAll cs), (Codec.encAll cs a).length = cs.length
  | [], _ => rfl
  | c :: cs, a => by
    show (Codec.encAll cs a.2).length + 1 = cs.length + 1
    rw [encAll_len cs a.2]
/-- the goal that k_headS leaves (case hc), from the promise of the row's def: whatever the arguments that the codecs let and the row asks for, the def gives what stands for enc (f ..) -/
theorem walk_spec {r : OpenSpec} {k : Nat} {q : Program} {loose : List Str} {XP : (Str → Option Value) → Heap → Prop} {YP : World → Heap → Prop} {d : DefRec} {K : Params → PySem.W.Frag} {CX : World → CXT} {ps : List Str} {sp : World → Sp}
    (hwell : r.wellSaid = true) (hdf : d.params.defaults = []) (hlen : r.args.length = ps.length) (hr : Room k callerA)
    (hY : ∀ (w : World) (h : Heap), YP w h → (K w.params).In h)
    (F : ∀ (w : World) (mg : Str → Option Value) (fa : Addr) (h : Heap), YP w h → (K w.params).In h → h.Ns mainGlobals mg → mg d.name = some (.ref fa) →
      ∃ fd : FuncData, (∀ (s : Shared) (us : List Value), us.length = ps.length → BindsTo s fd ⟨us, []⟩ (ps.zip us)) ∧
        ∀ base : Heap, (K w.params).In base → base.Ns mainGlobals mg → FnOk r.prog w (K w.params) mg base (CX w) k fa fd ps (sp w))
    (hsp : ∀ (w : World) (H : Hp) (xs : List V) (a : Codec.denoteAll r.args), OnlyF H → Codec.withinAll r.args a = true → Codec.app r.args r.asked a = true → DwAll (K w.params) H xs (Codec.encAll r.args a) →
      sp w xs H (fun v H' => Dw (K w.params) H' v (r.ret.enc (Codec.app r.args r.f a))) fun _ _ _ => False)
    (hCX : ∀ (w : World) (H : Hp) (s : Shared) (e : Value) (s' : Shared), CX w [] H s (fun _ _ _ => False) e s' → False) :
    PySem.W.WalkOS q loose XP YP r d [] (fun f vs => PySem.call f vs) := by
  intro w s_0 s₁ mg mb G Y fa o pm cd doc dV kV ho hd hcd hD hmg hg args vals as hpre hlay hrd hwl hlo
  obtain ⟨a, e1, e2⟩ := PySem.W.os_pre_some hpre
  obtain ⟨e3, hwi⟩ := Codec.encAll_of_decAll r.args args a e1
  subst e3
  have KX := hY w _ Y
  obtain ⟨fd, hb, hF⟩ := F w mg fa _ Y KX G.T.g hmg
  refine PySem.W.enter_call (codeAny_mono (spec_call (R := []) (cl := classAt s_0.heap) (d0 := r.ret.enc (Codec.app r.args r.f a)) KX G.T.g G.T.b G.T.builtins G.T.nolimit hg hwl (pl_encAll _ _) (layable_weight hlay) hr hF hb (by rw [encAll_len]; exact hlen)
    (fun H xs hO hS => hsp w H xs a hO hwi e2 hS) fun H e s' => hCX w H s₁ e s') fun r' s' hq => ?_)
  obtain ⟨u, as', rfl, h1, h2, h3, h4⟩ := hq
  exact ⟨.inl ⟨u, _, as', rfl, fun _ => rfl, h1, (OpenSpec.post_iff hwell hwi _ _).mpr rfl, fun z => Bool.noConfusion (show false = true from z)⟩, h2, h3, h4⟩
/-- the same where the promise hangs on the written part alone -/
theorem walk_specK {r : OpenSpec} {k : Nat} {q : Program} {loose : List Str} {XP : (Str → Option Value) → Heap → Prop} {YP : World → Heap → Prop} {d : DefRec} {K : Params → PySem.W.Frag} {CX : CXT} {ps : List Str} {sp : PySem.W.Frag → Sp}
    (hwell : r.wellSaid = true) (hdf : d.params.defaults = []) (hlen : r.args.length = ps.length) (hr : Room k callerA)
    (hY : ∀ (w : World) (h : Heap), YP w h → (K w.params).In h)
    (F : ∀ (w : World) (mg : Str → Option Value) (fa : Addr) (h : Heap), YP w h → (K w.params).In h → h.Ns mainGlobals mg → mg d.name = some (.ref fa) →
      ∃ fd : FuncData, (∀ (s : Shared) (us : List Value), us.length = ps.length → BindsTo s fd ⟨us, []⟩ (ps.zip us)) ∧
        ∀ base : Heap, (K w.params).In base → base.Ns mainGlobals mg → FnOk r.prog w (K w.params) mg base CX k fa fd ps (sp (K w.params)))
    (hsp : ∀ (K : PySem.W.Frag) (H : Hp) (xs : List V) (a : Codec.denoteAll r.args), OnlyF H → Codec.withinAll r.args a = true → Codec.app r.args r.asked a = true → DwAll K H xs (Codec.encAll r.args a) →
      sp K xs H (fun v H' => Dw K H' v (r.ret.enc (Codec.app r.args r.f a))) fun _ _ _ => False)
    (hCX : ∀ (H : Hp) (s : Shared) (e : Value) (s' : Shared), CX [] H s (fun _ _ _ => False) e s' → False) :
    PySem.W.WalkOS q loose XP YP r d [] (fun f vs => PySem.call f vs) :=
  walk_spec (K := K) (CX := fun _ => CX) (sp := fun w => sp (K w.params)) hwell hdf hlen hr hY F (fun w H xs a h1 h2 h3 h4 => hsp (K w.params) H xs a h1 h2 h3 h4) fun _ H s e s' => hCX H s e s'
end L2
-- rests on (row put in by the clerk, for the bench that shows a file only what it spells): KE.SpHead KE.OsShapes
end
end
section
set_option Elab.async false
namespace Enc
/-- a double without its sign, in units of the least denormal (infinity's place and beyond go on as if there were such doubles) -/
def val (b : Nat) : Nat := if b < 2 ^ 52 then b else (2 ^ 52 + b % 2 ^ 52) * 2 ^ (b / 2 ^ 52 - 1)
theorem val_small {b : Nat} (h : b ≤ 2 ^ 53) : val b = b := by
  unfold val
  split
  · rfl
  · rename_i h1
    by_cases h2 : b = 2 ^ 53
    · subst h2; decide
    · have e1 : b / 2 ^ 52 = 1 := by omega
      rw [e1]; simp only [Nat.sub_self, Nat.pow_zero, Nat.mul_one]; omega
theorem val_norm {x m : Nat} (h1 : 2 ^ 52 ≤ m) (h2 : m ≤ 2 ^ 53) : val (x * 2 ^ 52 + m) = m * 2 ^ x := by
  unfold val
  rw [if_neg (by omega)]
  by_cases h : m = 2 ^ 53
  · subst h
    have e1 : (x * 2 ^ 52 + 2 ^ 53) / 2 ^ 52 = x + 2 := by omega
    have e2 : (x * 2 ^ 52 + 2 ^ 53) % 2 ^ 52 = 0 := by omega
    rw [e1, e2, show x + 2 - 1 = x + 1 by omega, Nat.pow_succ]; omega
  · have e1 : (x * 2 ^ 52 + m) / 2 ^ 52 = x + 1 := by omega
    have e2 : (x * 2 ^ 52 + m) % 2 ^ 52 = m - 2 ^ 52 := by omega
    rw [e1, e2, show x + 1 - 1 = x by omega, show 2 ^ 52 + (m - 2 ^ 52) = m by omega]
theorem val_parts {x m : Nat} (h2 : m ≤ 2 ^ 53) (h : x = 0 ∨ 2 ^ 52 ≤ m) : val (x * 2 ^ 52 + m) = m * 2 ^ x := by
  rcases h with h | h
  · subst h; rw [Nat.zero_mul, Nat.zero_add, Nat.pow_zero, Nat.mul_one]; exact val_small h2
  · exact val_norm h h2
theorem parts (b : Nat) : ∃ x m, b = x * 2 ^ 52 + m ∧ m < 2 ^ 53 ∧ (x = 0 ∨ 2 ^ 52 ≤ m) := by
  by_cases h : b < 2 ^ 52
  · exact ⟨0, b, by omega, by omega, .inl rfl⟩
  · exact ⟨b / 2 ^ 52 - 1, 2 ^ 52 + b % 2 ^ 52, by omega, by omega, .inr (by omega)⟩
theorem pow_pos' (x : Nat) : 0 < 2 ^ x := Nat.pow_pos (by decide)
theorem val_succ (b : Nat) : val b < val (b + 1) := by
  obtain ⟨x, m, e, h1, h2⟩ := parts b
  subst e
  rw [Nat.add_assoc, val_parts (by omega) h2, val_parts (by omega) (by omega)]
  exact Nat.mul_lt_mul_of_pos_right (by omega) (pow_pos' x)
theorem val_lt {a b : Nat} (h : a < b) : val a < val b := by
  induction b with
  | zero => omega
  | succ b ih =>
    by_cases e : a = b
    · subst e; exact val_succ a
    · exact Nat.lt_trans (ih (by omega)) (val_succ b)
theorem val_le {a b : Nat} (h : a ≤ b) : val a ≤ val b := by
  by_cases e : a = b
  · subst e; exact Nat.le_refl _
  · exact Nat.le_of_lt (val_lt (by omega))
theorem le_of_val {a b : Nat} (h : val a ≤ val b) : a ≤ b := by
  by_cases e : a ≤ b
  · exact e
  · have := val_lt (show b < a by omega); omega
/-- how many binary digits -/
def bl (n : Nat) : Nat := if n = 0 then 0 else n.log2 + 1
theorem bl_bounds {n : Nat} (h : n ≠ 0) : 2 ^ (bl n - 1) ≤ n ∧ n < 2 ^ bl n := by
  unfold bl
  rw [if_neg h]
  exact ⟨Nat.log2_self_le h, Nat.lt_log2_self⟩
theorem lt_bl (n : Nat) : n < 2 ^ bl n := by
  by_cases h : n = 0
  · subst h; decide
  · exact (bl_bounds h).2
def exc (S : Nat) : Nat := bl S - 53
/-- the greatest double not above, the least not below -/
def gdn (S : Nat) : Nat := exc S * 2 ^ 52 + S / 2 ^ exc S
def cdiv (a b : Nat) : Nat := (a + b - 1) / b
def gup (S : Nat) : Nat := exc S * 2 ^ 52 + cdiv S (2 ^ exc S)
theorem cdiv_le {a b k : Nat} (hb : 0 < b) : cdiv a b ≤ k ↔ a ≤ k * b := by
  unfold cdiv
  rw [← Nat.lt_add_one_iff, Nat.div_lt_iff_lt_mul hb, Nat.add_mul, Nat.one_mul]
  omega
theorem le_div {a b k : Nat} (hb : 0 < b) : k ≤ a / b ↔ k * b ≤ a := Nat.le_div_iff_mul_le hb
theorem exc_pos {S : Nat} (h : exc S ≠ 0) : 2 ^ (exc S + 52) ≤ S ∧ S < 2 ^ (exc S + 53) := by
  have h0 : S ≠ 0 := by
    intro e; subst e; exact h (by decide)
  have b := bl_bounds h0
  unfold exc at *
  have e1 : bl S - 53 + 52 = bl S - 1 := by omega
  have e2 : bl S - 53 + 53 = bl S := by omega
  rw [e1, e2]; exact b
theorem exc_zero {S : Nat} (h : exc S = 0) : S < 2 ^ 53 := by
  unfold exc at h
  exact Nat.lt_of_lt_of_le (lt_bl S) (Nat.pow_le_pow_right (by decide) (by omega))
/-- what a place and digits make is the greatest not above N over D -/
theorem dn_of {x m N D : Nat} (hD : 0 < D) (hm : m = N / (D * 2 ^ x)) (h1 : m < 2 ^ 53) (h2 : x = 0 ∨ 2 ^ 52 ≤ m) (c : Nat) :
    val c * D ≤ N ↔ c ≤ x * 2 ^ 52 + m := by
  have hP : 0 < D * 2 ^ x := Nat.mul_pos hD (pow_pos' x)
  have l1 : m * (D * 2 ^ x) ≤ N := (le_div hP).mp (by omega)
  have l2 : N < (m + 1) * (D * 2 ^ x) := by
    have := (le_div (k := m + 1) (a := N) hP)
    omega
  have e1 : val (x * 2 ^ 52 + m) * D = m * (D * 2 ^ x) := by
    rw [val_parts (by omega) h2, Nat.mul_assoc, Nat.mul_comm (2 ^ x) D]
  have e2 : val (x * 2 ^ 52 + m + 1) * D = (m + 1) * (D * 2 ^ x) := by
    rw [Nat.add_assoc, val_parts (by omega) (by omega), Nat.mul_assoc, Nat.mul_comm (2 ^ x) D]
  constructor
  · intro h
    by_cases g : c ≤ x * 2 ^ 52 + m
    · exact g
    · have := Nat.mul_le_mul_right D (val_le (show x * 2 ^ 52 + m + 1 ≤ c by omega))
      omega
  · intro h
    have := Nat.mul_le_mul_right D (val_le h)
    omega
/-- the least not below -/
theorem up_of {x m N D : Nat} (hD : 0 < D) (hm : m = cdiv N (D * 2 ^ x)) (h1 : m ≤ 2 ^ 53)
    (h2 : x = 0 ∨ 2 ^ 52 < m ∨ (m = 2 ^ 52 ∧ (2 ^ 53 - 1) * (D * 2 ^ (x - 1)) < N)) (c : Nat) :
    N ≤ val c * D ↔ x * 2 ^ 52 + m ≤ c := by
  have hP : 0 < D * 2 ^ x := Nat.mul_pos hD (pow_pos' x)
  have l1 : N ≤ m * (D * 2 ^ x) := (cdiv_le hP).mp (by omega)
  have e1 : val (x * 2 ^ 52 + m) * D = m * (D * 2 ^ x) := by
    rw [val_parts (by omega) (by omega), Nat.mul_assoc, Nat.mul_comm (2 ^ x) D]
  constructor
  · intro h
    by_cases g : x * 2 ^ 52 + m ≤ c
    · exact g
    · exfalso
      have l3 := Nat.mul_le_mul_right D (val_le (show c ≤ x * 2 ^ 52 + m - 1 by omega))
      by_cases q : x ≠ 0 ∧ m = 2 ^ 52
      · obtain ⟨q1, q2⟩ := q
        rcases h2 with h2 | h2 | ⟨_, h2⟩
        · exact q1 h2
        · omega
        · have e3 : x * 2 ^ 52 + m - 1 = (x - 1) * 2 ^ 52 + (2 ^ 53 - 1) := by
            have : x = x - 1 + 1 := by omega
            rw [this, Nat.add_mul]; omega
          rw [e3, val_parts (by omega) (by omega), Nat.mul_assoc, Nat.mul_comm (2 ^ (x - 1)) D] at l3
          omega
      · have hm0 : m ≠ 0 := by omega
        have l2 : ¬ N ≤ (m - 1) * (D * 2 ^ x) := by
          rw [← cdiv_le hP]; omega
        have e2 : val (x * 2 ^ 52 + m - 1) * D = (m - 1) * (D * 2 ^ x) := by
          rw [show x * 2 ^ 52 + m - 1 = x * 2 ^ 52 + (m - 1) by omega, val_parts (by omega) (by omega), Nat.mul_assoc, Nat.mul_comm (2 ^ x) D]
        omega
  · intro h
    have := Nat.mul_le_mul_right D (val_le h)
    omega
theorem gdn_iff (S c : Nat) : val c ≤ S ↔ c ≤ gdn S := by
  have h := dn_of (x := exc S) (m := S / 2 ^ exc S) (N := S) (D := 1) (by decide) (by rw [Nat.one_mul])
    (by
      by_cases z : exc S = 0
      · have := exc_zero z; rw [z]; simpa using this
      · have := (exc_pos z).2
        rw [Nat.pow_add, Nat.mul_comm] at this
        exact Nat.div_lt_of_lt_mul (by rw [Nat.mul_comm]; exact this))
    (by
      by_cases z : exc S = 0
      · exact .inl z
      · right
        have := (exc_pos z).1
        rw [Nat.pow_add, Nat.mul_comm] at this
        exact (le_div (pow_pos' _)).mpr this) c
  rw [Nat.mul_one] at h
  exact h
theorem gup_iff (S c : Nat) : S ≤ val c ↔ gup S ≤ c := by
  have h := up_of (x := exc S) (m := cdiv S (2 ^ exc S)) (N := S) (D := 1) (by decide) (by rw [Nat.one_mul])
    (by
      rw [cdiv_le (pow_pos' _)]
      by_cases z : exc S = 0
      · have := exc_zero z; rw [z]; simp only [Nat.pow_zero, Nat.mul_one]; omega
      · have := (exc_pos z).2
        rw [Nat.pow_add, Nat.mul_comm] at this
        omega)
    (by
      by_cases z : exc S = 0
      · exact .inl z
      · right
        have q := (exc_pos z).1
        rw [Nat.pow_add, Nat.mul_comm] at q
        by_cases w : 2 ^ 52 < cdiv S (2 ^ exc S)
        · exact .inl w
        · right
          have w2 : cdiv S (2 ^ exc S) ≤ 2 ^ 52 := by omega
          have w3 := (cdiv_le (pow_pos' _)).mp w2
          have w4 : S = 2 ^ 52 * 2 ^ exc S := by omega
          constructor
          · have : ¬ cdiv S (2 ^ exc S) ≤ 2 ^ 52 - 1 := by
              rw [cdiv_le (pow_pos' _)]
              have := pow_pos' (exc S)
              generalize 2 ^ exc S = p at *
              omega
            omega
          · have e : 2 ^ exc S = 2 ^ (exc S - 1) * 2 := by rw [← Nat.pow_succ]; congr 1; omega
            rw [Nat.one_mul]
            rw [e] at w4
            have := pow_pos' (exc S - 1)
            generalize 2 ^ (exc S - 1) = p at *
            omega)
    c
  rw [Nat.mul_one] at h
  exact h
end Enc
end
section
set_option Elab.async false
namespace Enc
open Sz05
/-- n over d times two to the e is N over D units -/
structure IsV (n : Nat) (d : Nat) (e : Int) (N D : Nat) : Prop where
  d0 : 0 < d
  D0 : 0 < D
  eq : n * 2 ^ (e + 1074).toNat * D = N * d * 2 ^ (-(e + 1074)).toNat
theorem whole_dn (a b : Nat) : whole false a b = a / b := rfl
theorem whole_up (a b : Nat) : whole true a b = cdiv a b := rfl
theorem div_cross {a b c d : Nat} (hb : 0 < b) (hd : 0 < d) (h : a * d = c * b) : a / b = c / d := by
  rw [← Nat.mul_div_mul_right a b hd, h, Nat.mul_comm b d, Nat.mul_div_mul_right c d hb]
theorem cdiv_cross {a b c d : Nat} (hb : 0 < b) (hd : 0 < d) (h : a * d = c * b) : cdiv a b = cdiv c d := by
  have key : ∀ k, cdiv a b ≤ k ↔ cdiv c d ≤ k := by
    intro k
    rw [cdiv_le hb, cdiv_le hd]
    have e1 : a ≤ k * b ↔ a * d ≤ k * b * d := ⟨fun h => Nat.mul_le_mul_right d h, fun h => Nat.le_of_mul_le_mul_right h hd⟩
    have e2 : c ≤ k * d ↔ c * b ≤ k * d * b := ⟨fun h => Nat.mul_le_mul_right b h, fun h => Nat.le_of_mul_le_mul_right h hb⟩
    rw [e1, e2, h, Nat.mul_assoc k b d, Nat.mul_assoc k d b, Nat.mul_comm b d]
  have h1 := (key (cdiv c d)).mpr (Nat.le_refl _)
  have h2 := (key (cdiv a b)).mp (Nat.le_refl _)
  omega
theorem whole_cross {up : Bool} {a b c d : Nat} (hb : 0 < b) (hd : 0 < d) (h : a * d = c * b) : whole up a b = whole up c d := by
  cases up
  · exact div_cross hb hd h
  · exact cdiv_cross hb hd h
/-- the two numbers that the specification divides for a unit u -/
def num (n : Nat) (e u : Int) : Nat := if u ≤ e then n * 2 ^ (e - u).toNat else n
def den (d : Nat) (e u : Int) : Nat := if u ≤ e then d else d * 2 ^ (u - e).toNat
theorem cross {n d N D : Nat} {e u : Int} (h : IsV n d e N D) (hu : -1074 ≤ u) :
    num n e u * (D * 2 ^ (u + 1074).toNat) = N * den d e u := by
  obtain ⟨_, _, q⟩ := h
  unfold num den
  by_cases c : u ≤ e
  · rw [if_pos c, if_pos c]
    have e1 : (e + 1074).toNat = (e - u).toNat + (u + 1074).toNat := by omega
    have e2 : (-(e + 1074)).toNat = 0 := by omega
    rw [e1, e2, Nat.pow_add, Nat.pow_zero, Nat.mul_one] at q
    rw [← q]; ac_rfl
  · rw [if_neg c, if_neg c]
    by_cases c2 : 0 ≤ e + 1074
    · have e1 : (u + 1074).toNat = (e + 1074).toNat + (u - e).toNat := by omega
      have e2 : (-(e + 1074)).toNat = 0 := by omega
      rw [e2, Nat.pow_zero, Nat.mul_one] at q
      rw [e1, Nat.pow_add, ← Nat.mul_assoc, ← Nat.mul_assoc, ← Nat.mul_assoc, Nat.mul_right_comm n D, q]
    · have e1 : (u - e).toNat = (u + 1074).toNat + (-(e + 1074)).toNat := by omega
      have e2 : (e + 1074).toNat = 0 := by omega
      rw [e2, Nat.pow_zero, Nat.mul_one] at q
      rw [e1, Nat.pow_add, ← Nat.mul_assoc, q]; ac_rfl
theorem den_pos {d : Nat} {e u : Int} (h : 0 < d) : 0 < den d e u := by
  unfold den
  split
  · exact h
  · exact Nat.mul_pos h (pow_pos' _)
theorem unit_eq {up : Bool} {n d N D : Nat} {e u : Int} (h : IsV n d e N D) (hu : -1074 ≤ u) :
    (if u ≤ e then whole up (n * 2 ^ (e - u).toNat) d else whole up n (d * 2 ^ (u - e).toNat)) = whole up N (D * 2 ^ (u + 1074).toNat) := by
  have k := whole_cross (up := up) (den_pos h.d0) (Nat.mul_pos h.D0 (pow_pos' (u + 1074).toNat)) (cross h hu)
  rw [← k]
  unfold num den
  split <;> rfl
theorem low_bound {n d N D : Nat} {e u : Int} (hn : n ≠ 0) (h : IsV n d e N D) (hu : -1074 ≤ u)
    (g : u = (Nat.log2 n : Int) - (Nat.log2 d : Int) + e - 53) : 2 ^ 52 * (D * 2 ^ (u + 1074).toNat) < N := by
  have c := cross h hu
  have hd : d ≠ 0 := by have := h.d0; omega
  have b1 := Nat.log2_self_le hn
  have b2 : d < 2 ^ (d.log2 + 1) := Nat.lt_log2_self
  have key : 2 ^ 52 * den d e u < num n e u := by
    unfold num den
    by_cases q : u ≤ e
    · rw [if_pos q, if_pos q]
      calc 2 ^ 52 * d < 2 ^ 52 * 2 ^ (d.log2 + 1) := Nat.mul_lt_mul_of_pos_left b2 (by decide)
        _ = 2 ^ n.log2 * 2 ^ (e - u).toNat := by rw [← Nat.pow_add, ← Nat.pow_add]; congr 1; omega
        _ ≤ n * 2 ^ (e - u).toNat := Nat.mul_le_mul_right _ b1
    · rw [if_neg q, if_neg q]
      calc 2 ^ 52 * (d * 2 ^ (u - e).toNat) < 2 ^ 52 * (2 ^ (d.log2 + 1) * 2 ^ (u - e).toNat) :=
            Nat.mul_lt_mul_of_pos_left (Nat.mul_lt_mul_of_pos_right b2 (pow_pos' _)) (by decide)
        _ = 2 ^ n.log2 := by rw [← Nat.pow_add, ← Nat.pow_add]; congr 1; omega
        _ ≤ n := b1
  have hp := Nat.mul_pos h.D0 (pow_pos' (u + 1074).toNat)
  have hq := den_pos (e := e) (u := u) h.d0
  generalize D * 2 ^ (u + 1074).toNat = P at *
  generalize num n e u = A at *
  generalize den d e u = B at *
  have k1 : 2 ^ 52 * B * P < A * P := Nat.mul_lt_mul_of_pos_right key hp
  rw [c] at k1
  have k2 : 2 ^ 52 * P * B < N * B := by rw [Nat.mul_right_comm]; exact k1
  exact Nat.lt_of_mul_lt_mul_right k2
theorem high_bound {n d N D : Nat} {e u : Int} (hn : n ≠ 0) (h : IsV n d e N D) (hu : -1074 ≤ u)
    (g : (Nat.log2 n : Int) - (Nat.log2 d : Int) + e - 53 ≤ u) : N < 2 ^ 54 * (D * 2 ^ (u + 1074).toNat) := by
  have c := cross h hu
  have hd : d ≠ 0 := by have := h.d0; omega
  have b1 : n < 2 ^ (n.log2 + 1) := Nat.lt_log2_self
  have b2 := Nat.log2_self_le hd
  have key : num n e u < 2 ^ 54 * den d e u := by
    unfold num den
    by_cases q : u ≤ e
    · rw [if_pos q, if_pos q]
      calc n * 2 ^ (e - u).toNat < 2 ^ (n.log2 + 1) * 2 ^ (e - u).toNat := Nat.mul_lt_mul_of_pos_right b1 (pow_pos' _)
        _ ≤ 2 ^ 54 * 2 ^ d.log2 := by rw [← Nat.pow_add, ← Nat.pow_add]; exact Nat.pow_le_pow_right (by decide) (by omega)
        _ ≤ 2 ^ 54 * d := Nat.mul_le_mul_left _ b2
    · rw [if_neg q, if_neg q]
      calc n < 2 ^ (n.log2 + 1) := b1
        _ ≤ 2 ^ 54 * (2 ^ d.log2 * 2 ^ (u - e).toNat) := by rw [← Nat.pow_add, ← Nat.pow_add]; exact Nat.pow_le_pow_right (by decide) (by omega)
        _ ≤ 2 ^ 54 * (d * 2 ^ (u - e).toNat) := Nat.mul_le_mul_left _ (Nat.mul_le_mul_right _ b2)
  have hp := Nat.mul_pos h.D0 (pow_pos' (u + 1074).toNat)
  have hq := den_pos (e := e) (u := u) h.d0
  generalize D * 2 ^ (u + 1074).toNat = P at *
  generalize num n e u = A at *
  generalize den d e u = B at *
  have k1 : A * P < 2 ^ 54 * B * P := Nat.mul_lt_mul_of_pos_right key hp
  rw [c] at k1
  have k2 : N * B < 2 ^ 54 * P * B := by rw [Nat.mul_right_comm]; exact k1
  exact Nat.lt_of_mul_lt_mul_right k2
/-- the specification's rounding, said by a unit that it takes -/
def fin_ (up : Bool) (u : Int) (m : Nat) : Nat :=
  if 971 < u then (if up = true then HIGH else HIGH - 1) else if m < 2 ^ 52 then m else (u + 1075).toNat * 2 ^ 52 + (m - 2 ^ 52)
def pick (un : Int → Nat) (guess : Int) : Int :=
  let first : Int := if guess < -1074 then -1074 else guess
  if un first < 2 ^ 53 then first else if un (first + 1) < 2 ^ 53 then first + 1 else first + 2
theorem magnitude_def (up : Bool) (n d : Nat) (e : Int) : magnitude up n d e =
    fin_ up (pick (fun (u : Int) => if u ≤ e then whole up (n * 2 ^ (e - u).toNat) d else whole up n (d * 2 ^ (u - e).toNat)) ((Nat.log2 n : Int) - (Nat.log2 d : Int) + e - 53))
      ((fun (u : Int) => if u ≤ e then whole up (n * 2 ^ (e - u).toNat) d else whole up n (d * 2 ^ (u - e).toNat))
        (pick (fun (u : Int) => if u ≤ e then whole up (n * 2 ^ (e - u).toNat) d else whole up n (d * 2 ^ (u - e).toNat)) ((Nat.log2 n : Int) - (Nat.log2 d : Int) + e - 53))) := rfl
theorem pick_ge (un : Int → Nat) (guess : Int) : -1074 ≤ pick un guess := by
  unfold pick
  dsimp only
  by_cases h : guess < -1074
  · simp only [if_pos h]; split; omega; split <;> omega
  · simp only [if_neg h]; split; omega; split <;> omega
theorem pick_congr {f g : Int → Nat} (h : ∀ u, -1074 ≤ u → f u = g u) (guess : Int) : pick f guess = pick g guess := by
  unfold pick
  dsimp only
  by_cases c : guess < -1074
  · simp only [if_pos c]; rw [h (-1074) (by omega), h (-1074 + 1) (by omega)]
  · simp only [if_neg c]; rw [h guess (by omega), h (guess + 1) (by omega)]
theorem magnitude_eq {up : Bool} {n d N D : Nat} {e : Int} (h : IsV n d e N D) :
    magnitude up n d e = fin_ up (pick (fun u => whole up N (D * 2 ^ (u + 1074).toNat)) ((Nat.log2 n : Int) - (Nat.log2 d : Int) + e - 53))
      (whole up N (D * 2 ^ (pick (fun u => whole up N (D * 2 ^ (u + 1074).toNat)) ((Nat.log2 n : Int) - (Nat.log2 d : Int) + e - 53) + 1074).toNat)) := by
  rw [magnitude_def]
  rw [pick_congr (g := fun u => whole up N (D * 2 ^ (u + 1074).toNat)) (fun u hu => unit_eq h hu)]
  dsimp only
  rw [unit_eq h (pick_ge _ _)]
/-- what the specification rounds to -/
theorem mag_of {up : Bool} {u : Int} {m : Nat} (hu : -1074 ≤ u) (h1 : m < 2 ^ 53) (h2 : u = -1074 ∨ 2 ^ 52 ≤ m) :
    fin_ up u m = min ((u + 1074).toNat * 2 ^ 52 + m) (if up = true then 0x7FF0000000000000 else 0x7FEFFFFFFFFFFFFF) := by
  have eh : HIGH = 0x7FF0000000000000 := rfl
  unfold fin_
  rw [eh]
  by_cases c : 971 < u
  · rw [if_pos c]
    cases up <;> simp <;> omega
  · rw [if_neg c]
    cases up <;> simp <;> split <;> omega
theorem pick_dn {n d N D : Nat} {e : Int} (hn : n ≠ 0) (h : IsV n d e N D) {u : Int}
    (hp : u = pick (fun u => whole false N (D * 2 ^ (u + 1074).toNat)) ((Nat.log2 n : Int) - (Nat.log2 d : Int) + e - 53)) :
    N / (D * 2 ^ (u + 1074).toNat) < 2 ^ 53 ∧ (u = -1074 ∨ 2 ^ 52 ≤ N / (D * 2 ^ (u + 1074).toNat)) := by
  have hD := h.D0
  have step : ∀ v : Int, -1074 ≤ v → D * 2 ^ (v + 1 + 1074).toNat = D * 2 ^ (v + 1074).toNat * 2 := by
    intro v hv
    rw [show (v + 1 + 1074).toNat = (v + 1074).toNat + 1 by omega, Nat.pow_succ, Nat.mul_assoc]
  have posP : ∀ v : Int, 0 < D * 2 ^ (v + 1074).toNat := fun v => Nat.mul_pos hD (pow_pos' _)
  generalize hg : ((Nat.log2 n : Int) - (Nat.log2 d : Int) + e - 53) = guess at hp
  have main : ∀ first : Int, -1074 ≤ first → N < 2 ^ 54 * (D * 2 ^ (first + 1074).toNat) → (first = -1074 ∨ 2 ^ 52 * (D * 2 ^ (first + 1074).toNat) < N) →
      u = (if whole false N (D * 2 ^ (first + 1074).toNat) < 2 ^ 53 then first else if whole false N (D * 2 ^ (first + 1 + 1074).toNat) < 2 ^ 53 then first + 1 else first + 2) →
      N / (D * 2 ^ (u + 1074).toNat) < 2 ^ 53 ∧ (u = -1074 ∨ 2 ^ 52 ≤ N / (D * 2 ^ (u + 1074).toNat)) := by
    intro first hf b1 b2 hu
    rw [whole_dn, whole_dn] at hu
    have s1 := step first hf
    have p0 := posP first
    have p1 := posP (first + 1)
    have k0 := Nat.div_lt_iff_lt_mul (x := N) (y := 2 ^ 53) p0
    have k1 := Nat.div_lt_iff_lt_mul (x := N) (y := 2 ^ 53) p1
    rw [s1] at k1
    by_cases c0 : N / (D * 2 ^ (first + 1074).toNat) < 2 ^ 53
    · rw [if_pos c0] at hu
      subst hu
      refine ⟨c0, ?_⟩
      rcases b2 with b2 | b2
      · exact .inl b2
      · exact .inr ((le_div p0).mpr (by omega))
    · rw [if_neg c0, if_pos (by rw [s1]; omega)] at hu
      subst hu
      rw [s1] at p1 ⊢
      refine ⟨by rw [k1]; omega, .inr ((le_div p1).mpr (by omega))⟩
  unfold pick at hp
  dsimp only at hp
  by_cases c : guess < -1074
  · simp only [if_pos c] at hp
    exact main (-1074) (by omega) (high_bound hn h (by omega) (by omega)) (.inl rfl) hp
  · simp only [if_neg c] at hp
    exact main guess (by omega) (high_bound hn h (by omega) (by omega)) (.inr (low_bound hn h (by omega) hg.symm)) hp
theorem pick_up {n d N D : Nat} {e : Int} (hn : n ≠ 0) (h : IsV n d e N D) {u : Int}
    (hp : u = pick (fun u => whole true N (D * 2 ^ (u + 1074).toNat)) ((Nat.log2 n : Int) - (Nat.log2 d : Int) + e - 53)) :
    cdiv N (D * 2 ^ (u + 1074).toNat) < 2 ^ 53 ∧ (u = -1074 ∨ 2 ^ 52 < cdiv N (D * 2 ^ (u + 1074).toNat) ∨
      (cdiv N (D * 2 ^ (u + 1074).toNat) = 2 ^ 52 ∧ (2 ^ 53 - 1) * (D * 2 ^ ((u + 1074).toNat - 1)) < N)) := by
  have hD := h.D0
  have step : ∀ v : Int, -1074 ≤ v → D * 2 ^ (v + 1 + 1074).toNat = D * 2 ^ (v + 1074).toNat * 2 := by
    intro v hv
    rw [show (v + 1 + 1074).toNat = (v + 1074).toNat + 1 by omega, Nat.pow_succ, Nat.mul_assoc]
  have posP : ∀ v : Int, 0 < D * 2 ^ (v + 1074).toNat := fun v => Nat.mul_pos hD (pow_pos' _)
  generalize hg : ((Nat.log2 n : Int) - (Nat.log2 d : Int) + e - 53) = guess at hp
  have main : ∀ first : Int, -1074 ≤ first → N < 2 ^ 54 * (D * 2 ^ (first + 1074).toNat) → (first = -1074 ∨ 2 ^ 52 * (D * 2 ^ (first + 1074).toNat) < N) →
      u = (if whole true N (D * 2 ^ (first + 1074).toNat) < 2 ^ 53 then first else if whole true N (D * 2 ^ (first + 1 + 1074).toNat) < 2 ^ 53 then first + 1 else first + 2) →
      cdiv N (D * 2 ^ (u + 1074).toNat) < 2 ^ 53 ∧ (u = -1074 ∨ 2 ^ 52 < cdiv N (D * 2 ^ (u + 1074).toNat) ∨
      (cdiv N (D * 2 ^ (u + 1074).toNat) = 2 ^ 52 ∧ (2 ^ 53 - 1) * (D * 2 ^ ((u + 1074).toNat - 1)) < N)) := by
    intro first hf b1 b2 hu
    rw [whole_up, whole_up] at hu
    have s1 := step first hf
    have s2 := step (first + 1) (by omega)
    rw [show first + 1 + 1 = first + 2 by omega] at s2
    have p0 := posP first
    have p1 := posP (first + 1)
    have p2 := posP (first + 2)
    have k0 := fun k => cdiv_le (a := N) (k := k) p0
    have k1 := fun k => cdiv_le (a := N) (k := k) p1
    have k2 := fun k => cdiv_le (a := N) (k := k) p2
    have t1 : (first + 1 + 1074).toNat - 1 = (first + 1074).toNat := by omega
    have t2 : (first + 2 + 1074).toNat - 1 = (first + 1 + 1074).toNat := by omega
    by_cases c0 : cdiv N (D * 2 ^ (first + 1074).toNat) < 2 ^ 53
    · rw [if_pos c0] at hu
      subst hu
      refine ⟨c0, ?_⟩
      rcases b2 with b2 | b2
      · exact .inl b2
      · refine .inr (.inl ?_)
        have := k0 (2 ^ 52)
        omega
    · have c0' : (2 ^ 53 - 1) * (D * 2 ^ (first + 1074).toNat) < N := by
        have := k0 (2 ^ 53 - 1)
        omega
      by_cases c1 : cdiv N (D * 2 ^ (first + 1 + 1074).toNat) < 2 ^ 53
      · rw [if_neg c0, if_pos c1] at hu
        subst hu
        refine ⟨c1, .inr ?_⟩
        rw [t1]
        have q1 := k1 (2 ^ 52)
        have q2 := k1 (2 ^ 52 - 1)
        rw [s1] at q1 q2 ⊢
        omega
      · rw [if_neg c0, if_neg c1] at hu
        subst hu
        have q3 := k1 (2 ^ 53 - 1)
        have q1 := k2 (2 ^ 52)
        have q2 := k2 (2 ^ 52 - 1)
        have q4 := k2 (2 ^ 53 - 1)
        rw [t2]
        rw [s2] at q1 q2 q4 ⊢
        rw [s1] at q1 q2 q3 q4 ⊢
        rw [s1] at c1
        omega
  unfold pick at hp
  dsimp only at hp
  by_cases c : guess < -1074
  · simp only [if_pos c] at hp
    exact main (-1074) (by omega) (high_bound hn h (by omega) (by omega)) (.inl rfl) hp
  · simp only [if_neg c] at hp
    exact main guess (by omega) (high_bound hn h (by omega) (by omega)) (.inr (low_bound hn h (by omega) hg.symm)) hp
theorem eq_of_le_iff {a b : Nat} (h : ∀ c, c ≤ a ↔ c ≤ b) : a = b := by
  have h1 := (h a).mp (Nat.le_refl _)
  have h2 := (h b).mpr (Nat.le_refl _)
  omega
theorem eq_of_ge_iff {a b : Nat} (h : ∀ c, a ≤ c ↔ b ≤ c) : a = b := by
  have h1 := (h b).mpr (Nat.le_refl _)
  have h2 := (h a).mp (Nat.le_refl _)
  omega
theorem mag_dn {n d N D : Nat} {e : Int} (hn : n ≠ 0) (h : IsV n d e N D) : magnitude false n d e = min (gdn (N / D)) 0x7FEFFFFFFFFFFFFF := by
  rw [magnitude_eq h]
  generalize hp : pick (fun u => whole false N (D * 2 ^ (u + 1074).toNat)) ((Nat.log2 n : Int) - (Nat.log2 d : Int) + e - 53) = u
  obtain ⟨h1, h2⟩ := pick_dn hn h hp.symm
  have hu : -1074 ≤ u := by rw [← hp]; exact pick_ge _ _
  rw [whole_dn, mag_of hu h1 h2]
  have : (u + 1074).toNat * 2 ^ 52 + N / (D * 2 ^ (u + 1074).toNat) = gdn (N / D) := by
    refine eq_of_le_iff fun c => ?_
    rw [← dn_of h.D0 rfl h1 (by omega) c, ← gdn_iff, le_div h.D0]
  rw [this]; rfl
theorem mag_up {n d N D : Nat} {e : Int} (hn : n ≠ 0) (h : IsV n d e N D) : magnitude true n d e = min (gup (cdiv N D)) 0x7FF0000000000000 := by
  rw [magnitude_eq h]
  generalize hp : pick (fun u => whole true N (D * 2 ^ (u + 1074).toNat)) ((Nat.log2 n : Int) - (Nat.log2 d : Int) + e - 53) = u
  obtain ⟨h1, h2⟩ := pick_up hn h hp.symm
  have hu : -1074 ≤ u := by rw [← hp]; exact pick_ge _ _
  rw [whole_up, mag_of hu h1 (by omega)]
  have : (u + 1074).toNat * 2 ^ 52 + cdiv N (D * 2 ^ (u + 1074).toNat) = gup (cdiv N D) := by
    refine eq_of_ge_iff fun c => ?_
    rw [← up_of h.D0 rfl (by omega) (by omega) c, ← gup_iff, cdiv_le h.D0]
  rw [this]; rfl
end Enc
end
section
set_option Elab.async false
set_option exponentiation.threshold 200
set_option linter.all false
namespace Enc
open Sz05
def INF : Nat := 0x7FF0000000000000
def LARGEST : Nat := 0x7FEFFFFFFFFFFFFF
def dnB (s : Nat) : Nat := min (gdn s) LARGEST
def upB (s : Nat) : Nat := min (gup s) INF
/-- an end in units, rounded down or up to a double's bits -/
def lowerB (u : Int) : Nat := if u < 0 then 2 ^ 63 + upB u.natAbs else dnB u.natAbs
def upperB (u : Int) : Nat := if u < 0 then 2 ^ 63 + dnB u.natAbs else upB u.natAbs
/-- z over d times two to the e is P over D units -/
structure IsZ (z : Int) (d : Nat) (e : Int) (P : Int) (D : Nat) : Prop where
  d0 : 0 < d
  D0 : 0 < D
  eq : z * ((2 ^ (e + 1074).toNat : Nat) : Int) * (D : Int) = P * (d : Int) * ((2 ^ (-(e + 1074)).toNat : Nat) : Int)
theorem IsZ.isV {z : Int} {d : Nat} {e : Int} {P : Int} {D : Nat} (h : IsZ z d e P D) : IsV z.natAbs d e P.natAbs D := by
  refine ⟨h.d0, h.D0, ?_⟩
  have q := congrArg Int.natAbs h.eq
  simpa only [Int.natAbs_mul, Int.natAbs_natCast] using q
theorem IsZ.sign {z : Int} {d : Nat} {e : Int} {P : Int} {D : Nat} (h : IsZ z d e P D) : (z < 0 ↔ P < 0) ∧ (z = 0 ↔ P = 0) := by
  obtain ⟨a, b, q⟩ := h
  have p1 : (0 : Int) < ((2 ^ (e + 1074).toNat : Nat) : Int) * (D : Int) := by
    have := Nat.mul_pos (pow_pos' (e + 1074).toNat) b
    rw [← Int.natCast_mul]; omega
  have p2 : (0 : Int) < (d : Int) * ((2 ^ (-(e + 1074)).toNat : Nat) : Int) := by
    have := Nat.mul_pos a (pow_pos' (-(e + 1074)).toNat)
    rw [← Int.natCast_mul]; omega
  rw [Int.mul_assoc, Int.mul_assoc] at q
  generalize ((2 ^ (e + 1074).toNat : Nat) : Int) * (D : Int) = A at *
  generalize (d : Int) * ((2 ^ (-(e + 1074)).toNat : Nat) : Int) = B at *
  rcases Int.lt_trichotomy z 0 with hz | hz | hz
  · have := Int.mul_neg_of_neg_of_pos hz p1
    rcases Int.lt_trichotomy P 0 with hP | hP | hP
    · omega
    · subst hP; omega
    · have := Int.mul_pos hP p2; omega
  · subst hz
    rcases Int.lt_trichotomy P 0 with hP | hP | hP
    · have := Int.mul_neg_of_neg_of_pos hP p2; omega
    · omega
    · have := Int.mul_pos hP p2; omega
  · have := Int.mul_pos hz p1
    rcases Int.lt_trichotomy P 0 with hP | hP | hP
    · have := Int.mul_neg_of_neg_of_pos hP p2; omega
    · subst hP; omega
    · omega
theorem gdn_zero : gdn 0 = 0 := by decide
theorem gup_zero : gup 0 = 0 := by decide
theorem val_zero : val 0 = 0 := by decide
theorem val_one : val 1 = 1 := by decide
theorem gup_pos {s : Nat} (h : 0 < s) : 0 < gup s := by
  have := gup_iff s 0
  rw [val_zero] at this
  omega
theorem gdn_pos {s : Nat} (h : 0 < s) : 0 < gdn s := by
  have := gdn_iff s 1
  rw [val_one] at this
  omega
theorem floor_pos {P : Int} {D : Nat} (hD : 0 < D) (h : 0 ≤ P) : P / (D : Int) = ((P.natAbs / D : Nat) : Int) := by
  have : P = (P.natAbs : Int) := by omega
  rw [this, Int.natAbs_natCast, Int.natCast_ediv]
theorem floor_neg {P : Int} {D : Nat} (hD : 0 < D) (h : P < 0) : P / (D : Int) = -((cdiv P.natAbs D : Nat) : Int) := by
  have hD' : (0 : Int) < D := by omega
  have key : ∀ k : Nat, cdiv P.natAbs D ≤ k ↔ -(k : Int) ≤ P / (D : Int) := by
    intro k
    rw [cdiv_le hD, Int.le_ediv_iff_mul_le hD']
    have e : (k * D : Nat) = ((k : Int) * (D : Int)) := by simp
    constructor
    · intro q
      have : -(k : Int) * (D : Int) = -((k * D : Nat) : Int) := by rw [e]; exact Int.neg_mul _ _
      rw [this]; omega
    · intro q
      have : -(k : Int) * (D : Int) = -((k * D : Nat) : Int) := by rw [e]; exact Int.neg_mul _ _
      rw [this] at q; omega
  have hneg : P / (D : Int) < 0 := Int.ediv_neg_of_neg_of_pos h hD'
  have h1 := (key (cdiv P.natAbs D)).mp (Nat.le_refl _)
  have h2 := (key (P / (D : Int)).natAbs).mpr (by omega)
  omega
/-- a fraction's end, rounded by the specification, is its whole units rounded -/
theorem lowerB_nat (n : Nat) : lowerB (n : Int) = dnB n := by
  unfold lowerB
  rw [if_neg (by omega), Int.natAbs_natCast]
theorem lowerB_neg {n : Nat} (h : 0 < n) : lowerB (-(n : Int)) = 2 ^ 63 + upB n := by
  unfold lowerB
  rw [if_pos (by omega), Int.natAbs_neg, Int.natAbs_natCast]
theorem upperB_nat (n : Nat) : upperB (n : Int) = upB n := by
  unfold upperB
  rw [if_neg (by omega), Int.natAbs_natCast]
theorem upperB_neg {n : Nat} (h : 0 < n) : upperB (-(n : Int)) = 2 ^ 63 + dnB n := by
  unfold upperB
  rw [if_pos (by omega), Int.natAbs_neg, Int.natAbs_natCast]
theorem upB_pos {n : Nat} (h : 0 < n) : upB n ≠ 0 := by
  have := gup_pos h
  unfold upB INF; omega
theorem dnB_pos {n : Nat} (h : 0 < n) : dnB n ≠ 0 := by
  have := gdn_pos h
  unfold dnB LARGEST; omega
theorem bitsOf_pos {up : Bool} {z : Int} {d : Nat} {e : Int} (h : 0 < z) : bitsOf up (.fin z d e) = magnitude up z.natAbs d e := by
  show (if z = 0 then 0 else if 0 < z then magnitude up z.natAbs d e else _) = _
  rw [if_neg (by omega), if_pos h]
theorem bitsOf_neg {up : Bool} {z : Int} {d : Nat} {e : Int} (h : z < 0) : bitsOf up (.fin z d e) = (if magnitude (!up) z.natAbs d e = 0 then 0 else 2 ^ 63 + magnitude (!up) z.natAbs d e) := by
  show (if z = 0 then 0 else if 0 < z then magnitude up z.natAbs d e else (if magnitude (!up) z.natAbs d e = 0 then 0 else 2 ^ 63 + magnitude (!up) z.natAbs d e)) = _
  rw [if_neg (by omega), if_neg (by omega)]
theorem low_fin {z : Int} {d : Nat} {e : Int} {P : Int} {D : Nat} (h : IsZ z d e P D) : bitsOf false (.fin z d e) = lowerB (P / (D : Int)) := by
  have hs := h.sign
  have hV := h.isV
  rcases Int.lt_trichotomy z 0 with hz | hz | hz
  · rw [bitsOf_neg hz, floor_neg h.D0 (hs.1.mp hz)]
    have hc : 0 < cdiv P.natAbs D := by
      have := cdiv_le (a := P.natAbs) (b := D) (k := 0) h.D0
      have := hs.1
      omega
    have e1 : magnitude (!false) z.natAbs d e = upB (cdiv P.natAbs D) := mag_up (by omega) hV
    rw [e1, lowerB_neg hc, if_neg (upB_pos hc)]
  · have : P = 0 := by have := hs.2; omega
    subst this
    subst hz
    rw [Int.zero_ediv]
    exact (by decide : (0 : Nat) = lowerB 0)
  · have hP : 0 < P := by have := hs; omega
    rw [bitsOf_pos hz, floor_pos h.D0 (by omega), lowerB_nat]
    exact mag_dn (by omega) hV
theorem up_fin {z : Int} {d : Nat} {e : Int} {P : Int} {D : Nat} (h : IsZ z d e P D) : bitsOf true (.fin z d e) = upperB (-((-P) / (D : Int))) := by
  have hs := h.sign
  have hV := h.isV
  rcases Int.lt_trichotomy z 0 with hz | hz | hz
  · have hP := hs.1.mp hz
    rw [bitsOf_neg hz, floor_pos h.D0 (by omega), Int.natAbs_neg]
    have e1 : magnitude (!true) z.natAbs d e = dnB (P.natAbs / D) := mag_dn (by omega) hV
    rw [e1]
    generalize P.natAbs / D = q
    by_cases c : q = 0
    · subst c; decide
    · rw [upperB_neg (by omega), if_neg (dnB_pos (by omega))]
  · have : P = 0 := by have := hs.2; omega
    subst this
    subst hz
    rw [Int.neg_zero, Int.zero_ediv]
    exact (by decide : (0 : Nat) = upperB 0)
  · have hP : 0 < P := by have := hs; omega
    rw [bitsOf_pos hz, floor_neg h.D0 (by omega), Int.neg_neg, Int.natAbs_neg, upperB_nat]
    exact mag_up (by omega) hV
/-- past every double -/
def FARTH : Nat := 2 ^ 2098
theorem val_largest : val LARGEST < FARTH := by
  have : LARGEST = 2045 * 2 ^ 52 + (2 ^ 53 - 1) := by decide
  rw [this, val_norm (by decide) (by decide)]
  unfold FARTH
  have e : 2 ^ 2098 = 2 ^ 53 * 2 ^ 2045 := by rw [← Nat.pow_add]
  rw [e]
  exact Nat.mul_lt_mul_of_pos_right (by decide) (pow_pos' _)
theorem val_inf : val INF = FARTH := by
  have : INF = 2046 * 2 ^ 52 + 2 ^ 52 := by decide
  rw [this, val_norm (by decide) (by decide)]
  unfold FARTH
  rw [← Nat.pow_add]
theorem upB_far {s : Nat} (h : FARTH ≤ s) : upB s = INF := by
  unfold upB
  have h1 : ¬ gup s ≤ LARGEST := by
    rw [← gup_iff]
    have := val_largest
    omega
  have : INF = LARGEST + 1 := rfl
  omega
theorem dnB_far {s : Nat} (h : FARTH ≤ s) : dnB s = LARGEST := by
  unfold dnB
  have h1 : LARGEST ≤ gdn s := by
    rw [← gdn_iff]
    have := val_largest
    omega
  omega
/-- the same, or past every double on the same side -/
def CE (M : Int) (P Q : Int) : Prop := P = Q ∨ (M ≤ P ∧ M ≤ Q) ∨ (P ≤ -M ∧ Q ≤ -M)
theorem lowerB_far_neg {u : Int} (h : u ≤ -(FARTH : Int)) : lowerB u = 2 ^ 63 + INF := by
  have h0 : 0 < FARTH := pow_pos' _
  unfold lowerB
  rw [if_pos (by omega), upB_far (by omega)]
theorem lowerB_far_pos {u : Int} (h : (FARTH : Int) ≤ u) : lowerB u = LARGEST := by
  have h0 : 0 < FARTH := pow_pos' _
  unfold lowerB
  rw [if_neg (by omega), dnB_far (by omega)]
theorem upperB_far_neg {u : Int} (h : u ≤ -(FARTH : Int)) : upperB u = 2 ^ 63 + LARGEST := by
  have h0 : 0 < FARTH := pow_pos' _
  unfold upperB
  rw [if_pos (by omega), dnB_far (by omega)]
theorem upperB_far_pos {u : Int} (h : (FARTH : Int) ≤ u) : upperB u = INF := by
  have h0 : 0 < FARTH := pow_pos' _
  unfold upperB
  rw [if_neg (by omega), upB_far (by omega)]
def far (D : Nat) : Int := (FARTH : Int) * (D : Int)
theorem far_floor_pos {P : Int} {D : Nat} (hD : 0 < D) (h : far D ≤ P) : (FARTH : Int) ≤ P / (D : Int) := (Int.le_ediv_iff_mul_le (by omega)).mpr h
theorem far_floor_neg {P : Int} {D : Nat} (hD : 0 < D) (h : P ≤ -far D) : P / (D : Int) ≤ -(FARTH : Int) := by
  have hD' : (0 : Int) < D := by omega
  have : P / (D : Int) < -(FARTH : Int) + 1 := by
    rw [Int.ediv_lt_iff_lt_mul hD']
    unfold far at h
    rw [Int.add_mul, Int.neg_mul, Int.one_mul]
    omega
  omega
theorem CE.lower {D : Nat} {P Q : Int} (hD : 0 < D) (h : CE (far D) P Q) : lowerB (P / (D : Int)) = lowerB (Q / (D : Int)) := by
  rcases h with h | ⟨h1, h2⟩ | ⟨h1, h2⟩
  · rw [h]
  · rw [lowerB_far_pos (far_floor_pos hD h1), lowerB_far_pos (far_floor_pos hD h2)]
  · rw [lowerB_far_neg (far_floor_neg hD h1), lowerB_far_neg (far_floor_neg hD h2)]
theorem CE.upper {D : Nat} {P Q : Int} (hD : 0 < D) (h : CE (far D) P Q) : upperB (-(-P / (D : Int))) = upperB (-(-Q / (D : Int))) := by
  rcases h with h | ⟨h1, h2⟩ | ⟨h1, h2⟩
  · rw [h]
  · have a := far_floor_neg hD (show -P ≤ -far D by omega)
    have b := far_floor_neg hD (show -Q ≤ -far D by omega)
    rw [upperB_far_pos (by omega), upperB_far_pos (by omega)]
  · have a := far_floor_pos hD (show far D ≤ -P by omega)
    have b := far_floor_pos hD (show far D ≤ -Q by omega)
    rw [upperB_far_neg (by omega), upperB_far_neg (by omega)]
/-- an end is P over D units, as far as doubles reach -/
def K : End → Int → Nat → Prop
  | .low, P, D => 0 < D ∧ P ≤ -far D
  | .high, P, D => 0 < D ∧ far D ≤ P
  | .fin z d e, P, D => ∃ P', IsZ z d e P' D ∧ CE (far D) P' P
theorem K.pos {E : End} {P : Int} {D : Nat} (h : K E P D) : 0 < D := by
  cases E with
  | low => exact h.1
  | high => exact h.1
  | fin z d e => obtain ⟨_, h, _⟩ := h; exact h.D0
theorem K.lower {E : End} {P : Int} {D : Nat} (h : K E P D) (hE : isHigh E = false) : bitsOf false E = lowerB (P / (D : Int)) := by
  cases E with
  | low => rw [lowerB_far_neg (far_floor_neg h.1 h.2)]; decide
  | high => cases hE
  | fin z d e =>
    obtain ⟨Q, h1, h2⟩ := h
    rw [low_fin h1, h2.lower h1.D0]
theorem K.upper {E : End} {P : Int} {D : Nat} (h : K E P D) (hE : isLow E = false) : bitsOf true E = upperB (-(-P / (D : Int))) := by
  cases E with
  | high =>
    have a := far_floor_neg h.1 (show -P ≤ -far D by have := h.2; omega)
    rw [upperB_far_pos (by omega)]; decide
  | low => cases hE
  | fin z d e =>
    obtain ⟨Q, h1, h2⟩ := h
    rw [up_fin h1, h2.upper h1.D0]
theorem over_eq {z : Int} {d : Nat} {e : Int} {P : Int} {D : Nat} (h : IsZ z d e P D) :
    (over z d e).1 * ((D * 2 ^ 1074 : Nat) : Int) = P * ((over z d e).2 : Int) ∧ 0 < (over z d e).2 := by
  obtain ⟨h1, h2, q⟩ := h
  unfold over
  by_cases c : 0 ≤ e
  · rw [if_pos c]
    have e1 : (e + 1074).toNat = e.toNat + 1074 := by omega
    have e2 : (-(e + 1074)).toNat = 0 := by omega
    rw [e1, e2, Nat.pow_add, Nat.pow_zero] at q
    refine ⟨?_, h1⟩
    show z * ((2 ^ e.toNat : Nat) : Int) * ((D * 2 ^ 1074 : Nat) : Int) = P * (d : Int)
    generalize 2 ^ 1074 = T at *
    generalize 2 ^ e.toNat = A at *
    simp only [Int.natCast_mul, Int.natCast_one, Int.mul_one] at q
    rw [← q, Int.natCast_mul]
    ac_rfl
  · rw [if_neg c]
    refine ⟨?_, Nat.mul_pos h1 (pow_pos' _)⟩
    show z * ((D * 2 ^ 1074 : Nat) : Int) = P * ((d * 2 ^ (-e).toNat : Nat) : Int)
    by_cases c2 : 0 ≤ e + 1074
    · have e1 : 1074 = (e + 1074).toNat + (-e).toNat := by omega
      have e2 : (-(e + 1074)).toNat = 0 := by omega
      have e3 : (2 : Nat) ^ 1074 = 2 ^ ((e + 1074).toNat + (-e).toNat) := congrArg _ e1
      rw [e2, Nat.pow_zero] at q
      simp only [Int.natCast_one, Int.mul_one] at q
      rw [e3, Nat.pow_add]
      simp only [Int.natCast_mul]
      generalize ((2 ^ (e + 1074).toNat : Nat) : Int) = A at *
      generalize ((2 ^ (-e).toNat : Nat) : Int) = B at *
      calc z * ((D : Int) * (A * B)) = z * A * D * B := by ac_rfl
        _ = P * d * B := by rw [q]
        _ = _ := by ac_rfl
    · have e1 : (-e).toNat = (-(e + 1074)).toNat + 1074 := by omega
      have e2 : (e + 1074).toNat = 0 := by omega
      rw [e2, Nat.pow_zero] at q
      simp only [Int.natCast_one, Int.mul_one] at q
      rw [e1, Nat.pow_add]
      simp only [Int.natCast_mul]
      generalize ((2 ^ (-(e + 1074)).toNat : Nat) : Int) = A at *
      generalize ((2 ^ 1074 : Nat) : Int) = B at *
      calc z * ((D : Int) * B) = z * D * B := by ac_rfl
        _ = P * d * A * B := by rw [q]
        _ = _ := by ac_rfl
theorem le_fin {z y : Int} {d c : Nat} {e f : Int} {P Q : Int} {D : Nat} (h : IsZ z d e P D) (g : IsZ y c f Q D) :
    le (.fin z d e) (.fin y c f) = decide (P ≤ Q) := by
  obtain ⟨a1, a2⟩ := over_eq h
  obtain ⟨b1, b2⟩ := over_eq g
  have t : 0 < D * 2 ^ 1074 := Nat.mul_pos h.D0 (pow_pos' _)
  unfold le
  dsimp only
  generalize (over z d e).1 = p1 at *
  generalize (over z d e).2 = p2 at *
  generalize (over y c f).1 = q1 at *
  generalize (over y c f).2 = q2 at *
  generalize D * 2 ^ 1074 = T at *
  have hT : (0 : Int) < (T : Int) := by omega
  have hp : (0 : Int) < (p2 : Int) := by omega
  have hq : (0 : Int) < (q2 : Int) := by omega
  have hpq := Int.mul_pos hp hq
  apply decide_eq_decide.mpr
  constructor
  · intro k
    have k1 := Int.mul_le_mul_of_nonneg_right k (Int.le_of_lt hT)
    have k2 : P * ((p2 : Int) * q2) ≤ Q * ((p2 : Int) * q2) := by
      calc P * ((p2 : Int) * q2) = P * p2 * q2 := by ac_rfl
        _ = p1 * q2 * T := by rw [← a1]; ac_rfl
        _ ≤ q1 * p2 * T := k1
        _ = Q * q2 * p2 := by rw [← b1]; ac_rfl
        _ = _ := by ac_rfl
    exact Int.le_of_mul_le_mul_right k2 hpq
  · intro k
    have k1 := Int.mul_le_mul_of_nonneg_right k (Int.le_of_lt hpq)
    have k2 : p1 * q2 * T ≤ q1 * p2 * T := by
      calc p1 * q2 * T = p1 * T * q2 := by ac_rfl
        _ = P * ((p2 : Int) * q2) := by rw [a1]; ac_rfl
        _ ≤ Q * ((p2 : Int) * q2) := k1
        _ = q1 * T * p2 := by rw [b1]; ac_rfl
        _ = _ := by ac_rfl
    exact Int.le_of_mul_le_mul_right k2 hT
theorem K.min {E F : End} {P Q : Int} {D : Nat} (h : K E P D) (g : K F Q D) : K (lesser E F) (min P Q) D := by
  have hD := h.pos
  have hM : (0 : Int) < far D := Int.mul_pos (by have := pow_pos' 2098; show (0 : Int) < ((2 ^ 2098 : Nat) : Int); omega) (by omega)
  unfold lesser
  cases E with
  | low =>
    rw [if_pos (by cases F <;> rfl)]; exact ⟨hD, by have := h.2; show Min.min P Q ≤ _; omega⟩
  | high =>
    have h2 := h.2
    cases F with
    | low => exact ⟨hD, by have := g.2; show Min.min P Q ≤ _; omega⟩
    | high => exact ⟨hD, by have := g.2; show _ ≤ Min.min P Q; omega⟩
    | fin z d e =>
      obtain ⟨Q', g1, g2⟩ := g
      refine ⟨Q', g1, ?_⟩
      unfold CE at *; omega
  | fin z d e =>
    obtain ⟨P', h1, h2⟩ := h
    cases F with
    | low => exact ⟨hD, by have := g.2; show Min.min P Q ≤ _; omega⟩
    | high =>
      rw [if_pos (show le (.fin z d e) .high = true from rfl)]
      refine ⟨P', h1, ?_⟩
      have := g.2
      unfold CE at *; omega
    | fin y c f =>
      obtain ⟨Q', g1, g2⟩ := g
      rw [le_fin h1 g1]
      by_cases c : P' ≤ Q'
      · rw [if_pos (decide_eq_true c)]
        refine ⟨P', h1, ?_⟩
        unfold CE at *; omega
      · rw [if_neg (by rw [decide_eq_false c]; decide)]
        refine ⟨Q', g1, ?_⟩
        unfold CE at *; omega
theorem K.max {E F : End} {P Q : Int} {D : Nat} (h : K E P D) (g : K F Q D) : K (greater E F) (max P Q) D := by
  have hD := h.pos
  have hM : (0 : Int) < far D := Int.mul_pos (by have := pow_pos' 2098; show (0 : Int) < ((2 ^ 2098 : Nat) : Int); omega) (by omega)
  unfold greater
  cases E with
  | low =>
    rw [if_pos (by cases F <;> rfl)]
    have h2 := h.2
    cases F with
    | low => exact ⟨hD, by have := g.2; show Max.max P Q ≤ _; omega⟩
    | high => exact ⟨hD, by have := g.2; show _ ≤ Max.max P Q; omega⟩
    | fin z d e =>
      obtain ⟨Q', g1, g2⟩ := g
      refine ⟨Q', g1, ?_⟩
      unfold CE at *; omega
  | high =>
    have h2 := h.2
    cases F with
    | low => exact ⟨hD, by have := g.2; show _ ≤ Max.max P Q; omega⟩
    | high => exact ⟨hD, by have := g.2; show _ ≤ Max.max P Q; omega⟩
    | fin z d e => exact ⟨hD, by show _ ≤ Max.max P Q; omega⟩
  | fin z d e =>
    obtain ⟨P', h1, h2⟩ := h
    cases F with
    | low =>
      refine ⟨P', h1, ?_⟩
      have := g.2
      unfold CE at *; omega
    | high => rw [if_pos (show le (.fin z d e) .high = true from rfl)]; exact ⟨hD, by have := g.2; show _ ≤ Max.max P Q; omega⟩
    | fin y c f =>
      obtain ⟨Q', g1, g2⟩ := g
      rw [le_fin h1 g1]
      by_cases c : P' ≤ Q'
      · rw [if_pos (decide_eq_true c)]
        refine ⟨Q', g1, ?_⟩
        unfold CE at *; omega
      · rw [if_neg (by rw [decide_eq_false c]; decide)]
        refine ⟨P', h1, ?_⟩
        unfold CE at *; omega
theorem lesser_high {E F : End} (h : isHigh E = false ∨ isHigh F = false) : isHigh (lesser E F) = false := by
  unfold lesser
  cases E with
  | low => rw [if_pos (by cases F <;> rfl)]; rfl
  | high =>
    cases F with
    | low => rfl
    | high => exact absurd h (by decide)
    | fin y c f => rfl
  | fin z d e =>
    cases F with
    | low => rfl
    | high => rfl
    | fin y c f => split <;> rfl
theorem greater_low {E F : End} (h : isLow E = false ∨ isLow F = false) : isLow (greater E F) = false := by
  unfold greater
  cases E with
  | low =>
    rw [if_pos (by cases F <;> rfl)]
    cases F with
    | low => exact absurd h (by decide)
    | high => rfl
    | fin y c f => rfl
  | high => cases F <;> rfl
  | fin z d e =>
    cases F with
    | low => rfl
    | high => rfl
    | fin y c f => split <;> rfl
end Enc
end
section
set_option Elab.async false
set_option exponentiation.threshold 200
set_option linter.all false
namespace Enc
open Sz05
def ONE : Nat := 2 ^ 1074
def FARW : Nat := 2 ^ 3200
theorem one_pos : 0 < ONE := pow_pos' _
theorem farth_pos : 0 < FARTH := pow_pos' _
theorem farw_pos : 0 < FARW := pow_pos' _
theorem pow_mono {a b : Nat} (h : a ≤ b) : 2 ^ a ≤ 2 ^ b := Nat.pow_le_pow_right (by decide) h
theorem far_two : 2 * FARTH ≤ FARW := by
  unfold FARTH FARW
  have e : 2 * 2 ^ 2098 = 2 ^ 2099 := by rw [Nat.mul_comm, ← Nat.pow_succ]
  rw [e]
  exact pow_mono (by decide)
theorem far_one : FARTH * ONE < FARW := by
  unfold FARTH FARW ONE
  rw [← Nat.pow_add]
  exact Nat.pow_lt_pow_right (by decide) (by decide)
theorem far_sq : FARTH * FARTH ≤ FARW * ONE := by
  unfold FARTH FARW ONE
  rw [← Nat.pow_add, ← Nat.pow_add]
  exact pow_mono (by decide)
/-- an end that was handed in is so many units -/
def X : End → Int → Prop
  | .low, u => u = -(FARW : Int)
  | .high, u => u = (FARW : Int)
  | .fin z d e, u => d = 1 ∧ -1074 ≤ e ∧ z * ((2 ^ (e + 1074).toNat : Nat) : Int) = u ∧ u.natAbs < FARTH
theorem X.isZ {z : Int} {d : Nat} {e : Int} {u : Int} (h : X (.fin z d e) u) : IsZ z d e u 1 := by
  obtain ⟨h1, h2, h3, _⟩ := h
  subst h1
  refine ⟨by decide, by decide, ?_⟩
  rw [h3, show (-(e + 1074)).toNat = 0 by omega]
  simp
theorem far_at_one : far 1 = (FARTH : Int) := by unfold far; simp
theorem X.k {E : End} {u : Int} (h : X E u) : K E u 1 := by
  have := far_two
  cases E with
  | low => exact ⟨by decide, by rw [far_at_one]; have h : u = -(FARW : Int) := h; omega⟩
  | high => exact ⟨by decide, by rw [far_at_one]; have h : u = (FARW : Int) := h; omega⟩
  | fin z d e => exact ⟨u, h.isZ, .inl rfl⟩
theorem X.le {E F : End} {u v : Int} (h : X E u) (g : X F v) : le E F = decide (u ≤ v) := by
  have := far_two
  have := farth_pos
  cases E with
  | low =>
    have h : u = -(FARW : Int) := h
    cases F with
    | low => have g : v = -(FARW : Int) := g; exact (decide_eq_true (by omega)).symm
    | high => have g : v = (FARW : Int) := g; exact (decide_eq_true (by omega)).symm
    | fin y c f => obtain ⟨_, _, _, g⟩ := g; exact (decide_eq_true (by omega)).symm
  | high =>
    have h : u = (FARW : Int) := h
    cases F with
    | low => have g : v = -(FARW : Int) := g; exact (decide_eq_false (by omega)).symm
    | high => have g : v = (FARW : Int) := g; exact (decide_eq_true (by omega)).symm
    | fin y c f => obtain ⟨_, _, _, g⟩ := g; exact (decide_eq_false (by omega)).symm
  | fin z d e =>
    cases F with
    | low => have g : v = -(FARW : Int) := g; obtain ⟨_, _, _, h⟩ := h; exact (decide_eq_false (by omega)).symm
    | high => have g : v = (FARW : Int) := g; obtain ⟨_, _, _, h⟩ := h; exact (decide_eq_true (by omega)).symm
    | fin y c f => exact le_fin h.isZ g.isZ
theorem X.min {E F : End} {u v : Int} (h : X E u) (g : X F v) : X (lesser E F) (min u v) := by
  unfold lesser
  rw [h.le g]
  by_cases c : u ≤ v
  · rw [if_pos (decide_eq_true c), show Min.min u v = u by omega]; exact h
  · rw [if_neg (by rw [decide_eq_false c]; decide), show Min.min u v = v by omega]; exact g
theorem X.max {E F : End} {u v : Int} (h : X E u) (g : X F v) : X (greater E F) (max u v) := by
  unfold greater
  rw [h.le g]
  by_cases c : u ≤ v
  · rw [if_pos (decide_eq_true c), show Max.max u v = v by omega]; exact g
  · rw [if_neg (by rw [decide_eq_false c]; decide), show Max.max u v = u by omega]; exact h
theorem X.minus {E : End} {u : Int} (h : X E u) : X (minus E) (-u) := by
  cases E with
  | low => have h : u = -(FARW : Int) := h; show -u = (FARW : Int); omega
  | high => have h : u = (FARW : Int) := h; show -u = -(FARW : Int); omega
  | fin z d e =>
    obtain ⟨h1, h2, h3, h4⟩ := h
    exact ⟨h1, h2, by rw [Int.neg_mul, h3], by omega⟩
theorem X.sign {E : End} {u : Int} (h : X E u) : sign E = if u < 0 then -1 else if u = 0 then 0 else 1 := by
  have := farw_pos
  cases E with
  | low => have h : u = -(FARW : Int) := h; rw [if_pos (by omega)]; rfl
  | high => have h : u = (FARW : Int) := h; rw [if_neg (by omega), if_neg (by omega)]; rfl
  | fin z d e =>
    have s := h.isZ.sign
    show (if z < 0 then (-1 : Int) else if z = 0 then 0 else 1) = _
    by_cases a : z < 0
    · rw [if_pos a, if_pos (s.1.mp a)]
    · rw [if_neg a, if_neg (fun c => a (s.1.mpr c))]
      by_cases b : z = 0
      · rw [if_pos b, if_pos (s.2.mp b)]
      · rw [if_neg b, if_neg (fun c => b (s.2.mpr c))]
theorem X.big {E : End} {u : Int} (h : X E u) (i : isHigh E = true ∨ isLow E = true) : u.natAbs = FARW := by
  cases E with
  | low => have h : u = -(FARW : Int) := h; omega
  | high => have h : u = (FARW : Int) := h; omega
  | fin z d e => simp [isHigh, isLow] at i
theorem X.small {E : End} {u : Int} (h : X E u) (i : isHigh E = false) (j : isLow E = false) : u.natAbs < FARTH := by
  cases E with
  | low => cases j
  | high => cases i
  | fin z d e => exact h.2.2.2
/-! ### sums -/
theorem plus_fin {z y : Int} {e f : Int} {u v : Int} (h : X (.fin z 1 e) u) (g : X (.fin y 1 f) v) (lo : Bool) : K (plus lo (.fin z 1 e) (.fin y 1 f)) (u + v) 1 := by
  obtain ⟨_, h2, h3, _⟩ := h
  obtain ⟨_, g2, g3, _⟩ := g
  refine ⟨u + v, ⟨by decide, by decide, ?_⟩, .inl rfl⟩
  generalize hm : (if e < f then e else f) = m
  have hm1 : -1074 ≤ m := by rw [← hm]; split <;> omega
  have hm2 : m ≤ e ∧ m ≤ f := by rw [← hm]; split <;> omega
  have e1 : (e + 1074).toNat = (e - m).toNat + (m + 1074).toNat := by omega
  have e2 : (f + 1074).toNat = (f - m).toNat + (m + 1074).toNat := by omega
  rw [e1, Nat.pow_add] at h3
  rw [e2, Nat.pow_add] at g3
  rw [show (-(m + 1074)).toNat = 0 by omega]
  rw [← h3, ← g3]
  simp only [Int.natCast_mul, Int.natCast_one, Int.mul_one, Nat.pow_zero, Nat.mul_one, Int.add_mul, Int.mul_assoc]
theorem K_plus_low {E F : End} {u v : Int} (h : X E u) (g : X F v) (i : isHigh E = false) (j : isHigh F = false) : K (plus true E F) (u + v) 1 := by
  have := far_two
  cases E with
  | low =>
    have h : u = -(FARW : Int) := h
    cases F with
    | low => have g : v = -(FARW : Int) := g; exact ⟨by decide, by rw [far_at_one]; omega⟩
    | high => cases j
    | fin y c f => obtain ⟨_, _, _, g⟩ := g; exact ⟨by decide, by rw [far_at_one]; omega⟩
  | high => cases i
  | fin z d e =>
    cases F with
    | low => have g : v = -(FARW : Int) := g; obtain ⟨_, _, _, h⟩ := h; exact ⟨by decide, by rw [far_at_one]; omega⟩
    | high => cases j
    | fin y c f =>
      have d1 : d = 1 := h.1
      have c1 : c = 1 := g.1
      subst d1 c1
      exact plus_fin h g true
theorem K_plus_high {E F : End} {u v : Int} (h : X E u) (g : X F v) (i : isLow E = false) (j : isLow F = false) : K (plus false E F) (u + v) 1 := by
  have := far_two
  cases E with
  | high =>
    have h : u = (FARW : Int) := h
    cases F with
    | high => have g : v = (FARW : Int) := g; exact ⟨by decide, by rw [far_at_one]; omega⟩
    | low => cases j
    | fin y c f => obtain ⟨_, _, _, g⟩ := g; exact ⟨by decide, by rw [far_at_one]; omega⟩
  | low => cases i
  | fin z d e =>
    cases F with
    | high => have g : v = (FARW : Int) := g; obtain ⟨_, _, _, h⟩ := h; exact ⟨by decide, by rw [far_at_one]; omega⟩
    | low => cases j
    | fin y c f =>
      have d1 : d = 1 := h.1
      have c1 : c = 1 := g.1
      subst d1 c1
      exact plus_fin h g false
theorem plus_low_nh {E F : End} (i : isHigh E = false) (j : isHigh F = false) : isHigh (plus true E F) = false := by
  cases E <;> cases F <;> first | rfl | cases i | cases j
theorem plus_high_nl {E F : End} (i : isLow E = false) (j : isLow F = false) : isLow (plus false E F) = false := by
  cases E <;> cases F <;> first | rfl | cases i | cases j
/-! ### products -/
theorem K_zero (D : Nat) (h : 0 < D) : K (.fin 0 1 0) 0 D := ⟨0, ⟨by decide, h, by simp⟩, .inl rfl⟩
theorem far_def (D : Nat) : far D = ((FARTH * D : Nat) : Int) := by unfold far; simp
theorem sgn_mul_neg {u v : Int} (h : (if u < 0 then (-1 : Int) else if u = 0 then 0 else 1) * (if v < 0 then (-1 : Int) else if v = 0 then 0 else 1) < 0) : u * v < 0 := by
  by_cases a : u < 0
  · rw [if_pos a] at h
    by_cases b : v < 0
    · rw [if_pos b] at h; omega
    · rw [if_neg b] at h
      by_cases c : v = 0
      · rw [if_pos c] at h; omega
      · exact Int.mul_neg_of_neg_of_pos a (by omega)
  · rw [if_neg a] at h
    by_cases a2 : u = 0
    · rw [if_pos a2] at h; omega
    · rw [if_neg a2] at h
      by_cases b : v < 0
      · exact Int.mul_neg_of_pos_of_neg (by omega) b
      · rw [if_neg b] at h
        split at h <;> omega
theorem sgn_mul_zero {u v : Int} (h : (if u < 0 then (-1 : Int) else if u = 0 then 0 else 1) * (if v < 0 then (-1 : Int) else if v = 0 then 0 else 1) = 0) : u * v = 0 := by
  have : u = 0 ∨ v = 0 := by
    by_cases a : u = 0
    · exact .inl a
    · right
      by_cases b : v = 0
      · exact b
      · exfalso
        by_cases a1 : u < 0 <;> by_cases b1 : v < 0 <;> simp [a1, b1, a, b] at h
  rcases this with a | a <;> simp [a]
theorem times_inf {E F : End} {u v : Int} (h : X E u) (g : X F v) (hu : u.natAbs = FARW ∨ v.natAbs = FARW)
    (ht : times E F = if sign E * sign F = 0 then .fin 0 1 0 else if sign E * sign F < 0 then .low else .high) : K (times E F) (u * v) ONE := by
  have h1 := h.sign
  have h2 := g.sign
  have f1 := far_one
  rw [ht, h1, h2]
  have big : u * v ≠ 0 → FARW ≤ (u * v).natAbs := by
    intro hne
    rw [Int.natAbs_mul]
    have a : u.natAbs ≠ 0 := by intro c; apply hne; have : u = 0 := by omega
                                rw [this, Int.zero_mul]
    have b : v.natAbs ≠ 0 := by intro c; apply hne; have : v = 0 := by omega
                                rw [this, Int.mul_zero]
    rcases hu with hu | hu
    · rw [← hu]; exact Nat.le_mul_of_pos_right _ (by omega)
    · rw [← hu]; exact Nat.le_mul_of_pos_left _ (by omega)
  by_cases z : (if u < 0 then (-1 : Int) else if u = 0 then 0 else 1) * (if v < 0 then (-1 : Int) else if v = 0 then 0 else 1) = 0
  · rw [if_pos z, sgn_mul_zero z]; exact K_zero _ one_pos
  · rw [if_neg z]
    have nz : u * v ≠ 0 := by
      intro c
      apply z
      rcases Int.mul_eq_zero.mp c with c | c <;> simp [c]
    have bg := big nz
    by_cases n : (if u < 0 then (-1 : Int) else if u = 0 then 0 else 1) * (if v < 0 then (-1 : Int) else if v = 0 then 0 else 1) < 0
    · rw [if_pos n]
      have := sgn_mul_neg n
      exact ⟨one_pos, by rw [far_def]; omega⟩
    · rw [if_neg n]
      have : ¬ u * v < 0 := by
        intro c
        apply n
        by_cases a1 : u < 0 <;> by_cases b1 : v < 0
        · have := Int.mul_pos_of_neg_of_neg a1 b1; omega
        · by_cases b : v = 0
          · rw [b] at c; simp at c
          · simp [a1, b1, b]
        · by_cases a : u = 0
          · rw [a] at c; simp at c
          · simp [a1, b1, a]
        · have := Int.mul_nonneg (show 0 ≤ u by omega) (show 0 ≤ v by omega); omega
      exact ⟨one_pos, by rw [far_def]; omega⟩
theorem K_times {E F : End} {u v : Int} (h : X E u) (g : X F v) : K (times E F) (u * v) ONE := by
  cases E with
  | low => exact times_inf h g (.inl (h.big (.inr rfl))) (by cases F <;> rfl)
  | high => exact times_inf h g (.inl (h.big (.inl rfl))) (by cases F <;> rfl)
  | fin z d e =>
    cases F with
    | low => exact times_inf h g (.inr (g.big (.inr rfl))) rfl
    | high => exact times_inf h g (.inr (g.big (.inl rfl))) rfl
    | fin y c f =>
      obtain ⟨h1, h2, h3, _⟩ := h
      obtain ⟨g1, g2, g3, _⟩ := g
      subst h1 g1
      refine ⟨u * v, ⟨by decide, one_pos, ?_⟩, .inl rfl⟩
      rw [← h3, ← g3]
      have key : 2 ^ (e + f + 1074).toNat * ONE = 2 ^ (e + 1074).toNat * 2 ^ (f + 1074).toNat * 2 ^ (-(e + f + 1074)).toNat := by
        unfold ONE
        rw [← Nat.pow_add, ← Nat.pow_add, ← Nat.pow_add]
        congr 1
        omega
      have key' := congrArg (fun (n : Nat) => (n : Int)) key
      simp only [Int.natCast_mul] at key'
      generalize ((2 ^ (e + f + 1074).toNat : Nat) : Int) = A at *
      generalize ((2 ^ (e + 1074).toNat : Nat) : Int) = B at *
      generalize ((2 ^ (f + 1074).toNat : Nat) : Int) = C at *
      generalize ((2 ^ (-(e + f + 1074)).toNat : Nat) : Int) = G at *
      generalize (ONE : Int) = T at *
      calc z * y * A * T = z * y * (A * T) := by ac_rfl
        _ = z * y * (B * C * G) := by rw [key']
        _ = _ := by simp only [Nat.mul_one, Int.natCast_one, Int.mul_one]; ac_rfl
/-! ### quotients -/
theorem K_by_fin {z w : Int} {e f : Int} {u v : Int} (h : X (.fin z 1 e) u) (g : X (.fin w 1 f) v) (hv : 0 < v) (k : Nat) (hk : 0 < k) :
    K (by_ (.fin z 1 e) (.fin w 1 f)) (u * (ONE : Int) * (k : Int)) (v.natAbs * k) := by
  have hw : 0 < w := by
    have := g.isZ.sign
    rcases Int.lt_trichotomy w 0 with q | q | q
    · have := this.1.mp q; omega
    · have := this.2.mp q; omega
    · exact q
  obtain ⟨_, h2, h3, _⟩ := h
  obtain ⟨_, g2, g3, _⟩ := g
  refine ⟨u * (ONE : Int) * (k : Int), ⟨?_, Nat.mul_pos (by omega) hk, ?_⟩, .inl rfl⟩
  · rw [Nat.one_mul]; omega
  · rw [if_neg (by omega)]
    have ev : (v.natAbs : Int) = v := by omega
    have ew : (w.natAbs : Int) = w := by omega
    have key : 2 ^ (e - f + 1074).toNat * 2 ^ (f + 1074).toNat = 2 ^ (e + 1074).toNat * ONE * 2 ^ (-(e - f + 1074)).toNat := by
      unfold ONE
      rw [← Nat.pow_add, ← Nat.pow_add, ← Nat.pow_add]
      congr 1
      omega
    have key' := congrArg (fun (n : Nat) => (n : Int)) key
    simp only [Int.natCast_mul] at key'
    simp only [Int.natCast_mul, ev, Nat.one_mul, ew, Int.natCast_one, Int.mul_one]
    rw [← h3, ← g3]
    generalize ((2 ^ (e - f + 1074).toNat : Nat) : Int) = A at *
    generalize ((2 ^ (e + 1074).toNat : Nat) : Int) = B at *
    generalize ((2 ^ (f + 1074).toNat : Nat) : Int) = C at *
    generalize ((2 ^ (-(e - f + 1074)).toNat : Nat) : Int) = G at *
    generalize (ONE : Int) = T at *
    calc z * A * (w * C * k) = z * w * k * (A * C) := by ac_rfl
      _ = z * w * k * (B * T * G) := by rw [key']
      _ = _ := by ac_rfl
/-- by a finite end above 0 -/
theorem K_by {E F : End} {u v : Int} (h : X E u) (g : X F v) (hv : 0 < v) (hF : isHigh F = false) (k : Nat) (hk : 0 < k) :
    K (by_ E F) (u * (ONE : Int) * (k : Int)) (v.natAbs * k) := by
  have hw := farw_pos
  cases F with
  | low => have g : v = -(FARW : Int) := g; omega
  | high => cases hF
  | fin y c f =>
    have c1 : c = 1 := g.1
    subst c1
    have s := g.sign
    rw [if_neg (by omega), if_neg (by omega)] at s
    have g4 := g.2.2.2
    have bound : far (v.natAbs * k) ≤ ((FARW * ONE * k : Nat) : Int) := by
      rw [far_def, ← Nat.mul_assoc]
      have a1 : FARTH * v.natAbs ≤ FARTH * FARTH := Nat.mul_le_mul_left _ (by omega)
      have a2 := Nat.mul_le_mul_right k (Nat.le_trans a1 far_sq)
      omega
    cases E with
    | low =>
      have h : u = -(FARW : Int) := h
      have e : by_ .low (.fin y 1 f) = .low := by
        show (if sign End.low * sign (End.fin y 1 f) < 0 then End.low else End.high) = _
        rw [s]; rfl
      rw [e]
      refine ⟨Nat.mul_pos (by omega) hk, ?_⟩
      rw [h, Int.neg_mul, Int.neg_mul]
      simp only [Int.natCast_mul] at bound
      omega
    | high =>
      have h : u = (FARW : Int) := h
      have e : by_ .high (.fin y 1 f) = .high := by
        show (if sign End.high * sign (End.fin y 1 f) < 0 then End.low else End.high) = _
        rw [s]; rfl
      rw [e]
      refine ⟨Nat.mul_pos (by omega) hk, ?_⟩
      rw [h]
      simp only [Int.natCast_mul] at bound
      omega
    | fin z d e =>
      have d1 : d = 1 := h.1
      subst d1
      exact K_by_fin h g hv k hk
theorem by_minus {E F : End} {v : Int} (g : X F v) (hv : v ≠ 0) : by_ (minus E) (minus F) = by_ E F := by
  cases F with
  | low => cases E <;> rfl
  | high => cases E <;> rfl
  | fin w c f =>
    have hw : w ≠ 0 := by
      have := g.isZ.sign.2
      omega
    have sg : sign (minus (.fin w c f)) = -sign (.fin w c f) := by
      show (if -w < 0 then (-1 : Int) else if -w = 0 then 0 else 1) = -(if w < 0 then (-1 : Int) else if w = 0 then 0 else 1)
      by_cases a : w < 0
      · rw [if_pos a, if_neg (by omega), if_neg (by omega)]; rfl
      · rw [if_neg a, if_neg hw, if_pos (by omega)]
    cases E with
    | low =>
      show (if sign End.high * sign (minus (.fin w c f)) < 0 then End.low else End.high) = (if sign End.low * sign (End.fin w c f) < 0 then End.low else End.high)
      rw [sg]
      have : sign End.high * -sign (End.fin w c f) = sign End.low * sign (End.fin w c f) := by
        show (1 : Int) * -sign (End.fin w c f) = -1 * sign (End.fin w c f)
        omega
      rw [this]
    | high =>
      show (if sign End.low * sign (minus (.fin w c f)) < 0 then End.low else End.high) = (if sign End.high * sign (End.fin w c f) < 0 then End.low else End.high)
      rw [sg]
      have : sign End.low * -sign (End.fin w c f) = sign End.high * sign (End.fin w c f) := by
        show (-1 : Int) * -sign (End.fin w c f) = 1 * sign (End.fin w c f)
        omega
      rw [this]
    | fin z d e =>
      show End.fin ((if -w < 0 then -(-z) else -z) * (c : Int)) (d * (-w).natAbs) (e - f) = End.fin ((if w < 0 then -z else z) * (c : Int)) (d * w.natAbs) (e - f)
      rw [Int.natAbs_neg]
      by_cases a : w < 0
      · rw [if_pos a, if_neg (by omega)]
      · rw [if_neg a, if_pos (by omega), Int.neg_neg]
end Enc
end
section
set_option Elab.async false
set_option exponentiation.threshold 200
set_option linter.all false
namespace Enc
open Sz05
def isNan (b : Nat) : Bool := decide (INF < b % 2 ^ 63)
def sizeOf_ (m : Nat) : Nat := if m = INF then FARW else val m
def unitsOf (b : Nat) : Int := if 2 ^ 63 ≤ b then -(sizeOf_ (b % 2 ^ 63) : Int) else (sizeOf_ (b % 2 ^ 63) : Int)
abbrev IvM := Option (Int × Int)
def ivM (lo hi : Nat) : IvM :=
  if isNan lo = true ∨ isNan hi = true ∨ lo = INF ∨ hi = 2 ^ 63 + INF then none
  else if unitsOf hi < unitsOf lo then none else some (unitsOf lo, unitsOf hi)
theorem sgn_nat (s : Bool) (n : Nat) : (if s = true then -(n : Int) else (n : Int)).natAbs = n := by cases s <;> simp
/-- what a double's bits are, by the specification and by units -/
theorem endOf_ok {b : Nat} (hb : b < 2 ^ 64) : if isNan b = true then endOf b = none else
    ∃ E, endOf b = some E ∧ X E (unitsOf b) ∧ (isHigh E = decide (b = INF)) ∧ (isLow E = decide (b = 2 ^ 63 + INF)) := by
  have hI : INF = 2047 * 2 ^ 52 := by decide
  have e1 : b / 2 ^ 52 % 2048 = (b % 2 ^ 63) / 2 ^ 52 := by omega
  have e2 : b % 2 ^ 52 = (b % 2 ^ 63) % 2 ^ 52 := by omega
  have es : (b / 2 ^ 63 % 2 == 1) = decide (2 ^ 63 ≤ b) := by
    by_cases c : 2 ^ 63 ≤ b
    · rw [decide_eq_true c]; have : b / 2 ^ 63 % 2 = 1 := by omega
      rw [this]; rfl
    · rw [decide_eq_false c]; have : b / 2 ^ 63 % 2 = 0 := by omega
      rw [this]; rfl
  have hd : endOf b = (if (b % 2 ^ 63) / 2 ^ 52 = 2047 then (if (b % 2 ^ 63) % 2 ^ 52 ≠ 0 then none else some (if decide (2 ^ 63 ≤ b) = true then .low else .high))
      else if (b % 2 ^ 63) / 2 ^ 52 = 0 then some (.fin (if decide (2 ^ 63 ≤ b) = true then -(((b % 2 ^ 63) % 2 ^ 52 : Nat) : Int) else (((b % 2 ^ 63) % 2 ^ 52 : Nat) : Int)) 1 (-1074))
      else some (.fin (if decide (2 ^ 63 ≤ b) = true then -((2 ^ 52 + (b % 2 ^ 63) % 2 ^ 52 : Nat) : Int) else ((2 ^ 52 + (b % 2 ^ 63) % 2 ^ 52 : Nat) : Int)) 1 (((b % 2 ^ 63) / 2 ^ 52 : Nat) - 1075 : Int))) := by
    unfold endOf
    dsimp only
    rw [e1, e2, es]
  rw [hd]
  clear hd e1 e2 es
  unfold isNan unitsOf
  have hm : b % 2 ^ 63 < 2 ^ 63 := by omega
  have hbm : b = b % 2 ^ 63 + (if 2 ^ 63 ≤ b then 2 ^ 63 else 0) := by split <;> omega
  by_cases c1 : (b % 2 ^ 63) / 2 ^ 52 = 2047
  · rw [if_pos c1]
    by_cases c2 : (b % 2 ^ 63) % 2 ^ 52 ≠ 0
    · rw [if_pos (decide_eq_true (by omega)), if_pos c2]
    · have c3 : b % 2 ^ 63 = INF := by omega
      rw [if_neg (by simp; omega), if_neg c2, c3]
      by_cases s : 2 ^ 63 ≤ b
      · rw [if_pos (decide_eq_true s), if_pos s]
        refine ⟨_, rfl, ?_, ?_, ?_⟩
        · show -((sizeOf_ INF : Nat) : Int) = -(FARW : Int)
          rw [show sizeOf_ INF = FARW from if_pos rfl]
        · show false = _; symm; apply decide_eq_false; omega
        · show true = _; symm; apply decide_eq_true; omega
      · rw [if_neg (by simp; omega), if_neg s]
        refine ⟨_, rfl, ?_, ?_, ?_⟩
        · show ((sizeOf_ INF : Nat) : Int) = (FARW : Int)
          rw [show sizeOf_ INF = FARW from if_pos rfl]
        · show true = _; symm; apply decide_eq_true; omega
        · show false = _; symm; apply decide_eq_false; omega
  · rw [if_neg c1, if_neg (by simp; omega)]
    have c3 : b % 2 ^ 63 < INF := by omega
    have hsz : sizeOf_ (b % 2 ^ 63) = val (b % 2 ^ 63) := if_neg (by omega)
    have hv : val (b % 2 ^ 63) < FARTH := by rw [← val_inf]; exact val_lt c3
    rw [hsz]
    have ends : ∀ z e, isHigh (End.fin z 1 e) = decide (b = INF) ∧ isLow (End.fin z 1 e) = decide (b = 2 ^ 63 + INF) := by
      intro z e
      constructor
      · show false = _; symm; apply decide_eq_false; omega
      · show false = _; symm; apply decide_eq_false; omega
    by_cases c2 : (b % 2 ^ 63) / 2 ^ 52 = 0
    · rw [if_pos c2]
      have ev : val (b % 2 ^ 63) = b % 2 ^ 63 := val_small (by omega)
      have ef : b % 2 ^ 63 % 2 ^ 52 = b % 2 ^ 63 := by omega
      refine ⟨_, rfl, ⟨rfl, by omega, ?_, ?_⟩, ends _ _⟩
      · rw [ev, ef]
        by_cases s : 2 ^ 63 ≤ b
        · rw [if_pos (decide_eq_true s), if_pos s]; simp
        · rw [if_neg (by simp; omega), if_neg s]; simp
      · split <;> omega
    · rw [if_neg c2]
      have ev : val (b % 2 ^ 63) = (2 ^ 52 + b % 2 ^ 63 % 2 ^ 52) * 2 ^ ((b % 2 ^ 63) / 2 ^ 52 - 1) := by
        unfold val
        rw [if_neg (by omega)]
      refine ⟨_, rfl, ⟨rfl, by omega, ?_, ?_⟩, ends _ _⟩
      · rw [ev]
        have et : ((((b % 2 ^ 63) / 2 ^ 52 : Nat) : Int) - 1075 + 1074).toNat = (b % 2 ^ 63) / 2 ^ 52 - 1 := by omega
        rw [et]
        generalize b % 2 ^ 63 / 2 ^ 52 - 1 = x
        generalize 2 ^ 52 + b % 2 ^ 63 % 2 ^ 52 = y
        by_cases s : 2 ^ 63 ≤ b
        · rw [if_pos (decide_eq_true s), if_pos s, Int.natCast_mul, Int.neg_mul]
        · rw [if_neg (by simp; omega), if_neg s, Int.natCast_mul]
      · split <;> omega
/-- an interval handed in -/
def XI : Iv → IvM → Prop
  | none, none => True
  | some (A, B), some (u, v) => X A u ∧ X B v ∧ u ≤ v ∧ isHigh A = false ∧ isLow B = false
  | _, _ => False
theorem iv_ok {lo hi : Nat} (h1 : lo < 2 ^ 64) (h2 : hi < 2 ^ 64) : XI (ivOf (lo, hi)) (ivM lo hi) := by
  have a := endOf_ok h1
  have b := endOf_ok h2
  unfold ivOf ivM
  dsimp only
  by_cases c1 : isNan lo = true
  · rw [if_pos c1] at a
    rw [if_pos (.inl c1), a]
    trivial
  · rw [if_neg c1] at a
    obtain ⟨A, a1, a2, a3, a4⟩ := a
    rw [a1]
    by_cases c2 : isNan hi = true
    · rw [if_pos c2] at b
      rw [if_pos (.inr (.inl c2)), b]
      trivial
    · rw [if_neg c2] at b
      obtain ⟨B, b1, b2, b3, b4⟩ := b
      rw [b1]
      dsimp only
      rw [a2.le b2, a3, b4]
      by_cases c3 : lo = INF
      · rw [if_neg (by rw [decide_eq_true c3]; simp), if_pos (.inr (.inr (.inl c3)))]
        trivial
      · by_cases c4 : hi = 2 ^ 63 + INF
        · rw [if_neg (by rw [decide_eq_true c4]; simp), if_pos (.inr (.inr (.inr c4)))]
          trivial
        · rw [if_neg (c := isNan lo = true ∨ isNan hi = true ∨ lo = INF ∨ hi = 2 ^ 63 + INF) (by simp only [c1, c2, c3, c4, or_self]; exact fun h => by simp at h)]
          by_cases c5 : unitsOf lo ≤ unitsOf hi
          · rw [if_pos ⟨decide_eq_true c5, decide_eq_false c3, decide_eq_false c4⟩, if_neg (by omega)]
            exact ⟨a2, b2, c5, by rw [a3]; exact decide_eq_false c3, by rw [b4]; exact decide_eq_false c4⟩
          · rw [if_neg (by rw [decide_eq_false c5]; simp), if_pos (by omega)]
            trivial
/-! ### what was reckoned, and how it's told -/
def RI : Iv → IvM → Prop
  | none, none => True
  | some (A, B), some (u, v) => bitsOf false A = lowerB u ∧ bitsOf true B = upperB v ∧ u ≤ v
  | _, _ => False
def toldM : IvM → Two
  | none => (INF, 2 ^ 63 + INF)
  | some (u, v) => (lowerB u, upperB v)
theorem told_ok {r : Iv} {q : IvM} (h : RI r q) : told r = toldM q := by
  match r, q, h with
  | none, none, _ => rfl
  | some (A, B), some (u, v), h => obtain ⟨h1, h2, _⟩ := h; show (bitsOf false A, bitsOf true B) = (lowerB u, upperB v); rw [h1, h2]
theorem X.ri {A B : End} {u v : Int} (h : X A u) (g : X B v) (l : u ≤ v) (i : isHigh A = false) (j : isLow B = false) : RI (some (A, B)) (some (u, v)) := by
  refine ⟨?_, ?_, l⟩
  · have := h.k.lower i; simpa using this
  · have := g.k.upper j; simpa using this
theorem upB_le (n : Nat) : upB n ≤ INF := by unfold upB; omega
theorem dnB_le (n : Nat) : dnB n ≤ LARGEST := by unfold dnB; omega
theorem large_inf : INF = LARGEST + 1 := rfl
theorem inf_lt : INF < 2 ^ 63 := by decide
theorem val_dnB (n : Nat) : val (dnB n) ≤ n := (gdn_iff n (dnB n)).mpr (by unfold dnB; omega)
theorem size_upB (n : Nat) : upB n = INF ∨ n ≤ val (upB n) := by
  by_cases c : upB n = INF
  · exact .inl c
  · right
    have : upB n = gup n := by unfold upB at *; omega
    rw [this]
    exact (gup_iff n (gup n)).mpr (Nat.le_refl _)
theorem size_le {m : Nat} (h : m ≤ INF) : sizeOf_ m ≤ FARW := by
  unfold sizeOf_
  split
  · exact Nat.le_refl _
  · have := val_le h
    rw [val_inf] at this
    have := far_two
    omega
theorem lowerB_lt (u : Int) : lowerB u < 2 ^ 64 := by
  unfold lowerB
  have := upB_le u.natAbs
  have := dnB_le u.natAbs
  have := inf_lt
  have := large_inf
  split <;> omega
theorem upperB_lt (u : Int) : upperB u < 2 ^ 64 := by
  unfold upperB
  have := upB_le u.natAbs
  have := dnB_le u.natAbs
  have := inf_lt
  have := large_inf
  split <;> omega
theorem lowerB_facts (u : Int) : isNan (lowerB u) = false ∧ lowerB u ≠ INF ∧ -(FARW : Int) ≤ unitsOf (lowerB u) ∧ unitsOf (lowerB u) ≤ (FARW : Int) ∧ (unitsOf (lowerB u) = -(FARW : Int) ∨ unitsOf (lowerB u) ≤ u) := by
  have h1 := upB_le u.natAbs
  have h2 := dnB_le u.natAbs
  have h3 := inf_lt
  have h4 := large_inf
  have h5 := size_upB u.natAbs
  have h6 := val_dnB u.natAbs
  unfold lowerB
  by_cases c : u < 0
  · rw [if_pos c]
    have e : (2 ^ 63 + upB u.natAbs) % 2 ^ 63 = upB u.natAbs := by omega
    unfold isNan unitsOf
    rw [e, if_pos (by omega)]
    have s := size_le h1
    refine ⟨decide_eq_false (by omega), by omega, by omega, by omega, ?_⟩
    rcases h5 with h5 | h5
    · left
      have : sizeOf_ (upB u.natAbs) = FARW := if_pos h5
      omega
    · by_cases q : upB u.natAbs = INF
      · left
        have : sizeOf_ (upB u.natAbs) = FARW := if_pos q
        omega
      · right
        have : sizeOf_ (upB u.natAbs) = val (upB u.natAbs) := if_neg q
        omega
  · rw [if_neg c]
    have e : dnB u.natAbs % 2 ^ 63 = dnB u.natAbs := by omega
    unfold isNan unitsOf
    rw [e, if_neg (by omega)]
    have s := size_le (show dnB u.natAbs ≤ INF by omega)
    have : sizeOf_ (dnB u.natAbs) = val (dnB u.natAbs) := if_neg (by omega)
    exact ⟨decide_eq_false (by omega), by omega, by omega, by omega, .inr (by omega)⟩
theorem upperB_facts (u : Int) : isNan (upperB u) = false ∧ upperB u ≠ 2 ^ 63 + INF ∧ -(FARW : Int) ≤ unitsOf (upperB u) ∧ unitsOf (upperB u) ≤ (FARW : Int) ∧ (unitsOf (upperB u) = (FARW : Int) ∨ u ≤ unitsOf (upperB u)) := by
  have h1 := upB_le u.natAbs
  have h2 := dnB_le u.natAbs
  have h3 := inf_lt
  have h4 := large_inf
  have h5 := size_upB u.natAbs
  have h6 := val_dnB u.natAbs
  unfold upperB
  by_cases c : u < 0
  · rw [if_pos c]
    have e : (2 ^ 63 + dnB u.natAbs) % 2 ^ 63 = dnB u.natAbs := by omega
    unfold isNan unitsOf
    rw [e, if_pos (by omega)]
    have s := size_le (show dnB u.natAbs ≤ INF by omega)
    have : sizeOf_ (dnB u.natAbs) = val (dnB u.natAbs) := if_neg (by omega)
    exact ⟨decide_eq_false (by omega), by omega, by omega, by omega, .inr (by omega)⟩
  · rw [if_neg c]
    have e : upB u.natAbs % 2 ^ 63 = upB u.natAbs := by omega
    unfold isNan unitsOf
    rw [e, if_neg (by omega)]
    have s := size_le h1
    refine ⟨decide_eq_false (by omega), by omega, by omega, by omega, ?_⟩
    rcases h5 with h5 | h5
    · left
      have : sizeOf_ (upB u.natAbs) = FARW := if_pos h5
      omega
    · by_cases q : upB u.natAbs = INF
      · left
        have : sizeOf_ (upB u.natAbs) = FARW := if_pos q
        omega
      · right
        have : sizeOf_ (upB u.natAbs) = val (upB u.natAbs) := if_neg q
        omega
theorem ivM_told {u v : Int} (h : u ≤ v) : ivM (lowerB u) (upperB v) = some (unitsOf (lowerB u), unitsOf (upperB v)) := by
  obtain ⟨a1, a2, a3, a4, a5⟩ := lowerB_facts u
  obtain ⟨b1, b2, b3, b4, b5⟩ := upperB_facts v
  unfold ivM
  rw [if_neg (by rw [a1, b1]; intro q; rcases q with q | q | q | q; cases q; cases q; exact a2 q; exact b2 q), if_neg (by omega)]
theorem ivM_none : ivM INF (2 ^ 63 + INF) = none := if_pos (.inr (.inr (.inl rfl)))
theorem empty_ok {q : IvM} (h : ∀ u v, q = some (u, v) → u ≤ v) : isEmpty (toldM q) = q.isNone := by
  unfold isEmpty
  match q, h with
  | none, _ =>
    have := iv_ok (lo := INF) (hi := 2 ^ 63 + INF) (by decide) (by decide)
    rw [ivM_none] at this
    show (ivOf (INF, 2 ^ 63 + INF)).isNone = true
    cases e : ivOf (INF, 2 ^ 63 + INF) with
    | none => rfl
    | some p => rw [e] at this; exact this.elim
  | some (u, v), h =>
    have := iv_ok (lowerB_lt u) (upperB_lt v)
    rw [ivM_told (h u v rfl)] at this
    show (ivOf (lowerB u, upperB v)).isNone = false
    cases e : ivOf (lowerB u, upperB v) with
    | none => rw [e] at this; exact this.elim
    | some p => rfl
theorem RI.le {r : Iv} {q : IvM} (h : RI r q) : ∀ u v, q = some (u, v) → u ≤ v := by
  rintro u v rfl
  match r, h with
  | some (A, B), h => exact h.2.2
end Enc
end
section
set_option Elab.async false
set_option exponentiation.threshold 200
set_option linter.all false
namespace Enc
open Sz05
abbrev Pr := Int × Int
def negM (a : Pr) : Pr := (-a.2, -a.1)
def addM (a b : Pr) : Pr := (a.1 + b.1, a.2 + b.2)
def min4 (p q r s : Int) : Int := min (min p q) (min r s)
def max4 (p q r s : Int) : Int := max (max p q) (max r s)
def mulM (a b : Pr) : Pr :=
  (min4 (a.1 * b.1) (a.1 * b.2) (a.2 * b.1) (a.2 * b.2) / (ONE : Int), -(-(max4 (a.1 * b.1) (a.1 * b.2) (a.2 * b.1) (a.2 * b.2)) / (ONE : Int)))
def divPosM (a b : Pr) : Pr :=
  (a.1 * (ONE : Int) / (if a.1 < 0 then b.1 else b.2), -(-a.2 * (ONE : Int) / (if a.2 < 0 then b.2 else b.1)))
def divM (a b : Pr) : Pr :=
  if b.2 < 0 then divPosM (negM a) (negM b) else if 0 < b.1 then divPosM a b else (-(FARW : Int), (FARW : Int))
def hullM (a b : IvM) : IvM := match a, b with
  | none, b => b
  | some a, none => some a
  | some a, some b => some (min a.1 b.1, max a.2 b.2)
def commonM (a b : Pr) : IvM := if min a.2 b.2 < max a.1 b.1 then none else some (max a.1 b.1, min a.2 b.2)
/-- an interval that isn't empty, handed in -/
structure XP (A B : End) (a : Pr) : Prop where
  lo : X A a.1
  hi : X B a.2
  le : a.1 ≤ a.2
  nh : isHigh A = false
  nl : isLow B = false
theorem add_ok {A B C D : End} {a b : Pr} (h : XP A B a) (g : XP C D b) : RI (some (plus true A C, plus false B D)) (some (addM a b)) := by
  refine ⟨?_, ?_, ?_⟩
  · have := (K_plus_low h.lo g.lo h.nh g.nh).lower (plus_low_nh h.nh g.nh)
    simpa using this
  · have := (K_plus_high h.hi g.hi h.nl g.nl).upper (plus_high_nl h.nl g.nl)
    simpa using this
  · have := h.le
    have := g.le
    show a.1 + b.1 ≤ a.2 + b.2
    omega
theorem minus_high (E : End) : isHigh (minus E) = isLow E := by cases E <;> rfl
theorem minus_low (E : End) : isLow (minus E) = isHigh E := by cases E <;> rfl
theorem XP.neg {A B : End} {a : Pr} (h : XP A B a) : XP (minus B) (minus A) (negM a) :=
  ⟨h.hi.minus, h.lo.minus, by have := h.le; show -a.2 ≤ -a.1; omega, by rw [minus_high]; exact h.nl, by rw [minus_low]; exact h.nh⟩
/-- four ends over one denominator -/
theorem four {p q r s : End} {P Q R S : Int} {D : Nat} (hp : K p P D) (hq : K q Q D) (hr : K r R D) (hs : K s S D)
    (nh : isHigh p = false ∨ isHigh q = false ∨ isHigh r = false ∨ isHigh s = false)
    (nl : isLow p = false ∨ isLow q = false ∨ isLow r = false ∨ isLow s = false) :
    RI (some (lesser (lesser p q) (lesser r s), greater (greater p q) (greater r s)))
      (some (min4 P Q R S / (D : Int), -(-(max4 P Q R S) / (D : Int)))) := by
  have hD := hp.pos
  refine ⟨?_, ?_, ?_⟩
  · refine ((hp.min hq).min (hr.min hs)).lower ?_
    apply lesser_high
    rcases nh with h | h | h | h
    · exact .inl (lesser_high (.inl h))
    · exact .inl (lesser_high (.inr h))
    · exact .inr (lesser_high (.inl h))
    · exact .inr (lesser_high (.inr h))
  · refine ((hp.max hq).max (hr.max hs)).upper ?_
    apply greater_low
    rcases nl with h | h | h | h
    · exact .inl (greater_low (.inl h))
    · exact .inl (greater_low (.inr h))
    · exact .inr (greater_low (.inl h))
    · exact .inr (greater_low (.inr h))
  · have hD' : (0 : Int) < D := by omega
    have l : min4 P Q R S ≤ max4 P Q R S := by unfold min4 max4; omega
    have a1 := Int.ediv_mul_le (min4 P Q R S) (show (D : Int) ≠ 0 by omega)
    have a2 := Int.ediv_mul_le (-(max4 P Q R S)) (show (D : Int) ≠ 0 by omega)
    have k : min4 P Q R S / (D : Int) * D ≤ -(-(max4 P Q R S) / (D : Int)) * D := by
      rw [Int.neg_mul]; omega
    exact Int.le_of_mul_le_mul_right k hD'
theorem times_nh {A B C D : End} {a b : Pr} (h : XP A B a) (g : XP C D b) :
    isHigh (times A C) = false ∨ isHigh (times A D) = false ∨ isHigh (times B C) = false ∨ isHigh (times B D) = false := by
  have hA := h.nh
  have hB := h.nl
  have hC := g.nh
  have hD := g.nl
  cases A with
  | high => cases hA
  | low =>
    cases D with
    | low => cases hD
    | high => exact .inr (.inl rfl)
    | fin w c f =>
      cases B with
      | low => cases hB
      | fin z d e => exact .inr (.inr (.inr rfl))
      | high =>
        by_cases n : w < 0
        · refine .inr (.inr (.inr ?_))
          have s : sign (End.fin w c f) = -1 := if_pos n
          show isHigh (if sign End.high * sign (End.fin w c f) = 0 then End.fin 0 1 0 else if sign End.high * sign (End.fin w c f) < 0 then End.low else End.high) = false
          rw [s]; rfl
        · refine .inr (.inl ?_)
          show isHigh (if sign End.low * sign (End.fin w c f) = 0 then End.fin 0 1 0 else if sign End.low * sign (End.fin w c f) < 0 then End.low else End.high) = false
          by_cases z : w = 0
          · have s : sign (End.fin w c f) = 0 := by subst z; rfl
            rw [s]; rfl
          · have s : sign (End.fin w c f) = 1 := by show (if w < 0 then (-1 : Int) else if w = 0 then 0 else 1) = 1; rw [if_neg n, if_neg z]
            rw [s]; rfl
  | fin z d e =>
    cases D with
    | low => cases hD
    | fin w c f => exact .inr (.inl rfl)
    | high =>
      cases C with
      | high => cases hC
      | fin y k j => exact .inl rfl
      | low =>
        by_cases n : z < 0
        · refine .inr (.inl ?_)
          have s : sign (End.fin z d e) = -1 := if_pos n
          show isHigh (if sign (End.fin z d e) * sign End.high = 0 then End.fin 0 1 0 else if sign (End.fin z d e) * sign End.high < 0 then End.low else End.high) = false
          rw [s]; rfl
        · refine .inl ?_
          show isHigh (if sign (End.fin z d e) * sign End.low = 0 then End.fin 0 1 0 else if sign (End.fin z d e) * sign End.low < 0 then End.low else End.high) = false
          by_cases q : z = 0
          · have s : sign (End.fin z d e) = 0 := by subst q; rfl
            rw [s]; rfl
          · have s : sign (End.fin z d e) = 1 := by show (if z < 0 then (-1 : Int) else if z = 0 then 0 else 1) = 1; rw [if_neg n, if_neg q]
            rw [s]; rfl
theorem times_minus_low (A B : End) : isLow (times A B) = isHigh (times (minus A) B) := by
  cases A with
  | low =>
    have t : times .low B = if sign End.low * sign B = 0 then .fin 0 1 0 else if sign End.low * sign B < 0 then .low else .high := by cases B <;> rfl
    have t2 : times (minus .low) B = if sign End.high * sign B = 0 then .fin 0 1 0 else if sign End.high * sign B < 0 then .low else .high := by cases B <;> rfl
    rw [t, t2]
    show isLow (if (-1 : Int) * sign B = 0 then .fin 0 1 0 else if (-1 : Int) * sign B < 0 then .low else .high) = isHigh (if (1 : Int) * sign B = 0 then .fin 0 1 0 else if (1 : Int) * sign B < 0 then .low else .high)
    generalize sign B = k
    rcases Int.lt_trichotomy k 0 with q | q | q
    · rw [if_neg (by omega), if_neg (by omega), if_neg (by omega), if_pos (by omega)]; rfl
    · subst q; rfl
    · rw [if_neg (by omega), if_pos (by omega), if_neg (by omega), if_neg (by omega)]; rfl
  | high =>
    have t : times .high B = if sign End.high * sign B = 0 then .fin 0 1 0 else if sign End.high * sign B < 0 then .low else .high := by cases B <;> rfl
    have t2 : times (minus .high) B = if sign End.low * sign B = 0 then .fin 0 1 0 else if sign End.low * sign B < 0 then .low else .high := by cases B <;> rfl
    rw [t, t2]
    show isLow (if (1 : Int) * sign B = 0 then .fin 0 1 0 else if (1 : Int) * sign B < 0 then .low else .high) = isHigh (if (-1 : Int) * sign B = 0 then .fin 0 1 0 else if (-1 : Int) * sign B < 0 then .low else .high)
    generalize sign B = k
    rcases Int.lt_trichotomy k 0 with q | q | q
    · rw [if_neg (by omega), if_pos (by omega), if_neg (by omega), if_neg (by omega)]; rfl
    · subst q; rfl
    · rw [if_neg (by omega), if_neg (by omega), if_neg (by omega), if_pos (by omega)]; rfl
  | fin z d e =>
    have sg : sign (minus (.fin z d e)) = -sign (.fin z d e) := by
      show (if -z < 0 then (-1 : Int) else if -z = 0 then 0 else 1) = -(if z < 0 then (-1 : Int) else if z = 0 then 0 else 1)
      by_cases a : z < 0
      · rw [if_pos a, if_neg (by omega), if_neg (by omega)]; rfl
      · rw [if_neg a]
        by_cases b : z = 0
        · subst b; rfl
        · rw [if_neg b, if_pos (by omega)]
    have main : ∀ k : Int, isLow (if k = 0 then End.fin 0 1 0 else if k < 0 then .low else .high) = isHigh (if -k = 0 then End.fin 0 1 0 else if -k < 0 then .low else .high) := by
      intro k
      rcases Int.lt_trichotomy k 0 with q | q | q
      · rw [if_neg (by omega), if_pos (by omega), if_neg (by omega), if_neg (by omega)]; rfl
      · subst q; rfl
      · rw [if_neg (by omega), if_neg (by omega), if_neg (by omega), if_pos (by omega)]; rfl
    cases B with
    | fin y c f => rfl
    | low =>
      show isLow (if sign (End.fin z d e) * sign End.low = 0 then .fin 0 1 0 else if sign (End.fin z d e) * sign End.low < 0 then .low else .high) = isHigh (if sign (minus (End.fin z d e)) * sign End.low = 0 then .fin 0 1 0 else if sign (minus (End.fin z d e)) * sign End.low < 0 then .low else .high)
      rw [sg, Int.neg_mul]; exact main _
    | high =>
      show isLow (if sign (End.fin z d e) * sign End.high = 0 then .fin 0 1 0 else if sign (End.fin z d e) * sign End.high < 0 then .low else .high) = isHigh (if sign (minus (End.fin z d e)) * sign End.high = 0 then .fin 0 1 0 else if sign (minus (End.fin z d e)) * sign End.high < 0 then .low else .high)
      rw [sg, Int.neg_mul]; exact main _
theorem mul_ok {A B C D : End} {a b : Pr} (h : XP A B a) (g : XP C D b) :
    RI (some (lesser (lesser (times A C) (times A D)) (lesser (times B C) (times B D)), greater (greater (times A C) (times A D)) (greater (times B C) (times B D)))) (some (mulM a b)) := by
  refine four (K_times h.lo g.lo) (K_times h.lo g.hi) (K_times h.hi g.lo) (K_times h.hi g.hi) (times_nh h g) ?_
  rw [times_minus_low, times_minus_low, times_minus_low, times_minus_low]
  rcases times_nh h.neg g with q | q | q | q
  · exact .inr (.inr (.inl q))
  · exact .inr (.inr (.inr q))
  · exact .inl q
  · exact .inr (.inl q)
/-! ### quotients -/
theorem by_high_fin {E : End} (h : isHigh E = false) (k : isLow E = false) : by_ E .high = .fin 0 1 0 := by
  cases E with
  | low => cases k
  | high => cases h
  | fin z d e => rfl
theorem by_pos_nh {E F : End} {v : Int} (g : X F v) (hv : 0 < v) (hE : isHigh E = false) : isHigh (by_ E F) = false := by
  have s := g.sign
  rw [if_neg (by omega), if_neg (by omega)] at s
  cases E with
  | high => cases hE
  | low =>
    have t : by_ .low F = if sign End.low * sign F < 0 then .low else .high := by cases F <;> rfl
    rw [t, s]; rfl
  | fin z d e => cases F <;> rfl
theorem by_pos_nl {E F : End} {v : Int} (g : X F v) (hv : 0 < v) (hE : isLow E = false) : isLow (by_ E F) = false := by
  have s := g.sign
  rw [if_neg (by omega), if_neg (by omega)] at s
  cases E with
  | low => cases hE
  | high =>
    have t : by_ .high F = if sign End.high * sign F < 0 then .low else .high := by cases F <;> rfl
    rw [t, s]; rfl
  | fin z d e => cases F <;> rfl
theorem mul_div_mul (a : Int) {b k : Nat} (hk : 0 < k) : a * (k : Int) / ((b * k : Nat) : Int) = a / (b : Int) := by
  rw [Int.natCast_mul]
  exact Int.mul_ediv_mul_of_pos_left a (b : Int) (by omega)
theorem small_div {x F : Int} (h0 : 0 ≤ x) (h : x < F) : x / F = 0 := Int.ediv_eq_zero_of_lt h0 h
/-- the four quotients by an interval above 0, over one denominator; what the code takes of them -/
theorem div_pos {A B C D : End} {a b : Pr} (h : XP A B a) (g : XP C D b) (hb : 0 < b.1) :
    ∃ (P Q R S : Int) (E : Nat), K (by_ A C) P E ∧ K (by_ A D) Q E ∧ K (by_ B C) R E ∧ K (by_ B D) S E ∧
      (min4 P Q R S / (E : Int), -(-(max4 P Q R S) / (E : Int))) = divPosM a b := by
  obtain ⟨a0, a1⟩ := a
  obtain ⟨b0, b1⟩ := b
  have hlo : X A a0 := h.lo
  have hhi : X B a1 := h.hi
  have glo : X C b0 := g.lo
  have ghi : X D b1 := g.hi
  have hle : a0 ≤ a1 := h.le
  have gle : b0 ≤ b1 := g.le
  have hb0 : 0 < b0 := hb
  have one0 := one_pos
  have f1 := far_one
  have fw := farw_pos
  have hO : (0 : Int) < (ONE : Int) := by omega
  by_cases inf : isHigh D = true
  · -- the divisor goes to infinity
    have hD : D = .high := by cases D with
      | high => rfl
      | low => cases inf
      | fin z d e => cases inf
    subst hD
    have eb1 : b1 = (FARW : Int) := ghi
    have kA := K_by hlo glo hb0 g.nh 1 (by decide)
    have kB := K_by hhi glo hb0 g.nh 1 (by decide)
    simp only [Int.natCast_one, Int.mul_one, Nat.mul_one] at kA kB
    have kpos := kA.pos
    have eb0 : ((b0.natAbs : Nat) : Int) = b0 := by omega
    -- an end by infinity
    have kinf : ∀ {E : End} {u : Int}, X E u → K (by_ E .high) (if u.natAbs = FARW then u * (ONE : Int) else 0) b0.natAbs := by
      intro E u hx
      cases E with
      | low =>
        rw [if_pos (hx.big (.inr rfl))]
        have t : by_ .low .high = by_ .low C := by
          have s := glo.sign
          rw [if_neg (by omega), if_neg (by omega)] at s
          have t : by_ .low C = if sign End.low * sign C < 0 then .low else .high := by cases C <;> rfl
          rw [t, s]; rfl
        rw [t]
        have := K_by hx glo hb0 g.nh 1 (by decide)
        simpa only [Int.natCast_one, Int.mul_one, Nat.mul_one] using this
      | high =>
        rw [if_pos (hx.big (.inl rfl))]
        have t : by_ .high .high = by_ .high C := by
          have s := glo.sign
          rw [if_neg (by omega), if_neg (by omega)] at s
          have t : by_ .high C = if sign End.high * sign C < 0 then .low else .high := by cases C <;> rfl
          rw [t, s]; rfl
        rw [t]
        have := K_by hx glo hb0 g.nh 1 (by decide)
        simpa only [Int.natCast_one, Int.mul_one, Nat.mul_one] using this
      | fin z d e =>
        have sm := hx.small rfl rfl
        have := far_two
        rw [if_neg (by omega)]
        exact K_zero _ kpos
    refine ⟨_, _, _, _, _, kA, kinf hlo, kB, kinf hhi, ?_⟩
    rw [eb0]
    unfold divPosM
    dsimp only
    have mono : ∀ {x y : Int}, x ≤ y → x * (ONE : Int) ≤ y * (ONE : Int) := fun q => Int.mul_le_mul_of_nonneg_right q (Int.le_of_lt hO)
    have m01 := mono hle
    have z0 : (0 : Int) * (ONE : Int) = 0 := Int.zero_mul _
    refine Prod.ext ?_ ?_
    · show min4 _ _ _ _ / b0 = a0 * (ONE : Int) / (if a0 < 0 then b0 else b1)
      by_cases c : a0 < 0
      · rw [if_pos c]
        have n0 := mono (show a0 ≤ 0 by omega)
        have : min4 (a0 * (ONE : Int)) (if a0.natAbs = FARW then a0 * (ONE : Int) else 0) (a1 * (ONE : Int)) (if a1.natAbs = FARW then a1 * (ONE : Int) else 0) = a0 * (ONE : Int) := by
          unfold min4; split <;> split <;> omega
        rw [this]
      · rw [if_neg c, eb1]
        have ea0 : a0.natAbs < FARTH := by
          have := h.nh
          cases A with
          | low => have q : a0 = -(FARW : Int) := hlo; omega
          | high => cases this
          | fin z d e => exact hlo.2.2.2
        have n0 := mono (show 0 ≤ a0 by omega)
        have n1 := mono (show 0 ≤ a1 by omega)
        have ft := far_two
        have : min4 (a0 * (ONE : Int)) (if a0.natAbs = FARW then a0 * (ONE : Int) else 0) (a1 * (ONE : Int)) (if a1.natAbs = FARW then a1 * (ONE : Int) else 0) = 0 := by
          rw [if_neg (by omega)]
          unfold min4; split <;> omega
        rw [this, Int.zero_ediv, small_div (by omega)]
        have : a0 * (ONE : Int) ≤ (FARTH : Int) * (ONE : Int) := mono (by omega)
        have e : (FARTH : Int) * (ONE : Int) = ((FARTH * ONE : Nat) : Int) := by rw [Int.natCast_mul]
        rw [e] at this
        omega
    · show -(-(max4 _ _ _ _) / b0) = -(-a1 * (ONE : Int) / (if a1 < 0 then b1 else b0))
      by_cases c : a1 < 0
      · rw [if_pos c, eb1]
        have ea1 : a1.natAbs < FARTH := by
          have := h.nl
          cases B with
          | high => have q : a1 = (FARW : Int) := hhi; omega
          | low => cases this
          | fin z d e => exact hhi.2.2.2
        have n0 := mono (show a0 ≤ 0 by omega)
        have n1 := mono (show a1 ≤ 0 by omega)
        have ft := far_two
        have : max4 (a0 * (ONE : Int)) (if a0.natAbs = FARW then a0 * (ONE : Int) else 0) (a1 * (ONE : Int)) (if a1.natAbs = FARW then a1 * (ONE : Int) else 0) = 0 := by
          rw [if_neg (c := a1.natAbs = FARW) (by omega)]
          unfold max4; split <;> omega
        have nn := mono (show 0 ≤ -a1 by omega)
        rw [this, Int.neg_zero, Int.zero_ediv, small_div (by omega)]
        have : -a1 * (ONE : Int) ≤ (FARTH : Int) * (ONE : Int) := mono (by omega)
        have e : (FARTH : Int) * (ONE : Int) = ((FARTH * ONE : Nat) : Int) := by rw [Int.natCast_mul]
        rw [e] at this
        omega
      · rw [if_neg c]
        have n1 := mono (show 0 ≤ a1 by omega)
        have : max4 (a0 * (ONE : Int)) (if a0.natAbs = FARW then a0 * (ONE : Int) else 0) (a1 * (ONE : Int)) (if a1.natAbs = FARW then a1 * (ONE : Int) else 0) = a1 * (ONE : Int) := by
          unfold max4; split <;> split <;> omega
        rw [this, Int.neg_mul]
  · -- both ends of the divisor are finite
    have gnh : isHigh D = false := by cases D <;> simp_all [isHigh]
    have hb1 : 0 < b1 := by omega
    have kp := K_by hlo glo hb0 g.nh b1.natAbs (by omega)
    have kq := K_by hlo ghi hb1 gnh b0.natAbs (by omega)
    have kr := K_by hhi glo hb0 g.nh b1.natAbs (by omega)
    have ks := K_by hhi ghi hb1 gnh b0.natAbs (by omega)
    rw [Nat.mul_comm b1.natAbs b0.natAbs] at kq ks
    refine ⟨_, _, _, _, _, kp, kq, kr, ks, ?_⟩
    have eb0 : ((b0.natAbs : Nat) : Int) = b0 := by omega
    have eb1 : ((b1.natAbs : Nat) : Int) = b1 := by omega
    unfold divPosM
    dsimp only
    have mono : ∀ {x y : Int}, x ≤ y → x * (ONE : Int) ≤ y * (ONE : Int) := fun q => Int.mul_le_mul_of_nonneg_right q (Int.le_of_lt hO)
    have m01 := mono hle
    have sg0 : a0 < 0 → a0 * (ONE : Int) < 0 := fun q => Int.mul_neg_of_neg_of_pos q hO
    have sg1 : ∀ x : Int, 0 ≤ x → 0 ≤ x * (ONE : Int) := fun x q => Int.mul_nonneg q (Int.le_of_lt hO)
    have sg2 : a1 < 0 → a1 * (ONE : Int) < 0 := fun q => Int.mul_neg_of_neg_of_pos q hO
    have c1 : a0 * (ONE : Int) * b1 / ((b0.natAbs * b1.natAbs : Nat) : Int) = a0 * (ONE : Int) / b0 := by
      have := mul_div_mul (a0 * (ONE : Int)) (b := b0.natAbs) (k := b1.natAbs) (by omega)
      rw [eb0, eb1] at this; exact this
    have c2 : a0 * (ONE : Int) * b0 / ((b0.natAbs * b1.natAbs : Nat) : Int) = a0 * (ONE : Int) / b1 := by
      have := mul_div_mul (a0 * (ONE : Int)) (b := b1.natAbs) (k := b0.natAbs) (by omega)
      rw [eb0, eb1, Nat.mul_comm] at this; exact this
    have c3 : -(a1 * (ONE : Int) * b1) / ((b0.natAbs * b1.natAbs : Nat) : Int) = -a1 * (ONE : Int) / b0 := by
      have := mul_div_mul (-a1 * (ONE : Int)) (b := b0.natAbs) (k := b1.natAbs) (by omega)
      rw [eb0, eb1] at this; rw [← this, Int.neg_mul, Int.neg_mul]
    have c4 : -(a1 * (ONE : Int) * b0) / ((b0.natAbs * b1.natAbs : Nat) : Int) = -a1 * (ONE : Int) / b1 := by
      have := mul_div_mul (-a1 * (ONE : Int)) (b := b1.natAbs) (k := b0.natAbs) (by omega)
      rw [eb0, eb1, Nat.mul_comm] at this; rw [← this, Int.neg_mul, Int.neg_mul]
    rw [eb0, eb1]
    -- the order among the four
    have mr : ∀ {x y k : Int}, x ≤ y → 0 ≤ k → x * k ≤ y * k := fun q w => Int.mul_le_mul_of_nonneg_right q w
    have ml : ∀ {x k l : Int}, 0 ≤ x → k ≤ l → x * k ≤ x * l := fun q w => Int.mul_le_mul_of_nonneg_left w q
    have mln : ∀ {x k l : Int}, x ≤ 0 → k ≤ l → x * l ≤ x * k := fun q w => Int.mul_le_mul_of_nonpos_left q w
    have t1 := mr m01 (Int.le_of_lt hb0)
    have t2 := mr m01 (Int.le_of_lt hb1)
    refine Prod.ext ?_ ?_
    · show min4 (a0 * (ONE : Int) * b1) (a0 * (ONE : Int) * b0) (a1 * (ONE : Int) * b1) (a1 * (ONE : Int) * b0) / _ = a0 * (ONE : Int) / (if a0 < 0 then b0 else b1)
      by_cases c : a0 < 0
      · rw [if_pos c, ← c1]
        congr 1
        have := mln (Int.le_of_lt (sg0 c)) gle
        unfold min4; omega
      · rw [if_neg c, ← c2]
        congr 1
        have := ml (sg1 a0 (by omega)) gle
        have := ml (sg1 a1 (by omega)) gle
        unfold min4; omega
    · show -(-(max4 (a0 * (ONE : Int) * b1) (a0 * (ONE : Int) * b0) (a1 * (ONE : Int) * b1) (a1 * (ONE : Int) * b0)) / _) = -(-a1 * (ONE : Int) / (if a1 < 0 then b1 else b0))
      by_cases c : a1 < 0
      · rw [if_pos c, ← c4]
        congr 3
        have := mln (Int.le_of_lt (sg2 c)) gle
        unfold max4; omega
      · rw [if_neg c, ← c3]
        congr 3
        have := ml (sg1 a1 (by omega)) gle
        unfold max4; omega
theorem holds_zero {C D : End} {b : Pr} (g : XP C D b) : holdsZero (C, D) = decide (¬ b.2 < 0 ∧ ¬ 0 < b.1) := by
  have s1 := g.lo.sign
  have s2 := g.hi.sign
  unfold holdsZero
  dsimp only
  rw [s1, s2]
  have : ∀ (p q : Prop) [Decidable p] [Decidable q], (decide p && decide q) = decide (p ∧ q) := by intros; simp
  rw [this]
  apply decide_eq_decide.mpr
  constructor
  · intro ⟨x, y⟩
    constructor
    · intro n; rw [if_pos n] at y; omega
    · intro n; rw [if_neg (by omega), if_neg (by omega)] at x; omega
  · intro ⟨x, y⟩
    constructor
    · split; omega; split <;> omega
    · rw [if_neg x]; split <;> omega
theorem div_ok {A B C D : End} {a b : Pr} (h : XP A B a) (g : XP C D b) :
    RI (if holdsZero (C, D) = true then some (.low, .high) else
      some (lesser (lesser (by_ A C) (by_ A D)) (lesser (by_ B C) (by_ B D)), greater (greater (by_ A C) (by_ A D)) (greater (by_ B C) (by_ B D)))) (some (divM a b)) := by
  rw [holds_zero g]
  unfold divM
  by_cases n : b.2 < 0
  · rw [if_neg (by simp; intro q; omega), if_pos n]
    have gn := g.neg
    have b1n : b.1 ≠ 0 := by have := g.le; omega
    have b2n : b.2 ≠ 0 := by omega
    obtain ⟨P, Q, R, S, E, k1, k2, k3, k4, e⟩ := div_pos h.neg gn (by show 0 < -b.2; omega)
    rw [by_minus g.hi b2n] at k1 k3
    rw [by_minus g.lo b1n] at k2 k4
    rw [← e]
    have e1 : min4 P Q R S = min4 S R Q P := by unfold min4; omega
    have e2 : max4 P Q R S = max4 S R Q P := by unfold max4; omega
    rw [e1, e2]
    refine four k4 k3 k2 k1 ?_ ?_
    · refine .inr (.inr (.inr ?_))
      rw [← by_minus g.hi b2n]
      exact by_pos_nh gn.lo (by show 0 < -b.2; omega) h.neg.nh
    · refine .inr (.inl ?_)
      rw [← by_minus g.hi b2n]
      exact by_pos_nl gn.lo (by show 0 < -b.2; omega) h.neg.nl
  · rw [if_neg n]
    by_cases p : 0 < b.1
    · rw [if_neg (by simp; intro q; omega), if_pos p]
      obtain ⟨P, Q, R, S, E, k1, k2, k3, k4, e⟩ := div_pos h g p
      rw [← e]
      exact four k1 k2 k3 k4 (.inl (by_pos_nh g.lo p h.nh)) (.inr (.inr (.inl (by_pos_nl g.lo p h.nl))))
    · rw [if_pos (by simp; omega), if_neg p]
      exact X.ri (A := .low) (B := .high) rfl rfl (by have := farw_pos; omega) rfl rfl
def hullS (r s : Iv) : Iv := match r, s with
  | some a, some b => some (lesser a.1 b.1, greater a.2 b.2)
  | some a, none => some a
  | none, b => b
theorem hull_ok {r s : Iv} {p q : IvM} (h : XI r p) (g : XI s q) : RI (hullS r s) (hullM p q) := by
  match r, p, h with
  | none, none, _ =>
    match s, q, g with
    | none, none, _ => trivial
    | some (C, D), some (x, y), ⟨g1, g2, g3, g4, g5⟩ => exact X.ri g1 g2 g3 g4 g5
  | some (A, B), some (u, v), ⟨h1, h2, h3, h4, h5⟩ =>
    match s, q, g with
    | none, none, _ => exact X.ri h1 h2 h3 h4 h5
    | some (C, D), some (x, y), ⟨g1, g2, g3, g4, g5⟩ =>
      exact X.ri (h1.min g1) (h2.max g2) (by omega) (lesser_high (.inl h4)) (greater_low (.inl h5))
theorem greater_high {E F : End} (h : isHigh E = false) (g : isHigh F = false) : isHigh (greater E F) = false := by
  unfold greater
  split <;> assumption
theorem lesser_low {E F : End} (h : isLow E = false) (g : isLow F = false) : isLow (lesser E F) = false := by
  unfold lesser
  split <;> assumption
theorem common_ok {A B C D : End} {a b : Pr} (h : XP A B a) (g : XP C D b) :
    RI (if le (greater A C) (lesser B D) = true then some (greater A C, lesser B D) else none) (commonM a b) := by
  have x1 := h.lo.max g.lo
  have x2 := h.hi.min g.hi
  rw [x1.le x2]
  unfold commonM
  by_cases c : max a.1 b.1 ≤ min a.2 b.2
  · rw [if_pos (decide_eq_true c), if_neg (by omega)]
    exact X.ri x1 x2 c (greater_high h.nh g.nh) (lesser_low h.nl g.nl)
  · rw [if_neg (by rw [decide_eq_false c]; decide), if_pos (by omega)]
    trivial
end Enc
end
section
set_option Elab.async false
set_option exponentiation.threshold 200
set_option linter.all false
namespace Enc
open Sz05
/-- the greatest whole number whose square is not above n -/
structure IsR (n r : Nat) : Prop where
  lo : r * r ≤ n
  hi : n < (r + 1) * (r + 1)
theorem sq_le {a b : Nat} : a * a ≤ b * b ↔ a ≤ b := by
  constructor
  · intro h
    by_cases c : a ≤ b
    · exact c
    · have h1 : (b + 1) * (b + 1) ≤ a * a := Nat.mul_le_mul (by omega) (by omega)
      have h2 : b * b < (b + 1) * (b + 1) := Nat.mul_self_lt_mul_self (by omega)
      omega
  · intro h
    exact Nat.mul_le_mul h h
theorem sq_lt {a b : Nat} : a * a < b * b ↔ a < b := by
  have := sq_le (a := b) (b := a)
  omega
theorem IsR.unique {n r t : Nat} (h : IsR n r) (g : IsR n t) : r = t := by
  have h1 : r < t + 1 := sq_lt.mp (Nat.lt_of_le_of_lt h.lo g.hi)
  have h2 : t < r + 1 := sq_lt.mp (Nat.lt_of_le_of_lt g.lo h.hi)
  omega
theorem rootFrom_ok (n : Nat) : ∀ (k r : Nat), r * r ≤ n → n < (r + 2 ^ k) * (r + 2 ^ k) → IsR n (rootFrom n k r)
  | 0, r, h1, h2 => ⟨h1, by show n < (r + 1) * (r + 1); simpa using h2⟩
  | k + 1, r, h1, h2 => by
    unfold rootFrom
    by_cases c : (r + 2 ^ k) * (r + 2 ^ k) ≤ n
    · rw [if_pos c]
      refine rootFrom_ok n k _ c ?_
      rw [Nat.pow_succ, Nat.mul_two, ← Nat.add_assoc] at h2
      exact h2
    · rw [if_neg c]
      exact rootFrom_ok n k _ h1 (by omega)
theorem root_is (n : Nat) : IsR n (root n) := by
  unfold root
  refine rootFrom_ok n _ 0 (by simp) ?_
  rw [Nat.zero_add, ← Nat.pow_add]
  exact Nat.lt_of_lt_of_le (Nat.lt_log2_self) (pow_mono (by omega))
theorem val_multiple {c k : Nat} (h : 2 ^ (52 + k) ≤ val c) : ∃ q, val c = q * 2 ^ k := by
  obtain ⟨x, m, e, h1, h2⟩ := parts c
  subst e
  rw [val_parts (by omega) h2] at h ⊢
  have hx : k ≤ x := by
    by_cases q : k ≤ x
    · exact q
    · exfalso
      have a : m * 2 ^ x < 2 ^ 53 * 2 ^ x := Nat.mul_lt_mul_of_pos_right h1 (pow_pos' x)
      rw [← Nat.pow_add] at a
      have b : 2 ^ (53 + x) ≤ 2 ^ (52 + k) := pow_mono (by omega)
      omega
  refine ⟨m * 2 ^ (x - k), ?_⟩
  rw [Nat.mul_assoc, ← Nat.pow_add]
  congr 2
  omega
/-- a double above r 2^k, which has digits enough, is at or above the next such number -/
theorem val_next {c k r : Nat} (hr : 2 ^ 52 ≤ r) (h : r * 2 ^ k < val c) : (r + 1) * 2 ^ k ≤ val c := by
  have : 2 ^ (52 + k) ≤ val c := by
    rw [Nat.pow_add]
    have := Nat.mul_le_mul_right (2 ^ k) hr
    omega
  obtain ⟨q, e⟩ := val_multiple this
  rw [e] at h ⊢
  have : r < q := Nat.lt_of_mul_lt_mul_right h
  exact Nat.mul_le_mul_right _ (by omega)
theorem shift_lo {s k r : Nat} (h : IsR (s / 4 ^ k) r) : r * 2 ^ k * (r * 2 ^ k) ≤ s := by
  have e : r * 2 ^ k * (r * 2 ^ k) = r * r * 4 ^ k := by
    rw [show (4 : Nat) = 2 * 2 from rfl, Nat.mul_pow]; ac_rfl
  rw [e]
  exact Nat.le_trans (Nat.mul_le_mul_right _ h.lo) (Nat.div_mul_le_self s (4 ^ k))
theorem shift_hi {s k r : Nat} (h : IsR (s / 4 ^ k) r) : s < (r + 1) * 2 ^ k * ((r + 1) * 2 ^ k) := by
  have e : (r + 1) * 2 ^ k * ((r + 1) * 2 ^ k) = (r + 1) * (r + 1) * 4 ^ k := by
    rw [show (4 : Nat) = 2 * 2 from rfl, Nat.mul_pow]; ac_rfl
  rw [e]
  have hp : 0 < 4 ^ k := Nat.pow_pos (by decide)
  exact (Nat.div_lt_iff_lt_mul hp).mp h.hi
/-- the doubles not above the root -/
theorem root_dn {s k r : Nat} (h : IsR (s / 4 ^ k) r) (hr : 2 ^ 52 ≤ r) (c : Nat) : val c ≤ r * 2 ^ k ↔ val c * val c ≤ s := by
  constructor
  · intro q
    exact Nat.le_trans (Nat.mul_le_mul q q) (shift_lo h)
  · intro q
    by_cases w : val c ≤ r * 2 ^ k
    · exact w
    · exfalso
      have a := val_next hr (show r * 2 ^ k < val c by omega)
      have b := Nat.mul_le_mul a a
      have := shift_hi h
      omega
theorem root_up {s k r : Nat} (h : IsR (s / 4 ^ k) r) (hr : 2 ^ 52 ≤ r) (hne : r * 2 ^ k * (r * 2 ^ k) ≠ s) (c : Nat) : (r + 1) * 2 ^ k ≤ val c ↔ s ≤ val c * val c := by
  constructor
  · intro q
    have := shift_hi h
    exact Nat.le_trans (Nat.le_of_lt this) (Nat.mul_le_mul q q)
  · intro q
    have a := shift_lo h
    have b : r * 2 ^ k * (r * 2 ^ k) < val c * val c := by omega
    exact val_next hr (sq_lt.mp b)
theorem root_exact {s k r : Nat} (he : r * 2 ^ k * (r * 2 ^ k) = s) (c : Nat) : r * 2 ^ k ≤ val c ↔ s ≤ val c * val c := by
  rw [← he, sq_le]
theorem big_root {n r j : Nat} (h : IsR n r) (hn : 2 ^ 105 ≤ n) : 2 ^ 52 ≤ r := by
  by_cases c : 2 ^ 52 ≤ r
  · exact c
  · exfalso
    have a : (r + 1) * (r + 1) ≤ 2 ^ 52 * 2 ^ 52 := Nat.mul_le_mul (by omega) (by omega)
    have := h.hi
    omega
/-- the code's bounds of a root -/
def spareOf (s : Nat) : Nat := bl s / 2 - 53
def rootLow (s : Nat) : Nat := root (s / 4 ^ spareOf s) * 2 ^ spareOf s
def rootB (u : Nat) : Nat × Nat :=
  if rootLow (u * ONE) * rootLow (u * ONE) = u * ONE then (rootLow (u * ONE), rootLow (u * ONE)) else (rootLow (u * ONE), rootLow (u * ONE) + 2 ^ spareOf (u * ONE))
theorem rootB_zero : rootB 0 = (0, 0) := by
  unfold rootB
  rw [Nat.zero_mul]
  decide
theorem rootB_lo (u : Nat) : (rootB u).1 = rootLow (u * ONE) := by unfold rootB; split <;> rfl
theorem rootB_lo_sq (u : Nat) : (rootB u).1 * (rootB u).1 ≤ u * ONE := by
  rw [rootB_lo]
  exact shift_lo (root_is _)
theorem rootB_hi_sq (u : Nat) : u * ONE ≤ (rootB u).2 * (rootB u).2 := by
  unfold rootB
  split
  · rename_i h
    exact Nat.le_of_eq h.symm
  · have := shift_hi (s := u * ONE) (k := spareOf (u * ONE)) (root_is _)
    rw [Nat.add_mul, Nat.one_mul] at this
    exact Nat.le_of_lt this
theorem code_digits {u : Nat} (h : 0 < u) : 2 ^ 52 ≤ root (u * ONE / 4 ^ spareOf (u * ONE)) := by
  refine big_root (j := 0) (root_is _) ?_
  have h0 : u * ONE ≠ 0 := Nat.pos_iff_ne_zero.mp (Nat.mul_pos h one_pos)
  have hb := (bl_bounds h0).1
  have h1 : ONE ≤ u * ONE := Nat.le_mul_of_pos_left _ h
  have h2 : 1074 < bl (u * ONE) := by
    have := lt_bl (u * ONE)
    have : 2 ^ 1074 < 2 ^ bl (u * ONE) := Nat.lt_of_le_of_lt h1 this
    exact (Nat.pow_lt_pow_iff_right (by decide)).mp this
  rw [le_div (Nat.pow_pos (by decide)), show (4 : Nat) = 2 ^ 2 from rfl, ← Nat.pow_mul, ← Nat.pow_add]
  refine Nat.le_trans (pow_mono ?_) hb
  unfold spareOf
  omega
theorem gdn_congr {a b : Nat} (h : ∀ c, val c ≤ a ↔ val c ≤ b) : gdn a = gdn b :=
  eq_of_le_iff fun c => by rw [← gdn_iff, ← gdn_iff, h]
theorem gup_congr {a b : Nat} (h : ∀ c, a ≤ val c ↔ b ≤ val c) : gup a = gup b :=
  eq_of_ge_iff fun c => by rw [← gup_iff, ← gup_iff, h]
theorem rootB_dn {u : Nat} (h : 0 < u) (c : Nat) : val c ≤ (rootB u).1 ↔ val c * val c ≤ u * ONE := by
  rw [rootB_lo]
  exact root_dn (root_is _) (code_digits h) c
theorem rootB_up {u : Nat} (h : 0 < u) (c : Nat) : (rootB u).2 ≤ val c ↔ u * ONE ≤ val c * val c := by
  unfold rootB
  split
  · rename_i q
    exact root_exact (k := spareOf (u * ONE)) (r := root (u * ONE / 4 ^ spareOf (u * ONE))) q c
  · rename_i q
    have := root_up (root_is _) (code_digits h) q c
    rw [Nat.add_mul, Nat.one_mul] at this
    exact this
theorem two_pow_pred {g : Nat} (h : 1 ≤ g) : 2 ^ g = 2 * 2 ^ (g - 1) := by
  obtain ⟨k, rfl⟩ : ∃ k, g = k + 1 := ⟨g - 1, by omega⟩
  rw [Nat.pow_succ, Nat.mul_comm, Nat.add_sub_cancel]
/-- the specification's root of a finite end above 0 -/
theorem root_fin {z : Int} {e : Int} {u : Int} (h : X (.fin z 1 e) u) (hz : 0 < z) :
    bitsOf false (rootOf (.fin z 1 e)) = dnB (rootB u.natAbs).1 ∧ bitsOf true (rootOf (.fin z 1 e)) = upB (rootB u.natAbs).2 := by
  obtain ⟨_, h2, h3, _⟩ := h
  have hu : u.natAbs = z.natAbs * 2 ^ (e + 1074).toNat := by rw [← h3, Int.natAbs_mul, Int.natAbs_natCast]
  have hu0 : 0 < u.natAbs := by rw [hu]; exact Nat.mul_pos (by omega) (pow_pos' _)
  generalize hn : (if e % 2 = 0 then z.natAbs else 2 * z.natAbs) * 4 ^ 64 = n
  generalize hf : (if e % 2 = 0 then e else e - 1) / 2 - 64 = f
  have hfl : -601 ≤ f := by rw [← hf]; split <;> omega
  obtain ⟨g, hg⟩ : ∃ g : Nat, (f + 1074) = (g : Int) := ⟨(f + 1074).toNat, by omega⟩
  have hg1 : 1 ≤ g := by omega
  have hs : u.natAbs * ONE = n * 4 ^ g := by
    rw [hu, ← hn]
    unfold ONE
    have e4 : ∀ k, (4 : Nat) ^ k = 2 ^ (2 * k) := fun k => by rw [show (4 : Nat) = 2 ^ 2 from rfl, ← Nat.pow_mul]
    rw [e4, e4]
    by_cases p : e % 2 = 0
    · rw [if_pos p, Nat.mul_assoc, Nat.mul_assoc, ← Nat.pow_add, ← Nat.pow_add]
      congr 2
      rw [if_pos p] at hf
      omega
    · rw [if_neg p, Nat.mul_assoc, Nat.mul_assoc, ← Nat.pow_add, ← Nat.pow_add, Nat.mul_comm 2, Nat.mul_assoc]
      rw [Nat.mul_comm 2, ← Nat.pow_succ]
      congr 2
      rw [if_neg p] at hf
      omega
  have hsn : u.natAbs * ONE / 4 ^ g = n := by rw [hs]; exact Nat.mul_div_cancel _ (Nat.pow_pos (by decide))
  have hR : IsR (u.natAbs * ONE / 4 ^ g) (root n) := by rw [hsn]; exact root_is n
  have hr : 2 ^ 52 ≤ root n := by
    refine big_root (j := 0) (root_is n) ?_
    rw [← hn]
    have : 1 ≤ (if e % 2 = 0 then z.natAbs else 2 * z.natAbs) := by split <;> omega
    have := Nat.mul_le_mul_right (4 ^ 64) this
    omega
  have hex : root n * 2 ^ g * (root n * 2 ^ g) = u.natAbs * ONE ↔ root n * root n = n := by
    have e1 : root n * 2 ^ g * (root n * 2 ^ g) = root n * root n * 4 ^ g := by
      rw [show (4 : Nat) = 2 * 2 from rfl, Nat.mul_pow]; ac_rfl
    rw [e1, hs]
    constructor
    · intro q; exact Nat.eq_of_mul_eq_mul_right (Nat.pow_pos (by decide)) q
    · intro q; rw [q]
  have hdef : rootOf (.fin z 1 e) = if root n * root n = n then .fin (root n) 1 f else .fin (2 * (root n : Int) + 1) 1 (f - 1) := by
    rw [← hf]
    unfold rootOf
    dsimp only
    rw [hn]
  rw [hdef]
  by_cases q : root n * root n = n
  · rw [if_pos q]
    have iz : IsZ ((root n : Nat) : Int) 1 f ((root n * 2 ^ g : Nat) : Int) 1 := by
      refine ⟨by decide, by decide, ?_⟩
      rw [show (f + 1074).toNat = g by omega, show (-(f + 1074)).toNat = 0 by omega]
      simp
    have l := low_fin iz
    have w := up_fin iz
    constructor
    · rw [l]
      have : ((root n * 2 ^ g : Nat) : Int) / ((1 : Nat) : Int) = ((root n * 2 ^ g : Nat) : Int) := Int.ediv_one _
      rw [this, lowerB_nat]
      unfold dnB
      rw [gdn_congr (b := (rootB u.natAbs).1) fun c => by rw [root_dn hR hr, rootB_dn hu0]]
    · rw [w]
      have : -(-((root n * 2 ^ g : Nat) : Int) / ((1 : Nat) : Int)) = ((root n * 2 ^ g : Nat) : Int) := by
        rw [show ((1 : Nat) : Int) = 1 from rfl, Int.ediv_one, Int.neg_neg]
      rw [this, upperB_nat]
      unfold upB
      rw [gup_congr (b := (rootB u.natAbs).2) fun c => by rw [root_exact (hex.mpr q), rootB_up hu0]]
  · rw [if_neg q]
    have hne : root n * 2 ^ g * (root n * 2 ^ g) ≠ u.natAbs * ONE := fun k => q (hex.mp k)
    have eg : 2 ^ g = 2 * 2 ^ (g - 1) := two_pow_pred hg1
    have iz : IsZ (2 * ((root n : Nat) : Int) + 1) 1 (f - 1) (((2 * root n + 1) * 2 ^ (g - 1) : Nat) : Int) 1 := by
      refine ⟨by decide, by decide, ?_⟩
      rw [show (f - 1 + 1074).toNat = g - 1 by omega, show (-(f - 1 + 1074)).toNat = 0 by omega]
      simp
    have l := low_fin iz
    have w := up_fin iz
    have p0 := pow_pos' (g - 1)
    have b1 : root n * 2 ^ g < (2 * root n + 1) * 2 ^ (g - 1) := by
      rw [eg, ← Nat.mul_assoc, Nat.mul_comm (root n) 2]
      exact Nat.mul_lt_mul_of_pos_right (by omega) p0
    have b2 : (2 * root n + 1) * 2 ^ (g - 1) < (root n + 1) * 2 ^ g := by
      rw [eg, ← Nat.mul_assoc]
      exact Nat.mul_lt_mul_of_pos_right (by omega) p0
    generalize (2 * root n + 1) * 2 ^ (g - 1) = V at *
    constructor
    · rw [l]
      have : ((V : Nat) : Int) / ((1 : Nat) : Int) = (V : Int) := Int.ediv_one _
      rw [this, lowerB_nat]
      unfold dnB
      rw [gdn_congr (b := (rootB u.natAbs).1) fun c => by
        rw [rootB_dn hu0, ← root_dn hR hr]
        constructor
        · intro k
          by_cases d : val c ≤ root n * 2 ^ g
          · exact d
          · have := val_next hr (show root n * 2 ^ g < val c by omega); omega
        · intro k; omega]
    · rw [w]
      have : -(-((V : Nat) : Int) / ((1 : Nat) : Int)) = (V : Int) := by
        rw [show ((1 : Nat) : Int) = 1 from rfl, Int.ediv_one, Int.neg_neg]
      rw [this, upperB_nat]
      unfold upB
      rw [gup_congr (b := (rootB u.natAbs).2) fun c => by
        rw [rootB_up hu0, ← root_up hR hr hne]
        constructor
        · intro k; exact val_next hr (by omega)
        · intro k; omega]
def rootM (a : Pr) : IvM := if a.2 < 0 then none else some ((((rootB (max 0 a.1).natAbs).1 : Nat) : Int), (((rootB a.2.natAbs).2 : Nat) : Int))
theorem root_ok {A B : End} {a : Pr} (h : XP A B a) : RI (if sign B < 0 then none else some (if sign A ≤ 0 then zero else rootOf A, rootOf B)) (rootM a) := by
  have s1 := h.lo.sign
  have s2 := h.hi.sign
  have hl := h.le
  unfold rootM
  by_cases n : a.2 < 0
  · rw [if_pos (by rw [s2, if_pos n]; decide), if_pos n]
    trivial
  · rw [if_neg (by rw [s2, if_neg n]; split <;> decide), if_neg n]
    refine ⟨?_, ?_, ?_⟩
    · rw [lowerB_nat]
      by_cases c : 0 < a.1
      · rw [if_neg (by rw [s1, if_neg (by omega), if_neg (by omega)]; decide)]
        have e : max 0 a.1 = a.1 := by omega
        rw [e]
        have hx := h.lo
        have hh := h.nh
        cases A with
        | high => cases hh
        | low => have : a.1 = -(FARW : Int) := hx; omega
        | fin z d e =>
          have d1 : d = 1 := hx.1
          subst d1
          refine (root_fin hx ?_).1
          have := hx.isZ.sign
          rcases Int.lt_trichotomy z 0 with q | q | q
          · have := this.1.mp q; omega
          · have := this.2.mp q; omega
          · exact q
      · rw [if_pos (by rw [s1]; split; decide; rw [if_pos (by omega)]; decide)]
        have e : max 0 a.1 = 0 := by omega
        rw [e]
        show bitsOf false zero = dnB (rootB 0).1
        rw [rootB_zero]
        decide
    · rw [upperB_nat]
      have hx := h.hi
      have hh := h.nl
      cases B with
      | low => cases hh
      | high =>
        have e : a.2 = (FARW : Int) := hx
        rw [upB_far]
        · rfl
        · by_cases c : FARTH ≤ (rootB a.2.natAbs).2
          · exact c
          · exfalso
            have q := rootB_hi_sq a.2.natAbs
            have w : (rootB a.2.natAbs).2 * (rootB a.2.natAbs).2 < FARTH * FARTH := sq_lt.mpr (by omega)
            have k := far_sq
            rw [show a.2.natAbs = FARW by omega] at q w
            omega
      | fin z d e =>
        have d1 : d = 1 := hx.1
        subst d1
        have sg := hx.isZ.sign
        by_cases q : 0 < z
        · exact (root_fin hx q).2
        · have z0 : z = 0 := by
            rcases Int.lt_trichotomy z 0 with w | w | w
            · have := sg.1.mp w; omega
            · exact w
            · exact absurd w q
          have a0 : a.2 = 0 := sg.2.mp z0
          subst z0
          rw [a0]
          show bitsOf true (rootOf (.fin 0 1 e)) = upB (rootB 0).2
          rw [rootB_zero]
          have : rootOf (.fin 0 1 e) = .fin 0 1 ((if e % 2 = 0 then e else e - 1) / 2 - 64) := by
            unfold rootOf
            dsimp only
            have : (if e % 2 = 0 then (0 : Int).natAbs else 2 * (0 : Int).natAbs) * 4 ^ 64 = 0 := by split <;> rfl
            rw [this]
            rfl
          rw [this]
          rfl
    · have q1 := rootB_lo_sq (max 0 a.1).natAbs
      have q2 := rootB_hi_sq a.2.natAbs
      have q3 : (max 0 a.1).natAbs * ONE ≤ a.2.natAbs * ONE := Nat.mul_le_mul_right _ (by omega)
      have : (rootB (max 0 a.1).natAbs).1 ≤ (rootB a.2.natAbs).2 := sq_le.mp (by omega)
      omega
/-! ### one operation -/
def combM (op : Nat) (a b : IvM) : IvM :=
  if op = 5 then hullM a b
  else match a, b with
    | some a, some b => if op = 0 then some (addM a b) else if op = 1 then some (addM a (negM b)) else if op = 2 then some (mulM a b) else if op = 3 then some (divM a b) else commonM a b
    | _, _ => none
def resM (op : Nat) (a b : IvM) : IvM := if op = 4 then a.bind rootM else combM op a b
theorem XI.cases {r : Iv} {p : IvM} (h : XI r p) : (r = none ∧ p = none) ∨ ∃ A B a, r = some (A, B) ∧ p = some a ∧ XP A B a := by
  match r, p, h with
  | none, none, _ => exact .inl ⟨rfl, rfl⟩
  | some (A, B), some (u, v), ⟨h1, h2, h3, h4, h5⟩ => exact .inr ⟨A, B, (u, v), rfl, rfl, ⟨h1, h2, h3, h4, h5⟩⟩
theorem apply_ok {op : Nat} {x y : Two} {p q : IvM} (h : XI (ivOf x) p) (g : XI (ivOf y) q) : RI (apply op x y) (resM op p q) := by
  unfold apply resM combM
  by_cases o4 : op = 4
  · rw [if_pos o4, if_pos o4]
    rcases h.cases with ⟨e1, e2⟩ | ⟨A, B, a, e1, e2, hp⟩
    · rw [e1, e2]; trivial
    · rw [e1, e2]; exact root_ok hp
  · rw [if_neg o4, if_neg o4]
    by_cases o5 : op = 5
    · rw [if_pos o5, if_pos o5]
      exact (hull_ok h g : RI (hullS (ivOf x) (ivOf y)) (hullM p q))
    · rw [if_neg o5, if_neg o5]
      rcases h.cases with ⟨e1, e2⟩ | ⟨A, B, a, e1, e2, hp⟩
      · rw [e1, e2]; trivial
      · rw [e1, e2]
        rcases g.cases with ⟨e3, e4⟩ | ⟨C, D, b, e3, e4, gp⟩
        · rw [e3, e4]; trivial
        · rw [e3, e4]
          dsimp only [Option.bind_some]
          by_cases o0 : op = 0
          · rw [if_pos o0, if_pos o0]; exact add_ok hp gp
          · rw [if_neg o0, if_neg o0]
            by_cases o1 : op = 1
            · rw [if_pos o1, if_pos o1]; exact add_ok hp gp.neg
            · rw [if_neg o1, if_neg o1]
              by_cases o2 : op = 2
              · rw [if_pos o2, if_pos o2]; exact mul_ok hp gp
              · rw [if_neg o2, if_neg o2]
                by_cases o3 : op = 3
                · rw [if_pos o3, if_pos o3]; exact div_ok hp gp
                · rw [if_neg o3, if_neg o3]; exact common_ok hp gp
/-- one result: what's told of it, and whether it's empty -/
theorem result_ok {op : Nat} {x y : Two} (hx : x.1 < 2 ^ 64 ∧ x.2 < 2 ^ 64) (hy : y.1 < 2 ^ 64 ∧ y.2 < 2 ^ 64) :
    result op x y = toldM (resM op (ivM x.1 x.2) (ivM y.1 y.2)) ∧ isEmpty (result op x y) = (resM op (ivM x.1 x.2) (ivM y.1 y.2)).isNone := by
  have r := apply_ok (op := op) (iv_ok hx.1 hx.2) (iv_ok hy.1 hy.2)
  have t : result op x y = toldM (resM op (ivM x.1 x.2) (ivM y.1 y.2)) := told_ok r
  exact ⟨t, by rw [t]; exact empty_ok r.le⟩
end Enc
end
section
set_option Elab.async false
set_option exponentiation.threshold 200
set_option linter.all false
namespace Enc
open Sz05
/-- the k-th two numbers of a list -/
def twoAt (a : List Int) (k : Nat) : Nat × Nat := ((a.getD (2 * k) 0).toNat, (a.getD (2 * k + 1) 0).toNat)
theorem twos_eq : ∀ (n : Nat) (a : List Int), a.length = 2 * n → Sz05Neutral.twos a = (List.range n).map (twoAt a)
  | 0, [], _ => rfl
  | 0, x :: r, h => by simp at h
  | n + 1, [], h => by simp at h
  | n + 1, [x], h => by simp at h; omega
  | n + 1, x :: y :: r, h => by
    have ih := twos_eq n r (by simp at h; omega)
    show (x.toNat, y.toNat) :: Sz05Neutral.twos r = _
    rw [ih, List.range_succ_eq_map, List.map_cons, List.map_map]
    refine congr (congrArg _ rfl) ?_
    apply List.map_congr_left
    intro k _
    show twoAt r k = twoAt (x :: y :: r) (k + 1)
    unfold twoAt
    have e1 : 2 * (k + 1) = 2 * k + 1 + 1 := by omega
    rw [e1]
    simp only [List.getD_cons_succ]
/-- every number is a double's bits -/
def Bits (a : List Int) : Prop := ∀ x ∈ a, 0 ≤ x ∧ x < 2 ^ 64
theorem Bits.get {a : List Int} (h : Bits a) (i : Nat) : 0 ≤ a.getD i 0 ∧ a.getD i 0 < 2 ^ 64 := by
  by_cases c : i < a.length
  · have e : a.getD i 0 = a[i] := by simp [List.getD, c]
    rw [e]
    exact h _ (List.getElem_mem c)
  · have e : a.getD i 0 = 0 := by simp [List.getD, List.getElem?_eq_none (show a.length ≤ i by omega)]
    rw [e]; omega
theorem Bits.two {a : List Int} (h : Bits a) (k : Nat) : (twoAt a k).1 < 2 ^ 64 ∧ (twoAt a k).2 < 2 ^ 64 := by
  have h1 := h.get (2 * k)
  have h2 := h.get (2 * k + 1)
  unfold twoAt
  dsimp only
  omega
def ivAt (a : List Int) (k : Nat) : IvM := ivM (twoAt a k).1 (twoAt a k).2
def resAt (op : Nat) (a b : List Int) (k : Nat) : IvM := resM op (ivAt a k) (ivAt b k)
def two (p : Two) : List Int := [(p.1 : Int), (p.2 : Int)]
/-- what the loop has behind i turns -/
def cntTo (r : Nat → IvM) (i : Nat) : Int := (((List.range i).filter fun k => (r k).isNone).length : Nat)
def endsTo (r : Nat → IvM) (i : Nat) : List Int := (List.range i).flatMap fun k => two (toldM (r k))
theorem cntTo_succ (r : Nat → IvM) (i : Nat) : cntTo r (i + 1) = cntTo r i + (if (r i).isNone = true then 1 else 0) := by
  unfold cntTo
  rw [List.range_succ, List.filter_append, List.length_append]
  by_cases c : (r i).isNone = true
  · rw [if_pos c, List.filter_cons, if_pos c]; simp
  · rw [if_neg c, List.filter_cons, if_neg c]; simp
theorem endsTo_succ (r : Nat → IvM) (i : Nat) : endsTo r (i + 1) = endsTo r i ++ two (toldM (r i)) := by
  unfold endsTo
  rw [List.range_succ, List.flatMap_append]
  simp
theorem endsTo_length (r : Nat → IvM) : ∀ i, (endsTo r i).length = 2 * i
  | 0 => rfl
  | i + 1 => by rw [endsTo_succ, List.length_append, endsTo_length r i]; show 2 * i + 2 = _; omega
theorem arith_refused {op n : Int} {a b : List Int} (h : op < 0 ∨ 6 < op ∨ 65536 < n) : PySz05.arith op n a b = [-2] := by
  show (spec (.arith op (Sz05Neutral.if_ n 65536 ((Sz05Neutral.twos a).zip (Sz05Neutral.twos b))))).1 :: (spec (.arith op (Sz05Neutral.if_ n 65536 ((Sz05Neutral.twos a).zip (Sz05Neutral.twos b))))).2.flatMap (fun (i : Nat × Nat) => [(i.1 : Int), (i.2 : Int)]) = [-2]
  have e : spec (.arith op (Sz05Neutral.if_ n 65536 ((Sz05Neutral.twos a).zip (Sz05Neutral.twos b)))) = refused := by
    unfold spec
    dsimp only
    by_cases c : op < 0 ∨ 6 < op
    · rw [if_pos c]
    · rw [if_neg c]
      unfold Sz05Neutral.if_
      rw [if_neg (by omega)]
  rw [e]
  rfl
theorem arith_ok {op : Int} {n : Nat} {a b : List Int} (h1 : 0 ≤ op) (h2 : op ≤ 6) (h3 : n ≤ 65536) (ha : a.length = 2 * n) (hb : b.length = 2 * n) (wa : Bits a) (wb : Bits b) :
    PySz05.arith op n a b = cntTo (resAt op.toNat a b) n :: endsTo (resAt op.toNat a b) n := by
  show (spec (.arith op (Sz05Neutral.if_ n 65536 ((Sz05Neutral.twos a).zip (Sz05Neutral.twos b))))).1 :: (spec (.arith op (Sz05Neutral.if_ n 65536 ((Sz05Neutral.twos a).zip (Sz05Neutral.twos b))))).2.flatMap (fun (i : Nat × Nat) => [(i.1 : Int), (i.2 : Int)]) = _
  have key : ∀ k, result op.toNat (twoAt a k) (twoAt b k) = toldM (resAt op.toNat a b k) ∧ isEmpty (toldM (resAt op.toNat a b k)) = (resAt op.toNat a b k).isNone := by
    intro k
    have r := result_ok (op := op.toNat) (wa.two k) (wb.two k)
    have e : result op.toNat (twoAt a k) (twoAt b k) = toldM (resAt op.toNat a b k) := r.1
    exact ⟨e, by rw [← e]; exact r.2⟩
  have e : spec (.arith op (Sz05Neutral.if_ n 65536 ((Sz05Neutral.twos a).zip (Sz05Neutral.twos b)))) =
      ((cntTo (resAt op.toNat a b) n), (List.range n).map fun k => toldM (resAt op.toNat a b k)) := by
    unfold spec
    dsimp only
    rw [if_neg (by omega)]
    unfold Sz05Neutral.if_
    rw [if_pos (by omega)]
    dsimp only
    rw [twos_eq n a ha, twos_eq n b hb, List.zip_map', List.map_map]
    have e1 : ((fun x => result op.toNat x.fst x.snd) ∘ fun k => (twoAt a k, twoAt b k)) = fun k => toldM (resAt op.toNat a b k) := by
      funext k
      exact (key k).1
    rw [e1]
    unfold cntTo
    rw [List.filter_map, List.length_map]
    have e2 : (isEmpty ∘ fun k => toldM (resAt op.toNat a b k)) = fun k => (resAt op.toNat a b k).isNone := by
      funext k
      exact (key k).2
    rw [e2]
  rw [e]
  show cntTo (resAt op.toNat a b) n :: ((List.range n).map fun k => toldM (resAt op.toNat a b k)).flatMap (fun (i : Nat × Nat) => [(i.1 : Int), (i.2 : Int)]) = _
  rw [List.flatMap_map]
  rfl
/-- what may be asked of arith -/
theorem arith_asked {op n : Int} {a b : List Int} (h : PySz05.arith_asked op n a b = true) :
    0 ≤ n ∧ n < 2 ^ 32 ∧ Bits a ∧ Bits b ∧ (a.length : Int) = (if n ≤ 65536 then 2 * n else 0) ∧ (b.length : Int) = (if n ≤ 65536 then 2 * n else 0) := by
  have h' : (Sz05Neutral.whole32 op && (Sz05Neutral.natural n 32 && ((a.all (fun (z : Int) => Sz05Neutral.natural z 64) && decide ((a.length : Int) = if n ≤ 65536 then 2 * n else 0)) && (b.all (fun (z : Int) => Sz05Neutral.natural z 64) && decide ((b.length : Int) = if n ≤ 65536 then 2 * n else 0))))) = true := h
  simp only [Bool.and_eq_true, decide_eq_true_eq, Sz05Neutral.natural, List.all_eq_true] at h'
  obtain ⟨_, ⟨h1, h2⟩, ⟨h3, h4⟩, h5, h6⟩ := h'
  exact ⟨h1, h2, fun x hx => ⟨(h3 x hx).1, (h3 x hx).2⟩, fun x hx => ⟨(h5 x hx).1, (h5 x hx).2⟩, h4, h6⟩
end Enc
end
section
set_option Elab.async false
set_option exponentiation.threshold 200
set_option linter.all false
namespace Enc
open Sz05
/-! ### the program's own expressions, as the rules of its language reckon them -/
theorem py_nan {x : Int} (h0 : 0 ≤ x) : decide ((9218868437227405312 : Int) < x % 9223372036854775808) = isNan x.toNat := by
  unfold isNan INF
  apply decide_eq_decide.mpr
  omega
theorem py_two_pow (n : Nat) : (((2 ^ n : Nat) : Int)) = 2 ^ n := by simp
theorem py_size_inf {x : Int} (h0 : 0 ≤ x) (h1 : x < 2 ^ 64) (h : x % 9223372036854775808 = 9218868437227405312) : (1 : Int) * 2 ^ (3200 : Int).toNat = (sizeOf_ (x.toNat % 2 ^ 63) : Int) := by
  have e : x.toNat % 2 ^ 63 = INF := by unfold INF; omega
  rw [e]
  have : sizeOf_ INF = FARW := if_pos rfl
  rw [this, Int.one_mul]
  unfold FARW
  rw [py_two_pow]
  rfl
theorem py_size_sub {x : Int} (h0 : 0 ≤ x) (h1 : x < 2 ^ 64) (h : ¬ x % 9223372036854775808 = 9218868437227405312) (g : x % 9223372036854775808 / 2 ^ (52 : Int).toNat = 0) : x % 9223372036854775808 = (sizeOf_ (x.toNat % 2 ^ 63) : Int) := by
  have e : ¬ x.toNat % 2 ^ 63 = INF := by unfold INF; omega
  have g2 : x % 9223372036854775808 / 4503599627370496 = 0 := g
  have : sizeOf_ (x.toNat % 2 ^ 63) = x.toNat % 2 ^ 63 := by
    unfold sizeOf_
    rw [if_neg e, val_small]
    omega
  rw [this]
  omega
theorem py_size_norm {x : Int} (h0 : 0 ≤ x) (h1 : x < 2 ^ 64) (h : ¬ x % 9223372036854775808 = 9218868437227405312) (g : ¬ x % 9223372036854775808 / 2 ^ (52 : Int).toNat = 0) :
    (4503599627370496 + x % 9223372036854775808 % 4503599627370496) * 2 ^ (x % 9223372036854775808 / 2 ^ (52 : Int).toNat - 1).toNat = (sizeOf_ (x.toNat % 2 ^ 63) : Int) := by
  have e : ¬ x.toNat % 2 ^ 63 = INF := by unfold INF; omega
  have p : (2 : Int) ^ (52 : Int).toNat = 4503599627370496 := by decide
  rw [p] at g ⊢
  have : sizeOf_ (x.toNat % 2 ^ 63) = (2 ^ 52 + x.toNat % 2 ^ 63 % 2 ^ 52) * 2 ^ (x.toNat % 2 ^ 63 / 2 ^ 52 - 1) := by
    unfold sizeOf_ val
    rw [if_neg e, if_neg (by omega)]
  rw [this, Int.natCast_mul, py_two_pow]
  have e1 : (x % 9223372036854775808 / 4503599627370496 - 1).toNat = x.toNat % 2 ^ 63 / 2 ^ 52 - 1 := by omega
  rw [e1]
  congr 1
  omega
theorem py_units_neg {x : Int} (h0 : 0 ≤ x) (h1 : x < 2 ^ 64) (h : (9223372036854775808 : Int) ≤ x) : -(sizeOf_ (x.toNat % 2 ^ 63) : Int) = unitsOf x.toNat := by
  unfold unitsOf
  rw [if_pos (by omega)]
theorem py_units_pos {x : Int} (h0 : 0 ≤ x) (h1 : x < 2 ^ 64) (h : ¬ (9223372036854775808 : Int) ≤ x) : (sizeOf_ (x.toNat % 2 ^ 63) : Int) = unitsOf x.toNat := by
  unfold unitsOf
  rw [if_neg (by omega)]
/-- size.bit_length() -/
def blI (x : Int) : Int := (bl x.natAbs : Int)
theorem py_exc {s : Int} (h : 0 ≤ s) : (if blI s - 53 > 0 then blI s - 53 else 0) = (exc s.toNat : Int) := by
  unfold blI exc
  have : s.natAbs = s.toNat := by omega
  rw [this]
  split <;> omega
theorem py_dn {s : Int} (h : 0 ≤ s) :
    (if (9218868437227405311 : Int) < (exc s.toNat : Int) * 2 ^ (52 : Int).toNat + s / 2 ^ ((exc s.toNat : Nat) : Int).toNat then (9218868437227405311 : Int) else (exc s.toNat : Int) * 2 ^ (52 : Int).toNat + s / 2 ^ ((exc s.toNat : Nat) : Int).toNat) = (dnB s.toNat : Int) := by
  have p : (2 : Int) ^ (52 : Int).toNat = 4503599627370496 := by decide
  have e : s / 2 ^ ((exc s.toNat : Nat) : Int).toNat = ((s.toNat / 2 ^ exc s.toNat : Nat) : Int) := by
    rw [Int.toNat_natCast, Int.natCast_ediv, py_two_pow]
    congr 1
    omega
  rw [p, e]
  unfold dnB gdn LARGEST
  generalize s.toNat / 2 ^ exc s.toNat = q
  split <;> omega
theorem py_up {s : Int} (h : 0 ≤ s) :
    (if (9218868437227405312 : Int) < (exc s.toNat : Int) * 2 ^ (52 : Int).toNat - -s / 2 ^ ((exc s.toNat : Nat) : Int).toNat then (9218868437227405312 : Int) else (exc s.toNat : Int) * 2 ^ (52 : Int).toNat - -s / 2 ^ ((exc s.toNat : Nat) : Int).toNat) = (upB s.toNat : Int) := by
  have p : (2 : Int) ^ (52 : Int).toNat = 4503599627370496 := by decide
  have e : -s / 2 ^ ((exc s.toNat : Nat) : Int).toNat = -((cdiv s.toNat (2 ^ exc s.toNat) : Nat) : Int) := by
    rw [Int.toNat_natCast, ← py_two_pow]
    by_cases c : s = 0
    · subst c
      decide
    · have := floor_neg (P := -s) (D := 2 ^ exc s.toNat) (pow_pos' _) (by omega)
      rw [this]
      congr 3
      omega
  rw [p, e]
  unfold upB gup INF
  generalize cdiv s.toNat (2 ^ exc s.toNat) = q
  split <;> omega
theorem py_lower_neg {u : Int} (h : u < 0) : (9223372036854775808 : Int) + (upB (-u).toNat : Int) = (lowerB u : Int) := by
  unfold lowerB
  rw [if_pos h]
  have : (-u).toNat = u.natAbs := by omega
  rw [this]
  omega
theorem py_lower_pos {u : Int} (h : ¬ u < 0) : (dnB u.toNat : Int) = (lowerB u : Int) := by
  unfold lowerB
  rw [if_neg h]
  have : u.toNat = u.natAbs := by omega
  rw [this]
theorem py_upper_neg {u : Int} (h : u < 0) : (9223372036854775808 : Int) + (dnB (-u).toNat : Int) = (upperB u : Int) := by
  unfold upperB
  rw [if_pos h]
  have : (-u).toNat = u.natAbs := by omega
  rw [this]
  omega
theorem py_upper_pos {u : Int} (h : ¬ u < 0) : (upB u.toNat : Int) = (upperB u : Int) := by
  unfold upperB
  rw [if_neg h]
  have : u.toNat = u.natAbs := by omega
  rw [this]
/-! ### Newton's steps -/
theorem newton_start (n : Nat) : n < (2 ^ ((bl n + 1) / 2) + 1) * (2 ^ ((bl n + 1) / 2) + 1) := by
  have h1 := lt_bl n
  have h2 : 2 ^ bl n ≤ 2 ^ ((bl n + 1) / 2) * 2 ^ ((bl n + 1) / 2) := by
    rw [← Nat.pow_add]
    exact pow_mono (by omega)
  have h3 : 2 ^ ((bl n + 1) / 2) * 2 ^ ((bl n + 1) / 2) ≤ (2 ^ ((bl n + 1) / 2) + 1) * (2 ^ ((bl n + 1) / 2) + 1) := Nat.mul_le_mul (by omega) (by omega)
  omega
theorem newton_less {n g : Nat} (h : n < g * g) : (g + n / g) / 2 < g := by
  have hg : 0 < g := by
    rcases Nat.eq_zero_or_pos g with q | q
    · subst q; omega
    · exact q
  have : n / g < g := (Nat.div_lt_iff_lt_mul hg).mpr h
  omega
theorem newton_keeps {n g : Nat} (h : n < g * g) : n < ((g + n / g) / 2 + 1) * ((g + n / g) / 2 + 1) := by
  have hg : 0 < g := by
    rcases Nat.eq_zero_or_pos g with q | q
    · subst q; omega
    · exact q
  have h1 : n < (n / g + 1) * g := by
    have := Nat.div_add_mod n g
    have := Nat.mod_lt n hg
    rw [Nat.add_mul, Nat.one_mul, Nat.mul_comm]
    omega
  generalize hq : n / g = q at *
  generalize hr : (g + q) / 2 + 1 = r
  have h2 : g + (q + 1) ≤ 2 * r := by omega
  have h3 : (g + (q + 1)) * (g + (q + 1)) ≤ 2 * r * (2 * r) := Nat.mul_le_mul h2 h2
  have h4 : 2 * r * (2 * r) = 4 * (r * r) := by
    rw [Nat.mul_assoc, Nat.mul_left_comm r 2 r, ← Nat.mul_assoc]
  have h5 : 4 * ((q + 1) * g) ≤ (g + (q + 1)) * (g + (q + 1)) := by
    generalize q + 1 = p
    rcases Nat.le_total g p with c | c
    · obtain ⟨d, rfl⟩ := Nat.exists_eq_add_of_le c
      simp only [Nat.add_mul, Nat.mul_add]
      have : g * d = d * g := Nat.mul_comm _ _
      omega
    · obtain ⟨d, rfl⟩ := Nat.exists_eq_add_of_le c
      simp only [Nat.add_mul, Nat.mul_add]
      have : p * d = d * p := Nat.mul_comm _ _
      omega
  omega
theorem newton_end {n g : Nat} (h1 : g * g ≤ n) (h2 : n < (g + 1) * (g + 1)) : g = root n := IsR.unique ⟨h1, h2⟩ (root_is n)
end Enc
end
section
set_option Elab.async false
set_option exponentiation.threshold 200
set_option linter.all false
namespace Enc
open Sz05
/-! ### how many digits -/
/-- a double's end in units -/
def Sm (a : Pr) : Prop := a.1.natAbs < 2 ^ 3201 ∧ a.2.natAbs < 2 ^ 3201
def SmP : IvM → Prop
  | none => True
  | some a => Sm a
theorem farw_lt : FARW < 2 ^ 3201 := by
  unfold FARW
  exact Nat.pow_lt_pow_right (by decide) (by decide)
theorem size_lt {m : Nat} (h : m ≤ INF) : sizeOf_ m < 2 ^ 3201 := Nat.lt_of_le_of_lt (size_le h) farw_lt
theorem units_lt {b : Nat} (h : isNan b = false) : (unitsOf b).natAbs < 2 ^ 3201 := by
  have : b % 2 ^ 63 ≤ INF := by
    unfold isNan at h
    have := of_decide_eq_false h
    omega
  have := size_lt this
  unfold unitsOf
  split <;> omega
theorem ivM_sm (lo hi : Nat) : SmP (ivM lo hi) := by
  unfold ivM
  split
  · trivial
  · rename_i h
    split
    · trivial
    · have h1 : isNan lo = false := by cases q : isNan lo with
        | false => rfl
        | true => exact absurd (.inl q) h
      have h2 : isNan hi = false := by cases q : isNan hi with
        | false => rfl
        | true => exact absurd (.inr (.inl q)) h
      exact ⟨units_lt h1, units_lt h2⟩
theorem ivM_le {lo hi : Nat} {a : Pr} (h : ivM lo hi = some a) : a.1 ≤ a.2 := by
  unfold ivM at h
  split at h
  · cases h
  · split at h
    · cases h
    · rename_i h2
      cases h
      show unitsOf lo ≤ unitsOf hi
      omega
def Fw (x : Int) : Prop := x.natAbs < 2 ^ 8000
def FwP : IvM → Prop
  | none => True
  | some a => Fw a.1 ∧ Fw a.2
theorem fw_of {x : Int} {m : Nat} (h : x.natAbs < 2 ^ m) (hm : m ≤ 8000) : Fw x := Nat.lt_of_lt_of_le h (pow_mono hm)
theorem add_lt {x y : Int} {m : Nat} (h : x.natAbs < 2 ^ m) (g : y.natAbs < 2 ^ m) : (x + y).natAbs < 2 ^ (m + 1) := by
  rw [Nat.pow_succ]
  omega
theorem mul_lt {x y : Int} {m k : Nat} (h : x.natAbs < 2 ^ m) (g : y.natAbs < 2 ^ k) : (x * y).natAbs < 2 ^ (m + k) := by
  rw [Int.natAbs_mul, Nat.pow_add]
  exact Nat.mul_lt_mul'' h g
theorem div_abs_le (x : Int) {d : Int} (h : 0 < d) : (x / d).natAbs ≤ x.natAbs := by
  have hd : d = ((d.toNat : Nat) : Int) := by omega
  rw [hd]
  have hd0 : 0 < d.toNat := by omega
  by_cases c : 0 ≤ x
  · rw [floor_pos hd0 c, Int.natAbs_natCast]
    exact Nat.div_le_self _ _
  · rw [floor_neg hd0 (by omega), Int.natAbs_neg, Int.natAbs_natCast, cdiv_le hd0]
    exact Nat.le_mul_of_pos_right _ hd0
theorem one_lt : (ONE : Int).natAbs < 2 ^ 1075 := by
  rw [Int.natAbs_natCast]
  unfold ONE
  exact Nat.pow_lt_pow_right (by decide) (by decide)
theorem mul_fw {a b : Pr} (h : Sm a) (g : Sm b) : Fw (mulM a b).1 ∧ Fw (mulM a b).2 := by
  have o : (0 : Int) < (ONE : Int) := by have := one_pos; omega
  have p1 := mul_lt h.1 g.1
  have p2 := mul_lt h.1 g.2
  have p3 := mul_lt h.2 g.1
  have p4 := mul_lt h.2 g.2
  unfold mulM
  generalize a.1 * b.1 = P at *
  generalize a.1 * b.2 = Q at *
  generalize a.2 * b.1 = R at *
  generalize a.2 * b.2 = S at *
  have m1 : (min4 P Q R S).natAbs < 2 ^ (3201 + 3201) := by
    generalize 2 ^ (3201 + 3201) = B at *
    unfold min4; omega
  have m2 : (max4 P Q R S).natAbs < 2 ^ (3201 + 3201) := by
    generalize 2 ^ (3201 + 3201) = B at *
    unfold max4; omega
  constructor
  · exact fw_of (Nat.lt_of_le_of_lt (div_abs_le _ o) m1) (by decide)
  · show Fw (-(-(max4 P Q R S) / (ONE : Int)))
    refine fw_of (m := 3201 + 3201) ?_ (by decide)
    rw [Int.natAbs_neg]
    refine Nat.lt_of_le_of_lt (div_abs_le _ o) ?_
    rw [Int.natAbs_neg]
    exact m2
theorem divPos_fw {a b : Pr} (h : Sm a) (h1 : 0 < b.1) (h2 : 0 < b.2) : Fw (divPosM a b).1 ∧ Fw (divPosM a b).2 := by
  have hl : (0 : Int) < (if a.1 < 0 then b.1 else b.2) := by split <;> assumption
  have hh : (0 : Int) < (if a.2 < 0 then b.2 else b.1) := by split <;> assumption
  unfold divPosM
  constructor
  · exact fw_of (Nat.lt_of_le_of_lt (div_abs_le _ hl) (mul_lt h.1 one_lt)) (by decide)
  · refine fw_of (m := 3201 + 1075) ?_ (by decide)
    rw [Int.natAbs_neg]
    refine Nat.lt_of_le_of_lt (div_abs_le _ hh) ?_
    exact mul_lt (by rw [Int.natAbs_neg]; exact h.2) one_lt
theorem neg_sm {a : Pr} (h : Sm a) : Sm (negM a) := by
  unfold Sm negM at *
  rw [Int.natAbs_neg, Int.natAbs_neg]
  exact ⟨h.2, h.1⟩
theorem div_fw {a b : Pr} (h : Sm a) (g : b.1 ≤ b.2) : Fw (divM a b).1 ∧ Fw (divM a b).2 := by
  unfold divM
  split
  · exact divPos_fw (neg_sm h) (by show 0 < -b.2; omega) (by show 0 < -b.1; omega)
  · split
    · exact divPos_fw h (by omega) (by omega)
    · have := farw_lt
      constructor
      · exact fw_of (m := 3201) (by show (-(FARW : Int)).natAbs < _; omega) (by decide)
      · exact fw_of (m := 3201) (by show ((FARW : Int)).natAbs < _; omega) (by decide)
theorem bl_le' {n m : Nat} (h : n < 2 ^ m) : bl n ≤ m := by
  unfold bl
  split
  · omega
  · rename_i h0
    exact (Nat.log2_lt h0).mpr h
theorem rootB_lt {u : Nat} (h : u < 2 ^ 3201) : (rootB u).1 < 2 ^ 4400 ∧ (rootB u).2 < 2 ^ 4400 := by
  have hs : u * ONE < 2 ^ (3201 + 1075) := by
    rw [Nat.pow_add]
    have o : ONE < 2 ^ 1075 := by have := one_lt; rwa [Int.natAbs_natCast] at this
    exact Nat.mul_lt_mul'' h o
  have hl : rootLow (u * ONE) ≤ u * ONE := by
    have := shift_lo (s := u * ONE) (k := spareOf (u * ONE)) (root_is _)
    have : rootLow (u * ONE) * rootLow (u * ONE) ≤ u * ONE := this
    rcases Nat.eq_zero_or_pos (rootLow (u * ONE)) with q | q
    · omega
    · exact Nat.le_trans (Nat.le_mul_of_pos_right _ q) this
  have hb := bl_le' hs
  have hp : 2 ^ spareOf (u * ONE) ≤ 2 ^ (3201 + 1075) := pow_mono (by unfold spareOf; omega)
  have top : 2 ^ (3201 + 1075) + 2 ^ (3201 + 1075) ≤ 2 ^ 4400 := by
    rw [← Nat.mul_two, ← Nat.pow_succ]
    exact pow_mono (by decide)
  unfold rootB
  generalize 2 ^ spareOf (u * ONE) = A at *
  generalize 2 ^ (3201 + 1075) = B at *
  generalize 2 ^ 4400 = C at *
  split <;> constructor <;> dsimp only <;> omega
theorem root_fw {a : Pr} (h : Sm a) : FwP (rootM a) := by
  unfold rootM
  split
  · trivial
  · have l1 := (rootB_lt (u := (max 0 a.1).natAbs) (by have := h.1; generalize 2 ^ 3201 = B at *; omega)).1
    have l2 := (rootB_lt (u := a.2.natAbs) h.2).2
    exact ⟨fw_of (m := 4400) (by show (((rootB (max 0 a.1).natAbs).1 : Nat) : Int).natAbs < _; rw [Int.natAbs_natCast]; exact l1) (by decide), fw_of (m := 4400) (by show (((rootB a.2.natAbs).2 : Nat) : Int).natAbs < _; rw [Int.natAbs_natCast]; exact l2) (by decide)⟩
theorem sm_fw {a : Pr} (h : Sm a) : Fw a.1 ∧ Fw a.2 := ⟨fw_of h.1 (by decide), fw_of h.2 (by decide)⟩
theorem hull_fw {a b : IvM} (h : SmP a) (g : SmP b) : FwP (hullM a b) := by
  match a, b, h, g with
  | none, none, _, _ => trivial
  | none, some b, _, g => exact sm_fw g
  | some a, none, h, _ => exact sm_fw h
  | some a, some b, h, g =>
    obtain ⟨h1, h2⟩ := h
    obtain ⟨g1, g2⟩ := g
    refine ⟨fw_of (m := 3201) ?_ (by decide), fw_of (m := 3201) ?_ (by decide)⟩
    · show (min a.1 b.1).natAbs < _
      generalize 2 ^ 3201 = B at *
      omega
    · show (max a.2 b.2).natAbs < _
      generalize 2 ^ 3201 = B at *
      omega
theorem common_fw {a b : Pr} (h : Sm a) (g : Sm b) : FwP (commonM a b) := by
  obtain ⟨h1, h2⟩ := h
  obtain ⟨g1, g2⟩ := g
  unfold commonM
  split
  · trivial
  · refine ⟨fw_of (m := 3201) ?_ (by decide), fw_of (m := 3201) ?_ (by decide)⟩
    · show (max a.1 b.1).natAbs < _
      generalize 2 ^ 3201 = B at *
      omega
    · show (min a.2 b.2).natAbs < _
      generalize 2 ^ 3201 = B at *
      omega
theorem add_fw {a b : Pr} (h : Sm a) (g : Sm b) : Fw (addM a b).1 ∧ Fw (addM a b).2 :=
  ⟨fw_of (add_lt h.1 g.1) (by decide), fw_of (add_lt h.2 g.2) (by decide)⟩
theorem res_fw {op : Nat} {a b : IvM} (h : SmP a) (g : SmP b) (hb : ∀ y, b = some y → y.1 ≤ y.2) : FwP (resM op a b) := by
  unfold resM combM
  split
  · match a, h with
    | none, _ => trivial
    | some a, h => exact root_fw h
  · split
    · exact hull_fw h g
    · match a, b, h, g, hb with
      | none, none, _, _, _ => trivial
      | none, some b, _, _, _ => trivial
      | some a, none, _, _, _ => trivial
      | some a, some b, h, g, hb =>
        dsimp only
        split
        · exact add_fw h g
        · split
          · exact add_fw h (neg_sm g)
          · split
            · exact mul_fw h g
            · split
              · exact div_fw h (hb b rfl)
              · exact common_fw h g
end Enc
end
section
set_option Elab.async false
set_option exponentiation.threshold 200
set_option linter.all false
namespace Enc
open Sz05
/-! ### rounding twice is rounding once -/
theorem gdn_val (b : Nat) : gdn (val b) = b := by
  apply eq_of_le_iff
  intro c
  rw [← gdn_iff]
  exact ⟨le_of_val, val_le⟩
theorem gup_val (b : Nat) : gup (val b) = b := by
  apply eq_of_ge_iff
  intro c
  rw [← gup_iff]
  exact ⟨le_of_val, val_le⟩
theorem dnB_size {m : Nat} (h : m ≤ LARGEST) : dnB (sizeOf_ m) = m := by
  have e : sizeOf_ m = val m := if_neg (by have := large_inf; omega)
  rw [e]
  unfold dnB
  rw [gdn_val]
  omega
theorem upB_size {m : Nat} (h : m ≤ INF) : upB (sizeOf_ m) = m := by
  by_cases c : m = INF
  · have e : sizeOf_ m = FARW := if_pos c
    rw [e, upB_far (by have := far_two; omega), c]
  · have e : sizeOf_ m = val m := if_neg c
    rw [e]
    unfold upB
    rw [gup_val]
    omega
theorem size_zero : sizeOf_ 0 = 0 := by
  have : sizeOf_ 0 = val 0 := if_neg (by decide)
  rw [this, val_zero]
theorem size_pos {m : Nat} (h : 0 < m) : 0 < sizeOf_ m := by
  unfold sizeOf_
  split
  · exact farw_pos
  · have := val_lt h
    rw [val_zero] at this
    exact this
theorem nan_le {b : Nat} (h : isNan b = false) : b % 2 ^ 63 ≤ INF := by
  unfold isNan at h
  have := of_decide_eq_false h
  omega
theorem lowerB_units {b : Nat} (h : b < 2 ^ 64) (hn : isNan b = false) (hi : b ≠ INF) : lowerB (unitsOf b) = if b = 2 ^ 63 then 0 else b := by
  have hm := nan_le hn
  have h4 := large_inf
  unfold unitsOf
  by_cases c : 2 ^ 63 ≤ b
  · rw [if_pos c]
    by_cases z : b = 2 ^ 63
    · subst z
      rw [if_pos rfl]
      show lowerB (-((sizeOf_ 0 : Nat) : Int)) = 0
      rw [size_zero]
      decide
    · rw [if_neg z, lowerB_neg (size_pos (by omega)), upB_size hm]
      omega
  · rw [if_neg c, lowerB_nat, dnB_size (by omega), if_neg (by omega)]
    omega
theorem upperB_units {b : Nat} (h : b < 2 ^ 64) (hn : isNan b = false) (hi : b ≠ 2 ^ 63 + INF) : upperB (unitsOf b) = if b = 2 ^ 63 then 0 else b := by
  have hm := nan_le hn
  have h4 := large_inf
  unfold unitsOf
  by_cases c : 2 ^ 63 ≤ b
  · rw [if_pos c]
    by_cases z : b = 2 ^ 63
    · subst z
      rw [if_pos rfl]
      show upperB (-((sizeOf_ 0 : Nat) : Int)) = 0
      rw [size_zero]
      decide
    · rw [if_neg z, upperB_neg (size_pos (by omega)), dnB_size (by omega)]
      omega
  · rw [if_neg c, upperB_nat, upB_size (by omega), if_neg (by omega)]
    omega
theorem units_zero : unitsOf 0 = 0 := by
  unfold unitsOf
  rw [if_neg (by decide)]
  show ((sizeOf_ 0 : Nat) : Int) = 0
  rw [size_zero]
  rfl
theorem units_minus : unitsOf (2 ^ 63) = 0 := by
  unfold unitsOf
  rw [if_pos (by decide)]
  show -((sizeOf_ 0 : Nat) : Int) = 0
  rw [size_zero]
  rfl
theorem lowerB_ne (u : Int) : lowerB u ≠ 2 ^ 63 := by
  unfold lowerB
  have h2 := dnB_le u.natAbs
  have h3 := inf_lt
  have h4 := large_inf
  split
  · have := upB_pos (n := u.natAbs) (by omega)
    omega
  · omega
theorem upperB_ne (u : Int) : upperB u ≠ 2 ^ 63 := by
  unfold upperB
  have h2 := upB_le u.natAbs
  have h3 := inf_lt
  split
  · have := dnB_pos (n := u.natAbs) (by omega)
    omega
  · omega
theorem lowerB_twice (u : Int) : lowerB (unitsOf (lowerB u)) = lowerB u := by
  obtain ⟨a1, a2, _⟩ := lowerB_facts u
  rw [lowerB_units (lowerB_lt u) a1 a2, if_neg (lowerB_ne u)]
theorem upperB_twice (u : Int) : upperB (unitsOf (upperB u)) = upperB u := by
  obtain ⟨a1, a2, _⟩ := upperB_facts u
  rw [upperB_units (upperB_lt u) a1 a2, if_neg (upperB_ne u)]
theorem units_twice_lo {b : Nat} (h : b < 2 ^ 64) (hn : isNan b = false) (hi : b ≠ INF) : unitsOf (lowerB (unitsOf b)) = unitsOf b := by
  rw [lowerB_units h hn hi]
  split
  · rename_i e
    rw [e, units_minus, units_zero]
  · rfl
theorem units_twice_hi {b : Nat} (h : b < 2 ^ 64) (hn : isNan b = false) (hi : b ≠ 2 ^ 63 + INF) : unitsOf (upperB (unitsOf b)) = unitsOf b := by
  rw [upperB_units h hn hi]
  split
  · rename_i e
    rw [e, units_minus, units_zero]
  · rfl
/-- an interval rounded outwards, in units again -/
def rnd (o : IvM) : IvM := ivM (toldM o).1 (toldM o).2
def Ord (o : IvM) : Prop := ∀ a, o = some a → a.1 ≤ a.2
/-- two doubles tell it -/
def Dbl (o : IvM) : Prop := ∃ lo hi, lo < 2 ^ 64 ∧ hi < 2 ^ 64 ∧ o = ivM lo hi
theorem Dbl.ord {o : IvM} (h : Dbl o) : Ord o := by
  obtain ⟨lo, hi, _, _, rfl⟩ := h
  exact fun a e => ivM_le e
theorem Dbl.sm {o : IvM} (h : Dbl o) : SmP o := by
  obtain ⟨lo, hi, _, _, rfl⟩ := h
  exact ivM_sm lo hi
theorem told_lt (o : IvM) : (toldM o).1 < 2 ^ 64 ∧ (toldM o).2 < 2 ^ 64 := by
  cases o with
  | none => exact ⟨by decide, by decide⟩
  | some a => exact ⟨lowerB_lt a.1, upperB_lt a.2⟩
theorem dbl_rnd (o : IvM) : Dbl (rnd o) := ⟨_, _, (told_lt o).1, (told_lt o).2, rfl⟩
theorem rnd_none : rnd none = none := ivM_none
theorem rnd_some {a : Int × Int} (h : a.1 ≤ a.2) : rnd (some a) = some (unitsOf (lowerB a.1), unitsOf (upperB a.2)) := ivM_told h
theorem ivM_ends {lo hi : Nat} {a : Int × Int} (h : ivM lo hi = some a) : isNan lo = false ∧ isNan hi = false ∧ lo ≠ INF ∧ hi ≠ 2 ^ 63 + INF ∧ a = (unitsOf lo, unitsOf hi) := by
  unfold ivM at h
  split at h
  · cases h
  · rename_i c
    split at h
    · cases h
    · refine ⟨?_, ?_, fun q => c (.inr (.inr (.inl q))), fun q => c (.inr (.inr (.inr q))), (Option.some.inj h).symm⟩
      · cases q : isNan lo with
        | false => rfl
        | true => exact (c (.inl q)).elim
      · cases q : isNan hi with
        | false => rfl
        | true => exact (c (.inr (.inl q))).elim
theorem rnd_dbl {o : IvM} (h : Dbl o) : rnd o = o := by
  have ho := h.ord
  obtain ⟨lo, hi, h1, h2, e⟩ := h
  cases q : o with
  | none => exact rnd_none
  | some a =>
    rw [q] at e
    obtain ⟨e1, e2, e3, e4, e5⟩ := ivM_ends e.symm
    rw [rnd_some (ho a q), e5]
    show some (unitsOf (lowerB (unitsOf lo)), unitsOf (upperB (unitsOf hi))) = _
    rw [units_twice_lo h1 e1 e3, units_twice_hi h2 e2 e4]
theorem toldM_rnd {o : IvM} (h : Ord o) : toldM (rnd o) = toldM o := by
  cases o with
  | none => rw [rnd_none]
  | some a =>
    rw [rnd_some (h a rfl)]
    show (lowerB (unitsOf (lowerB a.1)), upperB (unitsOf (upperB a.2))) = (lowerB a.1, upperB a.2)
    rw [lowerB_twice, upperB_twice]
theorem rnd_isNone {o : IvM} (h : Ord o) : (rnd o).isNone = o.isNone := by
  cases o with
  | none => rw [rnd_none]
  | some a => rw [rnd_some (h a rfl)]; rfl
theorem told_iv {x : Two} (hx : x.1 < 2 ^ 64 ∧ x.2 < 2 ^ 64) : told (ivOf x) = toldM (ivM x.1 x.2) := by
  have h := iv_ok hx.1 hx.2
  apply told_ok
  rcases XI.cases h with ⟨a, b⟩ | ⟨A, B, a, e1, e2, q⟩
  · have a' : ivOf x = none := a
    rw [a', b]; trivial
  · have e1' : ivOf x = some (A, B) := e1
    rw [e1', e2]
    exact X.ri q.lo q.hi q.le q.nh q.nl
theorem res_ord {op : Nat} {p q : IvM} (hp : Dbl p) (hq : Dbl q) : Ord (resM op p q) := by
  obtain ⟨a, b, h1, h2, rfl⟩ := hp
  obtain ⟨c, d, h3, h4, rfl⟩ := hq
  have r := apply_ok (op := op) (iv_ok h1 h2) (iv_ok h3 h4)
  exact fun a e => r.le a.1 a.2 e
theorem comb_res {op : Nat} (h : op ≠ 4) (a b : IvM) : combM op a b = resM op a b := by
  unfold resM
  rw [if_neg h]
theorem comb_ord {op : Nat} (h : op ≠ 4) {p q : IvM} (hp : Dbl p) (hq : Dbl q) : Ord (combM op p q) := by
  rw [comb_res h]
  exact res_ord hp hq
/-- one operation on what is told of two intervals -/
theorem result_told {op : Nat} (h : op ≠ 4) {s : IvM} {y : Two} (hs : Dbl s) (hy : y.1 < 2 ^ 64 ∧ y.2 < 2 ^ 64) : result op (toldM s) y = toldM (rnd (combM op s (ivM y.1 y.2))) := by
  have hy' : Dbl (ivM y.1 y.2) := ⟨_, _, hy.1, hy.2, rfl⟩
  rw [toldM_rnd (comb_ord h hs hy'), (result_ok (told_lt s) hy).1, comb_res h]
  show toldM (resM op (rnd s) (ivM y.1 y.2)) = _
  rw [rnd_dbl hs]
theorem zero_iv : ivM 0 0 = some (0, 0) := by
  unfold ivM
  rw [if_neg (by decide), units_zero]
  rfl
theorem dbl_zero : Dbl (some (0, 0)) := ⟨0, 0, by decide, by decide, zero_iv.symm⟩
theorem told_zero : toldM (some (0, 0)) = (0, 0) := by decide
theorem add_zero_left (x : IvM) : combM 0 (some (0, 0)) x = x := by
  cases x with
  | none => rfl
  | some b =>
    show some (addM (0, 0) b) = some b
    unfold addM
    dsimp only
    rw [Int.zero_add, Int.zero_add]
theorem mul_zero_left {b : Int × Int} : combM 2 (some (0, 0)) (some b) = some (0, 0) := by
  show some (mulM (0, 0) b) = some (0, 0)
  unfold mulM min4 max4
  dsimp only
  simp
/-! ### the sum -/
def addR (s y : IvM) : IvM := rnd (combM 0 s y)
theorem fold_told : ∀ (l : List Two) (s : IvM), Dbl s → (∀ y ∈ l, y.1 < 2 ^ 64 ∧ y.2 < 2 ^ 64) → l.foldl (fun s y => result 0 s y) (toldM s) = toldM (l.foldl (fun s y => addR s (ivM y.1 y.2)) s)
  | [], s, _, _ => rfl
  | y :: r, s, hs, hl => by
    rw [List.foldl_cons, List.foldl_cons, result_told (by decide) hs (hl y (List.mem_cons_self ..))]
    exact fold_told r _ (dbl_rnd _) fun z hz => hl z (List.mem_cons_of_mem _ hz)
theorem sumOf_eq (l : List Two) (hl : ∀ y ∈ l, y.1 < 2 ^ 64 ∧ y.2 < 2 ^ 64) : sumOf l = toldM (l.foldl (fun s y => addR s (ivM y.1 y.2)) (some (0, 0))) := by
  cases l with
  | nil => exact told_zero.symm
  | cons x r =>
    have hx := hl x (List.mem_cons_self ..)
    have d : Dbl (ivM x.1 x.2) := ⟨_, _, hx.1, hx.2, rfl⟩
    show r.foldl (fun s y => result 0 s y) (told (ivOf x)) = _
    rw [told_iv hx, fold_told r _ d fun z hz => hl z (List.mem_cons_of_mem _ hz), List.foldl_cons]
    have e : addR (some (0, 0)) (ivM x.1 x.2) = ivM x.1 x.2 := by
      unfold addR
      rw [add_zero_left, rnd_dbl d]
    rw [e]
/-- what a sum has behind i turns -/
def sumTo (r : Nat → IvM) : Nat → IvM
  | 0 => some (0, 0)
  | i + 1 => addR (sumTo r i) (r i)
theorem sumTo_dbl (r : Nat → IvM) : ∀ i, Dbl (sumTo r i)
  | 0 => dbl_zero
  | i + 1 => dbl_rnd _
theorem sumTo_eq (r : Nat → IvM) : ∀ n, ((List.range n).map r).foldl addR (some (0, 0)) = sumTo r n
  | 0 => rfl
  | n + 1 => by
    rw [List.range_succ, List.map_append, List.foldl_append, sumTo_eq r n]
    rfl
/-- what is answered of one interval -/
def ans (t : IvM) : List Int := (if t.isNone = true then 1 else 0) :: two (toldM t)
def tell (y : Ans) : List Int := y.1 :: y.2.flatMap fun (i : Nat × Nat) => [(i.1 : Int), (i.2 : Int)]
theorem one_told {t : IvM} (h : Ord t) : tell (one (toldM t)) = ans t := by
  unfold tell one ans
  rw [empty_ok fun u v e => h (u, v) e]
  rfl
theorem told_mem {n : Nat} {a : List Int} (wa : Bits a) : ∀ y ∈ (List.range n).map (twoAt a), y.1 < 2 ^ 64 ∧ y.2 < 2 ^ 64 := by
  intro y hy
  obtain ⟨k, _, rfl⟩ := List.mem_map.mp hy
  exact wa.two k
theorem sum_ok {n : Nat} {a : List Int} (h : n ≤ 65536) (ha : a.length = 2 * n) (wa : Bits a) : PySz05.sum_of n a = ans (sumTo (ivAt a) n) := by
  show tell (spec (.sum (Sz05Neutral.if_ (n : Int) 65536 (Sz05Neutral.twos a)))) = _
  unfold Sz05Neutral.if_
  rw [if_pos (by omega)]
  show tell (one (sumOf (Sz05Neutral.twos a))) = _
  rw [twos_eq n a ha, sumOf_eq _ (told_mem wa), List.foldl_map]
  have e : (List.range n).foldl (fun s k => addR s (ivM (twoAt a k).1 (twoAt a k).2)) (some (0, 0)) = sumTo (ivAt a) n := by
    rw [← sumTo_eq, List.foldl_map]
    rfl
  rw [e]
  exact one_told (sumTo_dbl _ _).ord
theorem sum_refused {n : Int} {a : List Int} (h : 65536 < n) : PySz05.sum_of n a = [-2] := by
  show tell (spec (.sum (Sz05Neutral.if_ n 65536 (Sz05Neutral.twos a)))) = _
  unfold Sz05Neutral.if_
  rw [if_neg (by omega)]
  rfl
theorem sum_asked {n : Int} {a : List Int} (h : PySz05.sum_of_asked n a = true) : 0 ≤ n ∧ n < 2 ^ 32 ∧ Bits a ∧ (a.length : Int) = (if n ≤ 65536 then 2 * n else 0) := by
  have h' : (Sz05Neutral.natural n 32 && (a.all (fun (z : Int) => Sz05Neutral.natural z 64) && decide ((a.length : Int) = if n ≤ 65536 then 2 * n else 0))) = true := h
  simp only [Bool.and_eq_true, decide_eq_true_eq, Sz05Neutral.natural, List.all_eq_true] at h'
  obtain ⟨⟨h1, h2⟩, h3, h4⟩ := h'
  exact ⟨h1, h2, fun x hx => ⟨(h3 x hx).1, (h3 x hx).2⟩, h4⟩
/-! ### dot -/
def mulR (a b : IvM) : IvM := rnd (combM 2 a b)
def prodAt (a b : List Int) (k : Nat) : IvM := mulR (ivAt a k) (ivAt b k)
theorem iv_dbl {a : List Int} (wa : Bits a) (k : Nat) : Dbl (ivAt a k) := ⟨_, _, (wa.two k).1, (wa.two k).2, rfl⟩
theorem dot_ok {n : Nat} {a b : List Int} (h : n ≤ 65536) (ha : a.length = 2 * n) (hb : b.length = 2 * n) (wa : Bits a) (wb : Bits b) : PySz05.dot n a b = ans (sumTo (prodAt a b) n) := by
  show tell (spec (.dot (Sz05Neutral.if_ (n : Int) 65536 ((Sz05Neutral.twos a).zip (Sz05Neutral.twos b))))) = _
  unfold Sz05Neutral.if_
  rw [if_pos (by omega)]
  show tell (one (sumOf (((Sz05Neutral.twos a).zip (Sz05Neutral.twos b)).map fun x => result 2 x.1 x.2))) = _
  rw [twos_eq n a ha, twos_eq n b hb, List.zip_map', List.map_map]
  have e1 : ((fun x => result 2 x.fst x.snd) ∘ fun k => (twoAt a k, twoAt b k)) = fun k => toldM (combM 2 (ivAt a k) (ivAt b k)) := by
    funext k
    exact (result_ok (op := 2) (wa.two k) (wb.two k)).1
  rw [e1, sumOf_eq _ (by
    intro y hy
    obtain ⟨k, _, rfl⟩ := List.mem_map.mp hy
    exact told_lt _), List.foldl_map]
  have e : (List.range n).foldl (fun s k => addR s (ivM (toldM (combM 2 (ivAt a k) (ivAt b k))).1 (toldM (combM 2 (ivAt a k) (ivAt b k))).2)) (some (0, 0)) = sumTo (prodAt a b) n := by
    rw [← sumTo_eq, List.foldl_map]
    rfl
  rw [e]
  exact one_told (sumTo_dbl _ _).ord
theorem dot_refused {n : Int} {a b : List Int} (h : 65536 < n) : PySz05.dot n a b = [-2] := by
  show tell (spec (.dot (Sz05Neutral.if_ n 65536 ((Sz05Neutral.twos a).zip (Sz05Neutral.twos b))))) = _
  unfold Sz05Neutral.if_
  rw [if_neg (by omega)]
  rfl
theorem dot_asked {n : Int} {a b : List Int} (h : PySz05.dot_asked n a b = true) :
    0 ≤ n ∧ n < 2 ^ 32 ∧ Bits a ∧ Bits b ∧ (a.length : Int) = (if n ≤ 65536 then 2 * n else 0) ∧ (b.length : Int) = (if n ≤ 65536 then 2 * n else 0) := by
  have h' : (Sz05Neutral.natural n 32 && ((a.all (fun (z : Int) => Sz05Neutral.natural z 64) && decide ((a.length : Int) = if n ≤ 65536 then 2 * n else 0)) && (b.all (fun (z : Int) => Sz05Neutral.natural z 64) && decide ((b.length : Int) = if n ≤ 65536 then 2 * n else 0)))) = true := h
  simp only [Bool.and_eq_true, decide_eq_true_eq, Sz05Neutral.natural, List.all_eq_true] at h'
  obtain ⟨⟨h1, h2⟩, ⟨h3, h4⟩, h5, h6⟩ := h'
  exact ⟨h1, h2, fun x hx => ⟨(h3 x hx).1, (h3 x hx).2⟩, fun x hx => ⟨(h5 x hx).1, (h5 x hx).2⟩, h4, h6⟩
/-! ### check -/
theorem isEmpty_iv {x : Two} (hx : x.1 < 2 ^ 64 ∧ x.2 < 2 ^ 64) : isEmpty x = (ivM x.1 x.2).isNone := by
  have h := iv_ok hx.1 hx.2
  unfold isEmpty
  rcases XI.cases h with ⟨a, b⟩ | ⟨A, B, a, e1, e2, q⟩
  · have a' : ivOf x = none := a
    rw [a', b]; rfl
  · have e1' : ivOf x = some (A, B) := e1
    rw [e1', e2]; rfl
theorem check_ok {n : Nat} {a : List Int} (h : n ≤ 65536) (ha : a.length = 2 * n) (wa : Bits a) : PySz05.check n a = [cntTo (ivAt a) n] := by
  show tell (spec (.check (Sz05Neutral.if_ (n : Int) 65536 (Sz05Neutral.twos a)))) = _
  unfold Sz05Neutral.if_
  rw [if_pos (by omega)]
  show [((((Sz05Neutral.twos a).filter isEmpty).length : Nat) : Int)] = _
  rw [twos_eq n a ha, List.filter_map, List.length_map]
  have e : (isEmpty ∘ twoAt a) = fun k => (ivAt a k).isNone := by
    funext k
    exact isEmpty_iv (wa.two k)
  rw [e]
  rfl
theorem check_refused {n : Int} {a : List Int} (h : 65536 < n) : PySz05.check n a = [-2] := by
  show tell (spec (.check (Sz05Neutral.if_ n 65536 (Sz05Neutral.twos a)))) = _
  unfold Sz05Neutral.if_
  rw [if_neg (by omega)]
  rfl
theorem check_asked {n : Int} {a : List Int} (h : PySz05.check_asked n a = true) : 0 ≤ n ∧ n < 2 ^ 32 ∧ Bits a ∧ (a.length : Int) = (if n ≤ 65536 then 2 * n else 0) := by
  have h' : (Sz05Neutral.natural n 32 && (a.all (fun (z : Int) => Sz05Neutral.natural z 64) && decide ((a.length : Int) = if n ≤ 65536 then 2 * n else 0))) = true := h
  simp only [Bool.and_eq_true, decide_eq_true_eq, Sz05Neutral.natural, List.all_eq_true] at h'
  obtain ⟨⟨h1, h2⟩, h3, h4⟩ := h'
  exact ⟨h1, h2, fun x hx => ⟨(h3 x hx).1, (h3 x hx).2⟩, h4⟩
/-! ### eval -/
def fin52 (b : Nat) : Bool := decide (b % 2 ^ 63 < INF)
theorem finite_eq {b : Nat} (h : b < 2 ^ 64) : finite b = fin52 b := by
  unfold finite fin52 INF
  by_cases c : b / 2 ^ 52 % 2048 = 2047
  · rw [decide_eq_false (by omega)]
    simpa using c
  · rw [decide_eq_true (by omega)]
    simpa using c
/-- one of Horner's steps -/
def hstep (x s : IvM) (c : Nat) : IvM := addR (mulR s x) (ivM c c)
theorem horner_fold {x : Two} (hx : x.1 < 2 ^ 64 ∧ x.2 < 2 ^ 64) : ∀ (l : List Nat) (s : IvM), Dbl s → (∀ c ∈ l, c < 2 ^ 64) →
    l.foldl (fun s b => result 0 (result 2 s x) (point b)) (toldM s) = toldM (l.foldl (hstep (ivM x.1 x.2)) s)
  | [], s, _, _ => rfl
  | c :: r, s, hs, hl => by
    have hc := hl c (List.mem_cons_self ..)
    rw [List.foldl_cons, List.foldl_cons, result_told (by decide) hs hx, result_told (by decide) (dbl_rnd _) (show (point c).1 < 2 ^ 64 ∧ (point c).2 < 2 ^ 64 from ⟨hc, hc⟩)]
    exact horner_fold hx r _ (dbl_rnd _) fun z hz => hl z (List.mem_cons_of_mem _ hz)
/-- what Horner's rule has behind i numbers -/
def hornTo (x : IvM) (f : Nat → Nat) : Nat → IvM
  | 0 => some (0, 0)
  | i + 1 => hstep x (hornTo x f i) (f i)
theorem hornTo_dbl (x : IvM) (f : Nat → Nat) : ∀ i, Dbl (hornTo x f i)
  | 0 => dbl_zero
  | i + 1 => dbl_rnd _
theorem hornTo_eq (x : IvM) (f : Nat → Nat) : ∀ n, ((List.range n).map f).foldl (hstep x) (some (0, 0)) = hornTo x f n
  | 0 => rfl
  | n + 1 => by
    rw [List.range_succ, List.map_append, List.foldl_append, hornTo_eq x f n]
    rfl
theorem hstep_zero {x : IvM} (hx : x.isNone = false) {c : Nat} (hc : c < 2 ^ 64) : hstep x (some (0, 0)) c = ivM c c := by
  cases x with
  | none => cases hx
  | some b =>
    unfold hstep mulR addR
    have d : Dbl (ivM c c) := ⟨c, c, hc, hc, rfl⟩
    rw [mul_zero_left, rnd_dbl dbl_zero, add_zero_left, rnd_dbl d]
theorem horner_eq {x : Two} (hx : x.1 < 2 ^ 64 ∧ x.2 < 2 ^ 64) (hn : (ivM x.1 x.2).isNone = false) (l : List Nat) (hl : ∀ c ∈ l, c < 2 ^ 64) : horner x l = toldM (l.foldl (hstep (ivM x.1 x.2)) (some (0, 0))) := by
  cases l with
  | nil => exact told_zero.symm
  | cons c r =>
    have hc := hl c (List.mem_cons_self ..)
    show r.foldl (fun s b => result 0 (result 2 s x) (point b)) (told (ivOf (point c))) = _
    have e : told (ivOf (point c)) = toldM (ivM c c) := told_iv (x := point c) ⟨hc, hc⟩
    rw [e, horner_fold hx r _ ⟨c, c, hc, hc, rfl⟩ fun z hz => hl z (List.mem_cons_of_mem _ hz), List.foldl_cons, hstep_zero hn hc]
/-- the i-th coefficient from the highest on -/
def coef (c : List Int) (n i : Nat) : Nat := (c.getD (n - i) 0).toNat
theorem rev_eq : ∀ (n : Nat) (c : List Int), c.length = n + 1 → (c.map Int.toNat).reverse = (List.range (n + 1)).map (coef c n) := by
  intro n c h
  apply List.ext_getElem
  · simp [h]
  · intro i h1 h2
    have hi : i < n + 1 := by simpa using h2
    have e : c.length - 1 - i = n - i := by omega
    simp only [List.getElem_reverse, List.getElem_map, List.getElem_range, List.length_map, e]
    unfold coef
    congr 1
    have : n - i < c.length := by omega
    simp [List.getD, this]
def evalM (n : Nat) (c : List Int) (x : IvM) : IvM := if (∀ z ∈ c, fin52 z.toNat = true) ∧ x.isNone = false then hornTo x (coef c n) (n + 1) else none
theorem evalM_ord (n : Nat) (c : List Int) (x : IvM) : Ord (evalM n c x) := by
  unfold evalM
  split
  · exact (hornTo_dbl _ _ _).ord
  · exact fun a e => by cases e
theorem eval_ok {n : Nat} {c : List Int} {x y : Int} (h : n ≤ 1024) (hc : c.length = n + 1) (wc : Bits c) (hx : 0 ≤ x ∧ x < 2 ^ 64) (hy : 0 ≤ y ∧ y < 2 ^ 64) :
    PySz05.evaluate n c [x, y] = ans (evalM n c (ivM x.toNat y.toNat)) := by
  show tell (spec (.eval (Sz05Neutral.if_ (n : Int) 1024 (Sz05Neutral.nats c)) (x.toNat, y.toNat))) = _
  unfold Sz05Neutral.if_
  rw [if_pos (by omega)]
  show tell (one (if (Sz05Neutral.nats c).all finite = true ∧ isEmpty (x.toNat, y.toNat) = false then horner (x.toNat, y.toNat) (Sz05Neutral.nats c).reverse else told none)) = _
  have hxy : (x.toNat, y.toNat).1 < 2 ^ 64 ∧ (x.toNat, y.toNat).2 < 2 ^ 64 := by dsimp only; omega
  have e1 : isEmpty (x.toNat, y.toNat) = (ivM x.toNat y.toNat).isNone := isEmpty_iv hxy
  have e2 : (Sz05Neutral.nats c).all finite = true ↔ ∀ z ∈ c, fin52 z.toNat = true := by
    unfold Sz05Neutral.nats
    rw [List.all_eq_true]
    constructor
    · intro q z hz
      have := q z.toNat (List.mem_map_of_mem hz)
      rw [finite_eq (by have := wc z hz; omega)] at this
      exact this
    · intro q b hb
      obtain ⟨z, hz, rfl⟩ := List.mem_map.mp hb
      rw [finite_eq (by have := wc z hz; omega)]
      exact q z hz
  have e3 : (if (Sz05Neutral.nats c).all finite = true ∧ isEmpty (x.toNat, y.toNat) = false then horner (x.toNat, y.toNat) (Sz05Neutral.nats c).reverse else told none) = toldM (evalM n c (ivM x.toNat y.toNat)) := by
    unfold evalM
    rw [e1]
    by_cases q : (∀ z ∈ c, fin52 z.toNat = true) ∧ (ivM x.toNat y.toNat).isNone = false
    · rw [if_pos ⟨e2.mpr q.1, q.2⟩, if_pos q, horner_eq hxy q.2 _ (by
        intro b hb
        rw [List.mem_reverse] at hb
        obtain ⟨z, hz, rfl⟩ := List.mem_map.mp hb
        have := wc z hz
        omega)]
      unfold Sz05Neutral.nats
      rw [rev_eq n c hc, hornTo_eq]
    · rw [if_neg (fun w => q ⟨e2.mp w.1, w.2⟩), if_neg q]
      rfl
  rw [e3]
  exact one_told (evalM_ord _ _ _)
theorem eval_refused {n : Int} {c : List Int} {x y : Int} (h : 1024 < n) : PySz05.evaluate n c [x, y] = [-2] := by
  show tell (spec (.eval (Sz05Neutral.if_ n 1024 (Sz05Neutral.nats c)) (x.toNat, y.toNat))) = _
  unfold Sz05Neutral.if_
  rw [if_neg (by omega)]
  rfl
theorem eval_asked {n : Int} {c xs : List Int} (h : PySz05.evaluate_asked n c xs = true) :
    0 ≤ n ∧ n < 2 ^ 32 ∧ Bits c ∧ (c.length : Int) = (if n ≤ 1024 then n + 1 else 0) ∧ ∃ x y, xs = [x, y] ∧ (0 ≤ x ∧ x < 2 ^ 64) ∧ (0 ≤ y ∧ y < 2 ^ 64) := by
  match xs, h with
  | [], h => cases h
  | [x], h => cases h
  | [x, y], h =>
    have h' : (Sz05Neutral.natural n 32 && ((c.all (fun (z : Int) => Sz05Neutral.natural z 64) && decide ((c.length : Int) = if n ≤ 1024 then n + 1 else 0)) && (Sz05Neutral.natural x 64 && Sz05Neutral.natural y 64))) = true := h
    simp only [Bool.and_eq_true, decide_eq_true_eq, Sz05Neutral.natural, List.all_eq_true] at h'
    obtain ⟨⟨h1, h2⟩, ⟨h3, h4⟩, h5, h6⟩ := h'
    exact ⟨h1, h2, fun x hx => ⟨(h3 x hx).1, (h3 x hx).2⟩, h4, x, y, rfl, h5, h6⟩
  | x :: y :: z :: r, h => cases h
end Enc
end
section
section
set_option Elab.async false
set_option linter.all false
set_option maxRecDepth 100000
set_option maxHeartbeats 2000000
set_option exponentiation.threshold 200
namespace EncP
open PySem PySem.Spec PyProof.Rows L2
/-! ### rules that the layer lacks: great ints, bit_length, min and max of a list, a constant of the top, a def of the text -/
theorem bits_bl (a : Int) : Builtin.Int.intBits a = Enc.bl a.natAbs := by
  unfold Builtin.Int.intBits Enc.bl
  by_cases h : a = 0
  · subst h; rfl
  · have : ¬ a.natAbs = 0 := by omega
    simp [h, this]
theorem bl_le {n m : Nat} (h : n < 2 ^ m) : Enc.bl n ≤ m := by
  unfold Enc.bl
  split
  · omega
  · rename_i h0
    exact (Nat.log2_lt h0).mpr h
theorem bits_le {a : Int} {m : Nat} (h : a.natAbs < 2 ^ m) : Builtin.Int.intBits a ≤ m := by
  rw [bits_bl]
  exact bl_le h
/-- no more than 8,000 binary digits -/
def Few (a : Int) : Prop := a.natAbs < 2 ^ 8000
theorem Few.bits {a : Int} (h : Few a) : Builtin.Int.intBits a ≤ 8000 := bits_le h
theorem Few.of {a : Int} {m : Nat} (h : a.natAbs < 2 ^ m) (hm : m ≤ 8000) : Few a := Nat.lt_of_lt_of_le h (Enc.pow_mono hm)
theorem Few.log2 {a : Int} (h : Few a) : a.natAbs.log2 < 9000 := by
  by_cases c : a.natAbs = 0
  · rw [c]; decide
  · exact Nat.lt_of_lt_of_le ((Nat.log2_lt c).mpr h) (by decide)
section
variable {X : Cx}
theorem op_mulB : OpR X (binaryOp .Mult) (rI (fun i j => Few i ∧ Few j) fun i j => .int (i * j)) := opI fun i j _ _ _ _ _ hc q => mul_int q (by
  have h1 := hc.1.bits
  have h2 := hc.2.bits
  unfold IntMulOk
  have : Builtin.Int.intTooBig (Builtin.Int.intBits i + Builtin.Int.intBits j) = false := by
    have hb : (bitsLine : Int) = 134217728 := by decide
    exact decide_eq_false (by rw [hb]; omega)
  rw [this]
  simp)
theorem op_shlB : OpR X (binaryOp .LShift) (rI (fun i j => Few i ∧ 0 ≤ j ∧ j ≤ 1000000) fun i j => .int (i * 2 ^ j.toNat)) := opI fun i j _ _ _ _ _ hc q =>
  lshift_int hc.2.1 (by have := hc.1.bits; have := hc.2.2; omega) q
theorem op_fdivB : OpR X (binaryOp .FloorDiv) (rI (fun _ j => 0 < j ∧ Few j) fun i j => .int (i / j)) := opI fun i j _ _ _ _ _ hc q => by
  refine floordiv_int (by have := hc.1; omega) ?_ (.inl (PyProof.noPylong_of_log2 hc.2.log2))
  rw [Int.fdiv_eq_ediv_of_nonneg _ (by have := hc.1; omega)]
  exact q
theorem mt_bitlen : MtR X "int.bit_length" (fun x xs H Q => ∃ i, x = .int i ∧ xs = [] ∧ Q (.int (Enc.blI i)) H) := by
  intro pins s σ H x xs v us Q I rx rs q
  obtain ⟨i, rfl, rfl, q⟩ := q
  obtain ⟨t, rfl⟩ := rx
  cases rs
  refine call_gives F.slot_int_bit_length (typeIs_int s i t) F.entry_int_bit_length (F.args_int_bit_length_1 _) (PySem.AutoIntG2.int_bit_length_int_0 i t) ?_
  have e : ((Builtin.Int.intBits i : Nat) : Int) = Enc.blI i := by rw [bits_bl]; rfl
  rw [e]
  exact ⟨.int (Enc.blI i), H, I.tok _, ⟨_, rfl⟩, q⟩
theorem vals_ints : ∀ {ns : List Int} {us : List Value}, Vals (ns.map V.int) us → IntsAre us ns
  | [], us, h => by
    cases h
    exact .nil
  | n :: r, us, h => by
    cases h with
    | cons h1 h2 =>
      obtain ⟨t, rfl⟩ := h1
      exact .cons _ _ (vals_ints h2)
theorem call_minL (hc : X.calm = true) : CallR X (.builtin "min") (fun xs H Q => ∃ (a : Addr) (ns : List Int), xs = [.ref a] ∧ SqL X.K H a (ns.map V.int) ∧ 0 < ns.length ∧ ∀ M, M ∈ ns → (∀ x, x ∈ ns → M ≤ x) → Q (.int M) H) := by
  intro pins s σ H xs us Q I r h
  obtain ⟨a, ns, rfl, hq, hne, q⟩ := h
  obtain ⟨u, rfl, ru⟩ := vals1 r
  cases ru
  obtain ⟨its, rv, pl, _⟩ := I.list hq
  have hi := vals_ints rv
  have hl := pl.isList
  obtain ⟨ys, e⟩ := hi.allInts.items
  have hns : ns = ys.toList.map (·.1) := by
    rw [← hi.numsOf, ← nums_intItems, ← e]
  have hsz : 0 < ys.size := by
    have h3 := hne; rw [hns, List.length_map, Array.length_toList] at h3; exact h3
  rw [e] at hl
  refine min_intList (I.ok.hd hc) hl hsz fun v h' tk hv hk => ?_
  obtain ⟨t, rfl⟩ := intItems_at hv
  obtain ⟨h1, h2⟩ := argBest_lt (numAt ys) (ys.size - 1)
  refine ⟨.int _, H, I.kept hk, ⟨t, rfl⟩, q _ ?_ fun b hb => ?_⟩
  · rw [hns, numAt_eq]; exact getD_mem (by rw [List.length_map, Array.length_toList]; omega)
  · rw [hns] at hb
    obtain ⟨j, hj, rfl⟩ := mem_getD hb
    rw [List.length_map, Array.length_toList] at hj
    rw [← numAt_eq]; exact h2 j (by omega)
theorem call_maxL (hc : X.calm = true) : CallR X (.builtin "max") (fun xs H Q => ∃ (a : Addr) (ns : List Int), xs = [.ref a] ∧ SqL X.K H a (ns.map V.int) ∧ 0 < ns.length ∧ ∀ M, M ∈ ns → (∀ x, x ∈ ns → x ≤ M) → Q (.int M) H) := by
  intro pins s σ H xs us Q I r h
  obtain ⟨a, ns, rfl, hq, hne, q⟩ := h
  obtain ⟨u, rfl, ru⟩ := vals1 r
  cases ru
  obtain ⟨its, rv, pl, _⟩ := I.list hq
  have hi := vals_ints rv
  have hl := pl.isList
  obtain ⟨ys, e⟩ := hi.allInts.items
  have hns : ns = ys.toList.map (·.1) := by
    rw [← hi.numsOf, ← nums_intItems, ← e]
  have hsz : 0 < ys.size := by
    have h3 := hne; rw [hns, List.length_map, Array.length_toList] at h3; exact h3
  rw [e] at hl
  refine max_intList (I.ok.hd hc) hl hsz fun v h' tk hv hk => ?_
  obtain ⟨t, rfl⟩ := intItems_at hv
  obtain ⟨h1, h2⟩ := argBest_gt (numAt ys) (ys.size - 1)
  refine ⟨.int _, H, I.kept hk, ⟨t, rfl⟩, q _ ?_ fun b hb => ?_⟩
  · rw [hns, numAt_eq]; exact getD_mem (by rw [List.length_map, Array.length_toList]; omega)
  · rw [hns] at hb
    obtain ⟨j, hj, rfl⟩ := mem_getD hb
    rw [List.length_map, Array.length_toList] at hj
    rw [← numAt_eq]; exact h2 j (by omega)
/-- an int of the top -/
theorem pe_k {x : Str} {c : Int} {pos : Pos} (h : ∃ t, X.mg x = some (.int c t)) (hg : Gl X x) (hd : (x == ("__debug__" : Str)) = false := by decide) : PE X (.Name x pos) (tC (.int c)) := by
  obtain ⟨t, e⟩ := h
  exact pe_glob hg e ⟨t, rfl⟩ hd
end
/-- a def of the text, with its promise -/
structure Has (P : Program) (w : World) (K : PySem.W.Frag) (mg : Str → Option Value) (base : Heap) (x : Str) (k : Nat) (ps : List Str) (sp : Sp) : Prop where
  ex : ∃ f fd, FnOk P w K mg base CX0 k f fd ps sp ∧ mg x = some (.ref f) ∧ PySem.W.keepIn K (.ref f) = true ∧ Binds K fd ps []
theorem pe_own {X : Cx} {x : Str} {k : Nat} {ps : List Str} {sp : Sp} {p pos : Pos} {e : Expr} {es : List Expr} {t : TA} (h : Has X.prog X.w X.K X.mg X.base x k ps sp) (hr : Room k X.A) (hg : Gl X x) (ha : PA X (e :: es) t)
    (hdb : (x == ("__debug__" : Str)) = false := by decide) (he : starEach (e :: es) X.env = (false, eval e X.env) :: starEach es X.env := by rfl) (hpl : (backTo pos (starEach es X.env)).any (·.1) = false := by rfl) :
    PE X (.Call (.Name x p) (e :: es) [] pos) (tCall sp [] E0 t) := by
  obtain ⟨f, fd, F, hm, hk, hb⟩ := h.ex
  exact pe_call F hr hg hm hk hb .nil pass0 ha hdb he hpl
/-! ### what stands for an interval in units -/
def RP (H : Hp) (v : V) : Enc.IvM → Prop
  | none => v = .non
  | some a => ∃ p, v = .ref p ∧ H p = some (.tup [.int a.1, .int a.2])
theorem RP.same {H H' : Hp} {v : V} {o : Enc.IvM} (h : RP H v o) (s : Same H H') : RP H' v o := by
  cases o with
  | none => exact h
  | some a =>
    obtain ⟨p, e, q⟩ := h
    exact ⟨p, e, s _ _ q⟩
theorem Same.new {H : Hp} {p : Addr} {o : HO} (h : H p = Option.none) : Same H (upd H p o) := fun b u e => by
  rw [upd_ne (ne_of_none e h)]
  exact e
end EncP
end
end
section
section
set_option Elab.async false
set_option linter.all false
set_option maxRecDepth 100000
set_option maxHeartbeats 2000000
set_option exponentiation.threshold 200
namespace EncP
open PySem PySem.Spec PyProof.Rows L2
open PySem.W (Codec)
/-! ### the text by places -/
def top (i : Nat) : Stmt := PySem.Challenge.pw_enclosing_s05_check.main.body.getD i (.Pass ⟨0, 0, 0, 0⟩)
abbrev s_is_nan : Stmt := top 8
theorem sc_is_nan : FnScope ["bits"] ["bits"] (defScope s_is_nan) := ⟨rfl, rfl, rfl, by decide +kernel, rfl, by decide +kernel, by decide +kernel⟩
abbrev s_units_of : Stmt := top 9
theorem sc_units_of : FnScope ["bits", "magnitude", "exponent", "size"] ["bits"] (defScope s_units_of) := ⟨rfl, rfl, rfl, by decide +kernel, rfl, by decide +kernel, by decide +kernel⟩
abbrev s_interval_at : Stmt := top 10
theorem sc_interval_at : FnScope ["numbers", "place", "low", "high", "low_units", "high_units"] ["numbers", "place"] (defScope s_interval_at) := ⟨rfl, rfl, rfl, by decide +kernel, rfl, by decide +kernel, by decide +kernel⟩
/-! ### what the top has written -/
structure Txt (mg : Str → Option Value) : Prop where
  REFUSED : ∃ t, mg "REFUSED" = some (.int (-2) t)
  MOST_INTERVALS : ∃ t, mg "MOST_INTERVALS" = some (.int 65536 t)
  SIGN : ∃ t, mg "SIGN" = some (.int 9223372036854775808 t)
  INFINITY : ∃ t, mg "INFINITY" = some (.int 9218868437227405312 t)
  HIDDEN_BIT : ∃ t, mg "HIDDEN_BIT" = some (.int 4503599627370496 t)
  FRACTION_WIDTH : ∃ t, mg "FRACTION_WIDTH" = some (.int 52 t)
  FAR_WIDTH : ∃ t, mg "FAR_WIDTH" = some (.int 3200 t)
  range : mg "range" = none
/-! ### the promises -/
def sp_is_nan : Sp := fun vs H Q _ => ∃ x : Int, vs = [.int x] ∧ 0 ≤ x ∧ Q (.bl (Enc.isNan x.toNat)) H
def sp_units_of : Sp := fun vs H Q _ => ∃ x : Int, vs = [.int x] ∧ 0 ≤ x ∧ x < 2 ^ 64 ∧ Q (.int (Enc.unitsOf x.toNat)) H
/-- the interval in units that two numbers of a list tell -/
def sp_interval_at (K : PySem.W.Frag) : Sp := fun vs H Q _ => ∃ (a : Addr) (ns : List Int) (j : Nat), vs = [.ref a, .int (2 * j : Nat)] ∧ SqL K H a (ns.map V.int) ∧ 2 * j + 1 < ns.length ∧ Enc.Bits ns ∧
  ∀ (H' : Hp) (v : V), Same H H' → RP H' v (Enc.ivAt ns j) → Q v H'
def sp_excess_width : Sp := fun vs H Q _ => ∃ x : Int, vs = [.int x] ∧ 0 ≤ x ∧ Q (.int (Enc.exc x.toNat)) H
def sp_bits_not_above : Sp := fun vs H Q _ => ∃ x : Int, vs = [.int x] ∧ 0 ≤ x ∧ Few x ∧ Q (.int (Enc.dnB x.toNat)) H
def sp_bits_not_below : Sp := fun vs H Q _ => ∃ x : Int, vs = [.int x] ∧ 0 ≤ x ∧ Few x ∧ Q (.int (Enc.upB x.toNat)) H
def sp_lower_bits : Sp := fun vs H Q _ => ∃ x : Int, vs = [.int x] ∧ Few x ∧ Q (.int (Enc.lowerB x)) H
def sp_upper_bits : Sp := fun vs H Q _ => ∃ x : Int, vs = [.int x] ∧ Few x ∧ Q (.int (Enc.upperB x)) H
/-- the ends are of few digits -/
def FewP : Enc.IvM → Prop
  | none => True
  | some a => Few a.1 ∧ Few a.2
def sp_told (K : PySem.W.Frag) : Sp := fun vs H Q _ => ∃ (v : V) (o : Enc.IvM), vs = [v] ∧ RP H v o ∧ FewP o ∧ ∀ (H' : Hp) (p : Addr), Same H H' → H p = none → H' p = some (.lst ((Enc.two (Enc.toldM o)).map V.int)) → Q (.ref p) H'
theorem decT {i j : Int} (c : decide (V.int i = V.int j) = true) : i = j := V.int.inj (of_decide_eq_true c)
theorem decF {i j : Int} (c : ¬ decide (V.int i = V.int j) = true) : ¬ i = j := fun h => c (decide_eq_true (congrArg V.int h))
theorem few_small {a : Int} (h : a.natAbs < 2 ^ 64) : Few a := Few.of h (by decide)
section
variable {P : Program} {w : World} {K : PySem.W.Frag} {mg : Str → Option Value} {base : Heap}
theorem ok_is_nan {f : Addr} {fd : FuncData} (F : Fun K "is_nan" "is_nan" s_is_nan f fd) (T : Txt mg) : FnOk P w K mg base CX0 1 f fd ["bits"] sp_is_nan := by
  refine F.ok sc_is_nan (fun vs H Q E h => ?_) (fun cdv A outer s H vs Q E hr h => ?_)
  · obtain ⟨x, rfl, _⟩ := h
    rfl
  · obtain ⟨x, rfl, h0, k⟩ := h
    refine ⟨_, (pss_one (ps_ret (pe_cmpR op_gt (pe_op op_mod (pv 0) (pe_k T.SIGN rfl)) (pe_k T.INFINITY rfl) (nomark _)))), ?_⟩
    refine ⟨_, rfl, _, _, rfl, rfl, (by show (0 : Int) < 9223372036854775808; decide), _, _, rfl, rfl, ?_⟩
    exact (congrArg (fun z => Q (V.bl z) H) (Enc.py_nan h0)).mpr k
theorem ok_units_of {f : Addr} {fd : FuncData} (F : Fun K "units_of" "units_of" s_units_of f fd) (T : Txt mg) : FnOk P w K mg base CX0 1 f fd ["bits"] sp_units_of := by
  refine F.ok sc_units_of (fun vs H Q E h => ?_) (fun cdv A outer s H vs Q E hr h => ?_)
  · obtain ⟨x, rfl, _⟩ := h
    rfl
  · obtain ⟨x, rfl, h0, h1, k⟩ := h
    have neg : ∀ z : Int, z = (Enc.sizeOf_ (x.toNat % 2 ^ 63) : Int) → decide ((9223372036854775808 : Int) ≤ x) = true → Q (.int (-z)) H := fun z e c => by
      rw [e, Enc.py_units_neg h0 h1 (of_decide_eq_true c)]; exact k
    have pos : ∀ z : Int, z = (Enc.sizeOf_ (x.toNat % 2 ^ 63) : Int) → ¬ decide ((9223372036854775808 : Int) ≤ x) = true → Q (.int z) H := fun z e c => by
      rw [e, Enc.py_units_pos h0 h1 (fun h => c (decide_eq_true h))]; exact k
    refine ⟨_, (pss_cons (ps_set (i := 1) sc_units_of.nd rfl (Or.inl rfl) (pe_op op_mod (pv 0) (pe_k T.SIGN rfl))) (pss_cons (ps_set (i := 2) sc_units_of.nd rfl (Or.inl rfl) (pe_op op_shr (pv 1) (pe_k T.FRACTION_WIDTH rfl))) (pss_cons (ps_if (pt_cmpR op_eq (pv 1) (pe_k T.INFINITY rfl) (nomark _)) (pss_one (ps_set (i := 3) sc_units_of.nd rfl (Or.inl rfl) (pe_op op_shlB pe_int (pe_k T.FAR_WIDTH rfl)))) (pss_one (ps_if (pt_cmpR op_eq (pv 2) pe_int (nomark _)) (pss_one (ps_set (i := 3) sc_units_of.nd rfl (Or.inl rfl) (pv 1))) (pss_one (ps_set (i := 3) sc_units_of.nd rfl (Or.inl rfl) (pe_op op_shlB (pe_op op_add (pe_k T.HIDDEN_BIT rfl) (pe_op op_mod (pv 1) (pe_k T.HIDDEN_BIT rfl))) (pe_op op_sub (pv 2) pe_int))))))) (pss_one (ps_ret (pe_ifExp (pt_cmpR op_ge (pv 0) (pe_k T.SIGN rfl) (nomark _)) (pe_un un_neg (pv 3)) (pv 3))))))), ?_⟩
    refine ⟨_, rfl, _, _, rfl, rfl, (by show (0 : Int) < 9223372036854775808; decide), _, rfl, _, _, rfl, rfl, (by show (0 : Int) ≤ 52; decide), _, rfl, rfl, _, rfl, ?_⟩
    refine ite2 (fun c => ?_) (fun c => ?_)
    · have c := decT c
      refine ⟨_, _, rfl, rfl, ⟨few_small (by decide), by decide, by decide⟩, _, rfl, _, _, rfl, rfl, _, rfl, ?_⟩
      refine ite2 (fun d => ?_) (fun d => ?_)
      · exact ⟨_, rfl, _, rfl, neg _ (Enc.py_size_inf h0 h1 c) d⟩
      · exact ⟨_, rfl, pos _ (Enc.py_size_inf h0 h1 c) d⟩
    · have c := decF c
      refine ⟨_, rfl, rfl, _, rfl, ?_⟩
      refine ite2 (fun g => ?_) (fun g => ?_)
      · have g := decT g
        refine ⟨_, rfl, _, rfl, _, _, rfl, rfl, _, rfl, ?_⟩
        refine ite2 (fun d => ?_) (fun d => ?_)
        · exact ⟨_, rfl, _, rfl, neg _ (Enc.py_size_sub h0 h1 c g) d⟩
        · exact ⟨_, rfl, pos _ (Enc.py_size_sub h0 h1 c g) d⟩
      · have g := decF g
        have g52 : (2 : Int) ^ (52 : Int).toNat = 4503599627370496 := by decide
        refine ⟨_, rfl, _, _, rfl, rfl, (by show (0 : Int) < 4503599627370496; decide), _, _, rfl, rfl, _, rfl, _, _, rfl, rfl, _, _, rfl, rfl, ⟨few_small ?_, ?_, ?_⟩, _, rfl, _, _, rfl, rfl, _, rfl, ?_⟩
        · show ((4503599627370496 : Int) + x % 9223372036854775808 % 4503599627370496).natAbs < 2 ^ 64
          omega
        · show (0 : Int) ≤ x % 9223372036854775808 / 2 ^ (52 : Int).toNat - 1
          rw [g52] at g ⊢
          omega
        · show x % 9223372036854775808 / 2 ^ (52 : Int).toNat - 1 ≤ 1000000
          rw [g52]
          omega
        refine ite2 (fun d => ?_) (fun d => ?_)
        · exact ⟨_, rfl, _, rfl, neg _ (Enc.py_size_norm h0 h1 c g) d⟩
        · exact ⟨_, rfl, pos _ (Enc.py_size_norm h0 h1 c g) d⟩
theorem get_int {ns : List Int} {i : Nat} (h : i < ns.length) : (ns.map V.int)[i]? = some (V.int (ns.getD i 0)) := by
  rw [List.getElem?_map]
  simp [List.getD, h]
theorem ok_interval_at {f : Addr} {fd : FuncData} (F : Fun K "interval_at" "interval_at" s_interval_at f fd) (T : Txt mg) (h_is_nan : Has P w K mg base "is_nan" 1 ["bits"] sp_is_nan) (h_units_of : Has P w K mg base "units_of" 1 ["bits"] sp_units_of) :
    FnOk P w K mg base CX0 2 f fd ["numbers", "place"] (sp_interval_at K) := by
  refine F.ok sc_interval_at (fun vs H Q E h => ?_) (fun cdv A outer s H vs Q E hr h => ?_)
  · obtain ⟨a, ns, j, rfl, _⟩ := h
    rfl
  · obtain ⟨a, ns, j, rfl, hS, hj, hb, k⟩ := h
    have b1 := hb.get (2 * j)
    have b2 := hb.get (2 * j + 1)
    refine ⟨_, (pss_cons (ps_set (i := 2) sc_interval_at.nd rfl (Or.inl rfl) (pe_ix ix_list (pv 0) (pv 1) (fun _ _ => rfl))) (pss_cons (ps_set (i := 3) sc_interval_at.nd rfl (Or.inl rfl) (pe_ix ix_list (pv 0) (pe_op op_add (pv 1) pe_int) (fun _ _ => rfl))) (pss_cons (ps_if (PW.pt (pw_or (pt_val (pe_own h_is_nan (hr.mono (by decide)) rfl (pa_cons (pv 2) pa_nil))) (pw_or (pt_val (pe_own h_is_nan (hr.mono (by decide)) rfl (pa_cons (pv 3) pa_nil))) (pw_or (pt_cmpR op_eq (pv 2) (pe_k T.INFINITY rfl) (nomark _)) (pw_or1 (pt_cmpR op_eq (pv 3) (pe_op op_add (pe_k T.SIGN rfl) (pe_k T.INFINITY rfl)) (nomark _))))))) (pss_one (ps_ret pe_non)) pss_nil) (pss_cons (ps_set (i := 4) sc_interval_at.nd rfl (Or.inl rfl) (pe_own h_units_of (hr.mono (by decide)) rfl (pa_cons (pv 2) pa_nil))) (pss_cons (ps_set (i := 5) sc_interval_at.nd rfl (Or.inl rfl) (pe_own h_units_of (hr.mono (by decide)) rfl (pa_cons (pv 3) pa_nil))) (pss_cons (ps_if (pt_cmpR op_gt (pv 4) (pv 5) (nomark _)) (pss_one (ps_ret pe_non)) pss_nil) (pss_one (ps_ret (pe_tup (pa_cons (pv 4) (pa_cons (pv 5) pa_nil))))))))))), ?_⟩
    refine ⟨_, rfl, _, rfl, _, _, _, _, rfl, rfl, hS, atI_nat (get_int (by omega)), ?_⟩
    refine ⟨_, rfl, _, rfl, _, _, rfl, rfl, _, _, _, _, rfl, rfl, hS, at_of (j := 2 * j + 1) (by show ((2 * j : Nat) : Int) + 1 = _; omega) (get_int hj), ?_⟩
    have ke : Enc.ivAt ns j = Enc.ivM (ns.getD (2 * j) 0).toNat (ns.getD (2 * j + 1) 0).toNat := rfl
    generalize ns.getD (2 * j) 0 = lo at *
    generalize ns.getD (2 * j + 1) 0 = hi at *
    have none_ : (Enc.isNan lo.toNat = true ∨ Enc.isNan hi.toNat = true ∨ lo.toNat = Enc.INF ∨ hi.toNat = 2 ^ 63 + Enc.INF) → Q .non H := fun c => k H .non (Same.refl H) (by
      rw [ke]
      unfold Enc.ivM
      rw [if_pos c]
      exact rfl)
    refine ⟨_, rfl, lo, rfl, b1.1, _, rfl, ?_⟩
    refine ite2 (fun c1 => iteT (none_ (.inl c1))) (fun c1 => ?_)
    refine ⟨_, rfl, hi, rfl, b2.1, _, rfl, ?_⟩
    refine ite2 (fun c2 => iteT (none_ (.inr (.inl c2)))) (fun c2 => ?_)
    refine ⟨_, rfl, rfl, _, rfl, ?_⟩
    refine ite2 (fun c3 => iteT (none_ (.inr (.inr (.inl (by have := decT c3; unfold Enc.INF; omega)))))) (fun c3 => ?_)
    have c3 := decF c3
    refine ⟨_, rfl, _, _, rfl, rfl, rfl, _, rfl, ?_⟩
    refine ite2 (fun c4 => none_ (.inr (.inr (.inr (by have := decT c4; unfold Enc.INF; omega))))) (fun c4 => ?_)
    have c4 := decF c4
    have cc : ¬ (Enc.isNan lo.toNat = true ∨ Enc.isNan hi.toNat = true ∨ lo.toNat = Enc.INF ∨ hi.toNat = 2 ^ 63 + Enc.INF) := by
      rintro (q | q | q | q)
      · exact c1 q
      · exact c2 q
      · exact c3 (by unfold Enc.INF at q; omega)
      · exact c4 (by unfold Enc.INF at q; omega)
    refine ⟨_, rfl, lo, rfl, b1.1, b1.2, ?_⟩
    refine ⟨_, rfl, hi, rfl, b2.1, b2.2, ?_⟩
    refine ⟨_, rfl, _, rfl, _, _, rfl, rfl, _, rfl, ?_⟩
    refine ite2 (fun c5 => ?_) (fun c5 => ?_)
    · refine k H .non (Same.refl H) ?_
      rw [ke]
      unfold Enc.ivM
      rw [if_neg cc, if_pos (of_decide_eq_true c5)]
      exact rfl
    · refine ⟨_, rfl, _, rfl, (by show 2 ≤ sizeLine; decide), fun p hp => ?_⟩
      refine k _ _ (Same.new hp) ?_
      rw [ke]
      unfold Enc.ivM
      rw [if_neg cc, if_neg (fun q => c5 (decide_eq_true q))]
      exact ⟨p, rfl, upd_same⟩
theorem Few.neg {a : Int} (h : Few a) : Few (-a) := by unfold Few at *; rw [Int.natAbs_neg]; exact h
theorem exc_le {x : Int} (h : Few x) : Enc.exc x.toNat ≤ 8000 := by
  have h1 := h.bits
  rw [bits_bl] at h1
  unfold Enc.exc
  by_cases c : x < 0
  · rw [show x.toNat = 0 by omega]; decide
  · rw [show x.toNat = x.natAbs by omega]; omega
end
end EncP
end
end
section
section
set_option Elab.async false
set_option linter.all false
set_option maxRecDepth 100000
set_option maxHeartbeats 2000000
set_option exponentiation.threshold 200
namespace EncP
open PySem PySem.Spec PyProof.Rows L2
open PySem.W (Codec)
abbrev s_check : Stmt := top 11
theorem sc_check : FnScope ["n", "a", "empty", "k"] ["n", "a"] (defScope s_check) := ⟨rfl, rfl, rfl, by decide +kernel, rfl, by decide +kernel, by decide +kernel⟩
def sp_check (K : PySem.W.Frag) : Sp := fun vs H Q _ => ∃ (n : Int) (la : Addr) (xs : List Int), vs = [.int n, .ref la] ∧ SqL K H la (xs.map V.int) ∧
  PySz05.check_asked n xs = true ∧ ∀ (H' : Hp) (p : Addr), H' p = some (.lst ((PySz05.check n xs).map V.int)) → Q (.ref p) H'
theorem twice (la : Addr) (i : Nat) : [V.ref la, V.int ((2 : Int) * ((0 : Int) + (i : Int)))] = [V.ref la, V.int ((2 * i : Nat) : Int)] :=
  congrArg (fun z => [V.ref la, V.int z]) (by omega)
theorem rp_none {H : Hp} {v : V} {o : Enc.IvM} (r : RP H v o) : o.isNone = true ↔ v = .non := by
  cases o with
  | none => exact ⟨fun _ => r, fun _ => rfl⟩
  | some a =>
    obtain ⟨p, e, _⟩ := r
    exact ⟨fun h => (nomatch h), fun h => (by rw [h] at e; cases e)⟩
section
variable {P : Program} {w : World} {K : PySem.W.Frag} {mg : Str → Option Value} {base : Heap}
theorem ok_check {f : Addr} {fd : FuncData} (F : Fun K "check" "check" s_check f fd) (T : Txt mg) (h_interval_at : Has P w K mg base "interval_at" 2 ["numbers", "place"] (sp_interval_at K)) :
    FnOk P w K mg base CX0 3 f fd ["n", "a"] (sp_check K) := by
  refine F.ok sc_check (fun vs H Q E h => ?_) (fun cdv A outer s H vs Q E hr h => ?_)
  · obtain ⟨n, la, xs, rfl, _⟩ := h
    rfl
  · obtain ⟨n, la, xs, rfl, hx, hask, k⟩ := h
    obtain ⟨n0, n1, bx, lx⟩ := Enc.check_asked hask
    refine ⟨_, (pss_cons (ps_if (pt_cmpR op_gt (pv 0) (pe_k T.MOST_INTERVALS rfl) (nomark _)) (pss_one (ps_ret (pe_lst (pa_cons (pe_k T.REFUSED rfl) pa_nil)))) pss_nil) (pss_cons (ps_set (i := 2) sc_check.nd rfl (Or.inl rfl) pe_int) (pss_cons (ps_for PassesOwn.never rfl (pi_range1 rfl T.range (pa_cons (pv 0) pa_nil)) (pg_name (i := 3) sc_check.nd rfl (Or.inl rfl)) (pss_one (ps_if (pt_cmpR op_isN (pe_own h_interval_at (hr.mono (by decide)) rfl (pa_cons (pv 1) (pa_cons (pe_op op_mulB pe_int (pv 3)) pa_nil))) pe_non (nomark _)) (pss_one (ps_set (i := 2) sc_check.nd rfl (Or.inl rfl) (pe_op op_add (pv 2) pe_int))) pss_nil))) (pss_one (ps_ret (pe_lst (pa_cons (pv 2) pa_nil))))))), ?_⟩
    refine ⟨_, rfl, _, _, rfl, rfl, _, rfl, ?_⟩
    refine ite2 (fun c => ⟨(by show 1 ≤ sizeLine; decide), fun p hp => k _ p ?_⟩) (fun c => ?_)
    · rw [Enc.check_refused (of_decide_eq_true c), upd_same]
      rfl
    have nm : ¬ 65536 < n := fun z => c (decide_eq_true z)
    obtain ⟨m, rfl⟩ : ∃ m : Nat, n = (m : Int) := ⟨n.toNat, by omega⟩
    rw [if_pos (by omega)] at lx
    have lx : xs.length = 2 * m := by omega
    rw [Enc.check_ok (by omega) lx bx] at k
    refine ⟨_, rfl, _, rfl, (by omega), (by omega), for_range (lo := 0) (n := m) (fun i σ H' => ∃ vk : Option V, σ = [some (.int (m : Int)), some (.ref la), some (.int (Enc.cntTo (Enc.ivAt xs) i)), vk] ∧ Same H H') ⟨none, rfl, Same.refl H⟩ ?_ ?_⟩
    · rintro i σ H' hi ⟨vk, rfl, s0⟩
      refine ⟨_, rfl, _, rfl, _, _, rfl, rfl, ⟨few_small (by decide), few_small ?_⟩, ?_⟩
      · show ((0 : Int) + (i : Int)).natAbs < 2 ^ 64
        omega
      refine ⟨la, xs, i, twice la i, s0.seq hx, by omega, bx, fun H1 v1 s1 r1 => ?_⟩
      refine ⟨rfl, _, rfl, ?_⟩
      refine ite2 (fun c => ?_) (fun c => ?_)
      · have hn := (rp_none r1).mpr (of_decide_eq_true c)
        refine ⟨_, rfl, _, _, rfl, rfl, some (.int ((0 : Int) + (i : Int))), ?_, s0.trans s1⟩
        show [some (V.int (m : Int)), some (.ref la), some (.int (Enc.cntTo (Enc.ivAt xs) i + 1)), some (.int ((0 : Int) + (i : Int)))] = _
        rw [Enc.cntTo_succ, if_pos hn]
      · have hn : ¬ (Enc.ivAt xs i).isNone = true := fun h => c (decide_eq_true ((rp_none r1).mp h))
        refine ⟨some (.int ((0 : Int) + (i : Int))), ?_, s0.trans s1⟩
        show [some (V.int (m : Int)), some (.ref la), some (.int (Enc.cntTo (Enc.ivAt xs) i)), some (.int ((0 : Int) + (i : Int)))] = _
        rw [Enc.cntTo_succ, if_neg hn, Int.add_zero]
    · rintro σ H' ⟨vk, rfl, s0⟩
      refine ⟨_, rfl, (by show 1 ≤ sizeLine; decide), fun p hp => k _ p ?_⟩
      rw [upd_same]
      rfl
end
end EncP
end
end
section
set_option Elab.async false
set_option linter.all false
set_option maxRecDepth 100000
set_option maxHeartbeats 2000000
set_option exponentiation.threshold 200
namespace EncP
open PySem PySem.Spec PyProof.Rows L2
open PySem.W (Codec)
theorem all_mk {P : Program} {w : World} {K : PySem.W.Frag} {h : Heap} {mg : Str → Option Value} {fa : Addr} (X : K.In h) (G : h.Ns mainGlobals mg) (hfa : mg "check" = some (.ref fa))
    {t_REFUSED : Tok} (g_REFUSED : PySem.W.nsIn K mainGlobals "REFUSED" = some (some (.int (-2) t_REFUSED)))
    {t_MOST_INTERVALS : Tok} (g_MOST_INTERVALS : PySem.W.nsIn K mainGlobals "MOST_INTERVALS" = some (some (.int 65536 t_MOST_INTERVALS)))
    {t_SIGN : Tok} (g_SIGN : PySem.W.nsIn K mainGlobals "SIGN" = some (some (.int 9223372036854775808 t_SIGN)))
    {t_INFINITY : Tok} (g_INFINITY : PySem.W.nsIn K mainGlobals "INFINITY" = some (some (.int 9218868437227405312 t_INFINITY)))
    {t_HIDDEN_BIT : Tok} (g_HIDDEN_BIT : PySem.W.nsIn K mainGlobals "HIDDEN_BIT" = some (some (.int 4503599627370496 t_HIDDEN_BIT)))
    {t_FRACTION_WIDTH : Tok} (g_FRACTION_WIDTH : PySem.W.nsIn K mainGlobals "FRACTION_WIDTH" = some (some (.int 52 t_FRACTION_WIDTH)))
    {t_FAR_WIDTH : Tok} (g_FAR_WIDTH : PySem.W.nsIn K mainGlobals "FAR_WIDTH" = some (some (.int 3200 t_FAR_WIDTH)))
    (b_range : PySem.W.nsIn K mainGlobals "range" = some none)
    {f_units_of : Addr} {od_units_of an_units_of : Option Addr} {sl_units_of : Array (Option Value)} {oc_units_of kV_units_of dc_units_of pm_units_of cd_units_of ct_units_of : Value} (a_units_of : PySem.W.nsIn K mainGlobals "units_of" = some (some (.ref f_units_of)))
    (l_units_of : K.lookup f_units_of = some ⟨oc_units_of, od_units_of, .func (PySem.W.fnOf "units_of" "units_of" (defArgs s_units_of) (defBody s_units_of) (defScope s_units_of) .none kV_units_of dc_units_of pm_units_of an_units_of cd_units_of ct_units_of), sl_units_of⟩) (c_units_of : PySem.W.codeIn K cd_units_of "units_of" = true) (k_units_of : PySem.W.keepIn K (.ref f_units_of) = true)
    {f_is_nan : Addr} {od_is_nan an_is_nan : Option Addr} {sl_is_nan : Array (Option Value)} {oc_is_nan kV_is_nan dc_is_nan pm_is_nan cd_is_nan ct_is_nan : Value} (a_is_nan : PySem.W.nsIn K mainGlobals "is_nan" = some (some (.ref f_is_nan)))
    (l_is_nan : K.lookup f_is_nan = some ⟨oc_is_nan, od_is_nan, .func (PySem.W.fnOf "is_nan" "is_nan" (defArgs s_is_nan) (defBody s_is_nan) (defScope s_is_nan) .none kV_is_nan dc_is_nan pm_is_nan an_is_nan cd_is_nan ct_is_nan), sl_is_nan⟩) (c_is_nan : PySem.W.codeIn K cd_is_nan "is_nan" = true) (k_is_nan : PySem.W.keepIn K (.ref f_is_nan) = true)
    {f_interval_at : Addr} {od_interval_at an_interval_at : Option Addr} {sl_interval_at : Array (Option Value)} {oc_interval_at kV_interval_at dc_interval_at pm_interval_at cd_interval_at ct_interval_at : Value} (a_interval_at : PySem.W.nsIn K mainGlobals "interval_at" = some (some (.ref f_interval_at)))
    (l_interval_at : K.lookup f_interval_at = some ⟨oc_interval_at, od_interval_at, .func (PySem.W.fnOf "interval_at" "interval_at" (defArgs s_interval_at) (defBody s_interval_at) (defScope s_interval_at) .none kV_interval_at dc_interval_at pm_interval_at an_interval_at cd_interval_at ct_interval_at), sl_interval_at⟩) (c_interval_at : PySem.W.codeIn K cd_interval_at "interval_at" = true) (k_interval_at : PySem.W.keepIn K (.ref f_interval_at) = true)
    {f_check : Addr} {od_check an_check : Option Addr} {sl_check : Array (Option Value)} {oc_check kV_check dc_check pm_check cd_check ct_check : Value} (a_check : PySem.W.nsIn K mainGlobals "check" = some (some (.ref f_check)))
    (l_check : K.lookup f_check = some ⟨oc_check, od_check, .func (PySem.W.fnOf "check" "check" (defArgs s_check) (defBody s_check) (defScope s_check) .none kV_check dc_check pm_check an_check cd_check ct_check), sl_check⟩) (c_check : PySem.W.codeIn K cd_check "check" = true) (k_check : PySem.W.keepIn K (.ref f_check) = true)
    : ∃ fd : FuncData, (∀ (s : Shared) (us : List Value), us.length = (["n", "a"] : List Str).length → BindsTo s fd ⟨us, []⟩ ((["n", "a"] : List Str).zip us)) ∧ ∀ base : Heap, K.In base → base.Ns mainGlobals mg → FnOk P w K mg base CX0 3 fa fd ["n", "a"] (sp_check K) := by
  have e := hfa.symm.trans (PySem.W.mg_of X G a_check)
  cases e
  have T : Txt mg := { REFUSED := ⟨_, PySem.W.mg_of X G g_REFUSED⟩, MOST_INTERVALS := ⟨_, PySem.W.mg_of X G g_MOST_INTERVALS⟩, SIGN := ⟨_, PySem.W.mg_of X G g_SIGN⟩, INFINITY := ⟨_, PySem.W.mg_of X G g_INFINITY⟩, HIDDEN_BIT := ⟨_, PySem.W.mg_of X G g_HIDDEN_BIT⟩, FRACTION_WIDTH := ⟨_, PySem.W.mg_of X G g_FRACTION_WIDTH⟩, FAR_WIDTH := ⟨_, PySem.W.mg_of X G g_FAR_WIDTH⟩, range := PySem.W.mg_none_of X G b_range }
  have F_units_of := fun_mk (st := s_units_of) l_units_of c_units_of k_units_of
  have H_units_of : ∀ base : Heap, Has P w K mg base "units_of" 1 ["bits"] sp_units_of := fun base => ⟨⟨_, _, ok_units_of F_units_of T , PySem.W.mg_of X G a_units_of, k_units_of, F_units_of.binds (ps := ["bits"]) fun _ _ _ _ _ _ us hl => match us, hl with | [_], _ => rfl⟩⟩
  have F_is_nan := fun_mk (st := s_is_nan) l_is_nan c_is_nan k_is_nan
  have H_is_nan : ∀ base : Heap, Has P w K mg base "is_nan" 1 ["bits"] sp_is_nan := fun base => ⟨⟨_, _, ok_is_nan F_is_nan T , PySem.W.mg_of X G a_is_nan, k_is_nan, F_is_nan.binds (ps := ["bits"]) fun _ _ _ _ _ _ us hl => match us, hl with | [_], _ => rfl⟩⟩
  have F_interval_at := fun_mk (st := s_interval_at) l_interval_at c_interval_at k_interval_at
  have H_interval_at : ∀ base : Heap, Has P w K mg base "interval_at" 2 ["numbers", "place"] (sp_interval_at K) := fun base => ⟨⟨_, _, ok_interval_at F_interval_at T (h_units_of := H_units_of base) (h_is_nan := H_is_nan base), PySem.W.mg_of X G a_interval_at, k_interval_at, F_interval_at.binds (ps := ["numbers", "place"]) fun _ _ _ _ _ _ us hl => match us, hl with | [_, _], _ => rfl⟩⟩
  have F_check := fun_mk (st := s_check) l_check c_check k_check
  exact ⟨_, fun s us hu => match us, hu with | [_, _], _ => .of_eq rfl, fun base _ _ => ok_check F_check T (h_interval_at := H_interval_at base)⟩
end EncP
end
open PySem PySem.W PyProof.Rows
set_option maxRecDepth 100000 in
set_option maxHeartbeats 0 in
theorem PySem.Challenge.cw_enclosing_s05_check_holds : PySem.Challenge.rw_enclosing_s05_check.Holds := by
  w_on; k_headS; (case hw => exact ⟨[.int 0, .list []], by decide +kernel, by decide +kernel⟩)
  k_fillS
  refine L2.walk_specK (r := PySem.Challenge.rw_enclosing_s05_check) (k := 3) (CX := L2.CX0) (ps := ["n", "a"]) (sp := EncP.sp_check) (by decide +kernel) rfl rfl ⟨rfl, by decide, by decide⟩ (fun w h Y => PySem.W.kIn_of Y) ?F ?S (fun _ _ _ _ z => z)
  case F =>
    intro w mg fa h Y KX G hmg
    refine' EncP.all_mk KX G hmg ?g_REFUSED ?g_MOST_INTERVALS ?g_SIGN ?g_INFINITY ?g_HIDDEN_BIT ?g_FRACTION_WIDTH ?g_FAR_WIDTH ?b_range ?a_units_of ?l_units_of ?c_units_of ?k_units_of ?a_is_nan ?l_is_nan ?c_is_nan ?k_is_nan ?a_interval_at ?l_interval_at ?c_interval_at ?k_interval_at ?a_check ?l_check ?c_check ?k_check
    (case g_REFUSED => k_is)
    (case g_MOST_INTERVALS => k_is)
    (case g_SIGN => k_is)
    (case g_INFINITY => k_is)
    (case g_HIDDEN_BIT => k_is)
    (case g_FRACTION_WIDTH => k_is)
    (case g_FAR_WIDTH => k_is)
    (case b_range => k_is)
    (case a_units_of => k_is)
    (case l_units_of => k_is)
    (case c_units_of => k_is)
    (case k_units_of => k_is)
    (case a_is_nan => k_is)
    (case l_is_nan => k_is)
    (case c_is_nan => k_is)
    (case k_is_nan => k_is)
    (case a_interval_at => k_is)
    (case l_interval_at => k_is)
    (case c_interval_at => k_is)
    (case k_interval_at => k_is)
    (case a_check => k_is)
    (case l_check => k_is)
    (case c_check => k_is)
    (case k_check => k_is)
  case S =>
    intro K H xs a hO hwi hask hx
    have hx : L2.DwAll K H xs [.int a.1, .list (a.2.1.map WData.int)] := hx
    cases hx with
    | cons h1 t1 =>
      cases t1 with
      | cons h2 t2 =>
        cases t2
        cases h1
        cases h2 with
        | lst s2 d2 =>
          have e2 := L2.ints_dw a.2.1 _ d2
          subst e2
          exact ⟨a.1, _, a.2.1, rfl, s2, hask, fun H' p hp => .lst (L2.SqL.of hp) (L2.dw_ints _)⟩
