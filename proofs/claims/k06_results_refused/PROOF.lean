import PyProof.Rows.All
import Wide.All
import OpenK.AllK
import Wide.FinOn
import PyProof.EqAt
import PyProof.EqKinds
import PyProof.TupleCall
import Lean
import PySem.Challenge.RW_gameround_k06_results_refused
set_option Elab.async false
set_option linter.all false
set_option maxRecDepth 100000
set_option maxHeartbeats 4000000
set_option Elab.async false
set_option linter.all false
set_option maxRecDepth 100000
namespace L2
open PySem PySem.Spec PyProof.Rows

/-- a key: an int or a str -/
abbrev Key := Sum Int Str
def keyIs : Key → Value → Bool
  | .inl k, v => Value.isInt k v
  | .inr x, v => Value.isStrOf x v
def keyH (w : World) : Key → Int
  | .inl k => hashInt k
  | .inr x => hashStr w x
theorem keyIs_shape : ∀ {k : Key} {v : Value}, keyIs k v = true → (∃ i t, k = Sum.inl i ∧ v = Value.int i t) ∨ (∃ x t, k = Sum.inr x ∧ v = Value.str x t)
  | .inl i, v, h => by
    obtain ⟨t, e⟩ := Value.isInt_shape (k := i) (v := v) h
    exact .inl ⟨i, t, rfl, e⟩
  | .inr x, v, h => by
    obtain ⟨t, e⟩ := Value.isStrOf_shape (x := x) (v := v) h
    exact .inr ⟨x, t, rfl, e⟩
theorem keyIs_int (i : Int) (t : Tok) : keyIs (.inl i) (.int i t) = true := by simp [keyIs, Value.isInt]
theorem keyIs_str (x : Str) (t : Tok) : keyIs (.inr x) (.str x t) = true := by simp [keyIs, Value.isStrOf]
theorem key_ll (a b : Int) : decide ((Sum.inl a : Key) = Sum.inl b) = (a == b) := by
  by_cases e : a = b
  · subst e; simp
  · have h : ¬ (Sum.inl a : Key) = Sum.inl b := fun q => e (Sum.inl.inj q)
    rw [decide_eq_false h]
    exact (beq_eq_false_iff_ne.mpr e).symm
theorem key_rr (a b : Str) : decide ((Sum.inr a : Key) = Sum.inr b) = decide (a = b) := by
  by_cases e : a = b
  · subst e; simp
  · have h : ¬ (Sum.inr a : Key) = Sum.inr b := fun q => e (Sum.inr.inj q)
    rw [decide_eq_false h, decide_eq_false e]
theorem key_lr (a : Int) (b : Str) : decide ((Sum.inl a : Key) = Sum.inr b) = false := decide_eq_false (fun q => nomatch q)
theorem key_rl (a : Str) (b : Int) : decide ((Sum.inr a : Key) = Sum.inl b) = false := decide_eq_false (fun q => nomatch q)

def mixKind (prog : Program) (w : World) : PySem.KeyKind prog w Key where
  is := keyIs
  hash := keyH w
  inj := fun v a b ha hb => by
    rcases keyIs_shape ha with ⟨i, t, rfl, rfl⟩ | ⟨x, t, rfl, rfl⟩
    · rcases keyIs_shape hb with ⟨j, u, rfl, e⟩ | ⟨y, u, rfl, e⟩
      · injection e with e1 _; rw [e1]
      · exact nomatch e
    · rcases keyIs_shape hb with ⟨j, u, rfl, e⟩ | ⟨y, u, rfl, e⟩
      · exact nomatch e
      · injection e with e1 _; rw [e1]
  byValue := fun k v h => by
    rcases keyIs_shape h with ⟨i, t, rfl, rfl⟩ | ⟨x, t, rfl, rfl⟩ <;> rfl
  pyHash := fun hv h => by
    rcases keyIs_shape hv with ⟨i, t, rfl, rfl⟩ | ⟨x, t, rfl, rfl⟩
    · exact wpAny_pyHash_int h
    · exact wpAny_pyHash_str h
  eqBool := fun hu hv h => by
    rcases keyIs_shape hu with ⟨i, t, rfl, rfl⟩ | ⟨x, t, rfl, rfl⟩
    · rcases keyIs_shape hv with ⟨j, u, rfl, rfl⟩ | ⟨y, u, rfl, rfl⟩
      · rw [key_ll] at h; exact wpAny_eqBool_int h
      · rw [key_lr] at h; exact SeqAt.EqAt.int_str i t y u _ _ _ _ h
    · rcases keyIs_shape hv with ⟨j, u, rfl, rfl⟩ | ⟨y, u, rfl, rfl⟩
      · rw [key_rl] at h; exact SeqAt.EqAt.str_int x t j u _ _ _ _ h
      · rw [key_rr] at h; exact wpAny_eqBool_str h
  «strs» := fun k x t v h => by
    rcases keyIs_shape h with ⟨i, u, rfl, e⟩ | ⟨y, u, rfl, e⟩
    · exact nomatch e
    · injection e with e1 _
      subst e1
      cases v <;> rfl

theorem mixKind_is (prog : Program) (w : World) (k : Key) (v : Value) : (mixKind prog w).is k v = keyIs k v := rfl
theorem mixKind_int (prog : Program) (w : World) (i : Int) (t : Tok) : (mixKind prog w).is (.inl i) (.int i t) = true := keyIs_int i t
theorem mixKind_str (prog : Program) (w : World) (x : Str) (t : Tok) : (mixKind prog w).is (.inr x) (.str x t) = true := keyIs_str x t
end L2

namespace L2
open PySem PySem.Spec PyProof.Rows

/-- a value, without the heap -/
inductive V where
  | non | bl (b : Bool) | int (i : Int) | str (x : Str) | byt (b : Array UInt8) | flt (b : UInt64) | ref (a : Addr) | ty (n : String)
  deriving DecidableEq

def RelV : V → Value → Prop
  | .non, u => u = Value.none
  | .bl b, u => u = Value.bool b
  | .int i, u => ∃ t, u = Value.int i t
  | .str x, u => ∃ t, u = Value.str x t
  | .byt b, u => ∃ t, u = Value.bytes b t
  | .flt b, u => ∃ t, u = Value.float b t
  | .ref a, u => u = Value.ref a
  | .ty n, u => u = Value.type n

abbrev Vals : List V → List Value → Prop := Paired RelV
theorem Vals.length {xs : List V} {us : List Value} (r : Vals xs us) : xs.length = us.length := Paired.length r
theorem Vals.get : ∀ {xs : List V} {us : List Value} {i : Nat} {x : V}, Vals xs us → xs[i]? = some x → ∃ u, us[i]? = some u ∧ RelV x u
  | _, _, _, _, .nil, e => by simp at e
  | _, _, 0, _, .cons r _, e => by simp at e; subst e; exact ⟨_, rfl, r⟩
  | _, _, i + 1, x, .cons _ t, e => by
    obtain ⟨u, h1, h2⟩ := Vals.get (i := i) (x := x) t (by simpa using e)
    exact ⟨u, by simpa using h1, h2⟩
theorem Vals.set {x : V} {u : Value} (r : RelV x u) : ∀ {xs : List V} {us : List Value} (i : Nat), Vals xs us → Vals (xs.set i x) (us.set i u)
  | _, _, _, .nil => .nil
  | _, _, 0, .cons _ t => .cons r t
  | _, _, i + 1, .cons q t => .cons q (Vals.set r i t)
theorem Vals.append : ∀ {xs ys : List V} {us ws : List Value}, Vals xs us → Vals ys ws → Vals (xs ++ ys) (us ++ ws)
  | _, _, _, _, .nil, s => s
  | _, _, _, _, .cons r t, s => .cons r (Vals.append t s)
theorem Vals.take : ∀ {xs : List V} {us : List Value} (n : Nat), Vals xs us → Vals (xs.take n) (us.take n)
  | _, _, 0, _ => .nil
  | _, _, _ + 1, .nil => .nil
  | _, _, n + 1, .cons r t => .cons r (Vals.take n t)
theorem Vals.drop : ∀ {xs : List V} {us : List Value} (n : Nat), Vals xs us → Vals (xs.drop n) (us.drop n)
  | _, _, 0, r => r
  | _, _, _ + 1, .nil => .nil
  | _, _, n + 1, .cons _ t => Vals.drop n t
theorem Vals.none_of : ∀ {xs : List V} {us : List Value} {i : Nat}, Vals xs us → xs[i]? = none → us[i]? = none := fun {xs us i} r e => by
  have h1 := r.length
  have h2 : xs.length ≤ i := List.getElem?_eq_none_iff.mp e
  exact List.getElem?_eq_none_iff.mpr (by omega)

def RelO : Option V → Option Value → Prop
  | some v, some u => RelV v u
  | none, none => True
  | _, _ => False
def KV {κ : Type} : List (κ × V) → List (κ × Value) → Prop := Paired fun (p : κ × V) (q : κ × Value) => p.1 = q.1 ∧ RelV p.2 q.2

/-- a key of a dict (00_mix): an int or a text -/
def kV : Key → V
  | .inl i => .int i
  | .inr x => .str x

/-- what stands at a tracked address -/
inductive HO where
  /-- a list -/
  | lst (xs : List V)
  /-- a tuple (never changes) -/
  | tup (xs : List V)
  /-- a dict whose keys are ints and texts; one whose keys are tuples of ints and texts (the empty one is both) -/
  | dK (kvs : List (Key × V)) | dT (kvs : List (List Key × V))
  /-- a set of ints: its members, its size -/
  | set (S : Int → Bool) (n : Nat)
  /-- an instance of the class at C, its dict at dx, its attributes -/
  | ins (C dx : Addr) (fs : List (Str × V))
  /-- the dict of the instance at x -/
  | own (x : Addr)
  /-- the dict of an exception -/
  | xd (fs : List (Str × V))
  /-- a bound method, f of x -/
  | met (f x : Addr)
  /-- a range object lo, lo + 1, .. below hi -/
  | rng (lo hi : Int)
  /-- a thing that is known to the object (the script; a dict while a loop walks it): read, never written while it is so -/
  | frz (o : Obj) (u : HO)
  /-- a code object's table -/
  | tbl (ps : Array Value)
  /-- any other thing, by what is true of its one object (a def of one's own: SetO a S n := HO.ext fun h => ..) -/
  | ext (φ : Heap → Prop)

abbrev Hp := Addr → Option HO
def upd (H : Hp) (a : Addr) (o : HO) : Hp := fun b => if b = a then some o else H b
theorem upd_same {H : Hp} {a : Addr} {o : HO} : upd H a o a = some o := by unfold upd; rw [if_pos rfl]
theorem upd_ne {H : Hp} {a b : Addr} {o : HO} (h : b ≠ a) : upd H a o b = H b := by unfold upd; rw [if_neg h]
theorem upd_upd {H : Hp} {a : Addr} {o u : HO} : upd (upd H a o) a u = upd H a u := by
  funext b; unfold upd; split <;> rfl
/-- two objects of different content stand apart -/
theorem ne_of {H : Hp} {a b : Addr} {o u : HO} (h : H a = some o) (h' : H b = some u) (d : o ≠ u) : a ≠ b := by
  intro e; subst e; rw [h] at h'; exact d (Option.some.inj h')
theorem ne_of_none {H : Hp} {a b : Addr} {o : HO} (h : H a = some o) (h' : H b = none) : a ≠ b := by
  intro e; subst e; rw [h] at h'; cases h'

section
variable (P : Program) (w : World)
def ObjOk (H : Hp) (h : Heap) (a : Addr) : HO → Prop
  | .lst xs => xs.length ≤ sizeLine ∧ ∃ (its : List Value) (n : Nat), Vals xs its ∧ h.get? a = some { cls := .type "list", data := .seq its.toArray n }
  | .tup xs => xs.length ≤ sizeLine ∧ ∃ its : List Value, Vals xs its ∧ IsTup h a its.toArray
  | .dK kvs => kvs.length ≤ sizeLine ∧ (a == sysModules) = false ∧ ∃ vs, KV kvs vs ∧ h.DictOf (mixKind P w) a vs
  | .dT kvs => kvs.length ≤ sizeLine ∧ (a == sysModules) = false ∧ ∃ xs : List (List Key × Addr × Value),
      Paired (fun (p : List Key × V) (q : List Key × Addr × Value) => p.1 = q.1 ∧ H q.2.1 = some (.tup (p.1.map kV)) ∧ RelV p.2 q.2.2) kvs xs ∧
      ∃ o es ep, h.get? a = some o ∧ o.ExactDict ∧ o.data = .dict es ep ∧ es.toList = xs.map (entryOfKey (tupleKind (mixKind P w))) ∧ (xs.map (·.1)).Nodup
  | .set S n => h.SetOf (intKind P w) a S n
  | .ins C dx fs => H dx = some (.own a) ∧ fs.length ≤ 1000 ∧ dx ≠ a ∧ h.get? a = some (PySem.W.instObj C dx) ∧
      ∃ mA, h.Ns1 dx mA ∧ (∀ f, RelO (fs.lookup f) (mA f)) ∧ PySem.Within mA (fs.map (·.1))
  | .own _ => ∃ o, h.get? a = some o
  | .xd fs => ∃ mA, h.Ns1 a mA ∧ ∀ f, RelO (fs.lookup f) (mA f)
  | .rng lo hi => ∃ t u v, h.get? a = some { cls := .type "range", data := .fields #[.int lo t, .int hi u, .int 1 v] }
  | .frz o u => h.get? a = some o ∧ ObjOk H h a u
  | .tbl ps => h.get? a = some { cls := .none, data := .fields ps }
  | .met f x => h.get? a = some (PySem.W.methodObj (.ref f) (.ref x))
  | .ext φ => φ h ∧ (∃ o, h.get? a = some o) ∧ ∀ h1 h2 : Heap, φ h1 → (∀ o, h1.get? a = some o → h2.get? a = some o) → φ h2
/-- the abstract heap is held -/
def HOk (H : Hp) (h : Heap) : Prop := ∀ a o, H a = some o → ObjOk P w H h a o
end

section
variable {P : Program} {w : World} {H H' : Hp} {h h' : Heap} {a : Addr} {o : HO}
theorem ObjOk.lt (x : ObjOk P w H h a o) : a < h.objs.size := by
  cases o with
  | lst xs => obtain ⟨_, _, _, _, e⟩ := x; exact Heap.lt_size e
  | tup xs => obtain ⟨_, _, _, p⟩ := x; exact p.lt
  | dK kvs => obtain ⟨_, _, _, _, o, _, _, e, _⟩ := x; exact Heap.lt_size e
  | dT kvs => obtain ⟨_, _, _, _, o, _, _, e, _⟩ := x; exact Heap.lt_size e
  | set S n => obtain ⟨o, _, _, _, e, _⟩ := x; exact Heap.lt_size e
  | ins C dx fs => obtain ⟨_, _, _, e, _⟩ := x; exact Heap.lt_size e
  | own y => obtain ⟨_, e⟩ := x; exact Heap.lt_size e
  | xd fs => obtain ⟨_, ⟨_, _, _, e, _⟩, _⟩ := x; exact Heap.lt_size e
  | rng lo hi => obtain ⟨_, _, _, e⟩ := x; exact Heap.lt_size e
  | frz ob u => obtain ⟨e, _⟩ := x; exact Heap.lt_size e
  | tbl ps => exact Heap.lt_size (show h.get? a = some _ from x)
  | met f y => exact Heap.lt_size (show h.get? a = some _ from x)
  | ext φ => obtain ⟨_, ⟨_, e⟩, _⟩ := x; exact Heap.lt_size e
theorem Paired.mapP {α β : Type} {F G : α → β → Prop} : ∀ {l₁ : List α} {l₂ : List β}, Paired F l₁ l₂ → (∀ a b, F a b → G a b) → Paired G l₁ l₂
  | _, _, .nil, _ => .nil
  | _, _, .cons r t, f => .cons (f _ _ r) (Paired.mapP t f)
theorem Paired.imp' {α β : Type} {F G : α → β → Prop} (f : ∀ a b, F a b → G a b) {l₁ : List α} {l₂ : List β} (r : Paired F l₁ l₂) : Paired G l₁ l₂ := Paired.mapP r f
/-- what an object's description leans on: its own object, its own dict, the tuples -/
theorem ObjOk.stay (x : ObjOk P w H h a o) (k : ∀ b u, (b = a ∨ H b = some (.own a)) → h.get? b = some u → h'.get? b = some u)
    (ho : ∀ b, H b = some (.own a) → H' b = some (.own a)) (ht : ∀ b xs, H b = some (.tup xs) → H' b = some (.tup xs)) : ObjOk P w H' h' a o := by
  induction o with
  | lst xs => obtain ⟨z, its, n, r, e⟩ := x; exact ⟨z, its, n, r, k _ _ (.inl rfl) e⟩
  | tup xs => obtain ⟨z, its, r, ob, e, c⟩ := x; exact ⟨z, its, r, ob, k _ _ (.inl rfl) e, c⟩
  | dK kvs => obtain ⟨z, y, vs, r, ob, es, ep, e, c⟩ := x; exact ⟨z, y, vs, r, ob, es, ep, k _ _ (.inl rfl) e, c⟩
  | dT kvs =>
    obtain ⟨z, y, xs, r, ob, es, ep, e, c⟩ := x
    exact ⟨z, y, xs, Paired.mapP r fun p q z => ⟨z.1, ht _ _ z.2.1, z.2.2⟩, ob, es, ep, k _ _ (.inl rfl) e, c⟩
  | set S n => obtain ⟨ob, es, ep, t, e, c⟩ := x; exact ⟨ob, es, ep, t, k _ _ (.inl rfl) e, c⟩
  | ins C dx fs =>
    obtain ⟨d, z, ne, e, mA, ⟨od, es, ep, e2, c⟩, r⟩ := x
    exact ⟨ho _ d, z, ne, k _ _ (.inl rfl) e, mA, ⟨od, es, ep, k _ _ (.inr d) e2, c⟩, r⟩
  | own y => obtain ⟨ob, e⟩ := x; exact ⟨ob, k _ _ (.inl rfl) e⟩
  | xd fs => obtain ⟨mA, ⟨od, es, ep, e, c⟩, r⟩ := x; exact ⟨mA, ⟨od, es, ep, k _ _ (.inl rfl) e, c⟩, r⟩
  | rng lo hi => obtain ⟨t, u, v, e⟩ := x; exact ⟨t, u, v, k _ _ (.inl rfl) e⟩
  | frz ob u ih => obtain ⟨e, q⟩ := x; exact ⟨k _ _ (.inl rfl) e, ih q⟩
  | tbl ps =>
    have e : h.get? a = some { cls := .none, data := .fields ps } := x
    show h'.get? a = some { cls := .none, data := .fields ps }
    exact k a _ (.inl rfl) e
  | met f y =>
    have e : h.get? a = some (PySem.W.methodObj (.ref f) (.ref y)) := x
    show h'.get? a = some (PySem.W.methodObj (.ref f) (.ref y))
    exact k a _ (.inl rfl) e
  | ext φ => obtain ⟨p, ⟨o, e⟩, st⟩ := x; exact ⟨st _ _ p fun o q => k _ _ (.inl rfl) q, ⟨o, k _ _ (.inl rfl) e⟩, st⟩
theorem HOk.lt (x : HOk P w H h) (e : H a = some o) : a < h.objs.size := (x a o e).lt
theorem HOk.fresh (x : HOk P w H h) (e : h.objs.size ≤ a) : H a = none := by
  cases q : H a with
  | none => rfl
  | some u => exact absurd (Nat.lt_of_lt_of_le (x.lt q) e) (Nat.lt_irrefl _)
/-- every object of the heap is kept -/
theorem HOk.kept (x : HOk P w H h) (k : ∀ b u, h.get? b = some u → h'.get? b = some u) : HOk P w H h' := fun a o e =>
  (x a o e).stay (fun b u _ q => k b u q) (fun _ q => q) fun _ _ q => q
/-- a new object is laid and tracked -/
theorem HOk.laid (x : HOk P w H h) (k : ∀ b u, h.get? b = some u → h'.get? b = some u) (hp : h.objs.size ≤ a) (new : ObjOk P w (upd H a o) h' a o) : HOk P w (upd H a o) h' := fun b u e => by
  have hn := x.fresh hp
  by_cases hb : b = a
  · subst hb; rw [upd_same] at e; cases e; exact new
  · rw [upd_ne hb] at e
    exact (x b u e).stay (fun c v _ q => k c v q) (fun c q => by rw [upd_ne (ne_of_none q hn)]; exact q) fun c xs q => by rw [upd_ne (ne_of_none q hn)]; exact q
end

/-- what may be read as u: it is u, or a known u -/
def Rd (H : Hp) (a : Addr) (u : HO) : Prop := H a = some u ∨ ∃ o, H a = some (.frz o u)
theorem Rd.of {H : Hp} {a : Addr} {u : HO} (h : H a = some u) : Rd H a u := .inl h
theorem Rd.ok {P : Program} {w : World} {H : Hp} {h : Heap} {a : Addr} {u : HO} (r : Rd H a u) (x : HOk P w H h) : ObjOk P w H h a u := by
  rcases r with r | ⟨o, r⟩
  · exact x a u r
  · obtain ⟨_, q⟩ := x a _ r
    exact q
/-- what may be written -/
def Mut : Option HO → Prop
  | some (.lst _) => True
  | some (.dK _) => True
  | some (.dT _) => True
  | some (.set _ _) => True
  | some (.ins _ _ _) => True
  | some (.ext _) => True
  | _ => False
section
variable {P : Program} {w : World} {H : Hp} {h h' : Heap} {x e : Addr} {o' : HO}
/-- the object at e is changed: x itself, or the dict of the instance x -/
theorem HOk.write (ok : HOk P w H h) (mu : Mut (H x)) (he : e = x ∨ H e = some (.own x)) (k : ∀ b u, b ≠ e → h.get? b = some u → h'.get? b = some u) (heo : ∃ u, h'.get? e = some u)
    (new : ObjOk P w (upd H x o') h' x o') : HOk P w (upd H x o') h' := fun b u q => by
  have nown : ∀ c y, H c = some (.own y) → c ≠ x := fun c y r z => by subst z; rw [r] at mu; exact mu
  have ntup : ∀ c xs, H c = some (.tup xs) → c ≠ x := fun c xs r z => by subst z; rw [r] at mu; exact mu
  by_cases hb : b = x
  · subst hb; rw [upd_same] at q; cases q; exact new
  · rw [upd_ne hb] at q
    by_cases hbe : b = e
    · have q' : H b = some (.own x) := by
        rcases he with z | z
        · exact absurd (hbe.trans z) hb
        · rw [hbe]; exact z
      rw [q] at q'; cases q'
      obtain ⟨v, hv⟩ := heo
      exact ⟨v, by rw [hbe]; exact hv⟩
    · refine (ok b u q).stay (fun c v hc r => k c v ?_ r) (fun c r => by rw [upd_ne (nown c b r)]; exact r) fun c xs r => by rw [upd_ne (ntup c xs r)]; exact r
      rcases hc with rfl | hc
      · exact hbe
      · rintro rfl
        rcases he with z | z
        · exact nown c b hc z
        · rw [hc] at z; cases z; exact hb rfl
end

/-! ### kept unless tracked; of the frames at fs (the callers') the slots may change (an exception that passes writes there); of the records at ex (iterators) nothing is said -/
structure Un (fs ex : List Addr) (H H' : Hp) (h h' : Heap) : Prop where
  keep : ∀ b o, h.get? b = some o → H b = none → b ∉ fs → b ∉ ex → h'.get? b = some o
  slot : ∀ b o, h.get? b = some o → H b = none → b ∈ fs → b ∉ ex → ∃ sl, h'.get? b = some { o with slots := sl }
  free : ∀ b o, h.get? b = some o → H b = none → b ∉ ex → H' b = none
  there : ∀ b o, h.get? b = some o → b ∉ ex → ∃ o', h'.get? b = some o'
  tups : ∀ b xs, H b = some (.tup xs) → H' b = some (.tup xs)
  frzs : ∀ b o u, H b = some (.frz o u) → H' b = some (.frz o u)
  tbls : ∀ b ps, H b = some (.tbl ps) → ∃ more, H' b = some (.tbl (ps ++ more))
section
variable {fs fs' ex ex' : List Addr} {H H1 H2 : Hp} {h h1 h2 h' : Heap} {a x e : Addr} {o : HO}
theorem Un.any (u : Un fs ex H H1 h h1) {b : Addr} {ob : Obj} (q : h.get? b = some ob) (n : H b = none) (hx : b ∉ ex) : ∃ sl, h1.get? b = some { ob with slots := sl } := by
  by_cases hb : b ∈ fs
  · exact u.slot b ob q n hb hx
  · exact ⟨ob.slots, u.keep b ob q n hb hx⟩
theorem Un.trans (a : Un fs ex H H1 h h1) (b : Un fs ex H1 H2 h1 h2) : Un fs ex H H2 h h2 where
  keep := fun c ob q n hc hx => b.keep c ob (a.keep c ob q n hc hx) (a.free c ob q n hx) hc hx
  slot := fun c ob q n hc hx => by
    obtain ⟨sl, e1⟩ := a.slot c ob q n hc hx
    obtain ⟨sl', e2⟩ := b.slot c _ e1 (a.free c ob q n hx) hc hx
    exact ⟨sl', e2⟩
  free := fun c ob q n hx => by
    obtain ⟨o', e1⟩ := a.there c ob q hx
    exact b.free c o' e1 (a.free c ob q n hx) hx
  there := fun c ob q hx => by
    obtain ⟨o', e1⟩ := a.there c ob q hx
    exact b.there c o' e1 hx
  tups := fun c xs q => b.tups c xs (a.tups c xs q)
  frzs := fun c ob xs q => b.frzs c ob xs (a.frzs c ob xs q)
  tbls := fun c ps q => by
    obtain ⟨m1, e1⟩ := a.tbls c ps q
    obtain ⟨m2, e2⟩ := b.tbls c _ e1
    exact ⟨m1 ++ m2, by rw [e2, Array.append_assoc]⟩
theorem Un.kept (k : ∀ b u, h.get? b = some u → h'.get? b = some u) : Un fs ex H H h h' :=
  ⟨fun b ob q _ _ _ => k b ob q, fun b ob q _ _ _ => ⟨ob.slots, k b ob q⟩, fun _ _ _ n _ => n, fun b ob q _ => ⟨ob, k b ob q⟩, fun _ _ q => q, fun _ _ _ q => q, fun _ ps q => ⟨#[], by rw [q]; simp⟩⟩
theorem Un.refl : Un fs ex H H h h := Un.kept fun _ _ q => q
theorem Un.laid (k : ∀ b u, h.get? b = some u → h'.get? b = some u) (hp : h.objs.size ≤ a) (hn : H a = none) : Un fs ex H (upd H a o) h h' where
  keep := fun b u q _ _ _ => k b u q
  slot := fun b u q _ _ _ => ⟨u.slots, k b u q⟩
  free := fun b u q n _ => by rw [upd_ne (Nat.ne_of_lt (Nat.lt_of_lt_of_le (Heap.lt_size q) hp))]; exact n
  there := fun b u q _ => ⟨u, k b u q⟩
  tups := fun b xs q => by rw [upd_ne (ne_of_none q hn)]; exact q
  frzs := fun b u xs q => by rw [upd_ne (ne_of_none q hn)]; exact q
  tbls := fun b ps q => ⟨#[], by rw [upd_ne (ne_of_none q hn), q]; simp⟩
theorem Un.write (mu : Mut (H x)) (he : e = x ∨ H e = some (.own x)) (k : ∀ b u, b ≠ e → h.get? b = some u → h'.get? b = some u) (heo : ∃ u, h'.get? e = some u) : Un fs ex H (upd H x o) h h' := by
  have hx : ∀ b, H b = none → b ≠ x := fun b n z => by subst z; rw [n] at mu; exact mu
  have hb : ∀ b, H b = none → b ≠ e := fun b n z => by
    subst z
    rcases he with r | r
    · exact hx b n r
    · rw [n] at r; cases r
  have hm : ∀ b u, H b = some u → ¬ Mut (some u) → b ≠ x := fun b u q nm z => by subst z; rw [q] at mu; exact nm mu
  refine ⟨fun b u q n _ _ => k b u (hb b n) q, fun b u q n _ _ => ⟨u.slots, k b u (hb b n) q⟩, fun b u q n _ => by rw [upd_ne (hx b n)]; exact n, fun b u q _ => ?_,
    fun b xs q => by rw [upd_ne (hm b _ q fun z => z)]; exact q, fun b u xs q => by rw [upd_ne (hm b _ q fun z => z)]; exact q, fun b ps q => ⟨#[], by rw [upd_ne (hm b _ q fun z => z), q]; simp⟩⟩
  by_cases hbe : b = e
  · subst hbe; exact heo
  · exact ⟨u, k b u hbe q⟩
theorem Un.mono (u : Un fs ex H H1 h h1) (hs : ∀ b ∈ fs, b ∈ fs') (hx : ∀ b ∈ ex, b ∈ ex') : Un fs' ex' H H1 h h1 :=
  ⟨fun b ob q n hb he => u.keep b ob q n (fun z => hb (hs b z)) fun z => he (hx b z), fun _ _ q n _ he => u.any q n fun z => he (hx _ z), fun b ob q n he => u.free b ob q n fun z => he (hx b z), fun b ob q he => u.there b ob q fun z => he (hx b z), u.tups, u.frzs, u.tbls⟩
end

/-! ### the heap without what is tracked -/
def trk (h : Heap) (H : Hp) : List Addr := (List.range h.objs.size).filter fun a => (H a).isSome
def hidT (h : Heap) (H : Hp) : Heap := PySem.W.hideAll h (trk h H)
theorem hidT_size (h : Heap) (H : Hp) : (hidT h H).objs.size = h.objs.size := PySem.W.hideAll_size _ _
theorem hidT_get {h : Heap} {H : Hp} {b : Addr} {o : Obj} (e : h.get? b = some o) (n : H b = none) : (hidT h H).get? b = some o :=
  PySem.W.hideAll_get _ e fun hm => by
    have q : (H b).isSome = true := (List.mem_filter.mp hm).2
    rw [n] at q; simp at q
theorem of_hidT {h : Heap} {H : Hp} {b : Addr} {o : Obj} (e : (hidT h H).get? b = some o) : h.get? b = some o ∧ H b = none := by
  have e' : h.get? b = some o := PySem.W.of_hideAll (trk h H) e
  refine ⟨e', ?_⟩
  cases q : H b with
  | none => rfl
  | some x =>
    have hm : b ∈ trk h H := List.mem_filter.mpr ⟨List.mem_range.mpr (Heap.lt_size e'), by simp [q]⟩
    have z : (hidT h H).get? b = none := PySem.W.hideAll_none (trk h H) hm
    rw [z] at e; cases e

/-! ### OpenK's ledger, filled with every new object but one -/
def allNews (g h : Heap) (L : Addr) : List (Addr × Obj) := (List.range h.objs.size).filterMap fun a => if a = L ∨ (g.get? a).isSome = true then none else (h.get? a).map fun o => (a, o)
theorem mem_allNews {g h : Heap} {L a : Addr} {o : Obj} (h1 : a ≠ L) (h2 : g.get? a = none) (h3 : h.get? a = some o) : (a, o) ∈ allNews g h L :=
  List.mem_filterMap.mpr ⟨a, List.mem_range.mpr (Heap.lt_size h3), by simp [h1, h2, h3]⟩
theorem of_mem_allNews {g h : Heap} {L : Addr} {p : Addr × Obj} (hp : p ∈ allNews g h L) : p.1 ≠ L ∧ g.get? p.1 = none ∧ h.get? p.1 = some p.2 := by
  obtain ⟨b, _, e⟩ := List.mem_filterMap.mp hp
  split at e
  · cases e
  · rename_i hn
    cases q : h.get? b with
    | none => rw [q] at e; simp at e
    | some u =>
      rw [q] at e
      simp only [Option.map_some, Option.some.injEq] at e
      subst e
      refine ⟨fun z => hn (.inl z), ?_, q⟩
      show g.get? b = none
      cases r : g.get? b with
      | none => rfl
      | some v => exact (hn (.inr (by simp [r]))).elim
def rest (g h : Heap) (L d : Addr) : List (Addr × Obj) := (allNews g h L).filter fun p => decide (p.1 ≠ d)
theorem rest_ne {g h : Heap} {L d : Addr} : ∀ p ∈ rest g h L d, p.1 ≠ d := fun p hp => of_decide_eq_true (List.mem_filter.mp hp).2
theorem mem_rest {g h : Heap} {L d a : Addr} {o : Obj} (h1 : a ≠ L) (h2 : g.get? a = none) (h3 : h.get? a = some o) (h4 : a ≠ d) : (a, o) ∈ rest g h L d :=
  List.mem_filter.mpr ⟨mem_allNews h1 h2 h3, decide_eq_true h4⟩
theorem news_all {g h : Heap} {L : Addr} : News g L h (allNews g h L) := fun p hp => let ⟨a, b, c⟩ := of_mem_allNews hp; ⟨c, a, b⟩
theorem news_at {g h : Heap} {L d : Addr} {o : Obj} (h1 : d ≠ L) (h2 : g.get? d = none) (h3 : h.get? d = some o) : News g L h ((d, o) :: rest g h L d) := fun p hp => by
  rcases List.mem_cons.mp hp with rfl | hp
  · exact ⟨h3, h1, h2⟩
  · exact news_all p (List.mem_filter.mp hp).1
/-- behind a rule that changed d alone: all else but the frame is kept -/
theorem kept_of_news {g h h' : Heap} {L d : Addr} {m : Str → Option Value} (k : ∀ b o, g.get? b = some o → h.get? b = some o) (F : Fr g L h' m) (N : News g L h' (rest g h L d)) :
    ∀ b o, b ≠ L → b ≠ d → h.get? b = some o → h'.get? b = some o := fun b o h1 h2 e => by
  cases q : g.get? b with
  | some u =>
    have := k b u q
    rw [e] at this; cases this
    exact F.keep b _ q
  | none => exact (N (b, o) (mem_rest h1 q e h2)).1
end L2

namespace L2
open PySem PySem.Spec PyProof.Rows

/-- the module's facts, over the base: the heap at the law's entry without what is tracked there -/
structure Mod (K : PySem.W.Frag) (mg : Str → Option Value) (base : Heap) : Prop where
  kin : K.In base
  glob : base.Ns mainGlobals mg
  blt : ∃ mb, base.Ns builtinsNs mb ∧ ∀ x : Str, x ≠ "__name__" → mb x = bootBuiltins x
  nolimit : base.NoLimit

/-- the context: a def's body (or a comprehension's block) running. base: fixed through the whole law; s₀, H₀: the entry; outer: the frames whose slots others may change (a def's callers); stack: all frames that run;
   ex: iterators that were made ahead of the entry and are walked here (a comprehension's); fn: the names whose cells were made at the entry (a def: all; a comprehension's block: its own); calm: not within an except suite; pn: pins that every state bears; xe: what is wanted of an exception that leaves the code -/
structure Cx where
  prog : Program
  w : World
  K : PySem.W.Frag
  mg : Str → Option Value
  base : Heap
  A : Around
  N : List Str
  s₀ : Shared
  H₀ : Hp
  env : Env
  outer : List Env
  stack : List Env
  ex : List Addr
  fn : Str → Bool
  calm : Bool
  pn : List (Addr × Obj)
  xe : Value → Shared → Prop
/-- the callers' frames -/
def frs (l : List Env) : List Addr := l.filterMap (·.frame)
abbrev Cx.fs (X : Cx) : List Addr := frs X.outer

def Vis (sc : Scope) (x : Str) : Prop := sc.names.lookup x = some .local ∨ sc.names.lookup x = some .cell ∨ sc.names.lookup x = some .free
def Loc (sc : Scope) (x : Str) : Prop := sc.names.lookup x = some .local ∨ sc.names.lookup x = some .cell
def Look (env : Env) (h : Heap) (m : Str → Option Value) (x : Str) (u : Value) : Prop :=
  (env.kindOf x = some .local ∧ m x = some u) ∨ ((env.kindOf x = some .cell ∨ env.kindOf x = some .free) ∧ ∃ c, env.cells.lookup x = some c ∧ h.IsCell c (some u))

structure Cx.Ok (X : Cx) : Prop where
  mod : Mod X.K X.mg X.base
  kind : X.env.scope.kind = .function
  glob : X.env.globals = mainGlobals
  blt : X.env.builtins = builtinsNs
  above : X.s₀.heap.objs.size ≤ X.env.locals
  inj : ∀ x y c, X.env.cells.lookup x = some c → X.env.cells.lookup y = some c → x = y
  has : ∀ x, (X.env.kindOf x = some .cell ∨ X.env.kindOf x = some .free) → ∃ c, X.env.cells.lookup x = some c
  cab : ∀ x c, X.fn x = true → X.env.cells.lookup x = some c → X.s₀.heap.objs.size ≤ c
  hd : X.calm = true → X.A.handled = none
  frames : X.A.frames = some X.stack
  stk : X.stack = X.outer ∨ (X.stack = X.env :: X.outer ∧ X.env.frame = some X.env.locals)
  exf : ∀ b ∈ X.ex, b ≠ X.env.locals ∧ ∀ x c, X.env.cells.lookup x = some c → c ≠ b
  bs : ∀ b o, X.base.get? b = some o → X.s₀.heap.get? b = some o ∧ X.H₀ b = none
  bsz : X.base.objs.size ≤ X.s₀.heap.objs.size
  noex : ∀ b o, X.base.get? b = some o → b ∉ X.ex
  exfs : ∀ b ∈ X.ex, b ∉ X.fs
  funs : X.s₀.heap.FunFrames X.base X.outer
  frf : ∀ b ∈ X.fs, X.H₀ b = none

structure Inv (X : Cx) (pins : List (Addr × Obj)) (σ : List (Option V)) (H : Hp) (s : Shared) : Prop where
  ok : X.Ok
  os : s.os = X.s₀.os
  bare : AllBare s.gens
  base : Un X.fs X.ex X.H₀ H X.s₀.heap s.heap
  loc : ∃ m, s.heap.Ns X.env.locals m ∧ ∀ (i : Nat) (x : Str) (v : V), X.N[i]? = some x → σ[i]? = some (some v) → Vis X.env.scope x → ∃ u, RelV v u ∧ Look X.env s.heap m x u
  cell : ∀ x c, X.env.cells.lookup x = some c → ∃ v, s.heap.IsCell c v
  free : H X.env.locals = none
  freeC : ∀ x c, X.env.cells.lookup x = some c → H c = none
  pin : ∀ p ∈ X.pn ++ pins, s.heap.get? p.1 = some p.2 ∧ H p.1 = none ∧ p.1 ≠ X.env.locals ∧ p.1 ∉ X.fs ∧ ∀ v, p.2.data ≠ .cell v
  hok : HOk X.prog X.w H s.heap
  len : σ.length = X.N.length

section
variable {X : Cx} {pins : List (Addr × Obj)} {σ : List (Option V)} {H H' : Hp} {s : Shared} {h' : Heap}

theorem Cx.Ok.nofr (ok : X.Ok) {b : Addr} {o : Obj} (e : X.base.get? b = some o) : b ∉ X.fs := fun hb => by
  have := (ok.funs.mem hb).1
  rw [e] at this; cases this
theorem Inv.bs (I : Inv X pins σ H s) : ∀ b o, X.base.get? b = some o → s.heap.get? b = some o ∧ H b = none := fun b o e =>
  ⟨I.base.keep b o (I.ok.bs b o e).1 (I.ok.bs b o e).2 (I.ok.nofr e) (I.ok.noex b o e), I.base.free b o (I.ok.bs b o e).1 (I.ok.bs b o e).2 (I.ok.noex b o e)⟩
theorem Inv.bk (I : Inv X pins σ H s) : ∀ b o, X.base.get? b = some o → s.heap.get? b = some o := fun b o e => (I.bs b o e).1
theorem Inv.mod (I : Inv X pins σ H s) : Mod X.K X.mg X.base := I.ok.mod
theorem Inv.kIn (I : Inv X pins σ H s) : X.K.In s.heap := I.ok.mod.kin.keeps I.bk
theorem Inv.nolimit (I : Inv X pins σ H s) : s.heap.NoLimit := I.ok.mod.nolimit.keeps I.bk
/-- the frame over the base: for OpenK's rules (K.In X.base is I.mod.kin) -/
theorem Inv.fr (I : Inv X pins σ H s) : ∃ m, Fr X.base X.env.locals s.heap m :=
  let ⟨m, hn, _⟩ := I.loc
  ⟨m, hn, I.bk, Nat.le_trans I.ok.bsz I.ok.above⟩
theorem Inv.lt (I : Inv X pins σ H s) : X.env.locals < s.heap.objs.size := let ⟨_, hn, _⟩ := I.loc; hn.lt
theorem Inv.sz (I : Inv X pins σ H s) : X.s₀.heap.objs.size ≤ s.heap.objs.size := Nat.le_trans I.ok.above (Nat.le_of_lt I.lt)
theorem Inv.nofs (I : Inv X pins σ H s) {a : Addr} (h : s.heap.objs.size ≤ a) : a ∉ X.fs := fun hb => by
  obtain ⟨_, o, ho, _⟩ := I.ok.funs.mem hb
  exact absurd (Nat.lt_of_lt_of_le (Heap.lt_size ho) (Nat.le_trans I.sz h)) (Nat.lt_irrefl _)
theorem Inv.cne (I : Inv X pins σ H s) : ∀ x c, X.env.cells.lookup x = some c → c ≠ X.env.locals := fun x c e z => by
  obtain ⟨v, o, ho, hd⟩ := I.cell x c e
  obtain ⟨m, ⟨o', es, ep, ho', hd', _⟩, _⟩ := I.loc
  rw [z, ho'] at ho; cases ho; rw [hd'] at hd; cases hd
theorem Inv.funs (I : Inv X pins σ H s) : s.heap.FunFrames X.base X.outer := by
  have all : ∀ (l : List Env), (∀ b ∈ frs l, b ∈ X.fs) → X.s₀.heap.FunFrames X.base l → s.heap.FunFrames X.base l := by
    intro l
    induction l with
    | nil => intro _ _; trivial
    | cons env r ih =>
      intro hs hl
      obtain ⟨hk, ⟨L, o, hf, hn, ho, hd⟩, hr⟩ := hl
      have hL : L ∈ X.fs := hs L (by unfold frs; rw [List.filterMap_cons, hf]; exact List.mem_cons_self)
      obtain ⟨sl, e⟩ := I.base.slot L o ho (I.ok.frf L hL) hL fun z => I.ok.exfs L z hL
      exact ⟨hk, ⟨L, _, hf, hn, e, hd⟩, ih (fun b hb => hs b (by unfold frs; rw [List.filterMap_cons, hf]; exact List.mem_cons_of_mem _ hb)) hr⟩
  exact all X.outer (fun _ hb => hb) I.ok.funs

/-- the frames that run, for a call -/
theorem Inv.stack (I : Inv X pins σ H s) : s.heap.FunFrames X.base X.stack := by
  rcases I.ok.stk with e | ⟨e, hf⟩
  · rw [e]; exact I.funs
  · rw [e]
    obtain ⟨m, hn, _⟩ := I.loc
    refine .cons (by rw [I.ok.kind]; decide) hf hn ?_ I.funs
    exact Heap.get?_none_of_le (Nat.le_trans I.ok.bsz I.ok.above)
theorem Inv.stkSub (I : Inv X pins σ H s) : ∀ b ∈ frs X.stack, b ∈ X.env.locals :: X.fs := fun b hb => by
  rcases I.ok.stk with e | ⟨e, hf⟩
  · rw [e] at hb; exact List.mem_cons_of_mem _ hb
  · rw [e] at hb
    unfold frs at hb
    rw [List.filterMap_cons, hf] at hb
    exact hb
theorem Inv.stkFree (I : Inv X pins σ H s) : ∀ b ∈ frs X.stack, H b = none := fun b hb => by
  rcases List.mem_cons.mp (I.stkSub b hb) with e | hb
  · rw [e]; exact I.free
  · obtain ⟨_, o, ho, _⟩ := I.ok.funs.mem hb
    exact I.base.free b o ho (I.ok.frf b hb) fun z => I.ok.exfs b z hb

/-- THE STEP: the untracked objects but the frame and the records at ch are kept (the callers' frames up to slots), the frame's map is kept, the new abstract heap is held -/
theorem Inv.step {g' : Array GenState} {t' : Nat} {d' : Drawn} {ch : List Addr} (I : Inv X pins σ H s)
    (hch : ∀ b ∈ ch, (b ∈ X.ex ∨ X.s₀.heap.objs.size ≤ b) ∧ b ≠ X.env.locals ∧ (∀ x c, X.env.cells.lookup x = some c → c ≠ b) ∧ ∀ p ∈ X.pn ++ pins, p.1 ≠ b)
    (keep : ∀ b o, b ≠ X.env.locals → b ∉ X.fs → b ∉ ch → s.heap.get? b = some o → H b = none → h'.get? b = some o)
    (slot : ∀ b o, b ≠ X.env.locals → b ∈ X.fs → b ∉ ch → s.heap.get? b = some o → H b = none → ∃ sl, h'.get? b = some { o with slots := sl }) (free : ∀ b o, b ∉ ch → s.heap.get? b = some o → H b = none → H' b = none)
    (there : ∀ b o, b ∉ ch → s.heap.get? b = some o → ∃ o', h'.get? b = some o')
    (tups : ∀ b xs, H b = some (.tup xs) → H' b = some (.tup xs)) (frzs : ∀ b o u, H b = some (.frz o u) → H' b = some (.frz o u)) (tbls : ∀ b ps, H b = some (.tbl ps) → ∃ more, H' b = some (.tbl (ps ++ more)))
    (ns : ∀ m, s.heap.Ns X.env.locals m → h'.Ns X.env.locals m) (hok : HOk X.prog X.w H' h') (hg : AllBare g') :
    Inv X pins σ H' { s with heap := h', gens := g', drawn := d', toks := t' } := by
  have neL : ∀ b o, X.s₀.heap.get? b = some o → b ≠ X.env.locals := fun b o e => Nat.ne_of_lt (Nat.lt_of_lt_of_le (Heap.lt_size e) I.ok.above)
  have neC : ∀ b o, X.s₀.heap.get? b = some o → b ∉ X.ex → b ∉ ch := fun b o e hx hb => by
    rcases (hch b hb).1 with z | z
    · exact hx z
    · exact absurd (Nat.lt_of_lt_of_le (Heap.lt_size e) z) (Nat.lt_irrefl _)
  have cellK : ∀ x c, X.env.cells.lookup x = some c → ∀ v, s.heap.IsCell c v → h'.IsCell c v := fun x c e v ⟨o, ho, hd⟩ => by
    have nch : c ∉ ch := fun z => (hch c z).2.2.1 x c e rfl
    by_cases hc : c ∈ X.fs
    · obtain ⟨sl, q⟩ := slot c o (I.cne x c e) hc nch ho (I.freeC x c e)
      exact ⟨_, q, hd⟩
    · exact ⟨o, keep c o (I.cne x c e) hc nch ho (I.freeC x c e), hd⟩
  refine ⟨I.ok, I.os, hg, ⟨fun b o e n hb hx => ?_, fun b o e n hb hx => ?_, fun b o e n hx => ?_, fun b o e hx => ?_, fun b xs e => tups b xs (I.base.tups b xs e), fun b o xs e => frzs b o xs (I.base.frzs b o xs e), fun b ps e => ?_⟩, ?_, fun x c e => ?_, ?_, fun x c e => ?_, fun p hp => ?_, hok, I.len⟩
  · exact keep b o (neL b o e) hb (neC b o e hx) (I.base.keep b o e n hb hx) (I.base.free b o e n hx)
  · obtain ⟨sl, e1⟩ := I.base.slot b o e n hb hx
    obtain ⟨sl', e2⟩ := slot b _ (neL b o e) hb (neC b o e hx) e1 (I.base.free b o e n hx)
    exact ⟨sl', e2⟩
  · obtain ⟨o', e1⟩ := I.base.there b o e hx
    exact free b o' (neC b o e hx) e1 (I.base.free b o e n hx)
  · obtain ⟨o', e1⟩ := I.base.there b o e hx
    exact there b o' (neC b o e hx) e1
  · obtain ⟨m1, e1⟩ := I.base.tbls b ps e
    obtain ⟨m2, e2⟩ := tbls b _ e1
    exact ⟨m1 ++ m2, by rw [e2, Array.append_assoc]⟩
  · obtain ⟨m, hn, hl⟩ := I.loc
    refine ⟨m, ns m hn, fun i x v e1 e2 e3 => ?_⟩
    obtain ⟨u, r, l⟩ := hl i x v e1 e2 e3
    refine ⟨u, r, ?_⟩
    rcases l with l | ⟨k, c, e, z⟩
    · exact .inl l
    · exact .inr ⟨k, c, e, cellK x c e _ z⟩
  · obtain ⟨v, z⟩ := I.cell x c e
    exact ⟨v, cellK x c e v z⟩
  · obtain ⟨m, ⟨o, _, _, ho, _⟩, _⟩ := I.loc
    exact free _ o (fun z => (hch _ z).2.1 rfl) ho I.free
  · obtain ⟨v, o, ho, hd⟩ := I.cell x c e
    exact free c o (fun z => (hch c z).2.2.1 x c e rfl) ho (I.freeC x c e)
  · obtain ⟨e, n, ne, nf, d⟩ := I.pin p hp
    have nch : p.1 ∉ ch := fun z => (hch p.1 z).2.2.2 p hp rfl
    exact ⟨keep p.1 p.2 ne nf nch e n, free p.1 p.2 nch e n, ne, nf, d⟩
/-- .. where the frame's own object is kept too -/
theorem Inv.un {t' : Nat} (I : Inv X pins σ H s) (u : Un X.fs [] H H' s.heap h') (hok : HOk X.prog X.w H' h') : Inv X pins σ H' { s with heap := h', toks := t' } := by
  obtain ⟨m, ⟨o, es, ep, ho, r⟩, _⟩ := id I.loc
  obtain ⟨sl, hL⟩ := u.any ho I.free (by simp)
  exact I.step (g' := s.gens) (d' := s.drawn) (ch := []) (fun _ z => nomatch z) (fun b o _ hb _ e n => u.keep b o e n hb (by simp)) (fun b o _ hb _ e n => u.slot b o e n hb (by simp)) (fun b o _ e n => u.free b o e n (by simp)) (fun b o _ e => u.there b o e (by simp)) u.tups u.frzs u.tbls (fun m' hm => by
    obtain ⟨o', es', ep', ho', r'⟩ := hm
    rw [ho] at ho'; cases ho'
    exact ⟨_, es', ep', hL, r'⟩) hok I.bare
/-- behind a call (or a comprehension's block): the slots of this frame may have changed too, the records at ch may have turned -/
theorem Inv.call {g' : Array GenState} {t' : Nat} {d' : Drawn} {ch : List Addr} (I : Inv X pins σ H s) (u : Un (frs X.stack) ch H H' s.heap h') (hok : HOk X.prog X.w H' h') (hg : AllBare g')
    (hch : ∀ b ∈ ch, (b ∈ X.ex ∨ X.s₀.heap.objs.size ≤ b) ∧ b ≠ X.env.locals ∧ (∀ x c, X.env.cells.lookup x = some c → c ≠ b) ∧ ∀ p ∈ X.pn ++ pins, p.1 ≠ b) :
    Inv X pins σ H' { s with heap := h', gens := g', drawn := d', toks := t' } := by
  obtain ⟨m, ⟨o, es, ep, ho, r⟩, _⟩ := id I.loc
  obtain ⟨sl, hL⟩ := u.any ho I.free fun z => (hch _ z).2.1 rfl
  exact I.step (ch := ch) hch (fun b o hL hb hc e n => u.keep b o e n (fun z => (List.mem_cons.mp (I.stkSub b z)).elim hL hb) hc) (fun b o _ _ hc e n => u.any e n hc) (fun b o hc e n => u.free b o e n hc) (fun b o hc e => u.there b o e hc) u.tups u.frzs u.tbls (fun m' hm => by
    obtain ⟨o', es', ep', ho', r'⟩ := hm
    rw [ho] at ho'; cases ho'
    exact ⟨_, es', ep', hL, r'⟩) hok hg
/-- an untracked record of ours (an iterator) has turned -/
theorem Inv.turned {t' : Nat} {it : Addr} (I : Inv X pins σ H s) (k : ∀ b o, b ≠ it → s.heap.get? b = some o → h'.get? b = some o) (hn : H it = none) (hL : it ≠ X.env.locals)
    (h1 : it ∈ X.ex ∨ X.s₀.heap.objs.size ≤ it) (h2 : ∀ x c, X.env.cells.lookup x = some c → c ≠ it) (h3 : ∀ p ∈ X.pn ++ pins, p.1 ≠ it) : Inv X pins σ H { s with heap := h', toks := t' } := by
  have nit : ∀ b u, H b = some u → b ≠ it := fun b u e z => by rw [z, hn] at e; cases e
  refine I.step (g' := s.gens) (d' := s.drawn) (ch := [it]) (fun b hb => ?_) (fun b o _ _ hc e _ => k b o (fun z => hc (by simp [z])) e) (fun b o _ _ hc e _ => ⟨o.slots, k b o (fun z => hc (by simp [z])) e⟩) (fun _ _ _ _ n => n)
    (fun b o hc e => ⟨o, k b o (fun z => hc (by simp [z])) e⟩) (fun _ _ e => e) (fun _ _ _ e => e) (fun b ps e => ⟨#[], by rw [e]; simp⟩) (fun m hm => ?_) (fun b u e => ?_) I.bare
  · have e : b = it := by simpa using hb
    subst e
    exact ⟨h1, hL, h2, h3⟩
  · obtain ⟨o, es, ep, ho, r⟩ := hm
    exact ⟨o, es, ep, k _ o (Ne.symm hL) ho, r⟩
  · refine (I.hok b u e).stay (fun c v hc q => k c v ?_ q) (fun _ q => q) fun _ _ q => q
    rcases hc with z | z
    · rw [z]; exact nit b u e
    · exact nit c _ z
theorem Inv.tok (I : Inv X pins σ H s) (t : Nat) : Inv X pins σ H { s with toks := t } := I.un (h' := s.heap) (t' := t) Un.refl I.hok
/-- all objects kept -/
theorem Inv.kept {t' : Nat} (I : Inv X pins σ H s) (k : ∀ b u, s.heap.get? b = some u → h'.get? b = some u) : Inv X pins σ H { s with heap := h', toks := t' } := I.un (Un.kept k) (I.hok.kept k)
/-- a new object laid and tracked -/
theorem Inv.laid {a : Addr} {o : HO} {t' : Nat} (I : Inv X pins σ H s) (k : ∀ b u, s.heap.get? b = some u → h'.get? b = some u) (hp : s.heap.objs.size ≤ a) (new : ObjOk X.prog X.w (upd H a o) h' a o) :
    Inv X pins σ (upd H a o) { s with heap := h', toks := t' } := I.un (Un.laid k hp (I.hok.fresh hp)) (I.hok.laid k hp new)
/-- an object written -/
theorem Inv.write {x e : Addr} {o : HO} {t' : Nat} (I : Inv X pins σ H s) (mu : Mut (H x)) (he : e = x ∨ H e = some (.own x)) (k : ∀ b u, b ≠ e → s.heap.get? b = some u → h'.get? b = some u) (heo : ∃ u, h'.get? e = some u)
    (new : ObjOk X.prog X.w (upd H x o) h' x o) : Inv X pins σ (upd H x o) { s with heap := h', toks := t' } := I.un (Un.write mu he k heo) (I.hok.write mu he k heo new)
/-- forgetting slots, pins -/
theorem Inv.weak {σ' : List (Option V)} (I : Inv X pins σ H s) (hl : σ'.length = σ.length) (w : ∀ (i : Nat) v, σ'[i]? = some (some v) → σ[i]? = some (some v)) : Inv X pins σ' H s :=
  ⟨I.ok, I.os, I.bare, I.base, let ⟨m, hn, hl'⟩ := I.loc; ⟨m, hn, fun i x v e1 e2 e3 => hl' i x v e1 (w i v e2) e3⟩, I.cell, I.free, I.freeC, I.pin, I.hok, hl.trans I.len⟩
theorem Inv.pins_of {pins' : List (Addr × Obj)} (I : Inv X pins σ H s) (h : ∀ p ∈ pins', s.heap.get? p.1 = some p.2 ∧ H p.1 = none ∧ p.1 ≠ X.env.locals ∧ p.1 ∉ X.fs ∧ ∀ v, p.2.data ≠ .cell v) : Inv X pins' σ H s :=
  ⟨I.ok, I.os, I.bare, I.base, I.loc, I.cell, I.free, I.freeC, fun p hp => (List.mem_append.mp hp).elim (fun z => I.pin p (List.mem_append_left _ z)) (h p), I.hok, I.len⟩

theorem nodup_ix {N : List Str} (hN : N.Nodup) {i j : Nat} {x : Str} (a : N[i]? = some x) (b : N[j]? = some x) : i = j := by
  obtain ⟨h1, e1⟩ := List.getElem?_eq_some_iff.mp a
  obtain ⟨h2, e2⟩ := List.getElem?_eq_some_iff.mp b
  exact (List.getElem_inj hN).mp (e1.trans e2.symm)

/-- a name is stored; what changed -/
theorem store_ok2 {M : Model} {A : Around} {E : Value → Shared → Prop} {i : Nat} {x : Str} {v : V} {u : Value} {Q : Unit → Shared → Prop} (I : Inv X pins σ H s) (hN : X.N.Nodup) (hi : X.N[i]? = some x) (hx : Loc X.env.scope x) (r : RelV v u)
    (h : ∀ s', Inv X pins (σ.set i (some v)) H s' → (∃ a, Heap.SameBut a s.heap s'.heap ∧ (a = X.env.locals ∨ X.env.cells.lookup x = some a)) → Q () s') (hf : X.fn x = true ∨ X.env.scope.names.lookup x = some .local := by first | exact .inl rfl | exact .inr rfl | assumption) : wpAny M A (storeName X.env x u) Q E s := by
  obtain ⟨m, hn, hl⟩ := id I.loc
  have hcls : (X.env.scope.kind == .class || (X.env.scope.kind == .module && X.env.locals != X.env.globals)) = false := by rw [I.ok.kind]; rfl
  have hiσ : i < σ.length := by rw [I.len]; exact (List.getElem?_eq_some_iff.mp hi).1
  have cne := I.cne
  have tracked : ∀ {a : Addr} {h' : Heap}, (∃ o, s.heap.get? a = some o ∧ H a = none) → Heap.SameBut a s.heap h' → HOk X.prog X.w H h' := fun {a h'} ha hs b ob e => by
    obtain ⟨_, _, hfree⟩ := ha
    refine (I.hok b ob e).stay (fun c w' hc q => (hs.2 c ?_).trans q) (fun _ q => q) fun _ _ q => q
    rintro rfl
    rcases hc with rfl | hc
    · rw [hfree] at e; cases e
    · rw [hfree] at hc; cases hc
  rcases hx with hk | hk
  · refine wpAny_storeName_local hk hn (fun h' hn' hs => ?_) hcls
    obtain ⟨oL, _, _, hoL, _⟩ := id hn
    refine h _ ⟨I.ok, I.os, I.bare, ⟨fun b o e n hb hx => ?_, fun b o e n hb hx => ?_, I.base.free, fun b o e hx => ?_, I.base.tups, I.base.frzs, I.base.tbls⟩, ⟨_, hn', fun j y v' e1 e2 e3 => ?_⟩, fun y c e => ?_, I.free, I.freeC, fun p hp => ?_, tracked ⟨oL, hoL, I.free⟩ hs, by simpa using I.len⟩ ⟨_, hs, .inl rfl⟩
    · exact (hs.2 b (Nat.ne_of_lt (Nat.lt_of_lt_of_le (Heap.lt_size e) I.ok.above))).trans (I.base.keep b o e n hb hx)
    · obtain ⟨sl, e1⟩ := I.base.slot b o e n hb hx
      exact ⟨sl, (hs.2 b (Nat.ne_of_lt (Nat.lt_of_lt_of_le (Heap.lt_size e) I.ok.above))).trans e1⟩
    · obtain ⟨o', e1⟩ := I.base.there b o e hx
      exact ⟨o', (hs.2 b (Nat.ne_of_lt (Nat.lt_of_lt_of_le (Heap.lt_size e) I.ok.above))).trans e1⟩
    · by_cases hj : j = i
      · subst hj
        rw [hi] at e1; cases e1
        rw [List.getElem?_set_self hiσ] at e2
        cases e2
        exact ⟨u, r, .inl ⟨hk, by simp⟩⟩
      · rw [List.getElem?_set_ne (Ne.symm hj)] at e2
        obtain ⟨u', r', q⟩ := hl j y v' e1 e2 e3
        refine ⟨u', r', ?_⟩
        rcases q with ⟨k, e⟩ | ⟨k, c, e, z⟩
        · refine .inl ⟨k, ?_⟩
          have : y ≠ x := fun e => hj (nodup_ix hN e1 (e ▸ hi))
          simp [this, e]
        · exact .inr ⟨k, c, e, z.sameBut hs (cne y c e)⟩
    · obtain ⟨w', z⟩ := I.cell y c e
      exact ⟨w', z.sameBut hs (cne y c e)⟩
    · obtain ⟨e, n, ne, nf, d⟩ := I.pin p hp
      exact ⟨(hs.2 p.1 ne).trans e, n, ne, nf, d⟩
  · have hfn : X.fn x = true := by
      rcases hf with z | z
      · exact z
      · rw [z] at hk; cases hk
    obtain ⟨c, hc⟩ := I.ok.has x (.inl hk)
    obtain ⟨w', z⟩ := I.cell x c hc
    refine wpAny_storeName_cell I.ok.kind hk hc z (fun h' hc' hs => ?_)
    obtain ⟨oc, hoc, hocd⟩ := id z
    refine h { s with heap := h' } ⟨I.ok, I.os, I.bare, ⟨fun b o e n hb hx => ?_, fun b o e n hb hx => ?_, I.base.free, fun b o e hx => ?_, I.base.tups, I.base.frzs, I.base.tbls⟩, ⟨m, hn.sameBut hs (Ne.symm (cne x c hc)), fun j y v' e1 e2 e3 => ?_⟩, fun y c' e => ?_, I.free, I.freeC, fun p hp => ?_, tracked ⟨oc, hoc, I.freeC x c hc⟩ hs, by simpa using I.len⟩ ⟨c, hs, .inr hc⟩
    · exact (hs.2 b (Nat.ne_of_lt (Nat.lt_of_lt_of_le (Heap.lt_size e) (I.ok.cab x c hfn hc)))).trans (I.base.keep b o e n hb hx)
    · obtain ⟨sl, e1⟩ := I.base.slot b o e n hb hx
      exact ⟨sl, (hs.2 b (Nat.ne_of_lt (Nat.lt_of_lt_of_le (Heap.lt_size e) (I.ok.cab x c hfn hc)))).trans e1⟩
    · obtain ⟨o', e1⟩ := I.base.there b o e hx
      exact ⟨o', (hs.2 b (Nat.ne_of_lt (Nat.lt_of_lt_of_le (Heap.lt_size e) (I.ok.cab x c hfn hc)))).trans e1⟩
    · by_cases hj : j = i
      · subst hj
        rw [hi] at e1; cases e1
        rw [List.getElem?_set_self hiσ] at e2
        cases e2
        exact ⟨u, r, .inr ⟨.inl hk, c, hc, hc'⟩⟩
      · rw [List.getElem?_set_ne (Ne.symm hj)] at e2
        obtain ⟨u', r', q⟩ := hl j y v' e1 e2 e3
        refine ⟨u', r', ?_⟩
        rcases q with q | ⟨k, c', e, z'⟩
        · exact .inl q
        · refine .inr ⟨k, c', e, z'.sameBut hs ?_⟩
          rintro rfl
          exact hj (nodup_ix hN e1 (I.ok.inj _ _ _ e hc ▸ hi))
    · by_cases hcc : c' = c
      · subst hcc; exact ⟨_, hc'⟩
      · obtain ⟨w2, z2⟩ := I.cell y c' e
        exact ⟨w2, z2.sameBut hs hcc⟩
    · obtain ⟨e, n, ne, nf, d⟩ := I.pin p hp
      refine ⟨(hs.2 p.1 ?_).trans e, n, ne, nf, d⟩
      intro q
      rw [q, hoc] at e
      have q' : oc = p.2 := Option.some.inj e
      exact d w' (by rw [← q']; exact hocd)
theorem store_ok {M : Model} {A : Around} {E : Value → Shared → Prop} {i : Nat} {x : Str} {v : V} {u : Value} {Q : Unit → Shared → Prop} (I : Inv X pins σ H s) (hN : X.N.Nodup) (hi : X.N[i]? = some x) (hx : Loc X.env.scope x) (r : RelV v u)
    (h : ∀ s', Inv X pins (σ.set i (some v)) H s' → Q () s') (hf : X.fn x = true ∨ X.env.scope.names.lookup x = some .local := by first | exact .inl rfl | exact .inr rfl | assumption) : wpAny M A (storeName X.env x u) Q E s :=
  store_ok2 I hN hi hx r (fun s' I' _ => h s' I') hf
/-- behind a call or a block, the state as it is -/
theorem Inv.call' {s' : Shared} {ch : List Addr} (I : Inv X pins σ H s) (ho : s'.os = s.os) (u : Un (frs X.stack) ch H H' s.heap s'.heap) (hok : HOk X.prog X.w H' s'.heap) (hg : AllBare s'.gens)
    (hch : ∀ b ∈ ch, (b ∈ X.ex ∨ X.s₀.heap.objs.size ≤ b) ∧ b ≠ X.env.locals ∧ (∀ x c, X.env.cells.lookup x = some c → c ≠ b) ∧ ∀ p ∈ X.pn ++ pins, p.1 ≠ b) : Inv X pins σ H' s' := by
  obtain ⟨h', g', d', t', o'⟩ := s'
  have e : o' = s.os := ho
  subst e
  exact I.call (g' := g') (t' := t') (d' := d') u hok hg hch
end

/-! ### the judgements -/
/-- an exception: its class, its own dict's address (where it has one), the abstract heap behind it -/
abbrev XK := Value → Option Addr → Hp → Prop
abbrev St := List (Option V)
abbrev VK := V → Hp → Prop
/-- an expression's reading; a test's; an argument list's -/
abbrev TE := St → Hp → VK → Prop
abbrev TT := St → Hp → (Bool → Hp → Prop) → Prop
abbrev TA := St → Hp → (List V → Hp → Prop) → Prop
/-- what is wanted behind a statement -/
structure Ends where
  nx : St → Hp → Prop
  rt : VK
  bk : St → Hp → Prop := fun _ _ => False
  ct : St → Hp → Prop := fun _ _ => False
abbrev TS := Ends → St → Hp → Prop

def EP (X : Cx) (pins : List (Addr × Obj)) (σ : St) (Q : VK) (u : Value) (s' : Shared) : Prop := ∃ v H', Inv X pins σ H' s' ∧ RelV v u ∧ Q v H'
def TP (X : Cx) (pins : List (Addr × Obj)) (σ : St) (Q : Bool → Hp → Prop) (b : Bool) (s' : Shared) : Prop := ∃ H', Inv X pins σ H' s' ∧ Q b H'
def AP (X : Cx) (pins : List (Addr × Obj)) (σ : St) (Q : List V → Hp → Prop) (us : List Value) (s' : Shared) : Prop := ∃ vs H', Inv X pins σ H' s' ∧ Vals vs us ∧ Q vs H'
def SP (X : Cx) (pins : List (Addr × Obj)) (D : Ends) (f : Flow) (s' : Shared) : Prop :=
  match f with
  | .next => ∃ σ' H', Inv X pins σ' H' s' ∧ D.nx σ' H'
  | .brk => ∃ σ' H', Inv X pins σ' H' s' ∧ D.bk σ' H'
  | .cont => ∃ σ' H', Inv X pins σ' H' s' ∧ D.ct σ' H'
  | .ret u => ∃ v σ' H', Inv X pins σ' H' s' ∧ RelV v u ∧ D.rt v H'

def PE (X : Cx) (e : Expr) (t : TE) : Prop :=
  ∀ (pins : List (Addr × Obj)) (s : Shared) (σ : St) (H : Hp) (Q : VK), Inv X pins σ H s → t σ H Q → wpAny (model X.prog X.w) X.A (eval e X.env) (EP X pins σ Q) X.xe s
def PT (X : Cx) (e : Expr) (t : TT) : Prop :=
  ∀ (pins : List (Addr × Obj)) (s : Shared) (σ : St) (H : Hp) (Q : Bool → Hp → Prop), Inv X pins σ H s → t σ H Q → wpAny (model X.prog X.w) X.A (isTrue e X.env (eval e X.env)) (TP X pins σ Q) X.xe s
/-- a test whatever its 'whole' is (and, or) -/
def PW (X : Cx) (e : Expr) (t : TT) : Prop :=
  ∀ (whole : Sem Value) (pins : List (Addr × Obj)) (s : Shared) (σ : St) (H : Hp) (Q : Bool → Hp → Prop), Inv X pins σ H s → t σ H Q → wpAny (model X.prog X.w) X.A (isTrue e X.env whole) (TP X pins σ Q) X.xe s
theorem PW.pt {X : Cx} {e : Expr} {t : TT} (h : PW X e t) : PT X e t := h _
/-- an argument list (no star), from the left -/
def PA (X : Cx) (es : List Expr) (t : TA) : Prop :=
  ∀ (pos : Pos) (pins : List (Addr × Obj)) (s : Shared) (σ : St) (H : Hp) (Q : List V → Hp → Prop), Inv X pins σ H s → t σ H Q → wpAny (model X.prog X.w) X.A (spliced (backTo pos (starEach es X.env))) (AP X pins σ Q) X.xe s
def PS (X : Cx) (st : Stmt) (t : TS) : Prop :=
  ∀ (pins : List (Addr × Obj)) (s : Shared) (σ : St) (H : Hp) (D : Ends), Inv X pins σ H s → t D σ H → wpAny (model X.prog X.w) X.A (exec st X.env) (SP X pins D) X.xe s
def PSs (X : Cx) (st : List Stmt) (t : TS) : Prop :=
  ∀ (pins : List (Addr × Obj)) (s : Shared) (σ : St) (H : Hp) (D : Ends), Inv X pins σ H s → t D σ H → wpAny (model X.prog X.w) X.A (execs st X.env) (SP X pins D) X.xe s
/-- weaken the end -/
theorem thn {α : Type} {t : Sem α} {Q Q' : α → Shared → Prop} {M : Model} {A : Around} {E : Value → Shared → Prop} {s : Shared} (h : wpAny M A t Q E s) (hQ : ∀ a s, Q a s → Q' a s) : wpAny M A t Q' E s := wpAny_mono h hQ fun _ _ x => x
end L2

namespace L2
open PySem PySem.Spec PyProof.Rows
section
variable {X : Cx}

/-- two expressions in a row -/
theorem bin {a b : Expr} {ta tb : TE} (ha : PE X a ta) (hb : PE X b tb) {pins : List (Addr × Obj)} {s : Shared} {σ : St} {H : Hp} {R : V → V → Hp → Prop} (I : Inv X pins σ H s) (h : ta σ H fun x H1 => tb σ H1 fun y H2 => R x y H2)
    {α : Type} {Q : α → Shared → Prop} {f : Value → Value → Sem α}
    (hf : ∀ v u s2 x y H2, Inv X pins σ H2 s2 → RelV x v → RelV y u → R x y H2 → wpAny (model X.prog X.w) X.A (f v u) Q X.xe s2) :
    wpAny (model X.prog X.w) X.A (eval a X.env) (fun v s₁ => wpAny (model X.prog X.w) X.A (eval b X.env) (fun u s₂ => wpAny (model X.prog X.w) X.A (f v u) Q X.xe s₂) X.xe s₁) X.xe s := by
  refine thn (ha pins s σ H _ I h) fun v s1 ⟨x, H1, I1, r1, q1⟩ => ?_
  refine thn (hb pins s1 σ H1 _ I1 q1) fun u s2 ⟨y, H2, I2, r2, q2⟩ => ?_
  exact hf v u s2 x y H2 I2 r1 r2 q2

/-! ### names and constants -/
def tVar (i : Nat) : TE := fun σ H Q => ∃ v, σ[i]? = some (some v) ∧ Q v H
def tC (v : V) : TE := fun _ H Q => Q v H
theorem pe_var {i : Nat} {x : Str} {pos : Pos} (hN : X.N[i]? = some x) (hv : Vis X.env.scope x) (hd : (x == ("__debug__" : Str)) = false := by decide) (hcd : (x == ("__classdict__" : Str)) = false := by decide) : PE X (.Name x pos) (tVar i) := by
  intro pins s σ H Q I h
  obtain ⟨v, e, h⟩ := h
  obtain ⟨m, hn, hl⟩ := I.loc
  obtain ⟨u, r, l⟩ := hl i x v hN e hv
  have fin : EP X pins σ Q u s := ⟨v, H, I, r, h⟩
  rcases l with ⟨hk, hm⟩ | ⟨hk, c, hc, hcell⟩
  · exact wpAny_Name (wpAny_loadName_local I.ok.kind hk hn hm fin) hd
  · rcases hk with hk | hk
    · exact wpAny_Name (wpAny_loadName_cell I.ok.kind hk hc hcell fin) hd
    · exact wpAny_Name (wpAny_loadName_free I.ok.kind hk hc hcell fin hcd) hd
theorem pe_int {i j pos} : PE X (.Constant (.int i) j pos) (tC (.int i)) := fun _ _ _ H _ I h => wpAny_Constant_int ⟨.int i, H, I.tok _, ⟨_, rfl⟩, h⟩
theorem pe_bl {b j pos} : PE X (.Constant (.bool b) j pos) (tC (.bl b)) := fun _ _ _ H _ I h => Constant_bool ⟨.bl b, H, I, rfl, h⟩
theorem pe_non {j pos} : PE X (.Constant .none j pos) (tC .non) := fun _ _ _ H _ I h => Constant_none ⟨.non, H, I, rfl, h⟩
theorem pe_str {x j pos} : PE X (.Constant (.str x) j pos) (tC (.str x)) := fun _ _ _ H _ I h => Calls.Constant_str ⟨.str x, H, I.tok _, ⟨_, rfl⟩, h⟩

/-- a global name of the def -/
def Gl (X : Cx) (x : Str) : Prop := X.env.kindOf x = some .globalImplicit
theorem ld_glob {E : Value → Shared → Prop} {pins : List (Addr × Obj)} {s : Shared} {σ : St} {H : Hp} {x : Str} {u : Value} {pos : Pos} {Q : Value → Shared → Prop} (I : Inv X pins σ H s) (hg : Gl X x) (hm : X.mg x = some u) (h : Q u s)
    (hd : (x == ("__debug__" : Str)) = false := by decide) : wpAny (model X.prog X.w) X.A (eval (.Name x pos) X.env) Q E s :=
  Calls.Name_function_global I.ok.kind hg (Calls.loadGlobal_global (by rw [I.ok.glob]; exact I.mod.glob.keeps I.bk) hm h) hd
theorem ld_blt {E : Value → Shared → Prop} {pins : List (Addr × Obj)} {s : Shared} {σ : St} {H : Hp} {x : Str} {u : Value} {pos : Pos} {Q : Value → Shared → Prop} (I : Inv X pins σ H s) (hg : Gl X x) (hm : X.mg x = none) (hv : bootBuiltins x = some u) (h : Q u s)
    (hn : x ≠ "__name__" := by decide) (hd : (x == ("__debug__" : Str)) = false := by decide) : wpAny (model X.prog X.w) X.A (eval (.Name x pos) X.env) Q E s := by
  obtain ⟨mb, h1, h2⟩ := I.mod.blt
  exact Calls.Name_function_global I.ok.kind hg (Calls.loadGlobal_builtin (by rw [I.ok.glob]; exact I.mod.glob.keeps I.bk) hm (by rw [I.ok.blt]; exact h1.keeps I.bk) ((h2 x hn).trans hv) h) hd
/-- a module's constant, a class, a function, as a value -/
theorem pe_glob {x : Str} {v : V} {u : Value} {pos : Pos} (hg : Gl X x) (hm : X.mg x = some u) (r : RelV v u) (hd : (x == ("__debug__" : Str)) = false := by decide) : PE X (.Name x pos) (tC v) :=
  fun _ _ _ H _ I h => ld_glob I hg hm ⟨v, H, I, r, h⟩ hd
theorem pe_bltn {x : Str} {v : V} {u : Value} {pos : Pos} (hg : Gl X x) (hm : X.mg x = none) (hv : bootBuiltins x = some u) (r : RelV v u) (hn : x ≠ "__name__" := by decide) (hd : (x == ("__debug__" : Str)) = false := by decide) : PE X (.Name x pos) (tC v) :=
  fun _ _ _ H _ I h => ld_blt I hg hm hv ⟨v, H, I, r, h⟩ hn hd

/-! ### arithmetic -/
/-- two ints -/
def t2I (ta tb : TE) (k : Int → Int → Hp → Prop) : St → Hp → Prop := fun σ H => ta σ H fun x H1 => tb σ H1 fun y H2 => ∃ i j, x = .int i ∧ y = .int j ∧ k i j H2
def tAdd (ta tb : TE) : TE := fun σ H Q => t2I ta tb (fun i j H2 => Q (.int (i + j)) H2) σ H
def tSub (ta tb : TE) : TE := fun σ H Q => t2I ta tb (fun i j H2 => Q (.int (i - j)) H2) σ H
/-- the left factor below 2^64 -/
def tMul (ta tb : TE) : TE := fun σ H Q => t2I ta tb (fun i j H2 => (-(2 ^ 64) < i ∧ i < 2 ^ 64) ∧ Q (.int (i * j)) H2) σ H
variable {a b : Expr} {ta tb : TE} {pos : Pos}
theorem pe_add (ha : PE X a ta) (hb : PE X b tb) : PE X (.BinOp a .Add b pos) (tAdd ta tb) := by
  intro pins s σ H Q I h
  refine wpAny_BinOp (bin ha hb I h fun v u s2 x y H2 I2 rx ry q => ?_)
  obtain ⟨i, j, rfl, rfl, q⟩ := q
  obtain ⟨t, rfl⟩ := rx
  obtain ⟨t', rfl⟩ := ry
  exact add_int ⟨.int _, H2, I2.tok _, ⟨_, rfl⟩, q⟩
theorem pe_sub (ha : PE X a ta) (hb : PE X b tb) : PE X (.BinOp a .Sub b pos) (tSub ta tb) := by
  intro pins s σ H Q I h
  refine wpAny_BinOp (bin ha hb I h fun v u s2 x y H2 I2 rx ry q => ?_)
  obtain ⟨i, j, rfl, rfl, q⟩ := q
  obtain ⟨t, rfl⟩ := rx
  obtain ⟨t', rfl⟩ := ry
  exact sub_int ⟨.int _, H2, I2.tok _, ⟨_, rfl⟩, q⟩
theorem pe_mul (ha : PE X a ta) (hb : PE X b tb) : PE X (.BinOp a .Mult b pos) (tMul ta tb) := by
  intro pins s σ H Q I h
  refine wpAny_BinOp (bin ha hb I h fun v u s2 x y H2 I2 rx ry q => ?_)
  obtain ⟨i, j, rfl, rfl, ⟨q1, q2⟩, q⟩ := q
  obtain ⟨t, rfl⟩ := rx
  obtain ⟨t', rfl⟩ := ry
  exact mul_int ⟨.int _, H2, I2.tok _, ⟨_, rfl⟩, q⟩ (.of_left (intBits_le_64 q1 q2))

/-! ### comparisons -/
def PC (X : Cx) (op : CmpOp) (a b : Expr) (t : TE) : Prop :=
  ∀ (pins : List (Addr × Obj)) (s : Shared) (σ : St) (H : Hp) (Q : VK), Inv X pins σ H s → t σ H Q →
    wpAny (model X.prog X.w) X.A (eval a X.env) (fun v s₁ => wpAny (model X.prog X.w) X.A (eval b X.env) (fun u s₂ => wpAny (model X.prog X.w) X.A (compareOp op v u) (EP X pins σ Q) X.xe s₂) X.xe s₁) X.xe s
theorem nobehind (b : Expr) {op : CmpOp} (h : op ≠ .In) (h2 : op ≠ .NotIn) : behindInMarks op b = false := by
  have e1 : (op == CmpOp.In) = false := by cases op <;> first | rfl | exact absurd rfl h
  have e2 : (op == CmpOp.NotIn) = false := by cases op <;> first | rfl | exact absurd rfl h2
  cases b <;> simp [behindInMarks, e1, e2]
def tCmp (p : Int → Int → Bool) (ta tb : TE) : TE := fun σ H Q => t2I ta tb (fun i j H2 => Q (.bl (p i j)) H2) σ H
abbrev tLt : TE → TE → TE := tCmp fun i j => decide (i < j)
abbrev tLe : TE → TE → TE := tCmp fun i j => decide (i ≤ j)
abbrev tGt : TE → TE → TE := tCmp fun i j => decide (j < i)
abbrev tGe : TE → TE → TE := tCmp fun i j => decide (j ≤ i)
abbrev tEqI : TE → TE → TE := tCmp fun i j => decide (i = j)
abbrev tNeI : TE → TE → TE := tCmp fun i j => !decide (i = j)
/-- a comparison of two ints, by its rule -/
theorem pc_int {op : CmpOp} {p : Int → Int → Bool} (ha : PE X a ta) (hb : PE X b tb)
    (rule : ∀ (i j : Int) (t u : Tok) (Q : Value → Shared → Prop) (s : Shared), Q (.bool (p i j)) s → wpAny (model X.prog X.w) X.A (compareOp op (.int i t) (.int j u)) Q X.xe s) : PC X op a b (tCmp p ta tb) := by
  intro pins s σ H Q I h
  refine bin ha hb I h fun v u s2 x y H2 I2 rx ry q => ?_
  obtain ⟨i, j, rfl, rfl, q⟩ := q
  obtain ⟨t, rfl⟩ := rx
  obtain ⟨t', rfl⟩ := ry
  exact rule i j t t' _ s2 ⟨.bl _, H2, I2, rfl, q⟩
theorem pc_lt (ha : PE X a ta) (hb : PE X b tb) : PC X .Lt a b (tLt ta tb) := pc_int ha hb fun _ _ _ _ _ _ h => lt_int h
theorem pc_le (ha : PE X a ta) (hb : PE X b tb) : PC X .LtE a b (tLe ta tb) := pc_int ha hb fun _ _ _ _ _ _ h => le_int h
theorem pc_gt (ha : PE X a ta) (hb : PE X b tb) : PC X .Gt a b (tGt ta tb) := pc_int ha hb fun _ _ _ _ _ _ h => gt_int h
theorem pc_ge (ha : PE X a ta) (hb : PE X b tb) : PC X .GtE a b (tGe ta tb) := pc_int ha hb fun _ _ _ _ _ _ h => ge_int h
theorem pc_eqI (ha : PE X a ta) (hb : PE X b tb) : PC X .Eq a b (tEqI ta tb) := pc_int ha hb fun _ _ _ _ _ _ h => eq_int (by rw [Bool.beq_eq_decide_eq]; exact h)
theorem pc_neI (ha : PE X a ta) (hb : PE X b tb) : PC X .NotEq a b (tNeI ta tb) := pc_int ha hb fun _ _ _ _ _ _ h => ne_int (by rw [bne, Bool.beq_eq_decide_eq]; exact h)
/-- is None -/
def tIsN (ta : TE) : TE := fun σ H Q => ta σ H fun x H1 => Q (.bl (decide (x = .non))) H1
def tNotN (ta : TE) : TE := fun σ H Q => ta σ H fun x H1 => Q (.bl (!decide (x = .non))) H1
theorem RelV.none_iff {x : V} {v : Value} (r : RelV x v) : (v == Value.none) = decide (x = .non) := by
  cases x with
  | non => cases r; rfl
  | bl _ => cases r; rfl
  | int _ => obtain ⟨t, rfl⟩ := r; rfl
  | str _ => obtain ⟨t, rfl⟩ := r; rfl
  | byt _ => obtain ⟨t, rfl⟩ := r; rfl
  | flt _ => obtain ⟨t, rfl⟩ := r; rfl
  | ref _ => cases r; rfl
  | ty _ => cases r; rfl
theorem pc_isN {j pos'} (ha : PE X a ta) : PC X .Is a (.Constant .none j pos') (tIsN ta) := by
  intro pins s σ H Q I h
  refine thn (ha pins s σ H _ I h) fun v s1 ⟨x, H1, I1, r1, q1⟩ => ?_
  exact Constant_none (is_none_gen ⟨.bl _, H1, I1, by rw [r1.none_iff]; rfl, q1⟩)
theorem pc_notN {j pos'} (ha : PE X a ta) : PC X .IsNot a (.Constant .none j pos') (tNotN ta) := by
  intro pins s σ H Q I h
  refine thn (ha pins s σ H _ I h) fun v s1 ⟨x, H1, I1, r1, q1⟩ => ?_
  exact Constant_none (isnot_none_gen ⟨.bl _, H1, I1, by rw [r1.none_iff]; rfl, q1⟩)
/-- a comparison as a value, as a test -/
def tB (t : TE) : TT := fun σ H Q => t σ H fun x H1 => ∃ c, x = .bl c ∧ Q c H1
theorem pe_cmp {op : CmpOp} {t : TE} (h : PC X op a b t) (h1 : behindInMarks op b = false := by first | exact nobehind _ (by decide) (by decide) | rfl) : PE X (.Compare a [op] [b] pos) t := fun pins s σ H Q I hw => wpAny_Compare1 (h pins s σ H Q I hw) h1
theorem pt_cmp {op : CmpOp} {t : TE} (h : PC X op a b t) (h1 : behindInMarks op b = false := by first | exact nobehind _ (by decide) (by decide) | rfl) : PT X (.Compare a [op] [b] pos) (tB t) := by
  intro pins s σ H Q I hw
  refine wpAny_isTrue_Compare1 (thn (h pins s σ H _ I hw) fun v s1 h1 => thn h1 fun u s2 h2 => thn h2 fun c s3 ⟨x, H1, I1, r1, q1⟩ => ?_) h1
  obtain ⟨d, rfl, q⟩ := q1
  cases r1
  exact wpAny_truthy_bool ⟨H1, I1, q⟩
/-- an expression whose value is a bool, as a test -/
theorem pt_val {e : Expr} {t : TE} (h : PE X e t) (he : ∀ whole, isTrue e X.env whole = (do let v ← whole; standAt e.pos; holding [v] (truthy v)) := by intro _; rfl) : PT X e (tB t) := by
  intro pins s σ H Q I hw
  refine isTrue_plain (thn (h pins s σ H _ I hw) fun v s1 ⟨x, H1, I1, r1, q1⟩ => ?_) (he _)
  obtain ⟨d, rfl, q⟩ := q1
  cases r1
  exact wpAny_truthy_bool ⟨H1, I1, q⟩

/-! ### and, or, not -/
variable {tA tB' : TT} {rest : List Expr}
def tAnd (t u : TT) : TT := fun σ H Q => t σ H fun c H1 => if c = true then u σ H1 Q else Q false H1
def tOr (t u : TT) : TT := fun σ H Q => t σ H fun c H1 => if c = true then Q true H1 else u σ H1 Q
def tNot (t : TT) : TT := fun σ H Q => t σ H fun c H1 => Q (!c) H1
theorem pw_and1 (ha : PT X a tA) : PW X (.BoolOp .And [a] pos) tA := by
  intro wh pins s σ H Q I h
  refine isTrue_and (thn (ha pins s σ H Q I h) fun c s1 e => ?_)
  cases c with
  | true => exact isTrue_and_nil e
  | false => exact e
theorem pw_or1 (ha : PT X a tA) : PW X (.BoolOp .Or [a] pos) tA := by
  intro wh pins s σ H Q I h
  refine isTrue_or (thn (ha pins s σ H Q I h) fun c s1 e => ?_)
  cases c with
  | false => exact isTrue_or_nil e
  | true => exact e
theorem pw_and (ha : PT X a tA) (hb : PW X (.BoolOp .And (b :: rest) pos) tB') : PW X (.BoolOp .And (a :: b :: rest) pos) (tAnd tA tB') := by
  intro wh pins s σ H Q I h
  refine isTrue_and (thn (ha pins s σ H _ I h) fun c s1 ⟨H1, I1, q1⟩ => ?_)
  cases c with
  | true => exact hb wh pins s1 σ H1 Q I1 q1
  | false => exact ⟨H1, I1, q1⟩
theorem pw_or (ha : PT X a tA) (hb : PW X (.BoolOp .Or (b :: rest) pos) tB') : PW X (.BoolOp .Or (a :: b :: rest) pos) (tOr tA tB') := by
  intro wh pins s σ H Q I h
  refine isTrue_or (thn (ha pins s σ H _ I h) fun c s1 ⟨H1, I1, q1⟩ => ?_)
  cases c with
  | true => exact ⟨H1, I1, q1⟩
  | false => exact hb wh pins s1 σ H1 Q I1 q1
theorem pt_not (ha : PT X a tA) : PT X (.UnaryOp .Not a pos) (tNot tA) := by
  intro pins s σ H Q I h
  exact isTrue_not (ha pins s σ H (fun c H1 => Q (!c) H1) I h)
/-- .. as values (bools) -/
def tAndV (ta tb : TE) : TE := fun σ H Q => ta σ H fun x H1 => ∃ c, x = .bl c ∧ if c = true then tb σ H1 Q else Q (.bl false) H1
def tOrV (ta tb : TE) : TE := fun σ H Q => ta σ H fun x H1 => ∃ c, x = .bl c ∧ if c = true then Q (.bl true) H1 else tb σ H1 Q
def tNotV (ta : TE) : TE := fun σ H Q => ta σ H fun x H1 => ∃ c, x = .bl c ∧ Q (.bl (!c)) H1
theorem pe_one {op} {t : TE} (h : PE X a t) : PE X (.BoolOp op [a] pos) t := fun pins s σ H Q I hw => BoolOp_one (h pins s σ H Q I hw)
theorem pe_and (ha : PE X a ta) (hb : PE X (.BoolOp .And (b :: rest) pos) tb) : PE X (.BoolOp .And (a :: b :: rest) pos) (tAndV ta tb) := by
  intro pins s σ H Q I h
  refine BoolOp_and (thn (ha pins s σ H _ I h) fun v s1 ⟨x, H1, I1, r1, q1⟩ => ?_)
  obtain ⟨c, rfl, q1⟩ := q1
  cases r1
  refine wpAny_truthy_bool ?_
  cases c with
  | true => exact hb pins s1 σ H1 Q I1 q1
  | false => exact ⟨.bl false, H1, I1, rfl, q1⟩
theorem pe_or (ha : PE X a ta) (hb : PE X (.BoolOp .Or (b :: rest) pos) tb) : PE X (.BoolOp .Or (a :: b :: rest) pos) (tOrV ta tb) := by
  intro pins s σ H Q I h
  refine BoolOp_or (thn (ha pins s σ H _ I h) fun v s1 ⟨x, H1, I1, r1, q1⟩ => ?_)
  obtain ⟨c, rfl, q1⟩ := q1
  cases r1
  refine wpAny_truthy_bool ?_
  cases c with
  | false => exact hb pins s1 σ H1 Q I1 q1
  | true => exact ⟨.bl true, H1, I1, rfl, q1⟩
theorem pe_not (ha : PE X a ta) : PE X (.UnaryOp .Not a pos) (tNotV ta) := by
  intro pins s σ H Q I h
  refine UnaryOp_ (thn (ha pins s σ H _ I h) fun v s1 ⟨x, H1, I1, r1, q1⟩ => ?_)
  obtain ⟨c, rfl, q1⟩ := q1
  cases r1
  exact not_of (wpAny_truthy_bool ⟨.bl (!c), H1, I1, rfl, q1⟩)
/-- a if t else b -/
def tIf (t : TT) (ta tb : TE) : TE := fun σ H Q => t σ H fun c H1 => if c = true then ta σ H1 Q else tb σ H1 Q
theorem pe_ifExp {c : Expr} (hc : PT X c tA) (ha : PE X a ta) (hb : PE X b tb) : PE X (.IfExp c a b pos) (tIf tA ta tb) := by
  intro pins s σ H Q I h
  refine wpAny_IfExp (thn (hc pins s σ H _ I h) fun d s1 ⟨H1, I1, q1⟩ => ?_)
  cases d with
  | true => exact ha pins s1 σ H1 Q I1 q1
  | false => exact hb pins s1 σ H1 Q I1 q1
end
end L2

namespace L2
open PySem PySem.Spec PyProof.Rows

/-! ### a list, a tuple that is read: tracked, frozen, or an object of the module -/
def SqL (K : PySem.W.Frag) (H : Hp) (a : Addr) (xs : List V) : Prop :=
  Rd H a (.lst xs) ∨
    ∃ (o : Obj) (its : Array Value) (n : Nat), K.lookup a = some o ∧ o.cls = .type "list" ∧ o.dict = none ∧ o.data = .seq its n ∧ its.size ≤ sizeLine ∧ Vals xs its.toList
def SqT (K : PySem.W.Frag) (H : Hp) (a : Addr) (xs : List V) : Prop :=
  Rd H a (.tup xs) ∨
    ∃ (o : Obj) (its : Array Value) (n : Nat), K.lookup a = some o ∧ o.cls = .type "tuple" ∧ o.data = .seq its n ∧ its.size ≤ sizeLine ∧ Vals xs its.toList
def absV : Value → Option V
  | .none => some .non
  | .bool b => some (.bl b)
  | .int i _ => some (.int i)
  | .str x _ => some (.str x)
  | .bytes b _ => some (.byt b)
  | .float b _ => some (.flt b)
  | .ref a => some (.ref a)
  | .type n => some (.ty n)
  | _ => none
theorem RelV.abs {x : V} {u : Value} (r : RelV x u) : absV u = some x := by
  cases x with
  | non => cases r; rfl
  | bl _ => cases r; rfl
  | int _ => obtain ⟨t, rfl⟩ := r; rfl
  | str _ => obtain ⟨t, rfl⟩ := r; rfl
  | byt _ => obtain ⟨t, rfl⟩ := r; rfl
  | flt _ => obtain ⟨t, rfl⟩ := r; rfl
  | ref _ => cases r; rfl
  | ty _ => cases r; rfl
theorem RelV.inj {x y : V} {u : Value} (r : RelV x u) (q : RelV y u) : x = y := Option.some.inj (r.abs.symm.trans q.abs)
theorem Vals.inj : ∀ {xs ys : List V} {us : List Value}, Vals xs us → Vals ys us → xs = ys
  | _, _, _, .nil, .nil => rfl
  | _, _, _, .cons r t, .cons r' t' => by rw [r.inj r', Vals.inj t t']
section
variable {X : Cx} {pins : List (Addr × Obj)} {σ : St} {H : Hp} {s : Shared} {a : Addr} {xs ys : List V}
theorem SqL.of {K : PySem.W.Frag} (h : H a = some (.lst xs)) : SqL K H a xs := .inl (.inl h)
theorem SqT.of {K : PySem.W.Frag} (h : H a = some (.tup xs)) : SqT K H a xs := .inl (.inl h)
theorem Inv.list (I : Inv X pins σ H s) (h : SqL X.K H a xs) : ∃ its : List Value, Vals xs its ∧ PlainL s.heap a its.toArray ∧ xs.length ≤ sizeLine := by
  rcases h with h | ⟨o, its, n, hk, hc, hd, hs, hz, r⟩
  · obtain ⟨z, its, n, r, e⟩ := h.ok I.hok
    exact ⟨its, r, ⟨_, n, e, rfl, rfl, rfl⟩, z⟩
  · refine ⟨its.toList, r, ⟨o, n, I.kIn a o hk, hc, hd, by simpa using hs⟩, ?_⟩
    have e := r.length
    simp only [Array.length_toList] at e
    omega
theorem Inv.tuple (I : Inv X pins σ H s) (h : SqT X.K H a xs) : ∃ its : List Value, Vals xs its ∧ IsTup s.heap a its.toArray ∧ xs.length ≤ sizeLine := by
  rcases h with h | ⟨o, its, n, hk, hc, hs, hz, r⟩
  · obtain ⟨z, its, r, p⟩ := h.ok I.hok
    exact ⟨its, r, p, z⟩
  · refine ⟨its.toList, r, ⟨o, I.kIn a o hk, hc, n, by simpa using hs⟩, ?_⟩
    have e := r.length
    simp only [Array.length_toList] at e
    omega
theorem Inv.list_inj (I : Inv X pins σ H s) (h : SqL X.K H a xs) (h' : SqL X.K H a ys) : xs = ys := by
  obtain ⟨its, r, ⟨o, n, e, _, _, d⟩, _⟩ := I.list h
  obtain ⟨its', r', ⟨o', n', e', _, _, d'⟩, _⟩ := I.list h'
  rw [e] at e'; cases e'
  rw [d] at d'
  injection d' with d1 _
  have : its = its' := by simpa using congrArg Array.toList d1
  subst this
  exact r.inj r'
theorem Inv.tuple_inj (I : Inv X pins σ H s) (h : SqT X.K H a xs) (h' : SqT X.K H a ys) : xs = ys := by
  obtain ⟨its, r, ⟨o, e, _, n, d⟩, _⟩ := I.tuple h
  obtain ⟨its', r', ⟨o', e', _, n', d'⟩, _⟩ := I.tuple h'
  rw [e] at e'; cases e'
  rw [d] at d'
  injection d' with d1 _
  have : its = its' := by simpa using congrArg Array.toList d1
  subst this
  exact r.inj r'
end

/-! ### another wish about exceptions -/
abbrev Cx.wish (X : Cx) (E : Value → Shared → Prop) : Cx := { X with xe := E }
/-- no exception leaves -/
abbrev Cx.nox (X : Cx) : Cx := X.wish fun _ _ => False
theorem Cx.Ok.wish {X : Cx} (ok : X.Ok) (E : Value → Shared → Prop) : (X.wish E).Ok :=
  ⟨ok.mod, ok.kind, ok.glob, ok.blt, ok.above, ok.inj, ok.has, ok.cab, ok.hd, ok.frames, ok.stk, ok.exf, ok.bs, ok.bsz, ok.noex, ok.exfs, ok.funs, ok.frf⟩
theorem Cx.Ok.unwish {X : Cx} {E : Value → Shared → Prop} (ok : (X.wish E).Ok) : X.Ok :=
  ⟨ok.mod, ok.kind, ok.glob, ok.blt, ok.above, ok.inj, ok.has, ok.cab, ok.hd, ok.frames, ok.stk, ok.exf, ok.bs, ok.bsz, ok.noex, ok.exfs, ok.funs, ok.frf⟩
section
variable {X : Cx} {pins : List (Addr × Obj)} {σ : St} {H : Hp} {s : Shared} {E : Value → Shared → Prop}
theorem Inv.wish (I : Inv X pins σ H s) (E : Value → Shared → Prop) : Inv (X.wish E) pins σ H s := ⟨I.ok.wish E, I.os, I.bare, I.base, I.loc, I.cell, I.free, I.freeC, I.pin, I.hok, I.len⟩
theorem Inv.unwish (I : Inv (X.wish E) pins σ H s) : Inv X pins σ H s := ⟨I.ok.unwish, I.os, I.bare, I.base, I.loc, I.cell, I.free, I.freeC, I.pin, I.hok, I.len⟩
theorem SP.unwish {D : Ends} {f : Flow} {s' : Shared} (h : SP (X.wish E) pins D f s') : SP X pins D f s' := by
  cases f with
  | next => obtain ⟨σ', H', I, q⟩ := h; exact ⟨σ', H', I.unwish, q⟩
  | brk => obtain ⟨σ', H', I, q⟩ := h; exact ⟨σ', H', I.unwish, q⟩
  | cont => obtain ⟨σ', H', I, q⟩ := h; exact ⟨σ', H', I.unwish, q⟩
  | ret u => obtain ⟨v, σ', H', I, r, q⟩ := h; exact ⟨v, σ', H', I.unwish, r, q⟩
theorem PE.nox {e : Expr} {t : TE} (h : PE X.nox e t) : PE X e t := fun pins s σ H Q I hw =>
  wpAny_mono (h pins s σ H Q (I.wish _) hw) (fun _ _ ⟨v, H', I', r, q⟩ => ⟨v, H', I'.unwish, r, q⟩) fun _ _ z => False.elim z
theorem PT.nox {e : Expr} {t : TT} (h : PT X.nox e t) : PT X e t := fun pins s σ H Q I hw =>
  wpAny_mono (h pins s σ H Q (I.wish _) hw) (fun _ _ ⟨H', I', q⟩ => ⟨H', I'.unwish, q⟩) fun _ _ z => False.elim z
theorem PSs.nox {st : List Stmt} {t : TS} (h : PSs X.nox st t) : PSs X st t := fun pins s σ H D I hw =>
  wpAny_mono (h pins s σ H D (I.wish _) hw) (fun _ _ q => q.unwish) fun _ _ z => False.elim z
end

/-! ### blocks and small statements -/
section
variable {X : Cx} {st : Stmt} {rest : List Stmt} {t u : TS} {e : Expr} {te : TE} {pos : Pos}
def tNext : TS := fun D σ H => D.nx σ H
def tSeq (t u : TS) : TS := fun D σ H => t { D with nx := u D } σ H
theorem pss_nil : PSs X [] tNext := fun _ _ σ H _ I h => wpAny_execs_nil ⟨σ, H, I, h⟩
theorem pss_cons (h1 : PS X st t) (h2 : PSs X rest u) : PSs X (st :: rest) (tSeq t u) := by
  intro pins s σ H D I h
  refine wpAny_execs_cons (thn (h1 pins s σ H { D with nx := u D } I h) fun f s1 q => ?_)
  cases f with
  | next =>
    obtain ⟨σ', H', I', q⟩ := q
    exact h2 pins s1 σ' H' D I' q
  | ret v => exact q
  | brk => exact q
  | cont => exact q
theorem pss_one (h1 : PS X st t) : PSs X [st] t := by
  intro pins s σ H D I h
  refine wpAny_execs_cons (thn (h1 pins s σ H D I h) fun f s1 q => ?_)
  cases f with
  | next => exact wpAny_execs_nil q
  | ret v => exact q
  | brk => exact q
  | cont => exact q
def tBreak : TS := fun D σ H => D.bk σ H
def tCont : TS := fun D σ H => D.ct σ H
theorem ps_pass : PS X (.Pass pos) tNext := fun _ _ σ H _ I h => wpAny_Pass ⟨σ, H, I, h⟩
theorem ps_break : PS X (.Break pos) tBreak := fun _ _ σ H _ I h => wpAny_Break ⟨σ, H, I, h⟩
theorem ps_continue : PS X (.Continue pos) tCont := fun _ _ σ H _ I h => wpAny_Continue ⟨σ, H, I, h⟩
/-- in a def's body nothing is shown -/
theorem Inv.quiet {pins : List (Addr × Obj)} {σ : St} {H : Hp} {s : Shared} (I : Inv X pins σ H s) : interactive X.env = false := by simp [interactive, I.ok.kind]
/-- a docstring -/
theorem ps_doc {x j pos pos'} : PS X (.Expr (.Constant (.str x) j pos) pos') tNext := fun _ s σ H _ I h => wpAny_Expr (Calls.Constant_str (show SP X _ _ .next { s with toks := s.toks + 1 } from ⟨σ, H, I.tok _, h⟩)) I.quiet
/-- an expression whose value is dropped -/
def tDrop (te : TE) : TS := fun D σ H => te σ H fun _ H1 => D.nx σ H1
theorem ps_expr (he : PE X e te) (hs : swapsWith e none pos.line X.env = pure false := by rfl) : PS X (.Expr e pos) (tDrop te) := by
  intro pins s σ H D I h
  exact wpAny_Expr_any (thn (he pins s σ H _ I h) fun v s1 ⟨x, H1, I1, r1, q1⟩ => ⟨σ, H1, I1, q1⟩) I.quiet hs
def tRet (te : TE) : TS := fun D σ H => te σ H D.rt
theorem ps_ret (he : PE X e te) : PS X (.Return (some e) pos) (tRet te) := by
  intro pins s σ H D I h
  exact wpAny_Return_some (thn (he pins s σ H _ I h) fun v s1 ⟨x, H1, I1, r1, q1⟩ => ⟨x, σ, H1, I1, r1, q1⟩)
def tRetN : TS := fun D _ H => D.rt .non H
theorem ps_retN : PS X (.Return none pos) tRetN := fun _ _ σ H _ I h => wpAny_Return_none ⟨.non, σ, H, I, rfl, h⟩
def tIfS (c : TT) (t u : TS) : TS := fun D σ H => c σ H fun b H1 => if b = true then t D σ H1 else u D σ H1
theorem ps_if {c : Expr} {a b : List Stmt} {tc : TT} (hc : PT X c tc) (ha : PSs X a t) (hb : PSs X b u) : PS X (.If c a b pos) (tIfS tc t u) := by
  intro pins s σ H D I h
  refine wpAny_If (thn (hc pins s σ H _ I h) fun d s1 ⟨H1, I1, q1⟩ => ?_)
  cases d with
  | true => exact ha pins s1 σ H1 D I1 q1
  | false => exact hb pins s1 σ H1 D I1 q1
/-- code that the proof never comes to -/
def tNever : TS := fun _ _ _ => False
theorem ps_never : PS X st tNever := fun _ _ _ _ _ _ h => h.elim
theorem pss_never {sts : List Stmt} : PSs X sts tNever := fun _ _ _ _ _ _ h => h.elim
end

/-! ### targets -/
abbrev TG := V → St → Hp → (St → Hp → Prop) → Prop
abbrev TGs := List V → St → Hp → (St → Hp → Prop) → Prop
def PG (X : Cx) (target : Expr) (t : TG) : Prop :=
  ∀ (pins : List (Addr × Obj)) (s : Shared) (σ : St) (H : Hp) (v : V) (u : Value) (Q : St → Hp → Prop), Inv X pins σ H s → RelV v u → t v σ H Q →
    wpAny (model X.prog X.w) X.A (assign target X.env u) (fun _ s' => ∃ σ' H', Inv X pins σ' H' s' ∧ Q σ' H') X.xe s
/-- several targets, one after another -/
def PGs (X : Cx) (ts : List Expr) (t : TGs) : Prop :=
  ∀ (pins : List (Addr × Obj)) (s : Shared) (σ : St) (H : Hp) (vs : List V) (us : List Value) (Q : St → Hp → Prop), Inv X pins σ H s → Vals vs us → t vs σ H Q →
    wpAny (model X.prog X.w) X.A (assignInOrder ((assignEach ts X.env).map (·.2)) us) (fun _ s' => ∃ σ' H', Inv X pins σ' H' s' ∧ Q σ' H') X.xe s
/-- o[i] = v, by values -/
abbrev TSet := V → V → V → Hp → (Hp → Prop) → Prop
def PSet (X : Cx) (t : TSet) : Prop :=
  ∀ (pins : List (Addr × Obj)) (s : Shared) (σ : St) (H : Hp) (o i v : V) (ov iv u : Value) (Q : Hp → Prop), Inv X pins σ H s → RelV o ov → RelV i iv → RelV v u → t o i v H Q →
    wpAny (model X.prog X.w) X.A (setItem ov iv u) (fun _ s' => ∃ H', Inv X pins σ H' s' ∧ Q H') X.xe s
/-- a op= b, by values -/
abbrev TIp := V → V → Hp → VK → Prop
def PIp (X : Cx) (op : Operator) (t : TIp) : Prop :=
  ∀ (pins : List (Addr × Obj)) (s : Shared) (σ : St) (H : Hp) (x y : V) (v u : Value) (Q : VK), Inv X pins σ H s → RelV x v → RelV y u → t x y H Q →
    wpAny (model X.prog X.w) X.A (inplaceOp op v u) (EP X pins σ Q) X.xe s
section
variable {X : Cx} {pos : Pos}
def gName (i : Nat) : TG := fun v σ H Q => Q (σ.set i (some v)) H
theorem pg_name {i : Nat} {x : Str} (hN : X.N.Nodup) (hi : X.N[i]? = some x) (hx : Loc X.env.scope x) (hf : X.fn x = true ∨ X.env.scope.names.lookup x = some .local := by first | exact .inl rfl | exact .inr rfl | assumption) : PG X (.Name x pos) (gName i) := by
  intro pins s σ H v u Q I r h
  exact wpAny_assign_Name (store_ok I hN hi hx r (fun s' I' => ⟨_, H, I', h⟩) hf)
def gNil : TGs := fun vs σ H Q => vs = [] ∧ Q σ H
def gCons (t : TG) (u : TGs) : TGs := fun vs σ H Q => ∃ v r, vs = v :: r ∧ t v σ H fun σ' H' => u r σ' H' Q
theorem pgs_nil : PGs X [] gNil := by
  intro pins s σ H vs us Q I r h
  obtain ⟨e, h⟩ := h
  subst e
  cases r
  exact assignInOrder_nil ⟨σ, H, I, h⟩
theorem pgs_cons {e : Expr} {es : List Expr} {t : TG} {u : TGs} (h1 : PG X e t) (h2 : PGs X es u)
    (hs : (assignEach (e :: es) X.env).map (·.2) = assign e X.env :: (assignEach es X.env).map (·.2) := by rfl) : PGs X (e :: es) (gCons t u) := by
  intro pins s σ H vs us Q I r h
  obtain ⟨v, vr, e1, h⟩ := h
  subst e1
  cases r with
  | cons r rr =>
    rw [hs]
    refine assignInOrder_cons (thn (h1 pins s σ H _ _ _ I r h) fun _ s1 ⟨σ1, H1, I1, q1⟩ => ?_)
    exact h2 pins s1 σ1 H1 _ _ Q I1 rr q1
/-- (a, b, ..) = a tuple of that length -/
def gTup (K : PySem.W.Frag) (n : Nat) (t : TGs) : TG := fun v σ H Q => ∃ a xs, v = .ref a ∧ SqT K H a xs ∧ xs.length = n ∧ t xs σ H Q
theorem pg_tup {es : List Expr} {k : Nat} {t : TGs} {n : Nat} (hc : X.calm = true) (h : PGs X es t)
    (hn : (assignEach es X.env).length = n := by rfl) (hst : (assignEach es X.env).findIdx? (·.1) = none := by rfl) : PG X (.Tuple es k pos) (gTup X.K n t) := by
  intro pins s σ H v u Q I r hw
  obtain ⟨a, xs, e1, hq, hl, hw⟩ := hw
  subst e1
  cases r
  obtain ⟨its, rv, ht, hz⟩ := I.tuple hq
  refine assign_Tuple_tuple (I.ok.hd hc) ht (by simp [hn, ← hl, rv.length]) hst fun h' hx => ?_
  have I1 : Inv X pins σ H { s with heap := h' } := I.kept (t' := s.toks) fun b o e => hx b o (Nat.ne_of_lt (Heap.lt_size e)) e
  exact h pins _ σ H xs _ Q I1 (by simpa using rv) hw
/-- o[i] = .. -/
def gSub (to ti : TE) (t : TSet) : TG := fun v σ H Q => to σ H fun o H1 => ti σ H1 fun i H2 => t o i v H2 fun H3 => Q σ H3
theorem pg_sub {o i : Expr} {to ti : TE} {t : TSet} (ho : PE X o to) (hi : PE X i ti) (hs : PSet X t)
    (ha : ∀ v, assign (.Subscript o i pos) X.env v = (do
      let ov ← holding [v] (eval o X.env)
      let iv ← holding [v, ov] (eval i X.env)
      standAt pos
      holding [v, ov, iv] (setItem ov iv v)
      release [v, ov, iv] []) := by intro _; rfl) : PG X (.Subscript o i pos) (gSub to ti t) := by
  intro pins s σ H v u Q I r h
  rw [ha]
  refine wpAny_bind (wpAny_holding (thn (ho pins s σ H _ I h) fun ov s1 ⟨x, H1, I1, r1, q1⟩ => ?_))
  refine wpAny_bind (wpAny_holding (thn (hi pins s1 σ H1 _ I1 q1) fun iv s2 ⟨y, H2, I2, r2, q2⟩ => ?_))
  refine wpAny_bind (wpAny_standAt (wpAny_bind (wpAny_holding (thn (hs pins s2 σ H2 x y v ov iv u _ I2 r1 r2 r q2) fun _ s3 ⟨H3, I3, q3⟩ => ?_))))
  exact wpAny_release ⟨σ, H3, I3, q3⟩
/-- target = value -/
def tAsg (te : TE) (g : TG) : TS := fun D σ H => te σ H fun x H1 => g x σ H1 D.nx
theorem ps_asg {tg e : Expr} {te : TE} {g : TG} (he : PE X e te) (hg : PG X tg g) (hs : swapsWithSole [tg] e pos.line X.env = pure false := by rfl) (hw : swappedStores [tg] e X.env = pure none := by rfl)
    (h1 : (assignEach [tg] X.env).map (·.2) = [assign tg X.env] := by rfl) : PS X (.Assign [tg] e pos) (tAsg te g) := by
  intro pins s σ H D I h
  refine wpAny_Assign_stores (thn (he pins s σ H _ I h) fun v s1 ⟨x, H1, I1, r1, q1⟩ => ?_) hs hw
  rw [h1]
  exact thn (hg pins s1 σ H1 x v _ I1 r1 q1) fun _ s2 q => q
/-- name = value -/
theorem ps_set {i : Nat} {x : Str} {e : Expr} {te : TE} {pos' : Pos} (hN : X.N.Nodup) (hi : X.N[i]? = some x) (hx : Loc X.env.scope x) (he : PE X e te) (hs : swapsWith e (some (.Name x pos')) pos.line X.env = pure false := by rfl) (hf : X.fn x = true ∨ X.env.scope.names.lookup x = some .local := by first | exact .inl rfl | exact .inr rfl | assumption) :
    PS X (.Assign [.Name x pos'] e pos) (tAsg te (gName i)) := by
  intro pins s σ H D I h
  refine wpAny_Assign_Name (thn (he pins s σ H _ I h) fun v s1 ⟨y, H1, I1, r1, q1⟩ => ?_) hs
  exact store_ok I1 hN hi hx r1 (fun s2 I2 => ⟨_, H1, I2, q1⟩) hf
/-- a, b = x, y with plain local names: stored from the right; the pair itself is not tracked (the opening rows as in PyProof/Rows/TupAssign.lean:23) -/
def tPar (i j : Nat) (ta : TA) : TS := fun D σ H => ta σ H fun vs H1 => ∃ v w, vs = [v, w] ∧ D.nx ((σ.set i (some v)).set j (some w)) H1
theorem ps_par {i j : Nat} {x y : Str} {a b : Expr} {ta : TA} {px py pt : Pos} {kt k2 pt2} (hc : X.calm = true) (hN : X.N.Nodup) (hi : X.N[i]? = some x) (hj : X.N[j]? = some y) (hij : i ≠ j)
    (hx : X.env.scope.names.lookup x = some .local) (hy : X.env.scope.names.lookup y = some .local) (ha : PA X [a, b] ta)
    (hw : swappedStores [.Tuple [.Name x px, .Name y py] kt pt] (.Tuple [a, b] k2 pt2) X.env = pure (some [x, y]))
    (hs : swapsWithSole [.Tuple [.Name x px, .Name y py] kt pt] (.Tuple [a, b] k2 pt2) pos.line X.env = pure false := by rfl) :
    PS X (.Assign [.Tuple [.Name x px, .Name y py] kt pt] (.Tuple [a, b] k2 pt2) pos) (tPar i j ta) := by
  intro pins s σ H D I h
  rw [exec_Assign_arm]
  refine wpAny_bind (wpAny_standAt ?_)
  rw [hs]
  refine wpAny_bind (wpAny_pure ?_)
  rw [if_neg (by decide)]
  refine wpAny_bind (Tuple_ (thn (ha _ pins s σ H _ I h) fun us s1 ⟨vs, H1, I1, r1, q1⟩ => ?_))
  obtain ⟨v, w, e1, q1⟩ := q1
  subst e1
  obtain ⟨u1, u2, rfl, rv, rw'⟩ : ∃ u1 u2, us = [u1, u2] ∧ RelV v u1 ∧ RelV w u2 := by
    cases r1 with
    | cons p q =>
      cases q with
      | cons p' q' =>
        cases q'
        exact ⟨_, _, rfl, p, p'⟩
  refine wpAny_newObj_type ?_ (by show 2 ≤ sizeLine; decide)
  have I2 : Inv X pins σ H1 { s1 with heap := s1.heap.push { cls := .type "tuple", data := .seq [u1, u2].toArray } } := I1.kept (t' := s1.toks) fun b o e => Heap.get?_push_of_some _ e
  rw [hw]
  refine wpAny_bind (wpAny_pure ?_)
  show wpAny (model X.prog X.w) X.A (do rule "assign.swapped-stores"; let items ← unpackItems (.ref s1.heap.objs.size) 2 none; assignInOrder [fun v => bindName X.env y v, fun v => bindName X.env x v] items.reverse; pure Flow.next) _ _ _
  refine wpAny_bind (wpAny_rule (wpAny_bind (unpackItems_tuple (items := #[u1, u2]) (I.ok.hd hc) (IsTup.new s1.heap _) fun h' hx' => ?_)))
  have I3 := I2.kept (h' := h') (t' := s1.toks) fun b o e => hx' b o (Nat.ne_of_lt (Heap.lt_size e)) e
  show wpAny _ _ (assignInOrder [fun v => bindName X.env y v, fun v => bindName X.env x v] [u2, u1] >>= fun _ => pure Flow.next) _ _ _
  refine wpAny_bind (assignInOrder_cons (wpAny_bindName (store_ok I3 hN hj (.inl hy) rw' (fun s2 I4 => ?_) (.inr hy))))
  refine assignInOrder_cons (wpAny_bindName (store_ok I4 hN hi (.inl hx) rv (fun s3 I5 => assignInOrder_nil (wpAny_pure ?_)) (.inr hx)))
  rw [List.set_comm _ _ (Ne.symm hij)] at I5
  exact ⟨_, H1, I5, q1⟩
/-- name op= e -/
def tAug (i : Nat) (te : TE) (ti : TIp) : TS := fun D σ H => ∃ x, σ[i]? = some (some x) ∧ te σ H fun y H1 => ti x y H1 fun z H2 => D.nx (σ.set i (some z)) H2
theorem ps_aug {i : Nat} {x : Str} {e : Expr} {te : TE} {op : Operator} {ti : TIp} {pos' : Pos} (hN : X.N.Nodup) (hi : X.N[i]? = some x) (hx : Loc X.env.scope x) (he : PE X e te) (ho : PIp X op ti) (hf : X.fn x = true ∨ X.env.scope.names.lookup x = some .local := by first | exact .inl rfl | exact .inr rfl | assumption) :
    PS X (.AugAssign (.Name x pos') op e pos) (tAug i te ti) := by
  intro pins s σ H D I h
  obtain ⟨v, e1, h⟩ := h
  obtain ⟨m, hn, hl⟩ := I.loc
  have vis : Vis X.env.scope x := by rcases hx with k | k; exact .inl k; exact .inr (.inl k)
  obtain ⟨u, r, l⟩ := hl i x v hi e1 vis
  refine wpAny_AugAssign_Name ?_
  have go : wpAny (model X.prog X.w) X.A (eval e X.env) (fun w s₂ => wpAny (model X.prog X.w) X.A (inplaceOp op u w) (fun r s₃ => wpAny (model X.prog X.w) X.A (storeName X.env x r) (fun _ => SP X pins D .next) X.xe s₃) X.xe s₂) X.xe s := by
    refine thn (he pins s σ H _ I h) fun w s1 ⟨y, H1, I1, r1, q1⟩ => ?_
    refine thn (ho pins s1 σ H1 v y u w _ I1 r r1 q1) fun z s2 ⟨zv, H2, I2, r2, q2⟩ => ?_
    exact store_ok I2 hN hi hx r2 (fun s3 I3 => ⟨_, H2, I3, q2⟩) hf
  rcases l with ⟨hk, hm⟩ | ⟨hk, c, hc, hcell⟩
  · exact wpAny_loadName_local I.ok.kind hk hn hm go
  · rcases hk with hk | hk
    · exact wpAny_loadName_cell I.ok.kind hk hc hcell go
    · rcases hx with k | k
      · have : X.env.scope.names.lookup x = some .free := hk
        rw [k] at this; cases this
      · have : X.env.scope.names.lookup x = some .free := hk
        rw [k] at this; cases this
/-- o[i] op= e -/
def tAugS (to ti te : TE) (tget : V → V → Hp → VK → Prop) (tip : TIp) (tset : TSet) : TS := fun D σ H => to σ H fun o H1 => ti σ H1 fun i H2 => tget o i H2 fun x H3 => te σ H3 fun y H4 => tip x y H4 fun z H5 => tset o i z H5 fun H6 => D.nx σ H6
/-- o[i], by values -/
def PGet (X : Cx) (t : V → V → Hp → VK → Prop) : Prop :=
  ∀ (pins : List (Addr × Obj)) (s : Shared) (σ : St) (H : Hp) (o i : V) (ov iv : Value) (Q : VK), Inv X pins σ H s → RelV o ov → RelV i iv → t o i H Q →
    wpAny (model X.prog X.w) X.A (getItem ov iv) (EP X pins σ Q) X.xe s
theorem ps_augS {o i e : Expr} {to ti te : TE} {tget : V → V → Hp → VK → Prop} {tip : TIp} {tset : TSet} {op : Operator} {tpos : Pos} (ho : PE X o to) (hi : PE X i ti) (hg : PGet X tget) (he : PE X e te) (hp : PIp X op tip) (hs : PSet X tset)
    (ha : ∀ ov iv new, augStore i ov iv new = (do holding [new, ov, iv] (setItem ov iv new); release [new, ov, iv] []; pure .next) := by intros; rfl) : PS X (.AugAssign (.Subscript o i tpos) op e pos) (tAugS to ti te tget tip tset) := by
  intro pins s σ H D I h
  refine wpAny_AugAssign_SubscriptAny (thn (ho pins s σ H _ I h) fun ov s1 ⟨x1, H1, I1, r1, q1⟩ => ?_) ha
  refine thn (hi pins s1 σ H1 _ I1 q1) fun iv s2 ⟨x2, H2, I2, r2, q2⟩ => ?_
  refine thn (hg pins s2 σ H2 x1 x2 ov iv _ I2 r1 r2 q2) fun old s3 ⟨x3, H3, I3, r3, q3⟩ => ?_
  refine thn (he pins s3 σ H3 _ I3 q3) fun v s4 ⟨x4, H4, I4, r4, q4⟩ => ?_
  refine thn (hp pins s4 σ H4 x3 x4 old v _ I4 r3 r4 q4) fun new s5 ⟨x5, H5, I5, r5, q5⟩ => ?_
  exact thn (hs pins s5 σ H5 x1 x2 x5 ov iv new _ I5 r1 r2 r5 q5) fun _ s6 ⟨H6, I6, q6⟩ => ⟨σ, H6, I6, q6⟩
/-- ints -/
def ipI (f : Int → Int → Int) : TIp := fun x y H Q => ∃ i j, x = .int i ∧ y = .int j ∧ Q (.int (f i j)) H
theorem ip_add : PIp X .Add (ipI fun i j => i + j) := by
  intro pins s σ H x y v u Q I r1 r2 h
  obtain ⟨i, j, e1, e2, q⟩ := h
  subst e1; subst e2
  obtain ⟨t, rfl⟩ := r1
  obtain ⟨t', rfl⟩ := r2
  exact iadd_int ⟨.int _, H, I.tok _, ⟨_, rfl⟩, q⟩
theorem ip_sub : PIp X .Sub (ipI fun i j => i - j) := by
  intro pins s σ H x y v u Q I r1 r2 h
  obtain ⟨i, j, e1, e2, q⟩ := h
  subst e1; subst e2
  obtain ⟨t, rfl⟩ := r1
  obtain ⟨t', rfl⟩ := r2
  exact isub_int ⟨.int _, H, I.tok _, ⟨_, rfl⟩, q⟩
end

/-! ### while -/
section
variable {X : Cx} {pos : Pos}
/-- the invariant W with its measure -/
def tWhile (c : TT) (tb : TS) : TS := fun D σ H => ∃ W : Nat → St → Hp → Prop, (∃ m, W m σ H) ∧ ∀ m σ H, W m σ H →
  c σ H fun b H1 => if b = true then ∃ N : St → Hp → Prop, (∀ σ' H', N σ' H' → ∃ m', m' < m ∧ W m' σ' H') ∧ tb { D with nx := N, ct := N, bk := D.nx } σ H1 else D.nx σ H1
theorem ps_while {c : Expr} {body : List Stmt} {tc : TT} {tb : TS} (hp : PassesOwn (model X.prog X.w) X.A X.env X.xe) (hc : PT X c tc) (hb : PSs X body tb) : PS X (.While c body [] pos) (tWhile tc tb) := by
  intro pins s σ H D I h
  obtain ⟨W, ⟨m0, w0⟩, turn⟩ := h
  refine wpAny_While (codeAny_whileLoop (fun n s' => ∃ σ' H', Inv X pins σ' H' s' ∧ W n σ' H') ?_ m0 ⟨σ, H, I, w0⟩)
  rintro n s1 ⟨σ1, H1, I1, w1⟩
  refine wpAny_passesOwn hp (thn (hc pins s1 σ1 H1 _ I1 (turn n σ1 H1 w1)) fun b s2 ⟨H2, I2, q2⟩ => ?_)
  cases b with
  | true =>
    obtain ⟨N, hN, q2⟩ := q2
    rw [if_pos rfl]
    refine wpAny_passesOwn hp (thn (hb pins s2 σ1 H2 _ I2 q2) fun f s3 q3 => ?_)
    cases f with
    | next =>
      obtain ⟨σ3, H3, I3, n3⟩ := q3
      obtain ⟨m', hm, w3⟩ := hN σ3 H3 n3
      exact ⟨m', hm, σ3, H3, I3, w3⟩
    | cont =>
      obtain ⟨σ3, H3, I3, n3⟩ := q3
      obtain ⟨m', hm, w3⟩ := hN σ3 H3 n3
      exact ⟨m', hm, σ3, H3, I3, w3⟩
    | brk => exact q3
    | ret v => exact q3
  | false =>
    rw [if_neg Bool.false_ne_true]
    exact wpAny_execs_nil ⟨σ1, H2, I2, q2⟩
end

/-! ### what a loop or a comprehension walks -/
/-- at turn i: it yields x (the heap may grow), or it stops -/
structure It where
  go : Nat → Hp → Prop
  yld : Nat → Hp → V → Hp → Prop
  stop : Nat → Hp → Prop
/-- the iterator's own objects may turn: they are not the frame's, not pinned, younger than the entry (or a comprehension's own) -/
def FpOk (X : Cx) (pins : List (Addr × Obj)) (H : Hp) (b : Addr) : Prop :=
  H b = none ∧ b ≠ X.env.locals ∧ b ∉ X.fs ∧ (b ∈ X.ex ∨ X.s₀.heap.objs.size ≤ b) ∧ (∀ x c, X.env.cells.lookup x = some c → c ≠ b) ∧ ∀ p ∈ X.pn ++ pins, p.1 ≠ b
theorem Inv.fpOk {X : Cx} {pins : List (Addr × Obj)} {σ : St} {H H' : Hp} {s : Shared} {b : Addr} (I : Inv X pins σ H s) (hb : s.heap.objs.size ≤ b) (hn : H' b = none) : FpOk X pins H' b := by
  refine ⟨hn, Nat.ne_of_gt (Nat.lt_of_lt_of_le I.lt hb), I.nofs hb, .inr (Nat.le_trans I.sz hb), fun x c e z => ?_, fun p hp z => ?_⟩
  · obtain ⟨v, q⟩ := I.cell x c e
    exact absurd (Nat.lt_of_lt_of_le q.lt (by rw [z]; exact hb)) (Nat.lt_irrefl _)
  · exact absurd (Nat.lt_of_lt_of_le (Heap.lt_size (I.pin p hp).1) (by rw [z]; exact hb)) (Nat.lt_irrefl _)
structure Turn (P : Program) (w : World) (K : PySem.W.Frag) (tg : Expr) (J : It) (fp : List Addr) (it : Addr) (tn : Nat → Heap → Prop) : Prop where
  mem : it ∈ fp
  obj : ∀ i h, tn i h → ∀ b ∈ fp, ∃ o, h.get? b = some o ∧ ∀ v, o.data ≠ .cell v
  keep : ∀ i h h', tn i h → (∀ b ∈ fp, ∀ o, h.get? b = some o → h'.get? b = some o) → tn i h'
  item : ∀ (X : Cx), X.prog = P → X.w = w → X.K = K → X.calm = true → ∀ (i : Nat) (pins : List (Addr × Obj)) (s : Shared) (σ : St) (H : Hp) (E : Value → Shared → Prop), Inv X pins σ H s → (∀ b ∈ fp, FpOk X pins H b) → tn i s.heap → J.go i H →
    wpAny (model P w) X.A (pyNext (.ref it)) (fun r s1 => ∃ u, r = some u ∧
      wpAny (model P w) X.A (letOwnedTupleGo tg (.ref it) u) (fun _ s2 => ∃ x H', Inv X pins σ H' s2 ∧ RelV x u ∧ J.yld i H x H' ∧ tn (i + 1) s2.heap ∧ ∀ b ∈ fp, H' b = none) E s1) E s
  done : ∀ (X : Cx), X.prog = P → X.w = w → X.K = K → X.calm = true → ∀ (i : Nat) (pins : List (Addr × Obj)) (s : Shared) (σ : St) (H : Hp) (E : Value → Shared → Prop), Inv X pins σ H s → (∀ b ∈ fp, FpOk X pins H b) → tn i s.heap → J.stop i H →
    wpAny (model P w) X.A (pyNext (.ref it)) (fun r s1 => r = none ∧ Inv X pins σ H s1) E s
  self : ∀ (A : Around) (i : Nat) (s : Shared) (Q : Value → Shared → Prop) (E : Value → Shared → Prop), tn i s.heap → Q (.ref it) s → wpAny (model P w) A (pyIter (.ref it)) Q E s
abbrev TI := St → Hp → (It → Hp → Prop) → Prop
/-- an iterator has come -/
def PIE (X : Cx) (pins : List (Addr × Obj)) (σ : St) (tg : Expr) (R : It → Hp → Prop) (itv : Value) (s2 : Shared) : Prop :=
  ∃ (it : Addr) (fp : List Addr) (tn : Nat → Heap → Prop) (J : It) (H' : Hp), itv = .ref it ∧ Inv X pins σ H' s2 ∧ Turn X.prog X.w X.K tg J fp it tn ∧ tn 0 s2.heap ∧ (∀ b ∈ fp, FpOk X pins H' b) ∧ R J H'
def PI (X : Cx) (tg iter : Expr) (wi : TI) : Prop :=
  ∀ (pins : List (Addr × Obj)) (s : Shared) (σ : St) (H : Hp) (R : It → Hp → Prop), Inv X pins σ H s → wi σ H R →
    wpAny (model X.prog X.w) X.A (eval iter X.env) (fun v s1 => wpAny (model X.prog X.w) X.A (pyIter v) (PIE X pins σ tg R) X.xe s1) X.xe s

/-- the step ahead of the store is nothing for an iterator that keeps no tuple -/
theorem go_of {M : Model} {A : Around} {E : Value → Shared → Prop} {s : Shared} {tg : Expr} {it : Addr} {u : Value} {o : Obj} {n : String} {vs : Array Value} {Q : Unit → Shared → Prop} (ho : s.heap.get? it = some o) (hc : o.cls = .type n) (hd : o.data = .fields vs)
    (hn : ["enumerate", "zip", "dict_itemiterator", "dict_reverseitemiterator", "odict_iterator", "itertools.zip_longest", "itertools.pairwise"].contains n = false) (hQ : Q () s) : wpAny M A (letOwnedTupleGo tg (.ref it) u) Q E s := by
  unfold letOwnedTupleGo
  cases tg <;> first
    | exact wpAny_pure hQ
    | (cases u <;> first
        | exact wpAny_pure hQ
        | (refine wpAny_bind (wpAny_load ho ?_)
           rw [hc, hd]
           show wpAny M A (if (["enumerate", "zip", "dict_itemiterator", "dict_reverseitemiterator", "odict_iterator", "itertools.zip_longest", "itertools.pairwise"].contains n && vs[0]? == some (rawInt _)) = true then _ else _) Q E s
           rw [if_neg (by intro h; rw [hn, Bool.false_and] at h; cases h)]
           exact wpAny_pure hQ))

/-- the list at a, as it stands at each turn (a loop may append to it) -/
def Itl (K : PySem.W.Frag) (a : Addr) : It :=
  ⟨fun i H => ∃ xs x, SqL K H a xs ∧ xs[i]? = some x, fun i H x H' => H' = H ∧ ∀ xs, SqL K H a xs → xs[i]? = some x, fun i H => ∃ xs, SqL K H a xs ∧ xs.length ≤ i⟩
def Itt (K : PySem.W.Frag) (a : Addr) : It :=
  ⟨fun i H => ∃ xs x, SqT K H a xs ∧ xs[i]? = some x, fun i H x H' => H' = H ∧ ∀ xs, SqT K H a xs → xs[i]? = some x, fun i H => ∃ xs, SqT K H a xs ∧ xs.length ≤ i⟩
/-- lo, lo + 1, .. (n of them) -/
def Itr (lo : Int) (n : Nat) : It := ⟨fun i _ => i < n, fun i H x H' => H' = H ∧ x = .int (lo + i), fun i _ => n ≤ i⟩
theorem turn_list {P : Program} {w : World} {K : PySem.W.Frag} {tg : Expr} (a it : Addr) : Turn P w K tg (Itl K a) [it] it (fun i h => h.IsListIter it a i) where
  mem := by simp
  obj := fun i h st b hb => by
    have e : b = it := by simpa using hb
    subst e
    obtain ⟨o, e, c, d⟩ := st
    exact ⟨o, e, fun v z => by rw [d] at z; cases z⟩
  keep := fun i h h' st k => st.at fun o e => k it (by simp) o e
  item := by
    intro X hP hw hK hc i pins s σ H E I hf st hg
    subst hP hw hK
    obtain ⟨xs, x, hq, hx⟩ := hg
    obtain ⟨its, rv, p, hz⟩ := I.list hq
    obtain ⟨u, hu, ru⟩ := rv.get hx
    obtain ⟨f0, f1, f2, f3, f4, f5⟩ := hf it (by simp)
    refine wpAny_pyNext_list_item st p.isList (x := u) (by simpa using hu) fun h' st' sb => ?_
    have I1 : Inv X pins σ H { s with heap := h' } := I.turned (t' := s.toks) (fun b o hb e => (sb.2 b hb).trans e) f0 f1 f3 f4 f5
    obtain ⟨o, e, c, d⟩ := id st'
    exact ⟨u, rfl, go_of (s := { s with heap := h' }) e c d (by decide) ⟨x, H, I1, ru, ⟨rfl, fun ys hy => by rw [I.list_inj hy hq]; exact hx⟩, st', fun b hb => (hf b hb).1⟩⟩
  done := by
    intro X hP hw hK hc i pins s σ H E I hf st hg
    subst hP hw hK
    obtain ⟨xs, hq, hx⟩ := hg
    obtain ⟨its, rv, p, hz⟩ := I.list hq
    obtain ⟨f0, f1, f2, f3, f4, f5⟩ := hf it (by simp)
    have hl := rv.length
    exact wpAny_pyNext_list_end (I.ok.hd hc) st p.isList (by simp; omega) fun h' eb => ⟨rfl, I.turned (t' := s.toks) (fun b o hb e => eb b o hb e) f0 f1 f3 f4 f5⟩
  self := fun _ _ _ _ _ st h => wpAny_pyIter_listiter st h
theorem turn_tuple {P : Program} {w : World} {K : PySem.W.Frag} {tg : Expr} (a it : Addr) : Turn P w K tg (Itt K a) [it] it (fun i h => h.IsTupleIter it a i) where
  mem := by simp
  obj := fun i h st b hb => by
    have e : b = it := by simpa using hb
    subst e
    obtain ⟨o, e, c, d⟩ := st
    exact ⟨o, e, fun v z => by rw [d] at z; cases z⟩
  keep := fun i h h' st k => st.at fun o e => k it (by simp) o e
  item := by
    intro X hP hw hK hc i pins s σ H E I hf st hg
    subst hP hw hK
    obtain ⟨xs, x, hq, hx⟩ := hg
    obtain ⟨its, rv, p, hz⟩ := I.tuple hq
    obtain ⟨u, hu, ru⟩ := rv.get hx
    obtain ⟨f0, f1, f2, f3, f4, f5⟩ := hf it (by simp)
    refine wpAny_pyNext_tuple_item st (show s.heap.IsTuple a its.toArray from p) (x := u) (by simpa using hu) fun h' st' sb => ?_
    have I1 : Inv X pins σ H { s with heap := h' } := I.turned (t' := s.toks) (fun b o hb e => (sb.2 b hb).trans e) f0 f1 f3 f4 f5
    obtain ⟨o, e, c, d⟩ := id st'
    exact ⟨u, rfl, go_of (s := { s with heap := h' }) e c d (by decide) ⟨x, H, I1, ru, ⟨rfl, fun ys hy => by rw [I.tuple_inj hy hq]; exact hx⟩, st', fun b hb => (hf b hb).1⟩⟩
  done := by
    intro X hP hw hK hc i pins s σ H E I hf st hg
    subst hP hw hK
    obtain ⟨xs, hq, hx⟩ := hg
    obtain ⟨its, rv, p, hz⟩ := I.tuple hq
    obtain ⟨f0, f1, f2, f3, f4, f5⟩ := hf it (by simp)
    have hl := rv.length
    exact wpAny_pyNext_tuple_end (I.ok.hd hc) st (show s.heap.IsTuple a its.toArray from p) (by simp; omega) fun h' eb => ⟨rfl, I.turned (t' := s.toks) (fun b o hb e => eb b o hb e) f0 f1 f3 f4 f5⟩
  self := fun _ _ _ _ _ st h => wpAny_pyIter_tupleiter st h
theorem turn_range {P : Program} {w : World} {K : PySem.W.Frag} {tg : Expr} (it : Addr) (lo : Int) (n : Nat) : Turn P w K tg (Itr lo n) [it] it (fun i h => IsRangeIter h it (lo + (i : Nat) * 1) ((n : Int) - (i : Nat)) 1) where
  mem := by simp
  obj := fun i h st b hb => by
    have e : b = it := by simpa using hb
    subst e
    exact ⟨_, st, fun v z => by
      have z' : Data.fields _ = Data.cell v := z
      cases z'⟩
  keep := fun i h h' st k => k it (by simp) _ st
  item := by
    intro X hP hw hK hc i pins s σ H E I hf st hg
    subst hP hw hK
    obtain ⟨f0, f1, f2, f3, f4, f5⟩ := hf it (by simp)
    have W := Walks.range (prog := X.prog) (w := X.w) (I.ok.hd hc) it lo 1 n
    refine W.item i s _ _ hg st fun v h' tk hv st' kk => ?_
    obtain ⟨t, rfl⟩ := hv
    have I1 : Inv X pins σ H { s with heap := h', toks := tk } := I.turned (fun b o hb e => kk b o (by simpa using hb) e) f0 f1 f3 f4 f5
    refine ⟨_, rfl, go_of (s := { s with heap := h', toks := tk }) (n := "range_iterator") st' rfl rfl (by decide) ⟨.int (lo + i), H, I1, ⟨t, ?_⟩, ⟨rfl, rfl⟩, st', fun b hb => (hf b hb).1⟩⟩
    rw [Int.mul_one]
  done := by
    intro X hP hw hK hc i pins s σ H E I hf st hg
    subst hP hw hK
    obtain ⟨f0, f1, f2, f3, f4, f5⟩ := hf it (by simp)
    exact wpAny_pyNext_range_end (I.ok.hd hc) st (by have : n ≤ i := hg; omega) fun h' eb => ⟨rfl, I.turned (t' := s.toks) (fun b o hb e => eb b o hb e) f0 f1 f3 f4 f5⟩
  self := fun _ _ _ _ _ st h => wpAny_pyIter_rangeiter st h
end L2

namespace L2
open PySem PySem.Spec PyProof.Rows
section
variable {X : Cx} {tg : Expr}
def iList (K : PySem.W.Frag) (tl : TE) : TI := fun σ H R => tl σ H fun x H1 => ∃ a, x = .ref a ∧ (∃ xs, SqL K H1 a xs) ∧ R (Itl K a) H1
def iTup (K : PySem.W.Frag) (tl : TE) : TI := fun σ H R => tl σ H fun x H1 => ∃ a, x = .ref a ∧ (∃ xs, SqT K H1 a xs) ∧ R (Itt K a) H1
theorem pi_list {l : Expr} {tl : TE} (hl : PE X l tl) : PI X tg l (iList X.K tl) := by
  intro pins s σ H R I h
  refine thn (hl pins s σ H _ I h) fun v s1 ⟨x, H1, I1, r1, q1⟩ => ?_
  obtain ⟨a, e, ⟨xs, hq⟩, q⟩ := q1
  subst e
  cases r1
  obtain ⟨its, rv, p, hz⟩ := I1.list hq
  refine wpAny_pyIter_list p.isList ?_
  refine ⟨s1.heap.objs.size, [s1.heap.objs.size], _, _, H1, rfl, I1.kept (t' := s1.toks) fun b o e => Heap.get?_push_of_some _ e, turn_list a _, ⟨_, Heap.get?_push_size _ rfl, rfl, rfl⟩, fun b hb => ?_, q⟩
  have e : b = s1.heap.objs.size := by simpa using hb
  subst e
  exact I1.fpOk (Nat.le_refl _) (I1.hok.fresh (Nat.le_refl _))
theorem pi_tup {l : Expr} {tl : TE} (hl : PE X l tl) : PI X tg l (iTup X.K tl) := by
  intro pins s σ H R I h
  refine thn (hl pins s σ H _ I h) fun v s1 ⟨x, H1, I1, r1, q1⟩ => ?_
  obtain ⟨a, e, ⟨xs, hq⟩, q⟩ := q1
  subst e
  cases r1
  obtain ⟨its, rv, p, hz⟩ := I1.tuple hq
  refine wpAny_pyIter_tuple (show s1.heap.IsTuple a its.toArray from p) ?_
  refine ⟨s1.heap.objs.size, [s1.heap.objs.size], _, _, H1, rfl, I1.kept (t' := s1.toks) fun b o e => Heap.get?_push_of_some _ e, turn_tuple a _, ⟨_, Heap.get?_push_size _ rfl, rfl, rfl⟩, fun b hb => ?_, q⟩
  have e : b = s1.heap.objs.size := by simpa using hb
  subst e
  exact I1.fpOk (Nat.le_refl _) (I1.hok.fresh (Nat.le_refl _))
/-- a range object just made, walked -/
theorem range_it {pins : List (Addr × Obj)} {σ : St} {H : Hp} {s : Shared} {R : It → Hp → Prop} {E : Value → Shared → Prop} {lo hi : Int} {t u v : Tok} {tk : Nat} (I : Inv X pins σ H s) (h1 : -(2 ^ 62) ≤ lo) (h2 : lo < 2 ^ 62) (h3 : -(2 ^ 62) ≤ hi) (h4 : hi < 2 ^ 62)
    (q : R (Itr lo (hi - lo).toNat) H) : wpAny (model X.prog X.w) X.A (pyIter (.ref s.heap.objs.size)) (PIE X pins σ tg R) E { s with heap := s.heap.push { cls := .type "range", data := .fields #[.int lo t, .int hi u, .int 1 v] }, toks := tk } := by
  refine wpAny_pyIter_range (IsRange.new ..) (small_one h1 h2 h3 h4) ?_
  have I1 : Inv X pins σ H { s with heap := s.heap.push { cls := .type "range", data := .fields #[.int lo t, .int hi u, .int 1 v] }, toks := tk } := I.kept fun b o e => Heap.get?_push_of_some _ e
  refine ⟨(s.heap.push { cls := .type "range", data := .fields #[.int lo t, .int hi u, .int 1 v] }).objs.size, [(s.heap.push { cls := .type "range", data := .fields #[.int lo t, .int hi u, .int 1 v] }).objs.size], _, _, H, rfl,
    I1.kept (t' := tk) fun b o e => Heap.get?_push_of_some _ e, turn_range _ lo (hi - lo).toNat, ?_, fun b hb => ?_, q⟩
  · have e1 : lo + ((0 : Nat) : Int) * 1 = lo := by simp
    have e2 : (((hi - lo).toNat : Nat) : Int) - ((0 : Nat) : Int) = Builtin.Range.rangeSize lo hi 1 := by rw [rangeSize_one]; split <;> omega
    show IsRangeIter _ _ (lo + ((0 : Nat) : Int) * 1) ((((hi - lo).toNat : Nat) : Int) - ((0 : Nat) : Int)) 1
    rw [e1, e2]
    exact Heap.get?_push_size _ rfl
  · have e : b = (s.heap.push { cls := .type "range", data := .fields #[.int lo t, .int hi u, .int 1 v] }).objs.size := by simpa using hb
    subst e
    exact I1.fpOk (Nat.le_refl _) (I1.hok.fresh (Nat.le_refl _))
def iRng1 (ta : TA) : TI := fun σ H R => ta σ H fun vs H1 => ∃ j : Int, vs = [.int j] ∧ -(2 ^ 62) ≤ j ∧ j < 2 ^ 62 ∧ R (Itr 0 j.toNat) H1
def iRng2 (ta : TA) : TI := fun σ H R => ta σ H fun vs H1 => ∃ i j : Int, vs = [.int i, .int j] ∧ (-(2 ^ 62) ≤ i ∧ i < 2 ^ 62 ∧ -(2 ^ 62) ≤ j ∧ j < 2 ^ 62) ∧ R (Itr i (j - i).toNat) H1
theorem pi_range1 {a : Expr} {ta : TA} {p pos : Pos} (hg : Gl X "range") (hm : X.mg "range" = none) (ha : PA X [a] ta) (hs : starEach [a] X.env = [(false, eval a X.env)] := by rfl) : PI X tg (.Call (.Name "range" p) [a] [] pos) (iRng1 ta) := by
  intro pins s σ H R I h
  refine Call_ (ld_blt I hg hm boot_range (PyProof.Rows.callWith_type1 (thn (ha pos pins s σ H _ I h) fun us s1 ⟨vs, H1, I1, r1, q1⟩ => ?_) hs rfl))
  obtain ⟨j, e, q1, q2, q⟩ := q1
  subst e
  cases r1 with
  | cons r rr =>
    cases rr
    obtain ⟨t, rfl⟩ := r
    exact call_range_1 (range_it I1 (by omega) (by omega) q1 q2 (by simpa using q))
theorem pi_range2 {a b : Expr} {ta : TA} {p pos : Pos} (hg : Gl X "range") (hm : X.mg "range" = none) (ha : PA X [a, b] ta) (hs : starEach [a, b] X.env = [(false, eval a X.env), (false, eval b X.env)] := by rfl) (hs2 : starEach [b] X.env = [(false, eval b X.env)] := by rfl) :
    PI X tg (.Call (.Name "range" p) [a, b] [] pos) (iRng2 ta) := by
  intro pins s σ H R I h
  refine Call_ (ld_blt I hg hm boot_range (PyProof.Rows.callWith_type1 (thn (ha pos pins s σ H _ I h) fun us s1 ⟨vs, H1, I1, r1, q1⟩ => ?_) (by rw [hs, hs2]) (by rw [hs2]; rfl)))
  obtain ⟨i, j, e, ⟨q1, q2, q3, q4⟩, q⟩ := q1
  subst e
  cases r1 with
  | cons r rr =>
    cases rr with
    | cons r' rr =>
      cases rr
      obtain ⟨t, rfl⟩ := r
      obtain ⟨t', rfl⟩ := r'
      exact call_range_2 (range_it I1 q1 q2 q3 q4 q)

/-! ### for -/
/-- W: the invariant by the turn and a measure; N: what the body is to reach -/
def tFor (wi : TI) (g : TG) (tb : TS) : TS := fun D σ H => wi σ H fun J H1 => ∃ W : Nat → Nat → St → Hp → Prop, (∃ m, W 0 m σ H1) ∧ ∀ i m σ H, W i m σ H →
  (J.stop i H ∧ D.nx σ H) ∨ (J.go i H ∧ ∃ N : St → Hp → Prop, (∀ σ' H', N σ' H' → ∃ m', m' < m ∧ W (i + 1) m' σ' H') ∧ ∀ x H', J.yld i H x H' → g x σ H' fun σ2 H2 => tb { D with nx := N, ct := N, bk := D.nx } σ2 H2)
/-- the records at fp as they stand -/
def pinsAt (fp : List Addr) (h : Heap) : List (Addr × Obj) := fp.filterMap fun b => (h.get? b).map fun o => (b, o)
theorem mem_pinsAt {fp : List Addr} {h : Heap} {b : Addr} {o : Obj} (hb : b ∈ fp) (e : h.get? b = some o) : (b, o) ∈ pinsAt fp h := List.mem_filterMap.mpr ⟨b, hb, by rw [e]; rfl⟩
theorem of_pinsAt {fp : List Addr} {h : Heap} {p : Addr × Obj} (hp : p ∈ pinsAt fp h) : p.1 ∈ fp ∧ h.get? p.1 = some p.2 := by
  obtain ⟨b, hb, e⟩ := List.mem_filterMap.mp hp
  cases q : h.get? b with
  | none => rw [q] at e; cases e
  | some o =>
    rw [q] at e
    have e' : (b, o) = p := Option.some.inj e
    subst e'
    exact ⟨hb, q⟩
theorem Inv.pinned {pins : List (Addr × Obj)} {σ : St} {H : Hp} {s : Shared} {fp : List Addr} (I : Inv X pins σ H s) (hf : ∀ b ∈ fp, FpOk X pins H b) (ho : ∀ b ∈ fp, ∃ o, s.heap.get? b = some o ∧ ∀ v, o.data ≠ .cell v) : Inv X (pins ++ pinsAt fp s.heap) σ H s :=
  I.pins_of fun p hp => (List.mem_append.mp hp).elim (fun z => I.pin p (List.mem_append_right _ z)) fun z => by
    obtain ⟨hb, e⟩ := of_pinsAt z
    obtain ⟨f0, f1, f2, _⟩ := hf p.1 hb
    obtain ⟨o, e', d⟩ := ho p.1 hb
    rw [e] at e'; cases e'
    exact ⟨e, f0, f1, f2, d⟩
theorem Inv.unpinned {pins pl : List (Addr × Obj)} {σ : St} {H : Hp} {s : Shared} (I : Inv X (pins ++ pl) σ H s) : Inv X pins σ H s := I.pins_of fun p hp => I.pin p (List.mem_append_right _ (List.mem_append_left _ hp))
theorem ps_for {iter : Expr} {body : List Stmt} {wi : TI} {g : TG} {tb : TS} {pos : Pos} (hp : PassesOwn (model X.prog X.w) X.A X.env X.xe) (hc : X.calm = true) (hi : PI X tg iter wi) (hg : PG X tg g) (hb : PSs X body tb)
    (hs : ∀ x, foldedSetIterable iter X.env x = pure x := by intro _; rfl) : PS X (.For tg iter body [] pos) (tFor wi g tb) := by
  intro pins s σ H D I h
  refine wpAny_For (thn (hi pins s σ H _ I h) fun v s1 h1 => thn h1 fun itv s2 h2 => ?_) hs
  obtain ⟨it, fp, tn, J, H2, e, I2, T, st2, f2, W, ⟨m0, w0⟩, turn⟩ := h2
  subst e
  -- what stays true of the iterator's objects through the loop
  have stat : ∀ {H' : Hp}, (∀ b ∈ fp, H' b = none) → ∀ b ∈ fp, FpOk X pins H' b := fun hn b hb => ⟨hn b hb, (f2 b hb).2⟩
  refine codeAny_forLoop_any (fun n s' => ∃ i σ' H', Inv X pins σ' H' s' ∧ tn i s'.heap ∧ (∀ b ∈ fp, H' b = none) ∧ W i n σ' H') ?_ m0 ⟨0, σ, H2, I2, st2, fun b hb => (f2 b hb).1, w0⟩
  rintro n s3 ⟨i, σ3, H3, I3, st3, fr3, w3⟩
  rcases turn i n σ3 H3 w3 with ⟨stop, qn⟩ | ⟨go, N, hN, step⟩
  · refine wpAny_passesOwn hp (thn (T.done X rfl rfl rfl hc i pins s3 σ3 H3 X.xe I3 (stat fr3) st3 stop) fun r s4 ⟨hr, I4⟩ => ?_)
    subst hr
    exact wpAny_execs_nil ⟨σ3, H3, I4, qn⟩
  · refine wpAny_passesOwn hp (thn (T.item X rfl rfl rfl hc i pins s3 σ3 H3 X.xe I3 (stat fr3) st3 go) fun r s4 ⟨u, hr, h4⟩ => ?_)
    subst hr
    refine wpAny_passesOwn hp (thn h4 fun _ s5 ⟨x, H5, I5, r5, y5, st5, fr5⟩ => ?_)
    have I5' := I5.pinned (stat fr5) (T.obj _ _ st5)
    refine wpAny_passesOwn hp (thn (hg _ s5 σ3 H5 x u _ I5' r5 (step x H5 y5)) fun _ s6 ⟨σ6, H6, I6, q6⟩ => ?_)
    refine wpAny_passesOwn hp (thn (hb _ s6 σ6 H6 _ I6 q6) fun f s7 q7 => ?_)
    have again : ∀ {σ7 : St} {H7 : Hp}, Inv X (pins ++ pinsAt fp s5.heap) σ7 H7 s7 → N σ7 H7 → ∃ m, m < n ∧ ∃ i σ' H', Inv X pins σ' H' s7 ∧ tn i s7.heap ∧ (∀ b ∈ fp, H' b = none) ∧ W i m σ' H' := fun {σ7 H7} I7 n7 => by
      obtain ⟨m', hm, w7⟩ := hN σ7 H7 n7
      refine ⟨m', hm, i + 1, σ7, H7, I7.unpinned, T.keep _ _ _ st5 fun b hb o e => (I7.pin (b, o) (List.mem_append_right _ (List.mem_append_right _ (mem_pinsAt hb e)))).1, fun b hb => ?_, w7⟩
      obtain ⟨o, e, d⟩ := T.obj _ _ st5 b hb
      exact (I7.pin (b, o) (List.mem_append_right _ (List.mem_append_right _ (mem_pinsAt hb e)))).2.1
    cases f with
    | next => obtain ⟨σ7, H7, I7, n7⟩ := q7; exact again I7 n7
    | cont => obtain ⟨σ7, H7, I7, n7⟩ := q7; exact again I7 n7
    | brk => obtain ⟨σ7, H7, I7, q7⟩ := q7; exact ⟨σ7, H7, I7.unpinned, q7⟩
    | ret v => obtain ⟨x7, σ7, H7, I7, r7, q7⟩ := q7; exact ⟨x7, σ7, H7, I7.unpinned, r7, q7⟩
end

/-! ### the forms one uses -/
/-- over a list that the body leaves as it is -/
theorem for_list {K : PySem.W.Frag} {a : Addr} {xs : List V} {g : TG} {tb : TS} {D : Ends} {σ : St} {H : Hp} (Pv : Nat → St → Hp → Prop) (h0 : Pv 0 σ H) (hl : ∀ i σ H, i ≤ xs.length → Pv i σ H → SqL K H a xs)
    (hs : ∀ i x σ H, xs[i]? = some x → Pv i σ H → g x σ H fun σ2 H2 => tb { D with nx := Pv (i + 1), ct := Pv (i + 1), bk := D.nx } σ2 H2) (hd : ∀ σ H, Pv xs.length σ H → D.nx σ H) :
    ∃ W : Nat → Nat → St → Hp → Prop, (∃ m, W 0 m σ H) ∧ ∀ i m σ H, W i m σ H →
      ((Itl K a).stop i H ∧ D.nx σ H) ∨ ((Itl K a).go i H ∧ ∃ N : St → Hp → Prop, (∀ σ' H', N σ' H' → ∃ m', m' < m ∧ W (i + 1) m' σ' H') ∧ ∀ x H', (Itl K a).yld i H x H' → g x σ H' fun σ2 H2 => tb { D with nx := N, ct := N, bk := D.nx } σ2 H2) := by
  refine ⟨fun i m σ H => m = xs.length - i ∧ i ≤ xs.length ∧ Pv i σ H, ⟨xs.length, by simp, Nat.zero_le _, h0⟩, ?_⟩
  rintro i m σ H ⟨rfl, hi, p⟩
  have q := hl i σ H hi p
  by_cases hlt : i < xs.length
  · refine .inr ⟨⟨xs, xs[i], q, by simp [hlt]⟩, Pv (i + 1), fun σ' H' p' => ⟨xs.length - (i + 1), by omega, rfl, hlt, p'⟩, fun x H' y => ?_⟩
    obtain ⟨e, y⟩ := y
    subst e
    exact hs i x σ _ (y xs q) p
  · have e : i = xs.length := by omega
    subst e
    exact .inl ⟨⟨xs, q, Nat.le_refl _⟩, hd σ H p⟩
theorem for_tup {K : PySem.W.Frag} {a : Addr} {xs : List V} {g : TG} {tb : TS} {D : Ends} {σ : St} {H : Hp} (Pv : Nat → St → Hp → Prop) (h0 : Pv 0 σ H) (hl : ∀ i σ H, i ≤ xs.length → Pv i σ H → SqT K H a xs)
    (hs : ∀ i x σ H, xs[i]? = some x → Pv i σ H → g x σ H fun σ2 H2 => tb { D with nx := Pv (i + 1), ct := Pv (i + 1), bk := D.nx } σ2 H2) (hd : ∀ σ H, Pv xs.length σ H → D.nx σ H) :
    ∃ W : Nat → Nat → St → Hp → Prop, (∃ m, W 0 m σ H) ∧ ∀ i m σ H, W i m σ H →
      ((Itt K a).stop i H ∧ D.nx σ H) ∨ ((Itt K a).go i H ∧ ∃ N : St → Hp → Prop, (∀ σ' H', N σ' H' → ∃ m', m' < m ∧ W (i + 1) m' σ' H') ∧ ∀ x H', (Itt K a).yld i H x H' → g x σ H' fun σ2 H2 => tb { D with nx := N, ct := N, bk := D.nx } σ2 H2) := by
  refine ⟨fun i m σ H => m = xs.length - i ∧ i ≤ xs.length ∧ Pv i σ H, ⟨xs.length, by simp, Nat.zero_le _, h0⟩, ?_⟩
  rintro i m σ H ⟨rfl, hi, p⟩
  have q := hl i σ H hi p
  by_cases hlt : i < xs.length
  · refine .inr ⟨⟨xs, xs[i], q, by simp [hlt]⟩, Pv (i + 1), fun σ' H' p' => ⟨xs.length - (i + 1), by omega, rfl, hlt, p'⟩, fun x H' y => ?_⟩
    obtain ⟨e, y⟩ := y
    subst e
    exact hs i x σ _ (y xs q) p
  · have e : i = xs.length := by omega
    subst e
    exact .inl ⟨⟨xs, q, Nat.le_refl _⟩, hd σ H p⟩
theorem for_range {lo : Int} {n : Nat} {g : TG} {tb : TS} {D : Ends} {σ : St} {H : Hp} (Pv : Nat → St → Hp → Prop) (h0 : Pv 0 σ H)
    (hs : ∀ i σ H, i < n → Pv i σ H → g (.int (lo + i)) σ H fun σ2 H2 => tb { D with nx := Pv (i + 1), ct := Pv (i + 1), bk := D.nx } σ2 H2) (hd : ∀ σ H, Pv n σ H → D.nx σ H) :
    ∃ W : Nat → Nat → St → Hp → Prop, (∃ m, W 0 m σ H) ∧ ∀ i m σ H, W i m σ H →
      ((Itr lo n).stop i H ∧ D.nx σ H) ∨ ((Itr lo n).go i H ∧ ∃ N : St → Hp → Prop, (∀ σ' H', N σ' H' → ∃ m', m' < m ∧ W (i + 1) m' σ' H') ∧ ∀ x H', (Itr lo n).yld i H x H' → g x σ H' fun σ2 H2 => tb { D with nx := N, ct := N, bk := D.nx } σ2 H2) := by
  refine ⟨fun i m σ H => m = n - i ∧ i ≤ n ∧ Pv i σ H, ⟨n, by simp, Nat.zero_le _, h0⟩, ?_⟩
  rintro i m σ H ⟨rfl, hi, p⟩
  by_cases hlt : i < n
  · refine .inr ⟨hlt, Pv (i + 1), fun σ' H' p' => ⟨n - (i + 1), by omega, rfl, hlt, p'⟩, fun x H' y => ?_⟩
    obtain ⟨e, y⟩ := y
    subst e y
    exact hs i σ _ hlt p
  · have e : i = n := by omega
    subst e
    exact .inl ⟨Nat.le_refl _, hd σ H p⟩
/-- while, by a word and a measure of the state -/
theorem while_by {c : TT} {tb : TS} {D : Ends} {σ : St} {H : Hp} (Pv : St → Hp → Prop) (μ : St → Hp → Nat) (h0 : Pv σ H)
    (hs : ∀ σ H, Pv σ H → c σ H fun b H1 => if b = true then tb { D with nx := fun σ' H' => Pv σ' H' ∧ μ σ' H' < μ σ H, ct := fun σ' H' => Pv σ' H' ∧ μ σ' H' < μ σ H, bk := D.nx } σ H1 else D.nx σ H1)
    (mono : ∀ σ H Q Q', (∀ b H1, Q b H1 → Q' b H1) → c σ H Q → c σ H Q') : tWhile c tb D σ H := by
  refine ⟨fun m σ H => m = μ σ H ∧ Pv σ H, ⟨_, rfl, h0⟩, ?_⟩
  rintro m σ H ⟨rfl, p⟩
  refine mono σ H _ _ (fun b H1 q => ?_) (hs σ H p)
  cases b with
  | true => exact ⟨_, fun σ' H' ⟨p', l⟩ => ⟨_, l, rfl, p'⟩, q⟩
  | false => exact q
end L2

namespace L2
open PySem PySem.Spec PyProof.Rows

abbrev R2 := V → V → Hp → VK → Prop
/-- a two-place operation on values: f is binaryOp op, inplaceOp op or compareOp op -/
def OpR (X : Cx) (f : Value → Value → Sem Value) (r : R2) : Prop :=
  ∀ (pins : List (Addr × Obj)) (s : Shared) (σ : St) (H : Hp) (x y : V) (v u : Value) (Q : VK), Inv X pins σ H s → RelV x v → RelV y u → r x y H Q →
    wpAny (model X.prog X.w) X.A (f v u) (EP X pins σ Q) X.xe s
/-- a one-place operation -/
def UnR (X : Cx) (f : Value → Sem Value) (r : V → Hp → VK → Prop) : Prop :=
  ∀ (pins : List (Addr × Obj)) (s : Shared) (σ : St) (H : Hp) (x : V) (v : Value) (Q : VK), Inv X pins σ H s → RelV x v → r x H Q →
    wpAny (model X.prog X.w) X.A (f v) (EP X pins σ Q) X.xe s
/-- a call of a value that is known (a builtin, a type) with values -/
def CallR (X : Cx) (f : Value) (r : List V → Hp → VK → Prop) : Prop :=
  ∀ (pins : List (Addr × Obj)) (s : Shared) (σ : St) (H : Hp) (xs : List V) (us : List Value) (Q : VK), Inv X pins σ H s → Vals xs us → r xs H Q →
    wpAny (model X.prog X.w) X.A (call f us) (EP X pins σ Q) X.xe s
/-- a value's truth -/
def TruR (X : Cx) (r : V → Hp → (Bool → Hp → Prop) → Prop) : Prop :=
  ∀ (pins : List (Addr × Obj)) (s : Shared) (σ : St) (H : Hp) (x : V) (v : Value) (Q : Bool → Hp → Prop), Inv X pins σ H s → RelV x v → r x H Q →
    wpAny (model X.prog X.w) X.A (truthy v) (TP X pins σ Q) X.xe s

def tOp (r : R2) (ta tb : TE) : TE := fun σ H Q => ta σ H fun x H1 => tb σ H1 fun y H2 => r x y H2 Q
def tUn (r : V → Hp → VK → Prop) (ta : TE) : TE := fun σ H Q => ta σ H fun x H1 => r x H1 Q
/-- ints in, under C, and a value out -/
def rI (C : Int → Int → Prop) (g : Int → Int → V) : R2 := fun x y H Q => ∃ i j, x = .int i ∧ y = .int j ∧ C i j ∧ Q (g i j) H
def rI0 (g : Int → Int → V) : R2 := fun x y H Q => ∃ i j, x = .int i ∧ y = .int j ∧ Q (g i j) H
def rU (g : Int → V) : V → Hp → VK → Prop := fun x H Q => ∃ i, x = .int i ∧ Q (g i) H

section
variable {X : Cx} {a b c : Expr} {ta tb tc : TE} {pos : Pos}

theorem binT (ha : PE X a ta) (hb : PE X b tb) {pins : List (Addr × Obj)} {s : Shared} {σ : St} {H : Hp} {R : V → V → Hp → Prop} (I : Inv X pins σ H s)
    (h : ta σ H fun x H1 => tb σ H1 fun y H2 => R x y H2) {Q : Value → Shared → Prop} {f : Value → Value → Sem Value}
    (hf : ∀ v u s2 x y H2, Inv X pins σ H2 s2 → RelV x v → RelV y u → R x y H2 → wpAny (model X.prog X.w) X.A (f v u) Q X.xe s2) :
    wpAny (model X.prog X.w) X.A (eval a X.env) (fun v s₁ => wpAny (model X.prog X.w) X.A (eval b X.env) (fun u s₂ => wpAny (model X.prog X.w) X.A (f v u) Q X.xe s₂) X.xe s₁) X.xe s := by
  refine thn (ha pins s σ H _ I h) fun v s1 ⟨x, H1, I1, r1, q1⟩ => ?_
  refine thn (hb pins s1 σ H1 _ I1 q1) fun u s2 ⟨y, H2, I2, r2, q2⟩ => ?_
  exact hf v u s2 x y H2 I2 r1 r2 q2

theorem pe_op {op : Operator} {r : R2} (ho : OpR X (binaryOp op) r) (ha : PE X a ta) (hb : PE X b tb) : PE X (.BinOp a op b pos) (tOp r ta tb) := by
  intro pins s σ H Q I h
  exact wpAny_BinOp (binT ha hb I h fun v u s2 x y H2 I2 rx ry q => ho pins s2 σ H2 x y v u Q I2 rx ry q)
theorem pe_un {op : UnaryOp} {r : V → Hp → VK → Prop} (ho : UnR X (unaryOp op) r) (ha : PE X a ta) : PE X (.UnaryOp op a pos) (tUn r ta) := by
  intro pins s σ H Q I h
  exact UnaryOp_ (thn (ha pins s σ H _ I h) fun v s1 ⟨x, H1, I1, r1, q1⟩ => ho pins s1 σ H1 x v Q I1 r1 q1)
/-- a op= e at a name: the name's slot i -/
theorem augR {op : Operator} {r : R2} (ho : OpR X (inplaceOp op) r) {pins : List (Addr × Obj)} {s : Shared} {σ : St} {H : Hp} {x y : V} {v u : Value} {Q : VK} (I : Inv X pins σ H s)
    (rx : RelV x v) (ry : RelV y u) (q : r x y H Q) : wpAny (model X.prog X.w) X.A (inplaceOp op v u) (EP X pins σ Q) X.xe s := ho pins s σ H x y v u Q I rx ry q

/-! ### ints -/
theorem opI {f : Value → Value → Sem Value} {C : Int → Int → Prop} {g : Int → Int → Int}
    (rule : ∀ (i j : Int) (t u : Tok) (s : Shared) (Q : Value → Shared → Prop) (E : Value → Shared → Prop), C i j → Q (.int (g i j) s.toks) { s with toks := s.toks + 1 } → wpAny (model X.prog X.w) X.A (f (.int i t) (.int j u)) Q E s) :
    OpR X f (rI C fun i j => .int (g i j)) := by
  intro pins s σ H x y v u Q I rx ry h
  obtain ⟨i, j, rfl, rfl, hc, q⟩ := h
  obtain ⟨t, rfl⟩ := rx
  obtain ⟨t', rfl⟩ := ry
  exact rule i j t t' s _ _ hc ⟨.int (g i j), H, I.tok _, ⟨_, rfl⟩, q⟩
theorem opI0 {f : Value → Value → Sem Value} {g : Int → Int → Int}
    (rule : ∀ (i j : Int) (t u : Tok) (s : Shared) (Q : Value → Shared → Prop) (E : Value → Shared → Prop), Q (.int (g i j) s.toks) { s with toks := s.toks + 1 } → wpAny (model X.prog X.w) X.A (f (.int i t) (.int j u)) Q E s) :
    OpR X f (rI0 fun i j => .int (g i j)) := by
  intro pins s σ H x y v u Q I rx ry h
  obtain ⟨i, j, rfl, rfl, q⟩ := h
  obtain ⟨t, rfl⟩ := rx
  obtain ⟨t', rfl⟩ := ry
  exact rule i j t t' s _ _ ⟨.int (g i j), H, I.tok _, ⟨_, rfl⟩, q⟩
theorem opB0 {f : Value → Value → Sem Value} {g : Int → Int → Bool}
    (rule : ∀ (i j : Int) (t u : Tok) (s : Shared) (Q : Value → Shared → Prop) (E : Value → Shared → Prop), Q (.bool (g i j)) s → wpAny (model X.prog X.w) X.A (f (.int i t) (.int j u)) Q E s) :
    OpR X f (rI0 fun i j => .bl (g i j)) := by
  intro pins s σ H x y v u Q I rx ry h
  obtain ⟨i, j, rfl, rfl, q⟩ := h
  obtain ⟨t, rfl⟩ := rx
  obtain ⟨t', rfl⟩ := ry
  exact rule i j t t' s _ _ ⟨.bl (g i j), H, I, rfl, q⟩

def CDiv (i j : Int) : Prop := 0 < j ∧ j < 1073741824
def CDivN (i j : Int) : Prop := j ≠ 0 ∧ j.natAbs < 1073741824
def CPow (i j : Int) : Prop := 0 ≤ j ∧ j ≤ 1000000 ∧ i.natAbs < 2 ^ 64
def CMul (i j : Int) : Prop := (-(2 ^ 64) < i ∧ i < 2 ^ 64) ∨ (-(2 ^ 64) < j ∧ j < 2 ^ 64)
theorem CMul.ok {i j : Int} (h : CMul i j) : IntMulOk i j := by
  rcases h with ⟨h1, h2⟩ | ⟨h1, h2⟩
  · exact .of_left (intBits_le_64 h1 h2)
  · exact .of_right (intBits_le_64 h1 h2)
theorem two_pow_nn (k : Nat) : (0 : Int) ≤ 2 ^ k := by
  rw [two_pow_cast]
  exact Int.natCast_nonneg _

theorem op_add : OpR X (binaryOp .Add) (rI0 fun i j => .int (i + j)) := opI0 fun _ _ _ _ _ _ _ q => add_int q
theorem op_sub : OpR X (binaryOp .Sub) (rI0 fun i j => .int (i - j)) := opI0 fun _ _ _ _ _ _ _ q => sub_int q
theorem op_mul : OpR X (binaryOp .Mult) (rI CMul fun i j => .int (i * j)) := opI fun _ _ _ _ _ _ _ hc q => mul_int q hc.ok
/-- // by a positive divisor -/
theorem op_fdiv : OpR X (binaryOp .FloorDiv) (rI CDiv fun i j => .int (i / j)) := opI fun i j _ _ _ _ _ hc q => by
  have h1 : (0 : Int) < j := hc.1
  have h2 : j < 1073741824 := hc.2
  exact floordiv_int (by omega) (by rw [Int.fdiv_eq_ediv_of_nonneg i (by omega)]; exact q) (.inl (PyProof.noPylong_small (by omega)))
theorem op_fdivN : OpR X (binaryOp .FloorDiv) (rI CDivN fun i j => .int (i.fdiv j)) := opI fun _ _ _ _ _ _ _ hc q => floordiv_int hc.1 q (.inl (PyProof.noPylong_small hc.2))
/-- % by a positive divisor of any size -/
theorem op_mod : OpR X (binaryOp .Mod) (rI (fun _ j => 0 < j) fun i j => .int (i % j)) := opI fun i j _ _ _ _ _ hc q => by
  have h1 : (0 : Int) < j := hc
  exact mod_int' (by omega) (by rw [Int.fmod_eq_emod_of_nonneg i (by omega)]; exact q)
theorem op_modN : OpR X (binaryOp .Mod) (rI (fun _ j => j ≠ 0) fun i j => .int (i.fmod j)) := opI fun _ _ _ _ _ _ _ hc q => mod_int' hc q
theorem op_pow : OpR X (binaryOp .Pow) (rI CPow fun i j => .int (i ^ j.toNat)) := opI fun _ _ _ _ _ _ _ hc q => pow_int_small hc.1 hc.2.1 hc.2.2 q
theorem op_shl : OpR X (binaryOp .LShift) (rI CPow fun i j => .int (i * 2 ^ j.toNat)) := opI fun _ _ _ _ _ _ _ hc q => lshift_int_small hc.1 hc.2.1 hc.2.2 q
theorem op_shr : OpR X (binaryOp .RShift) (rI (fun _ j => 0 ≤ j) fun i j => .int (i / 2 ^ j.toNat)) := opI fun i j _ _ _ _ _ hc q =>
  rshift_int hc (by rw [Int.fdiv_eq_ediv_of_nonneg i (two_pow_nn _)]; exact q)
theorem op_and : OpR X (binaryOp .BitAnd) (rI0 fun i j => .int (Builtin.bitAnd i j)) := opI0 fun _ _ _ _ _ _ _ q => and_int q
theorem op_or : OpR X (binaryOp .BitOr) (rI0 fun i j => .int (Builtin.bitOr i j)) := opI0 fun _ _ _ _ _ _ _ q => or_int q
theorem op_xor : OpR X (binaryOp .BitXor) (rI0 fun i j => .int (Builtin.bitXor i j)) := opI0 fun _ _ _ _ _ _ _ q => xor_int q

theorem iop_add : OpR X (inplaceOp .Add) (rI0 fun i j => .int (i + j)) := opI0 fun _ _ _ _ _ _ _ q => iadd_int q
theorem iop_sub : OpR X (inplaceOp .Sub) (rI0 fun i j => .int (i - j)) := opI0 fun _ _ _ _ _ _ _ q => isub_int q
theorem iop_mul : OpR X (inplaceOp .Mult) (rI CMul fun i j => .int (i * j)) := opI fun _ _ _ _ _ _ _ hc q => imul_int q hc.ok
theorem iop_fdiv : OpR X (inplaceOp .FloorDiv) (rI CDiv fun i j => .int (i / j)) := opI fun i j _ _ _ _ _ hc q => by
  have h1 : (0 : Int) < j := hc.1
  have h2 : j < 1073741824 := hc.2
  exact ifloordiv_int (by omega) (by rw [Int.fdiv_eq_ediv_of_nonneg i (by omega)]; exact q) (.inl (PyProof.noPylong_small (by omega)))
theorem iop_mod : OpR X (inplaceOp .Mod) (rI (fun _ j => 0 < j) fun i j => .int (i % j)) := opI fun i j _ _ _ _ _ hc q => by
  have h1 : (0 : Int) < j := hc
  exact imod_int (by omega) (by rw [Int.fmod_eq_emod_of_nonneg i (by omega)]; exact q)
theorem iop_shl : OpR X (inplaceOp .LShift) (rI CPow fun i j => .int (i * 2 ^ j.toNat)) := opI fun _ _ _ _ _ _ _ hc q => ilshift_int_small hc.1 hc.2.1 hc.2.2 q
theorem iop_shr : OpR X (inplaceOp .RShift) (rI (fun _ j => 0 ≤ j) fun i j => .int (i / 2 ^ j.toNat)) := opI fun i j _ _ _ _ _ hc q =>
  irshift_int hc (by rw [Int.fdiv_eq_ediv_of_nonneg i (two_pow_nn _)]; exact q)
theorem iop_and : OpR X (inplaceOp .BitAnd) (rI0 fun i j => .int (Builtin.bitAnd i j)) := opI0 fun _ _ _ _ _ _ _ q => iand_int q
theorem iop_or : OpR X (inplaceOp .BitOr) (rI0 fun i j => .int (Builtin.bitOr i j)) := opI0 fun _ _ _ _ _ _ _ q => ior_int q
theorem iop_xor : OpR X (inplaceOp .BitXor) (rI0 fun i j => .int (Builtin.bitXor i j)) := opI0 fun _ _ _ _ _ _ _ q => ixor_int q

theorem unI {f : Value → Sem Value} {g : Int → Int}
    (rule : ∀ (i : Int) (t : Tok) (s : Shared) (Q : Value → Shared → Prop) (E : Value → Shared → Prop), Q (.int (g i) s.toks) { s with toks := s.toks + 1 } → wpAny (model X.prog X.w) X.A (f (.int i t)) Q E s) :
    UnR X f (rU fun i => .int (g i)) := by
  intro pins s σ H x v Q I rx h
  obtain ⟨i, rfl, q⟩ := h
  obtain ⟨t, rfl⟩ := rx
  exact rule i t s _ _ ⟨.int (g i), H, I.tok _, ⟨_, rfl⟩, q⟩
theorem un_neg : UnR X (unaryOp .USub) (rU fun i => .int (-i)) := unI fun _ _ _ _ _ q => neg_int q
theorem un_inv : UnR X (unaryOp .Invert) (rU fun i => .int (Builtin.bitNot i)) := unI fun _ _ _ _ _ q => invert_int q

/-! ### bools among ints: n += (a < b) -/
theorem op_add_ib : OpR X (binaryOp .Add) (fun x y H Q => ∃ i k, x = .int i ∧ y = .bl k ∧ Q (.int (i + b2i k)) H) := by
  intro pins s σ H x y v u Q I rx ry h
  obtain ⟨i, k, rfl, rfl, q⟩ := h
  obtain ⟨t, rfl⟩ := rx
  cases ry
  exact add_int_bool ⟨.int (i + b2i k), H, I.tok _, ⟨_, rfl⟩, q⟩
end

/-! ### comparisons -/
/-- the scalars that == tells apart as data does -/
def scal : V → V → Bool
  | .non, .non => true | .non, .int _ => true | .int _, .non => true | .non, .bl _ => true | .bl _, .non => true | .non, .str _ => true | .str _, .non => true
  | .int _, .int _ => true | .bl _, .bl _ => true | .str _, .str _ => true | .byt _, .byt _ => true
  | .int _, .str _ => true | .str _, .int _ => true | .bl _, .str _ => true | .str _, .bl _ => true
  | _, _ => false
def rEq : R2 := fun x y H Q => scal x y = true ∧ Q (.bl (decide (x = y))) H
def rNe : R2 := fun x y H Q => scal x y = true ∧ Q (.bl (!decide (x = y))) H

theorem dec_int {i j : Int} : decide (V.int i = V.int j) = (i == j) := by
  rw [Bool.eq_iff_iff]
  simp
theorem dec_bl {i j : Bool} : decide (V.bl i = V.bl j) = (i == j) := by
  rw [Bool.eq_iff_iff]
  simp
theorem dec_str {i j : Str} : decide (V.str i = V.str j) = (i == j) := by
  rw [Bool.eq_iff_iff]
  simp
theorem dec_byt {i j : Array UInt8} : decide (V.byt i = V.byt j) = (i.toList == j.toList) := by
  rw [Bool.eq_iff_iff]
  cases i
  cases j
  simp

section
variable {X : Cx} {a b c : Expr} {ta tb tc : TE} {pos : Pos}
theorem fin_bl {pins : List (Addr × Obj)} {σ : St} {H : Hp} {s : Shared} {Q : VK} {k k' : Bool} (I : Inv X pins σ H s) (q : Q (.bl k) H) (e : k = k') : EP X pins σ Q (.bool k') s := by
  subst e
  exact ⟨.bl k, H, I, rfl, q⟩
theorem op_eq : OpR X (compareOp .Eq) rEq := by
  intro pins s σ H x y v u Q I rx ry h
  obtain ⟨hs, q⟩ := h
  cases x with
  | non =>
    cases rx
    cases y with
    | non => cases ry; exact PySem.EqNone.eq_none_none (fin_bl I q (by simp))
    | bl j => cases ry; exact PySem.EqNone.eq_none_bool (fin_bl I q (by simp))
    | int j => obtain ⟨t', rfl⟩ := ry; exact PySem.EqNone.eq_none_int (fin_bl I q (by simp))
    | str j => obtain ⟨t', rfl⟩ := ry; exact PySem.EqNone.eq_none_str (fin_bl I q (by simp))
    | _ => exact absurd (show false = true from hs) Bool.false_ne_true
  | bl i =>
    cases rx
    cases y with
    | non => cases ry; exact PySem.EqNone.eq_bool_none (fin_bl I q (by simp))
    | bl j => cases ry; exact eq_bool (fin_bl I q dec_bl)
    | str j => obtain ⟨t', rfl⟩ := ry; exact PySem.EqMixed.eq_bool_str (fin_bl I q (by simp))
    | _ => exact absurd (show false = true from hs) Bool.false_ne_true
  | int i =>
    obtain ⟨t, rfl⟩ := rx
    cases y with
    | non => cases ry; exact PySem.EqNone.eq_int_none (fin_bl I q (by simp))
    | int j => obtain ⟨t', rfl⟩ := ry; exact eq_int (fin_bl I q dec_int)
    | str j => obtain ⟨t', rfl⟩ := ry; exact PySem.EqMixed.eq_int_str (fin_bl I q (by simp))
    | _ => exact absurd (show false = true from hs) Bool.false_ne_true
  | str i =>
    obtain ⟨t, rfl⟩ := rx
    cases y with
    | non => cases ry; exact PySem.EqNone.eq_str_none (fin_bl I q (by simp))
    | bl j => cases ry; exact PySem.EqMixed.eq_str_bool (fin_bl I q (by simp))
    | int j => obtain ⟨t', rfl⟩ := ry; exact PySem.EqMixed.eq_str_int (fin_bl I q (by simp))
    | str j => obtain ⟨t', rfl⟩ := ry; exact eq_str (fin_bl I q dec_str)
    | _ => exact absurd (show false = true from hs) Bool.false_ne_true
  | byt i =>
    obtain ⟨t, rfl⟩ := rx
    cases y with
    | byt j => obtain ⟨t', rfl⟩ := ry; exact PySem.W.eq_bytes (fin_bl I q dec_byt)
    | _ => exact absurd (show false = true from hs) Bool.false_ne_true
  | _ => cases y <;> exact absurd (show false = true from hs) Bool.false_ne_true
theorem op_ne : OpR X (compareOp .NotEq) rNe := by
  intro pins s σ H x y v u Q I rx ry h
  obtain ⟨hs, q⟩ := h
  cases x with
  | non =>
    cases rx
    cases y with
    | non => cases ry; exact PySem.EqNone.ne_none_none (fin_bl I q (by simp))
    | bl j => cases ry; exact PySem.EqNone.ne_none_bool (fin_bl I q (by simp))
    | int j => obtain ⟨t', rfl⟩ := ry; exact PySem.EqNone.ne_none_int (fin_bl I q (by simp))
    | str j => obtain ⟨t', rfl⟩ := ry; exact PySem.EqNone.ne_none_str (fin_bl I q (by simp))
    | _ => exact absurd (show false = true from hs) Bool.false_ne_true
  | bl i =>
    cases rx
    cases y with
    | non => cases ry; exact PySem.EqNone.ne_bool_none (fin_bl I q (by simp))
    | bl j => cases ry; exact ne_bool (fin_bl I q (congrArg not dec_bl))
    | str j => obtain ⟨t', rfl⟩ := ry; exact PySem.EqMixed.ne_bool_str (fin_bl I q (by simp))
    | _ => exact absurd (show false = true from hs) Bool.false_ne_true
  | int i =>
    obtain ⟨t, rfl⟩ := rx
    cases y with
    | non => cases ry; exact PySem.EqNone.ne_int_none (fin_bl I q (by simp))
    | int j => obtain ⟨t', rfl⟩ := ry; exact ne_int (fin_bl I q (congrArg not dec_int))
    | str j => obtain ⟨t', rfl⟩ := ry; exact PySem.EqMixed.ne_int_str (fin_bl I q (by simp))
    | _ => exact absurd (show false = true from hs) Bool.false_ne_true
  | str i =>
    obtain ⟨t, rfl⟩ := rx
    cases y with
    | non => cases ry; exact PySem.EqNone.ne_str_none (fin_bl I q (by simp))
    | bl j => cases ry; exact PySem.EqMixed.ne_str_bool (fin_bl I q (by simp))
    | int j => obtain ⟨t', rfl⟩ := ry; exact PySem.EqMixed.ne_str_int (fin_bl I q (by simp))
    | str j => obtain ⟨t', rfl⟩ := ry; exact ne_str (fin_bl I q (congrArg not dec_str))
    | _ => exact absurd (show false = true from hs) Bool.false_ne_true
  | byt i =>
    obtain ⟨t, rfl⟩ := rx
    cases y with
    | byt j => obtain ⟨t', rfl⟩ := ry; exact PySem.W.ne_bytes (fin_bl I q (congrArg not dec_byt))
    | _ => exact absurd (show false = true from hs) Bool.false_ne_true
  | _ => cases y <;> exact absurd (show false = true from hs) Bool.false_ne_true

theorem op_lt : OpR X (compareOp .Lt) (rI0 fun i j => .bl (decide (i < j))) := opB0 fun _ _ _ _ _ _ _ q => lt_int q
theorem op_le : OpR X (compareOp .LtE) (rI0 fun i j => .bl (decide (i ≤ j))) := opB0 fun _ _ _ _ _ _ _ q => le_int q
theorem op_gt : OpR X (compareOp .Gt) (rI0 fun i j => .bl (decide (j < i))) := opB0 fun _ _ _ _ _ _ _ q => gt_int q
theorem op_ge : OpR X (compareOp .GtE) (rI0 fun i j => .bl (decide (j ≤ i))) := opB0 fun _ _ _ _ _ _ _ q => ge_int q
theorem op_lt_str : OpR X (compareOp .Lt) (fun x y H Q => ∃ i j, x = .str i ∧ y = .str j ∧ Q (.bl (decide (i.cps.toList < j.cps.toList))) H) := by
  intro pins s σ H x y v u Q I rx ry h
  obtain ⟨i, j, rfl, rfl, q⟩ := h
  obtain ⟨t, rfl⟩ := rx
  obtain ⟨t', rfl⟩ := ry
  exact lt_str (fin_bl I q rfl)
/-- the one string within the other -/
theorem op_in_str : OpR X (compareOp .In) (fun x y H Q => ∃ i j, x = .str i ∧ y = .str j ∧ Q (.bl (!(Builtin.Str.occurrences j i 0 j.length 1).isEmpty)) H) := by
  intro pins s σ H x y v u Q I rx ry h
  obtain ⟨i, j, rfl, rfl, q⟩ := h
  obtain ⟨t, rfl⟩ := rx
  obtain ⟨t', rfl⟩ := ry
  exact in_str (fin_bl I q rfl)

/-- is None, is not None: the right side a value none -/
theorem op_isN : OpR X (compareOp .Is) (fun x y H Q => y = .non ∧ Q (.bl (decide (x = .non))) H) := by
  intro pins s σ H x y v u Q I rx ry h
  obtain ⟨rfl, q⟩ := h
  cases ry
  refine is_none_gen (fin_bl I q ?_)
  cases x <;> first
    | (cases rx; rfl)
    | (obtain ⟨t, rfl⟩ := rx; rfl)
theorem op_notN : OpR X (compareOp .IsNot) (fun x y H Q => y = .non ∧ Q (.bl (!decide (x = .non))) H) := by
  intro pins s σ H x y v u Q I rx ry h
  obtain ⟨rfl, q⟩ := h
  cases ry
  refine isnot_none_gen (fin_bl I q ?_)
  cases x <;> first
    | (cases rx; rfl)
    | (obtain ⟨t, rfl⟩ := rx; rfl)

theorem op_notin_str : OpR X (compareOp .NotIn) (fun x y H Q => ∃ i j, x = .str i ∧ y = .str j ∧ Q (.bl (!(!(Builtin.Str.occurrences j i 0 j.length 1).isEmpty))) H) := by
  intro pins s σ H x y v u Q I rx ry h
  obtain ⟨i, j, rfl, rfl, q⟩ := h
  obtain ⟨t, rfl⟩ := rx
  obtain ⟨t', rfl⟩ := ry
  exact notIn_str (fin_bl I q rfl)
/-- is, is not of two objects that are tracked lists or instances -/
def isObj : HO → Bool
  | .lst _ => true
  | .ins _ _ _ => true
  | _ => false
theorem obj_there {pins : List (Addr × Obj)} {s : Shared} {σ : St} {H : Hp} {a : Addr} {o : HO} (I : Inv X pins σ H s) (h : H a = some o) (p : isObj o = true) : ∃ ob, s.heap.get? a = some ob ∧ ob.cls ≠ .type "tuple" := by
  cases o with
  | lst xs =>
    obtain ⟨_, its, n, _, e⟩ : xs.length ≤ sizeLine ∧ ∃ (its : List Value) (n : Nat), Vals xs its ∧ s.heap.get? a = some { cls := .type "list", data := .seq its.toArray n } := I.hok a _ h
    exact ⟨_, e, (by show Value.type "list" ≠ .type "tuple"; decide +kernel)⟩
  | ins C dx fs =>
    have x := I.hok a _ h
    obtain ⟨_, _, _, e, _⟩ := x
    exact ⟨_, e, (by show Value.ref C ≠ .type "tuple"; exact fun z => by cases z)⟩
  | _ => exact absurd (show false = true from p) Bool.false_ne_true
theorem op_is_ref : OpR X (compareOp .Is) (fun x y H Q => ∃ a b oa ob, x = .ref a ∧ y = .ref b ∧ H a = some oa ∧ isObj oa = true ∧ H b = some ob ∧ isObj ob = true ∧ Q (.bl (decide (a = b))) H) := by
  intro pins s σ H x y v u Q I rx ry h
  obtain ⟨a, b, oa, ob, rfl, rfl, ha, pa, hb, pb, q⟩ := h
  cases rx
  cases ry
  obtain ⟨o1, e1, n1⟩ := obj_there I ha pa
  obtain ⟨o2, e2, _⟩ := obj_there I hb pb
  by_cases z : a = b
  · subst z
    exact wpAny_is_ref_self (fin_bl I q (by simp))
  · exact wpAny_is_ref_other z e1 e2 n1 (fin_bl I q (by simp [z]))
theorem op_isnot_ref : OpR X (compareOp .IsNot) (fun x y H Q => ∃ a b oa ob, x = .ref a ∧ y = .ref b ∧ H a = some oa ∧ isObj oa = true ∧ H b = some ob ∧ isObj ob = true ∧ Q (.bl (!decide (a = b))) H) := by
  intro pins s σ H x y v u Q I rx ry h
  obtain ⟨a, b, oa, ob, rfl, rfl, ha, pa, hb, pb, q⟩ := h
  cases rx
  cases ry
  obtain ⟨o1, e1, n1⟩ := obj_there I ha pa
  obtain ⟨o2, e2, _⟩ := obj_there I hb pb
  by_cases z : a = b
  · subst z
    exact wpAny_isNot_ref_self (fin_bl I q (by simp))
  · exact wpAny_isNot_ref_other z e1 e2 n1 (fin_bl I q (by simp [z]))

/-- two rules for one operation: by cases -/
theorem OpR.or {f : Value → Value → Sem Value} {r r' : R2} (h : OpR X f r) (h' : OpR X f r') : OpR X f (fun x y H Q => r x y H Q ∨ r' x y H Q) := by
  intro pins s σ H x y v u Q I rx ry q
  rcases q with q | q
  · exact h pins s σ H x y v u Q I rx ry q
  · exact h' pins s σ H x y v u Q I rx ry q

theorem nomark (b : Expr) {op : CmpOp} (h : op ≠ .In := by decide) (h2 : op ≠ .NotIn := by decide) : behindInMarks op b = false := by
  have e1 : (op == CmpOp.In) = false := by cases op <;> first | rfl | exact absurd rfl h
  have e2 : (op == CmpOp.NotIn) = false := by cases op <;> first | rfl | exact absurd rfl h2
  cases b <;> simp [behindInMarks, e1, e2]
/-- a comparison as a value; hm: nomark b, or (for in, not in) by with_unfolding_all rfl -/
theorem pe_cmpR {op : CmpOp} {r : R2} (ho : OpR X (compareOp op) r) (ha : PE X a ta) (hb : PE X b tb) (hm : behindInMarks op b = false) : PE X (.Compare a [op] [b] pos) (tOp r ta tb) := by
  intro pins s σ H Q I h
  exact wpAny_Compare1 (binT ha hb I h fun v u s2 x y H2 I2 rx ry q => ho pins s2 σ H2 x y v u Q I2 rx ry q) hm
/-- a reading of a value as a test -/
def tTest (t : TE) : TT := fun σ H Q => t σ H fun x H' => ∃ k, x = .bl k ∧ Q k H'
theorem pt_cmpR {op : CmpOp} {r : R2} (ho : OpR X (compareOp op) r) (ha : PE X a ta) (hb : PE X b tb) (hm : behindInMarks op b = false) : PT X (.Compare a [op] [b] pos) (tTest (tOp r ta tb)) := by
  intro pins s σ H Q I h
  refine wpAny_isTrue_Compare1 (thn (ha pins s σ H _ I h) fun v s1 ⟨x, H1, I1, r1, q1⟩ => thn (hb pins s1 σ H1 _ I1 q1) fun u s2 ⟨y, H2, I2, r2, q2⟩ =>
    thn (ho pins s2 σ H2 x y v u _ I2 r1 r2 q2) fun c s3 ⟨z, H3, I3, r3, k, e, q3⟩ => ?_) hm
  subst e
  cases r3
  exact wpAny_truthy_bool ⟨H3, I3, q3⟩
/-- a op1 b op2 c -/
def tChain (r r' : R2) (ta tb tc : TE) : TE := fun σ H Q => ta σ H fun x H1 => tb σ H1 fun y H2 => r x y H2 fun z H3 => ∃ k, z = .bl k ∧
  (if k = true then tc σ H3 fun w' H4 => r' y w' H4 Q else Q (.bl false) H3)
theorem pe_chain {op op' : CmpOp} {r r' : R2} (ho : OpR X (compareOp op) r) (ho' : OpR X (compareOp op') r') (ha : PE X a ta) (hb : PE X b tb) (hc : PE X c tc)
    (hm : lastMarks [op, op'] [b, c] = false := by with_unfolding_all rfl) : PE X (.Compare a [op, op'] [b, c] pos) (tChain r r' ta tb tc) := by
  intro pins s σ H Q I h
  refine Compare_chain (thn (ha pins s σ H _ I h) fun v s1 ⟨x, H1, I1, r1, q1⟩ => chain_link (thn (hb pins s1 σ H1 _ I1 q1) fun u s2 ⟨y, H2, I2, r2, q2⟩ =>
    thn (ho pins s2 σ H2 x y v u _ I2 r1 r2 q2) fun d s3 ⟨z, H3, I3, r3, k, e, q3⟩ => ?_)) hm
  subst e
  cases r3
  refine wpAny_truthy_bool ?_
  cases k with
  | false => exact ite_ff ⟨.bl false, H3, I3, rfl, q3⟩
  | true => exact ite_tt (chain_last (thn (hc pins s3 σ H3 _ I3 q3) fun w' s4 ⟨z', H4, I4, r4, q4⟩ => ho' pins s4 σ H4 y z' u w' Q I4 r2 r4 q4))
theorem pt_chain {op op' : CmpOp} {r r' : R2} (ho : OpR X (compareOp op) r) (ho' : OpR X (compareOp op') r') (ha : PE X a ta) (hb : PE X b tb) (hc : PE X c tc)
    (hm : lastMarks [op, op'] [b, c] = false := by with_unfolding_all rfl) : PT X (.Compare a [op, op'] [b, c] pos) (tTest (tChain r r' ta tb tc)) := by
  intro pins s σ H Q I h
  refine isTrue_chain (thn (ha pins s σ H _ I h) fun v s1 ⟨x, H1, I1, r1, q1⟩ => test_link (thn (hb pins s1 σ H1 _ I1 q1) fun u s2 ⟨y, H2, I2, r2, q2⟩ =>
    thn (ho pins s2 σ H2 x y v u _ I2 r1 r2 q2) fun d s3 ⟨z, H3, I3, r3, k, e, q3⟩ => ?_)) hm
  subst e
  cases r3
  refine wpAny_truthy_bool ?_
  cases k with
  | false =>
    obtain ⟨k', e', q'⟩ := q3
    cases e'
    exact ite_ff ⟨H3, I3, q'⟩
  | true =>
    refine ite_tt (test_last (thn (hc pins s3 σ H3 _ I3 q3) fun w' s4 ⟨z', H4, I4, r4, q4⟩ => thn (ho' pins s4 σ H4 y z' u w' _ I4 r2 r4 q4) fun d' s5 ⟨z2, H5, I5, r5, k2, e2, q5⟩ => ?_))
    subst e2
    cases r5
    exact wpAny_truthy_bool ⟨H5, I5, q5⟩

/-! ### truth -/
/-- a value's truth by the abstract heap -/
def TruV (K : PySem.W.Frag) (x : V) (H : Hp) (k : Bool) : Prop :=
  match x with
  | .non => k = false
  | .bl b => k = b
  | .int i => k = (i != 0)
  | .str y => y.length ≤ sizeLine ∧ k = ((y.length : Int) != 0)
  | .byt y => y.size ≤ sizeLine ∧ k = ((y.size : Int) != 0)
  | .ref p => (∃ xs, SqL K H p xs ∧ k = !xs.isEmpty) ∨ (∃ xs, SqT K H p xs ∧ k = !xs.isEmpty) ∨ ∃ kvs, H p = some (.dK kvs) ∧ k = !kvs.isEmpty
  | _ => False
theorem isEmpty_kv {κ : Type} {kvs : List (κ × V)} {vs : List (κ × Value)} (r : KV kvs vs) : (!vs.isEmpty) = !kvs.isEmpty := by
  cases r <;> rfl
theorem isEmpty_of {xs : List V} {its : List Value} (r : Vals xs its) : (!its.toArray.isEmpty) = !xs.isEmpty := by
  cases r <;> simp
theorem line63 : (sizeLine : Nat) < 2 ^ 63 := by rw [sizeLine_eq]; decide
theorem tru_ok : TruR X (fun x H Q => ∃ k, TruV X.K x H k ∧ Q k H) := by
  intro pins s σ H x v Q I rx h
  obtain ⟨k, e, q⟩ := h
  have hl := line63
  have hs : sizeLine = 16777216 := sizeLine_eq
  cases x with
  | non =>
    cases rx
    have e' : k = false := e
    subst e'
    exact truthy_none ⟨H, I, q⟩
  | bl b =>
    cases rx
    have e' : k = b := e
    subst e'
    exact wpAny_truthy_bool ⟨H, I, q⟩
  | int i =>
    obtain ⟨t, rfl⟩ := rx
    have e' : k = (i != 0) := e
    subst e'
    exact PySem.P.truthy_int ⟨H, I, q⟩
  | str y =>
    obtain ⟨t, rfl⟩ := rx
    obtain ⟨hy, e'⟩ : y.length ≤ sizeLine ∧ k = ((y.length : Int) != 0) := e
    subst e'
    exact PySem.P.truthy_str (by omega) ⟨H, I.tok _, q⟩
  | byt y =>
    obtain ⟨t, rfl⟩ := rx
    obtain ⟨hy, e'⟩ : y.size ≤ sizeLine ∧ k = ((y.size : Int) != 0) := e
    subst e'
    exact PySem.W.truthy_bytes (by omega) ⟨H, I.tok _, q⟩
  | ref p =>
    cases rx
    have e' : (∃ xs, SqL X.K H p xs ∧ k = !xs.isEmpty) ∨ (∃ xs, SqT X.K H p xs ∧ k = !xs.isEmpty) ∨ ∃ kvs, H p = some (.dK kvs) ∧ k = !kvs.isEmpty := e
    rcases e' with ⟨xs, hx, e'⟩ | ⟨xs, hx, e'⟩ | ⟨kvs, hx, e'⟩
    · subst e'
      obtain ⟨its, r, pl, hz⟩ := I.list hx
      have hlen := r.length
      exact wpAny_truthy_list pl.isList (by simp only [List.size_toArray]; omega) ⟨H, I.tok _, by rw [isEmpty_of r]; exact q⟩
    · subst e'
      obtain ⟨its, r, pl, hz⟩ := I.tuple hx
      have hlen := r.length
      exact truthy_tuple pl (by simp only [List.size_toArray]; omega) ⟨H, I.tok _, by rw [isEmpty_of r]; exact q⟩
    · subst e'
      obtain ⟨hz, hS, vs, r, m⟩ : kvs.length ≤ sizeLine ∧ (p == sysModules) = false ∧ ∃ vs, KV kvs vs ∧ s.heap.DictOf (mixKind X.prog X.w) p vs := I.hok p _ hx
      have hlen : kvs.length = vs.length := Paired.length r
      exact wpAny_truthy_dict hS m (by omega) ⟨H, I.tok _, by rw [isEmpty_kv r]; exact q⟩
  | _ => exact (show False from e).elim
/-- any expression whose test is its value's truth (a name, a call, a subscript, a field ..: he by fun _ => rfl) -/
theorem pt_truth (ha : PE X a ta) (he : ∀ whole, isTrue a X.env whole = (do let v ← whole; standAt a.pos; holding [v] (truthy v))) :
    PT X a (fun σ H Q => ta σ H fun x H' => ∃ k, TruV X.K x H' k ∧ Q k H') := by
  intro pins s σ H Q I h
  exact isTrue_plain (thn (ha pins s σ H _ I h) fun v s1 ⟨x, H1, I1, r1, q1⟩ => tru_ok pins s1 σ H1 x v Q I1 r1 q1) (he _)

/-! ### strs and bytes -/
theorem pe_byt {x : List UInt8} {k : Nat} : PE X (.Constant (.bytes x) k pos) (fun _ H Q => Q (.byt x.toArray) H) := fun _ _ _ H _ I h => PySem.W.Constant_bytes ⟨.byt x.toArray, H, I.tok _, ⟨_, rfl⟩, h⟩
theorem op_add_str : OpR X (binaryOp .Add) (fun x y H Q => ∃ i j, x = .str i ∧ y = .str j ∧ i.length + j.length ≤ sizeLine ∧ Q (.str (i ++ j)) H) := by
  intro pins s σ H x y v u Q I rx ry h
  obtain ⟨i, j, rfl, rfl, hz, q⟩ := h
  obtain ⟨t, rfl⟩ := rx
  obtain ⟨t', rfl⟩ := ry
  exact add_str (fun t' tk => ⟨.str (i ++ j), H, I.tok _, ⟨_, rfl⟩, q⟩) hz
theorem iop_add_str : OpR X (inplaceOp .Add) (fun x y H Q => ∃ i j, x = .str i ∧ y = .str j ∧ i.length + j.length ≤ sizeLine ∧ Q (.str (i ++ j)) H) := by
  intro pins s σ H x y v u Q I rx ry h
  obtain ⟨i, j, rfl, rfl, hz, q⟩ := h
  obtain ⟨t, rfl⟩ := rx
  obtain ⟨t', rfl⟩ := ry
  exact iadd_str (fun t' tk => ⟨.str (i ++ j), H, I.tok _, ⟨_, rfl⟩, q⟩) hz
theorem op_add_byt : OpR X (binaryOp .Add) (fun x y H Q => ∃ i j, x = .byt i ∧ y = .byt j ∧ i.size + j.size ≤ 16777216 ∧ Q (.byt (i ++ j)) H) := by
  intro pins s σ H x y v u Q I rx ry h
  obtain ⟨i, j, rfl, rfl, hz, q⟩ := h
  obtain ⟨t, rfl⟩ := rx
  obtain ⟨t', rfl⟩ := ry
  exact PySem.W.KBy.add_bytes hz (fun t' tk => ⟨.byt (i ++ j), H, I.tok _, ⟨_, rfl⟩, q⟩)

def PlainIxT (b : Expr) : Prop := ∀ o i, subscripted b false o i = operate [o, i] (getItem o i)
/-- s[i], 0 ≤ i < len -/
theorem pe_item_str (ha : PE X a ta) (hb : PE X b tb) (hs : PlainIxT b) :
    PE X (.Subscript a b pos) (tOp (fun x y H Q => ∃ z i c, x = .str z ∧ y = .int i ∧ 0 ≤ i ∧ i < 2 ^ 63 ∧ i < z.length ∧ z.cps[i.toNat]? = some c ∧ Q (.str ⟨#[c]⟩) H) ta tb) := by
  intro pins s σ H Q I h
  refine Subscript_ (binT ha hb I h fun v u s2 x y H2 I2 rx ry q => ?_)
  obtain ⟨z, i, c, rfl, rfl, h0, h63, h1, hc, q⟩ := q
  obtain ⟨t, rfl⟩ := rx
  obtain ⟨t', rfl⟩ := ry
  have e : seqIndex? i z.length = some i.toNat := PySem.StrLaws.seqIndex_nonneg h0 h1
  exact tail_any (typeIs_str s2 z t) slot_str_getitem.lookup (getItem_str (c := c) (by
    have e1 : decide (i < -(2 ^ 63 : Int)) = false := decide_eq_false (by omega)
    have e2 : decide (i ≥ 2 ^ 63) = false := decide_eq_false (by omega)
    rw [e1, e2] <;> rfl) (by rw [e]; exact hc) ⟨.str ⟨#[c]⟩, H2, I2.tok _, ⟨_, rfl⟩, q⟩) (hs _ _)
/-- b[i], 0 ≤ i < len -/
theorem pe_item_byt (ha : PE X a ta) (hb : PE X b tb) (hs : PlainIxT b) :
    PE X (.Subscript a b pos) (tOp (fun x y H Q => ∃ (z : List UInt8) (i : Int), x = .byt z.toArray ∧ y = .int i ∧ z.length ≤ sizeLine ∧ 0 ≤ i ∧ i < z.length ∧ Q (.int ((z.getD i.toNat 0).toNat : Nat)) H) ta tb) := by
  intro pins s σ H Q I h
  refine Subscript_ (binT ha hb I h fun v u s2 x y H2 I2 rx ry q => ?_)
  obtain ⟨z, i, rfl, rfl, hz, h0, h1, q⟩ := q
  obtain ⟨t, rfl⟩ := rx
  obtain ⟨t', rfl⟩ := ry
  have hl : sizeLine = 16777216 := sizeLine_eq
  exact tail_any (PySem.W.typeIs_bytes s2 z.toArray t) PySem.W.FB.slot_bytes_getitem.lookup (PySem.W.getItem_bytes (by omega) h0 h1 ⟨.int ((z.getD i.toNat 0).toNat : Nat), H2, I2.tok _, ⟨_, rfl⟩, q⟩) (hs _ _)

/-! ### scalar builtins, by CallR -/
theorem vals1 {x : V} {us : List Value} (r : Vals [x] us) : ∃ u, us = [u] ∧ RelV x u := by
  cases r with
  | cons r1 r2 => cases r2; exact ⟨_, rfl, r1⟩
theorem vals2 {x y : V} {us : List Value} (r : Vals [x, y] us) : ∃ u w', us = [u, w'] ∧ RelV x u ∧ RelV y w' := by
  cases r with
  | cons r1 r2 =>
    cases r2 with
    | cons r3 r4 => cases r4; exact ⟨_, _, rfl, r1, r3⟩
theorem call_abs : CallR X (.builtin "abs") (fun xs H Q => ∃ i, xs = [.int i] ∧ Q (.int (if i < 0 then -i else i)) H) := by
  intro pins s σ H xs us Q I r h
  obtain ⟨i, rfl, q⟩ := h
  obtain ⟨u, rfl, t, rfl⟩ := vals1 r
  exact call_abs_int fun u tk => ⟨.int (if i < 0 then -i else i), H, I.tok _, ⟨_, rfl⟩, q⟩
theorem call_max2 (hc : X.calm = true) : CallR X (.builtin "max") (fun xs H Q => ∃ i j, xs = [.int i, .int j] ∧ Q (.int (if j > i then j else i)) H) := by
  intro pins s σ H xs us Q I r h
  obtain ⟨i, j, rfl, q⟩ := h
  obtain ⟨u, w', rfl, ⟨t, rfl⟩, ⟨t', rfl⟩⟩ := vals2 r
  refine max_two_ints (I.ok.hd hc) fun h' tk k => ⟨_, H, I.kept k, ?_, q⟩
  by_cases hj : j > i
  · rw [if_pos hj, if_pos hj]; exact ⟨_, rfl⟩
  · rw [if_neg hj, if_neg hj]; exact ⟨_, rfl⟩
theorem call_min2 (hc : X.calm = true) : CallR X (.builtin "min") (fun xs H Q => ∃ i j, xs = [.int i, .int j] ∧ Q (.int (if j < i then j else i)) H) := by
  intro pins s σ H xs us Q I r h
  obtain ⟨i, j, rfl, q⟩ := h
  obtain ⟨u, w', rfl, ⟨t, rfl⟩, ⟨t', rfl⟩⟩ := vals2 r
  refine min_two_ints (I.ok.hd hc) fun h' tk k => ⟨_, H, I.kept k, ?_, q⟩
  by_cases hj : j < i
  · rw [if_pos hj, if_pos hj]; exact ⟨_, rfl⟩
  · rw [if_neg hj, if_neg hj]; exact ⟨_, rfl⟩
theorem call_int1 : CallR X (.type "int") (fun xs H Q => (∃ i, xs = [.int i] ∧ Q (.int i) H) ∨ ∃ k, xs = [.bl k] ∧ Q (.int (if k then 1 else 0)) H) := by
  intro pins s σ H xs us Q I r h
  rcases h with ⟨i, rfl, q⟩ | ⟨k, rfl, q⟩
  · obtain ⟨u, rfl, t, rfl⟩ := vals1 r
    exact call_int_int ⟨.int i, H, I, ⟨_, rfl⟩, q⟩
  · obtain ⟨u, rfl, r1⟩ := vals1 r
    cases r1
    exact call_int_bool ⟨.int (if k then 1 else 0), H, I.tok _, ⟨_, rfl⟩, q⟩
theorem call_bool1 : CallR X (.type "bool") (fun xs H Q => (∃ i, xs = [.int i] ∧ Q (.bl (i != 0)) H) ∨ ∃ k, xs = [.bl k] ∧ Q (.bl k) H) := by
  intro pins s σ H xs us Q I r h
  rcases h with ⟨i, rfl, q⟩ | ⟨k, rfl, q⟩
  · obtain ⟨u, rfl, t, rfl⟩ := vals1 r
    exact call_bool_int ⟨.bl (i != 0), H, I, rfl, q⟩
  · obtain ⟨u, rfl, r1⟩ := vals1 r
    cases r1
    exact call_bool_bool ⟨.bl k, H, I, rfl, q⟩
theorem call_str_int : CallR X (.type "str") (fun xs H Q => ∃ i, xs = [.int i] ∧ i.natAbs.log2 < 1920 ∧ Q (.str (toString i)) H) := by
  intro pins s σ H xs us Q I r h
  obtain ⟨i, rfl, hz, q⟩ := h
  obtain ⟨u, rfl, t, rfl⟩ := vals1 r
  exact PySem.P.str_of_int hz ⟨.str _, H, I.tok _, ⟨_, rfl⟩, q⟩
theorem call_ord : CallR X (.builtin "ord") (fun xs H Q => ∃ x, xs = [.str x] ∧ x.length = 1 ∧ Q (.int (x.cps.getD 0 0 : Nat)) H) := by
  intro pins s σ H xs us Q I r h
  obtain ⟨x, rfl, hz, q⟩ := h
  obtain ⟨u, rfl, t, rfl⟩ := vals1 r
  exact ord_of_one hz ⟨.int _, H, I.tok _, ⟨_, rfl⟩, q⟩
theorem call_chr : CallR X (.builtin "chr") (fun xs H Q => ∃ i, xs = [.int i] ∧ 0 ≤ i ∧ i ≤ 1114111 ∧ Q (.str ⟨#[i.toNat]⟩) H) := by
  intro pins s σ H xs us Q I r h
  obtain ⟨i, rfl, h0, h1, q⟩ := h
  obtain ⟨u, rfl, t, rfl⟩ := vals1 r
  exact chr_of_range h0 h1 ⟨.str _, H, I.tok _, ⟨_, rfl⟩, q⟩
/-- len of a str, a bytes, a list, a tuple -/
def LenV (K : PySem.W.Frag) (x : V) (H : Hp) (n : Nat) : Prop :=
  match x with
  | .str y => y.length ≤ sizeLine ∧ n = y.length
  | .byt y => y.size ≤ sizeLine ∧ n = y.size
  | .ref p => (∃ xs, SqL K H p xs ∧ n = xs.length) ∨ ∃ xs, SqT K H p xs ∧ n = xs.length
  | _ => False
theorem call_len : CallR X (.builtin "len") (fun xs H Q => ∃ x n, xs = [x] ∧ LenV X.K x H n ∧ Q (.int n) H) := by
  intro pins s σ H xs us Q I r h
  obtain ⟨x, n, rfl, e, q⟩ := h
  obtain ⟨u, rfl, rx⟩ := vals1 r
  have hl := line63
  have hs : sizeLine = 16777216 := sizeLine_eq
  cases x with
  | str y =>
    obtain ⟨t, rfl⟩ := rx
    obtain ⟨hy, e'⟩ : y.length ≤ sizeLine ∧ n = y.length := e
    subst e'
    exact len_str (by omega) ⟨.int _, H, I.tok _, ⟨_, rfl⟩, q⟩
  | byt y =>
    obtain ⟨t, rfl⟩ := rx
    obtain ⟨hy, e'⟩ : y.size ≤ sizeLine ∧ n = y.size := e
    subst e'
    exact PySem.W.len_bytes (by omega) ⟨.int _, H, I.tok _, ⟨_, rfl⟩, q⟩
  | ref p =>
    cases rx
    have e' : (∃ xs, SqL X.K H p xs ∧ n = xs.length) ∨ ∃ xs, SqT X.K H p xs ∧ n = xs.length := e
    rcases e' with ⟨xs, hx, e'⟩ | ⟨xs, hx, e'⟩
    · subst e'
      obtain ⟨its, r', pl, hz⟩ := I.list hx
      have hlen := r'.length
      exact Calls.call_len_list pl.isList (by simp only [List.size_toArray]; omega) ⟨.int xs.length, H, I.tok _, ⟨_, by simp only [List.size_toArray]; rw [hlen]⟩, q⟩
    · subst e'
      obtain ⟨its, r', pl, hz⟩ := I.tuple hx
      have hlen := r'.length
      exact len_tuple pl (by simp only [List.size_toArray]; omega) ⟨.int xs.length, H, I.tok _, ⟨_, by simp only [List.size_toArray]; rw [hlen]⟩, q⟩
  | _ => exact (show False from e).elim
/-- divmod: a new tuple -/
theorem call_divmod : CallR X (.builtin "divmod") (fun xs H Q => ∃ i j, xs = [.int i, .int j] ∧ CDiv i j ∧ ∀ p, H p = none → Q (.ref p) (upd H p (.tup [.int (i / j), .int (i % j)]))) := by
  intro pins s σ H xs us Q I r h
  obtain ⟨i, j, rfl, ⟨h1, h2⟩, q⟩ := h
  obtain ⟨u, w', rfl, ⟨t, rfl⟩, ⟨t', rfl⟩⟩ := vals2 r
  refine divmod_int (by omega) ?_ (.inl (PyProof.noPylong_small (by omega)))
  rw [Int.fdiv_eq_ediv_of_nonneg i (by omega), Int.fmod_eq_emod_of_nonneg i (by omega)]
  have hn : H s.heap.objs.size = none := I.hok.fresh (Nat.le_refl _)
  refine ⟨.ref s.heap.objs.size, _, ?_, rfl, q _ hn⟩
  refine I.laid (fun b o e => Heap.get?_push_of_some _ e) (Nat.le_refl _) ⟨by simp only [List.length_cons, List.length_nil]; rw [sizeLine_eq]; decide, [.int (i / j) s.toks, .int (i % j) (s.toks + 1)], .cons ⟨_, rfl⟩ (.cons ⟨_, rfl⟩ .nil), ?_⟩
  exact ⟨_, Heap.get?_push_size s.heap rfl, rfl, 0, rfl⟩
end
end L2

namespace L2
open PySem PySem.Spec PyProof.Rows

/-! ### an instance, its attributes a map -/
structure ObjM (h : Heap) (x dx C : Addr) (mA : Str → Option Value) : Prop where
  obj : h.get? x = some (PySem.W.instObj C dx)
  ns : h.Ns1 dx mA
  ne : dx ≠ x

theorem lookIn_ns {h : Heap} {dx : Addr} {mA : Str → Option Value} (n : h.Ns1 dx mA) : ∃ od, h.get? dx = some od ∧ ∀ name, PySem.W.lookIn name od = some (mA name) := by
  obtain ⟨o, es, ep, ho, hd, hk, _, hm⟩ := n
  refine ⟨o, ho, fun name => ?_⟩
  have e := hm name
  unfold nsFind findBy at e
  rw [← Array.find?_toList] at e
  unfold PySem.W.lookIn
  rw [hd]
  dsimp only
  split
  · rename_i y q
    rw [q] at e
    exact congrArg some e
  · rename_i q
    rw [q] at e
    have a : es.toList.any (·.refKey) = false := by
      rw [List.any_eq_false]
      intro y hy
      obtain ⟨z, t, hkey⟩ := hk y (Array.mem_toList_iff.mp hy)
      simp [DictEntry.refKey, hkey]
    have a' : ¬ es.toList.any (·.refKey) = true := by rw [a]; exact Bool.false_ne_true
    rw [if_neg a']
    exact congrArg some e

theorem ObjM.look {h : Heap} {x dx C : Addr} {mA : Str → Option Value} (I : ObjM h x dx C mA) : ∃ od, PySem.W.InstAt h x (PySem.W.instObj C dx) C (some od) ∧ ∀ name, PySem.W.lookIn name od = some (mA name) :=
  let ⟨od, ho, hl⟩ := lookIn_ns I.ns
  ⟨od, ⟨I.obj, rfl, rfl, ho⟩, hl⟩

section
variable {prog : Program} {w : World} {A : Around} {E : Value → Shared → Prop} {s : Shared} {K : PySem.W.Frag} {x dx C f : Addr} {mA : Str → Option Value} {name : Str} {v : Value}

theorem get_map {expr : Bool} {Q : Value → Shared → Prop} (X : K.In s.heap) (I : ObjM s.heap x dx C mA) (hg : PySem.W.plainGet K C name = true) (hh : PySem.W.hasDictIn K C = true)
    (ha : PySem.W.findIn K (.ref C) name = some none) (hv : mA name = some v) (hv' : PySem.W.handedIn v = true) (h : Q v { s with toks := s.toks + 1 }) :
    wpAny (model prog w) A (getAttr (.ref x) name expr) Q E s := by
  obtain ⟨od, J, hl⟩ := I.look
  exact PySem.W.get_value X J (PySem.W.plainGet_of hg).1 (PySem.W.findObj_own hh ha rfl (by rw [hl, hv])) hv' h

theorem get_const {expr : Bool} {a : Value} {Q : Value → Shared → Prop} (X : K.In s.heap) (I : ObjM s.heap x dx C mA) (hg : PySem.W.plainGet K C name = true) (hh : PySem.W.hasDictIn K C = true)
    (ha : PySem.W.findIn K (.ref C) name = some (some a)) (hn : PySem.W.specialIn K a "__get__" = some none) (hc : PySem.W.copiedNames.contains name = false) (hv : mA name = none) (hv' : PySem.W.handedIn a = true)
    (h : Q a { s with toks := s.toks + 1 }) : wpAny (model prog w) A (getAttr (.ref x) name expr) Q E s := by
  obtain ⟨od, J, hl⟩ := I.look
  exact PySem.W.get_value X J (PySem.W.plainGet_of hg).1 (PySem.W.findObj_cls hh ha hn hv' hc (by rw [hl, hv])) hv' h

theorem get_meth {pl : Sem Bool} {Q : Value × List Value → Shared → Prop} (X : K.In s.heap) (I : ObjM s.heap x dx C mA) (hg : PySem.W.plainGet K C name = true)
    (hf : PySem.W.findIn K (.ref C) name = some (some (.ref f))) (ht : PySem.W.isFn K (.ref f) = true) (hv : mA name = none) (h : Q (.ref f, [.ref x]) s) :
    wpAny (model prog w) A (getMethod (.ref x) name pl) Q E s := by
  obtain ⟨od, J, hl⟩ := I.look
  exact PySem.W.method_fn X J (PySem.W.plainGet_of hg).1 (PySem.W.plainGet_of hg).2 hf (beq_iff_eq.mp ht) (by show (PySem.W.lookIn name od).map (·.isSome) = some false; rw [hl, hv]; rfl) h

theorem set_map {ns : List Str} {Q : Unit → Shared → Prop} (X : K.In s.heap) (I : ObjM s.heap x dx C mA)
    (hs : PySem.W.findIn K (.ref C) "__setattr__" = some (some (.builtin "object.__setattr__"))) (hp : PySem.W.plainOver K C = true) (ht : PySem.W.takerIn K C name = some none) (hh : PySem.W.hasDictIn K C = true)
    (hw : PySem.Within mA ns) (hsz : ns.length ≤ sizeLine)
    (h : ∀ h', ObjM h' x dx C (fun y => if y = name then some v else mA y) → Heap.SameBut dx s.heap h' → Q () { s with heap := h', toks := s.toks + 2 }) :
    wpAny (model prog w) A (setAttr (.ref x) name v) Q E s := by
  obtain ⟨od, J, hl⟩ := I.look
  refine PySem.W.set_plain X J hs (PySem.W.osa_open (s := { s with toks := s.toks + 1 }) (r := none) X J hp ht fun b => ?_)
  obtain ⟨cd, hc, hd'⟩ := PySem.W.any_some hh
  have hx : s.heap.get? x = some ⟨.ref C, some dx, .plain, #[]⟩ := I.obj
  refine wpAny_bind (wpAny_pure (wpAny_bind (wpAny_bind (wpAny_loadPart hx (wpAny_bind (PySem.W.Looks.here (s := { s with toks := s.toks + 1 }) (PySem.W.looks_clsIn X hc) ?_))))))
  rw [hd']
  refine wpAny_pure (a := some dx) (wpAny_bind (wpAny_pure (wpAny_bind ?_)))
  refine wpAny_nsSet1 (s := { s with toks := s.toks + 1 }) I.ns fun h' hn2 hs2 => ?_
  obtain ⟨oD, esD, epD, hoD, hdD, hcD⟩ := hn2.count (PySem.Within.cons name v hw)
  refine wpAny_bind (wpAny_lookBehind hoD (by rw [hdD]; exact pastItsLine_dict (Nat.le_trans hcD (by rw [List.length_cons]; omega))) ?_)
  exact wpAny_pure (h _ ⟨(hs2.2 _ (Ne.symm I.ne)).trans I.obj, hn2, I.ne⟩ hs2)

/-- C(..): the dict at the heap's end, the instance behind it; then its __init__ -/
theorem make_map {R : Result → Shared → Prop} {vs : List Value} {kw : List (Str × Value)} (X : K.In s.heap) (hm : PySem.W.makesIn K C = true)
    (hi : PySem.W.findIn K (.ref C) "__init__" = some (some (.ref f))) (hf : PySem.W.typeIn K (.ref f) = some (.type "function"))
    (h : codeAny (model prog w) (A.under (.builtin "type.__call__" ⟨.ref C :: vs, kw⟩)) (.call (.ref f) ⟨.ref (s.heap.objs.size + 1) :: vs, kw⟩) (PySem.W.InitBack (s.heap.objs.size + 1) R)
      { s with heap := (s.heap.push PySem.W.emptyDict).push (PySem.W.instObj C s.heap.objs.size) }) :
    codeAny (model prog w) A (.call (.ref C) ⟨vs, kw⟩) R s := by
  obtain ⟨hh, g, d, t, os⟩ := s
  exact PySem.W.make_core (PySem.W.makes_of X hm) (PySem.W.looks_findIn X hi) (fun self => PySem.W.bind_fn X self hf) (.inl rfl) h
/-- C() where there is no __init__ but object's -/
theorem make_map0 {R : Result → Shared → Prop} (X : K.In s.heap) (hm : PySem.W.makesIn K C = true)
    (hi : PySem.W.findIn K (.ref C) "__init__" = some (some (.builtin "object.__init__")))
    (hb : ∀ self, PySem.W.Looks (model prog w) s.heap (bindSpecial (.builtin "object.__init__") self) (.builtin "object.__init__", [self]))
    (h : codeAny (model prog w) (A.under (.builtin "type.__call__" ⟨[.ref C], []⟩)) (.call (.builtin "object.__init__") ⟨[.ref (s.heap.objs.size + 1)], []⟩) (PySem.W.InitBack (s.heap.objs.size + 1) R)
      { s with heap := (s.heap.push PySem.W.emptyDict).push (PySem.W.instObj C s.heap.objs.size) }) :
    codeAny (model prog w) A (.call (.ref C) ⟨[], []⟩) R s := by
  obtain ⟨hh, g, d, t, os⟩ := s
  exact PySem.W.make_core (PySem.W.makes_of X hm) (PySem.W.looks_findIn X hi) hb (.inr ⟨rfl, rfl⟩) h
end

/-! ### the attributes as a list of pairs -/
def putF (f : Str) (v : V) : List (Str × V) → List (Str × V)
  | [] => [(f, v)]
  | (g, x) :: r => if g = f then (g, v) :: r else (g, x) :: putF f v r
theorem lookup_putF (f g : Str) (v : V) : ∀ fs : List (Str × V), (putF f v fs).lookup g = if g = f then some v else fs.lookup g
  | [] => by
    show List.lookup g [(f, v)] = _
    by_cases h : g = f
    · have hb : (g == f) = true := beq_iff_eq.mpr h
      simp only [List.lookup, hb, if_pos h]
    · have hb : (g == f) = false := beq_eq_false_iff_ne.mpr h
      simp only [List.lookup, hb, if_neg h]
  | (k, x) :: r => by
    have ih := lookup_putF f g v r
    rw [show putF f v ((k, x) :: r) = (if k = f then (k, v) :: r else (k, x) :: putF f v r) from rfl]
    by_cases hk : k = f
    · rw [if_pos hk]
      by_cases h : g = k
      · have hb : (g == k) = true := beq_iff_eq.mpr h
        simp only [List.lookup, hb, if_pos (h.trans hk)]
      · have hb : (g == k) = false := beq_eq_false_iff_ne.mpr h
        simp only [List.lookup, hb, if_neg (fun e : g = f => h (e.trans hk.symm))]
    · rw [if_neg hk]
      by_cases h : g = k
      · have hb : (g == k) = true := beq_iff_eq.mpr h
        simp only [List.lookup, hb, if_neg (fun e : g = f => hk (h.symm.trans e))]
      · have hb : (g == k) = false := beq_eq_false_iff_ne.mpr h
        simp only [List.lookup, hb]
        exact ih
theorem keys_putF (f : Str) (v : V) : ∀ fs : List (Str × V), f ∈ (putF f v fs).map (·.1) ∧ ∀ g, g ∈ fs.map (·.1) → g ∈ (putF f v fs).map (·.1)
  | [] => ⟨by simp [putF], fun g h => by simp at h⟩
  | (k, x) :: r => by
    obtain ⟨i1, i2⟩ := keys_putF f v r
    rw [show putF f v ((k, x) :: r) = (if k = f then (k, v) :: r else (k, x) :: putF f v r) from rfl]
    by_cases hk : k = f
    · rw [if_pos hk]
      subst hk
      exact ⟨by simp, fun g h => by simpa using h⟩
    · rw [if_neg hk]
      refine ⟨?_, fun g h => ?_⟩
      · rw [List.map_cons]
        exact List.mem_cons_of_mem _ i1
      · rw [List.map_cons] at h ⊢
        rcases List.mem_cons.mp h with e | e
        · exact List.mem_cons.mpr (.inl e)
        · exact List.mem_cons_of_mem _ (i2 g e)
theorem length_putF (f : Str) (v : V) : ∀ fs : List (Str × V), (putF f v fs).length ≤ fs.length + 1
  | [] => by simp [putF]
  | (k, x) :: r => by
    have ih := length_putF f v r
    rw [show putF f v ((k, x) :: r) = (if k = f then (k, v) :: r else (k, x) :: putF f v r) from rfl]
    by_cases hk : k = f
    · rw [if_pos hk, List.length_cons, List.length_cons]; omega
    · rw [if_neg hk, List.length_cons, List.length_cons]; omega

theorem RelO.some_of {v : V} {o : Option Value} (r : RelO (some v) o) : ∃ u, o = some u ∧ RelV v u := by
  cases o with
  | none => exact (show False from r).elim
  | some u => exact ⟨u, rfl, r⟩
theorem RelO.none_of {o : Option Value} (r : RelO none o) : o = none := by
  cases o with
  | none => rfl
  | some u => exact (show False from r).elim
theorem handed_of {v : V} {u : Value} (r : RelV v u) : PySem.W.handedIn u = true := by
  cases v with
  | non => cases (show u = Value.none from r); rfl
  | bl b => cases (show u = Value.bool b from r); rfl
  | int i => obtain ⟨t, e⟩ := (show ∃ t, u = Value.int i t from r); cases e; rfl
  | str x => obtain ⟨t, e⟩ := (show ∃ t, u = Value.str x t from r); cases e; rfl
  | byt b => obtain ⟨t, e⟩ := (show ∃ t, u = Value.bytes b t from r); cases e; rfl
  | flt b => obtain ⟨t, e⟩ := (show ∃ t, u = Value.float b t from r); cases e; rfl
  | ref a => cases (show u = Value.ref a from r); rfl
  | ty n => cases (show u = Value.type n from r); rfl

section
variable {P : Program} {w : World} {H H' : Hp} {h h' : Heap} {a C dx : Addr} {fs fs' : List (Str × V)}
theorem ins_get (hok : HOk P w H h) (e : H a = some (.ins C dx fs)) : ∃ mA, ObjM h a dx C mA ∧ (∀ f, RelO (fs.lookup f) (mA f)) ∧ PySem.Within mA (fs.map (·.1)) ∧ fs.length ≤ 1000 ∧ H dx = some (.own a) := by
  obtain ⟨d, z, ne, ob, mA, n, r, q⟩ := (show ObjOk P w H h a (.ins C dx fs) from hok a _ e)
  exact ⟨mA, ⟨ob, n, ne⟩, r, q, z, d⟩
end

/-! ### what of the text a class must have -/
structure Cls (K : PySem.W.Frag) (C : Addr) : Prop where
  pg : PySem.W.plainGet K C Str.empty = true
  hd : PySem.W.hasDictIn K C = true
  po : PySem.W.plainOver K C = true
  sa : PySem.W.findIn K (.ref C) "__setattr__" = some (some (.builtin "object.__setattr__"))
theorem Cls.get {K : PySem.W.Frag} {C : Addr} (c : Cls K C) (f : Str) : PySem.W.plainGet K C f = true := c.pg
/-- no class of it has the name -/
def NoAttr (K : PySem.W.Frag) (C : Addr) (f : Str) : Prop := PySem.W.findIn K (.ref C) f = some none
theorem NoAttr.taker {K : PySem.W.Frag} {C : Addr} {f : Str} (n : NoAttr K C f) : PySem.W.takerIn K C f = some none := by
  unfold PySem.W.takerIn
  rw [show PySem.W.findIn K (.ref C) f = some none from n]
  rfl
/-- a constant of the class -/
structure Con (K : PySem.W.Frag) (C : Addr) (f : Str) (v : V) (u : Value) : Prop where
  at_ : PySem.W.findIn K (.ref C) f = some (some u)
  rel : RelV v u
  get : PySem.W.specialIn K u "__get__" = some none
  cp : PySem.W.copiedNames.contains f = false
/-- a method: a plain def of the class or of one above it -/
structure Meth (K : PySem.W.Frag) (C : Addr) (m : Str) (f : Addr) : Prop where
  at_ : PySem.W.findIn K (.ref C) m = some (some (.ref f))
  fn : PySem.W.isFn K (.ref f) = true
  kp : PySem.W.keepIn K (.ref f) = true

section
variable {X : Cx} {pins : List (Addr × Obj)} {σ : St} {H : Hp} {s : Shared} {a C dx : Addr} {fs : List (Str × V)} {f : Str} {v : V} {A : Around} {E : Value → Shared → Prop}

theorem getattr_ok {b : Bool} {Q : Value → Shared → Prop} (I : Inv X pins σ H s) (e : H a = some (.ins C dx fs)) (c : Cls X.K C) (n : NoAttr X.K C f) (l : fs.lookup f = some v)
    (h : ∀ u s', Inv X pins σ H s' → RelV v u → Q u s') : wpAny (model X.prog X.w) A (getAttr (.ref a) f b) Q E s := by
  obtain ⟨mA, O, r, _, _, _⟩ := ins_get I.hok e
  obtain ⟨u, hu, ru⟩ := RelO.some_of (v := v) (o := mA f) (by rw [← l]; exact r f)
  exact get_map I.kIn O (c.get f) c.hd n hu (handed_of ru) (h u _ (I.tok _) ru)

theorem getcon_ok {b : Bool} {u : Value} {Q : Value → Shared → Prop} (I : Inv X pins σ H s) (e : H a = some (.ins C dx fs)) (c : Cls X.K C) (k : Con X.K C f v u) (l : fs.lookup f = none)
    (h : ∀ s', Inv X pins σ H s' → Q u s') : wpAny (model X.prog X.w) A (getAttr (.ref a) f b) Q E s := by
  obtain ⟨mA, O, r, _, _, _⟩ := ins_get I.hok e
  have hn : mA f = none := RelO.none_of (by rw [← l]; exact r f)
  exact get_const I.kIn O (c.get f) c.hd k.at_ k.get k.cp hn (handed_of k.rel) (h _ (I.tok _))

theorem getmeth_ok {m : Str} {g : Addr} {pl : Sem Bool} {Q : Value × List Value → Shared → Prop} (I : Inv X pins σ H s) (e : H a = some (.ins C dx fs)) (c : Cls X.K C) (k : Meth X.K C m g) (l : fs.lookup m = none)
    (h : Q (.ref g, [.ref a]) s) : wpAny (model X.prog X.w) A (getMethod (.ref a) m pl) Q E s := by
  obtain ⟨mA, O, r, _, _, _⟩ := ins_get I.hok e
  have hn : mA m = none := RelO.none_of (by rw [← l]; exact r m)
  exact get_meth I.kIn O (c.get m) k.at_ k.fn hn h

theorem setattr_ok {y : V} {u : Value} {Q : Unit → Shared → Prop} (I : Inv X pins σ H s) (e : H a = some (.ins C dx fs)) (c : Cls X.K C) (n : NoAttr X.K C f) (hl : fs.length < 1000) (ry : RelV y u)
    (h : ∀ s', Inv X pins σ (upd H a (.ins C dx (putF f y fs))) s' → Q () s') : wpAny (model X.prog X.w) A (setAttr (.ref a) f u) Q E s := by
  obtain ⟨mA, O, r, wi, _, ho⟩ := ins_get I.hok e
  have hz : (fs.map (·.1)).length ≤ sizeLine := by rw [List.length_map, sizeLine_eq]; omega
  refine set_map I.kIn O c.sa c.po n.taker c.hd wi hz fun h' O' sb => h _ ?_
  have hd : ∃ o, h'.get? dx = some o := let ⟨o, _, _, e', _⟩ := O'.ns; ⟨o, e'⟩
  refine I.write (x := a) (e := dx) (by rw [e]; exact True.intro) (.inr ho) (fun b q hb z => (sb.2 b hb).trans z) hd ?_
  refine ⟨by rw [upd_ne O.ne]; exact ho, ?_, O.ne, O'.obj, _, O'.ns, fun g => ?_, fun g hg => ?_⟩
  · have := length_putF f y fs; omega
  · show RelO ((putF f y fs).lookup g) (if g = f then some u else mA g)
    rw [lookup_putF]
    by_cases q : g = f
    · rw [if_pos q, if_pos q]; exact ry
    · rw [if_neg q, if_neg q]; exact r g
  · by_cases q : g = f
    · rw [q]; exact (keys_putF f y fs).1
    · refine (keys_putF f y fs).2 g (wi g fun z => hg ?_)
      show (if g = f then some u else mA g) = none
      rw [if_neg q]; exact z

/-- a new instance, tracked, without attributes -/
theorem Inv.made (I : Inv X pins σ H s) : Inv X pins σ (upd (upd H s.heap.objs.size (.own (s.heap.objs.size + 1))) (s.heap.objs.size + 1) (.ins C s.heap.objs.size []))
    { s with heap := (s.heap.push PySem.W.emptyDict).push (PySem.W.instObj C s.heap.objs.size) } := by
  have e1 : (s.heap.push PySem.W.emptyDict).get? s.heap.objs.size = some PySem.W.emptyDict := Heap.get?_push_size s.heap rfl
  have e2 : ((s.heap.push PySem.W.emptyDict).push (PySem.W.instObj C s.heap.objs.size)).get? (s.heap.objs.size + 1) = some (PySem.W.instObj C s.heap.objs.size) := by
    have := Heap.get?_push_size (s.heap.push PySem.W.emptyDict) (o := PySem.W.instObj C s.heap.objs.size) rfl
    rwa [Heap.size_push] at this
  have e3 : (s.heap.push PySem.W.emptyDict).Ns s.heap.objs.size (fun _ => none) := ⟨PySem.W.emptyDict, #[], _, e1, rfl, (fun e he => absurd he (by simp)), fun _ => rfl⟩
  have I1 := I.laid (a := s.heap.objs.size) (o := .own (s.heap.objs.size + 1)) (h' := s.heap.push PySem.W.emptyDict) (t' := s.toks) (fun b u q => Heap.get?_push_of_some _ q) (Nat.le_refl _) ⟨_, e1⟩
  refine I1.laid (a := s.heap.objs.size + 1) (o := .ins C s.heap.objs.size []) (t' := s.toks) (fun b u q => Heap.get?_push_of_some _ q) (Nat.le_of_eq (Heap.size_push _ _)) ?_
  have ne : s.heap.objs.size ≠ s.heap.objs.size + 1 := Nat.ne_of_lt (Nat.lt_succ_self _)
  refine ⟨by rw [upd_ne ne, upd_same], Nat.zero_le _, ne, e2, fun _ => none, (Heap.Ns1.of_empty e3).at fun o q => Heap.get?_push_of_some _ q, fun _ => True.intro, fun y hy => absurd rfl hy⟩

/-- e.f where nothing but the object is asked: through attributeBase (super) and the last hold -/
theorem attr_of {prog : Program} {w : World} {env : Env} {e : Expr} {f : Str} {pos : Pos} {s : Shared} {Q : Value → Shared → Prop} (hb : attributeBase e f env (eval e env) = eval e env)
    (h : wpAny (model prog w) A (eval e env) (fun o s₁ => wpAny (model prog w) A (getAttr o f true) Q E s₁) E s) : wpAny (model prog w) A (eval (.Attribute e f pos) env) Q E s :=
  Attribute_any_ h (by rw [arm_eval_Attribute, hb])
end

/-! ### readings and rules -/
/-- e.f, an attribute of the instance -/
def tFld (K : PySem.W.Frag) (ta : TE) (f : Str) : TE := fun σ H Q => ta σ H fun x H1 => ∃ a C dx fs v, x = .ref a ∧ H1 a = some (.ins C dx fs) ∧ Cls K C ∧ NoAttr K C f ∧ fs.lookup f = some v ∧ Q v H1
/-- e.f, a constant of the class -/
def tCon (K : PySem.W.Frag) (ta : TE) (f : Str) : TE := fun σ H Q => ta σ H fun x H1 => ∃ a C dx fs v u, x = .ref a ∧ H1 a = some (.ins C dx fs) ∧ Cls K C ∧ Con K C f v u ∧ fs.lookup f = none ∧ Q v H1
/-- e.f = value -/
def sFld (K : PySem.W.Frag) (ta tv : TE) (f : Str) : TS := fun D σ H => tv σ H fun y H1 => ta σ H1 fun x H2 => ∃ a C dx fs, x = .ref a ∧ H2 a = some (.ins C dx fs) ∧ Cls K C ∧ NoAttr K C f ∧ fs.length < 1000 ∧
  D.nx σ (upd H2 a (.ins C dx (putF f y fs)))
/-- an augmented operator on two values -/
def InOp (X : Cx) (op : Operator) (rd : V → V → Hp → VK → Prop) : Prop :=
  ∀ (pins : List (Addr × Obj)) (s : Shared) (σ : St) (H : Hp) (x y : V) (u v : Value) (Q : VK), Inv X pins σ H s → RelV x u → RelV y v → rd x y H Q → wpAny (model X.prog X.w) X.A (inplaceOp op u v) (EP X pins σ Q) X.xe s
/-- e.f op= value -/
def sFldAug (K : PySem.W.Frag) (ta tv : TE) (rd : V → V → Hp → VK → Prop) (f : Str) : TS := fun D σ H => ta σ H fun x H1 => ∃ a C dx fs v, x = .ref a ∧ H1 a = some (.ins C dx fs) ∧ Cls K C ∧ NoAttr K C f ∧ fs.lookup f = some v ∧
  tv σ H1 fun y H2 => rd v y H2 fun z H3 => ∃ dx' fs', H3 a = some (.ins C dx' fs') ∧ fs'.length < 1000 ∧ D.nx σ (upd H3 a (.ins C dx' (putF f z fs')))

section
variable {X : Cx} {o e value : Expr} {f : Str} {pos pos' tpos : Pos} {ta tv : TE}
theorem pe_fld (he : PE X e ta) (hb : attributeBase e f X.env (eval e X.env) = eval e X.env) : PE X (.Attribute e f pos) (tFld X.K ta f) := by
  intro pins s σ H Q I h
  refine attr_of hb (thn (he pins s σ H _ I h) fun u s1 ⟨x, H1, I1, rx, a, C, dx, fs, v, ex, ea, c, n, l, q⟩ => ?_)
  subst ex
  obtain rfl : u = Value.ref a := rx
  exact getattr_ok I1 ea c n l fun u' s2 I2 ru => ⟨v, H1, I2, ru, q⟩
theorem pe_con (he : PE X e ta) (hb : attributeBase e f X.env (eval e X.env) = eval e X.env) : PE X (.Attribute e f pos) (tCon X.K ta f) := by
  intro pins s σ H Q I h
  refine attr_of hb (thn (he pins s σ H _ I h) fun u s1 ⟨x, H1, I1, rx, a, C, dx, fs, v, u0, ex, ea, c, k, l, q⟩ => ?_)
  subst ex
  obtain rfl : u = Value.ref a := rx
  exact getcon_ok I1 ea c k l fun s2 I2 => ⟨v, H1, I2, k.rel, q⟩
theorem ps_fld (ha : PE X o ta) (hv : PE X value tv) (hs : swapsWith value (some (.Attribute o f pos')) pos.line X.env = pure false) : PS X (.Assign [.Attribute o f pos'] value pos) (sFld X.K ta tv f) := by
  intro pins s σ H D I h
  refine plainObj_wpAny_Assign_Attribute (thn (hv pins s σ H _ I h) fun u s1 ⟨y, H1, I1, ry, q⟩ => thn (ha pins s1 σ H1 _ I1 q) fun ov s2 ⟨x, H2, I2, rx, a, C, dx, fs, ex, ea, c, n, l, q2⟩ => ?_) hs
  subst ex
  obtain rfl : ov = Value.ref a := rx
  exact setattr_ok I2 ea c n l ry fun s3 I3 => ⟨σ, _, I3, q2⟩
theorem ps_fldaug {op : Operator} {rd : V → V → Hp → VK → Prop} (ha : PE X o ta) (hv : PE X value tv) (hop : InOp X op rd) : PS X (.AugAssign (.Attribute o f tpos) op value pos) (sFldAug X.K ta tv rd f) := by
  intro pins s σ H D I h
  refine wpAny_AugAssign_AttributeAny (thn (ha pins s σ H _ I h) fun ov s1 ⟨x, H1, I1, rx, a, C, dx, fs, v, ex, ea, c, n, l, q⟩ => ?_)
  subst ex
  obtain rfl : ov = Value.ref a := rx
  refine getattr_ok I1 ea c n l fun u s2 I2 ru => thn (hv pins s2 σ H1 _ I2 q) fun w3 s3 ⟨y, H2, I3, ry, q3⟩ => thn (hop pins s3 σ H2 v y u w3 _ I3 ru ry q3) fun w4 s4 ⟨z, H3, I4, rz, dx', fs', ea', l', q4⟩ => ?_
  exact setattr_ok I4 ea' c n l' rz fun s5 I5 => ⟨σ, _, I5, q4⟩
def rAdd : V → V → Hp → VK → Prop := fun x y H Q => ∃ i j, x = .int i ∧ y = .int j ∧ Q (.int (i + j)) H
def rSub : V → V → Hp → VK → Prop := fun x y H Q => ∃ i j, x = .int i ∧ y = .int j ∧ Q (.int (i - j)) H
theorem in_add : InOp X .Add rAdd := by
  rintro pins s σ H x y u v Q I rx ry ⟨i, j, rfl, rfl, q⟩
  obtain ⟨t, rfl⟩ := (show ∃ t, u = Value.int i t from rx)
  obtain ⟨t', rfl⟩ := (show ∃ t', v = Value.int j t' from ry)
  exact PyProof.Rows.iadd_int ⟨.int (i + j), H, I.tok _, ⟨_, rfl⟩, q⟩
theorem in_sub : InOp X .Sub rSub := by
  rintro pins s σ H x y u v Q I rx ry ⟨i, j, rfl, rfl, q⟩
  obtain ⟨t, rfl⟩ := (show ∃ t, u = Value.int i t from rx)
  obtain ⟨t', rfl⟩ := (show ∃ t', v = Value.int j t' from ry)
  exact PyProof.Rows.isub_int ⟨.int (i - j), H, I.tok _, ⟨_, rfl⟩, q⟩

/-- what is between an instance and its method: the tree of a method call -/
theorem methcall_of {pl : Sem Bool} {m : Str} {apos : Pos} {args : List Expr} {pins : List (Addr × Obj)} {s : Shared} {σ : St} {H : Hp} {Q : Value → Shared → Prop} {te : TE} (he : PE X e te) (I : Inv X pins σ H s)
    (h : te σ H fun x H1 => ∃ a C dx fs g, x = .ref a ∧ H1 a = some (.ins C dx fs) ∧ Cls X.K C ∧ Meth X.K C m g ∧ fs.lookup m = none ∧
      ∀ s1, Inv X pins σ H1 s1 → wpAny (model X.prog X.w) X.A (callWith pos (.ref g) [.ref a] (backTo pos (starEach args X.env)) (backToKw pos (keywordEach [] X.env))) Q X.xe s1)
    (ht : eval (.Call (.Attribute e m apos) args [] pos) X.env = (do
      let ov ← eval e X.env
      standAt apos.atName
      let (f, first) ← holding [ov] (getMethod ov m pl)
      callWith pos f first (backTo pos (starEach args X.env)) (backToKw pos (keywordEach [] X.env)))) :
    wpAny (model X.prog X.w) X.A (eval (.Call (.Attribute e m apos) args [] pos) X.env) Q X.xe s := by
  refine PySem.W.methodCall_KW (pl := pl) (thn (he pins s σ H _ I h) fun u s1 ⟨x, H1, I1, rx, a, C, dx, fs, g, ex, ea, c, k, l, q⟩ => ?_) ht
  subst ex
  obtain rfl : u = Value.ref a := rx
  exact getmeth_ok I1 ea c k l (q s1 I1)
end

/-! ### isinstance -/
section
variable {X : Cx} {pins : List (Addr × Obj)} {σ : St} {H : Hp} {s : Shared} {A : Around} {E : Value → Shared → Prop} {Q : Value → Shared → Prop} {c : Value} {b : Bool}
/-- the type of a value, as the fragment's deciders take it; for an instance its class -/
inductive TyOf (K : PySem.W.Frag) (H : Hp) : V → Value → Prop where
  | non : TyOf K H .non (.type "NoneType")
  | bl (x : Bool) : TyOf K H (.bl x) (.type "bool")
  | int (i : Int) : TyOf K H (.int i) (.type "int")
  | str (x : Str) : TyOf K H (.str x) (.type "str")
  | flt (x : UInt64) : TyOf K H (.flt x) (.type "float")
  | lst {a : Addr} {xs : List V} (e : H a = some (.lst xs)) : TyOf K H (.ref a) (.type "list")
  | frz {a : Addr} {o : Obj} {xs : List V} (e : H a = some (.frz o (.lst xs))) : TyOf K H (.ref a) (.type "list")
  | tup {a : Addr} {xs : List V} (e : H a = some (.tup xs)) : TyOf K H (.ref a) (.type "tuple")
  | dK {a : Addr} {kvs : List (Key × V)} (e : H a = some (.dK kvs)) : TyOf K H (.ref a) (.type "dict")
  | dT {a : Addr} {kvs : List (List Key × V)} (e : H a = some (.dT kvs)) : TyOf K H (.ref a) (.type "dict")
  | ins {a C dx : Addr} {fs : List (Str × V)} (e : H a = some (.ins C dx fs)) (cl : Cls K C) (ha : PySem.W.findIn K (.ref C) "__class__" = some (some (.builtin "object.__class__")))
      (hn : PySem.W.specialIn K (.builtin "object.__class__") "__get__" = some (some (.builtin "getset_descriptor.__get__"))) (htk : PySem.W.takesIn K (.builtin "object.__class__") = some true)
      (hm : PySem.W.mroIn K C (.type "object") = some true) : TyOf K H (.ref a) (.ref C)
/-- isinstance(x, c) for one class c, a built-in or an own one: kitOne's answer -/
theorem isinst_ok {x : V} {u t : Value} (I : Inv X pins σ H s) (rx : RelV x u) (ty : TyOf X.K H x t) (e : PySem.W.kitOne X.K t c = some b) (h : ∀ tk, Q (.bool b) { s with toks := tk }) :
    wpAny (model X.prog X.w) A (call (.builtin "isinstance") [u, c]) Q E s := by
  cases ty with
  | non => cases (show u = Value.none from rx); exact PySem.W.kia_one PySem.W.kitx_none I.kIn True.intro e (fun z => nomatch z) h
  | bl y => cases (show u = Value.bool y from rx); exact PySem.W.kia_one PySem.W.kitx_bool I.kIn True.intro e (fun z => nomatch z) h
  | int i => obtain ⟨t, q⟩ := (show ∃ t, u = Value.int i t from rx); cases q; exact PySem.W.kia_one PySem.W.kitx_int I.kIn True.intro e (fun z => nomatch z) h
  | str y => obtain ⟨t, q⟩ := (show ∃ t, u = Value.str y t from rx); cases q; exact PySem.W.kia_one PySem.W.kitx_str I.kIn True.intro e (fun z => nomatch z) h
  | flt y => obtain ⟨t, q⟩ := (show ∃ t, u = Value.float y t from rx); cases q; exact PySem.W.kia_one PySem.W.kitx_float I.kIn True.intro e (fun z => nomatch z) h
  | @lst a xs ea =>
    cases (show u = Value.ref a from rx)
    obtain ⟨_, _, n, _, h1⟩ := (show ObjOk X.prog X.w H s.heap a (.lst xs) from I.hok a _ ea)
    exact PySem.W.kia_one PySem.W.kitx_list I.kIn ⟨_, h1, rfl⟩ e (fun z => nomatch z) h
  | @frz a ob xs ea =>
    cases (show u = Value.ref a from rx)
    obtain ⟨_, _, _, n, _, h1⟩ := (show ObjOk X.prog X.w H s.heap a (.frz ob (.lst xs)) from I.hok a _ ea)
    exact PySem.W.kia_one PySem.W.kitx_list I.kIn ⟨_, h1, rfl⟩ e (fun z => nomatch z) h
  | @tup a xs ea =>
    cases (show u = Value.ref a from rx)
    obtain ⟨_, _, _, p⟩ := (show ObjOk X.prog X.w H s.heap a (.tup xs) from I.hok a _ ea)
    obtain ⟨o, h1, h2, _⟩ := p
    exact PySem.W.kia_one PySem.W.kitx_tuple I.kIn ⟨o, h1, h2⟩ e (fun z => nomatch z) h
  | @dK a kvs ea =>
    cases (show u = Value.ref a from rx)
    obtain ⟨_, _, vs, _, p⟩ := (show ObjOk X.prog X.w H s.heap a (.dK kvs) from I.hok a _ ea)
    obtain ⟨o, es, ep, h1, h2, _⟩ := p
    exact PySem.W.kia_one PySem.W.kitx_dict I.kIn ⟨o, h1, h2.1⟩ e (fun z => nomatch z) h
  | @dT a kvs ea =>
    cases (show u = Value.ref a from rx)
    obtain ⟨_, _, xs, _, o, es, ep, h1, h2, _⟩ := (show ObjOk X.prog X.w H s.heap a (.dT kvs) from I.hok a _ ea)
    exact PySem.W.kia_one PySem.W.kitx_dict I.kIn ⟨o, h1, h2.1⟩ e (fun z => nomatch z) h
  | @ins a C dx fs ea cl ha hn htk hm =>
    cases (show u = Value.ref a from rx)
    obtain ⟨mA, O, _⟩ := ins_get I.hok ea
    obtain ⟨od, J, _⟩ := O.look
    exact PySem.W.kia_one (PySem.W.kitx_own (cl.get _) cl.hd ha hn htk hm) I.kIn J e (fun z => nomatch z) h
end
end L2

namespace L2
open PySem PySem.Spec PyProof.Rows

/-! ### room -/
structure Room (k : Nat) (A : Around) : Prop where
  hd : A.handled = none
  dp : A.depth + 3 * k + 5 < recursionLimit
  un : A.units + 16 * k + 200 < cLine
theorem Room.mono {j k : Nat} {A : Around} (r : Room k A) (h : j ≤ k) : Room j A := ⟨r.hd, by have := r.dp; omega, by have := r.un; omega⟩
theorem Room.deeper {k : Nat} {A : Around} (r : Room (k + 1) A) (env : Env) : Room k (A.deeper env) :=
  ⟨r.hd, by have := r.dp; show A.depth + 1 + 3 * k + 5 < _; omega, by have := r.un; show A.units + 3 + 16 * k + 200 < _; omega⟩
theorem Room.in1 {k : Nat} {A : Around} (r : Room (k + 1) A) : Room k A.in1 :=
  ⟨r.hd, by have := r.dp; show A.depth + 3 * k + 5 < _; omega, by have := r.un; show A.units + 1 + 16 * k + 200 < _; omega⟩
theorem make_depth {A : Around} {C : Addr} {us : List Value} {kw : List (Str × Value)} : (A.under (.builtin "type.__call__" ⟨.ref C :: us, kw⟩)).depth = A.depth + 1 := by
  first | rfl | simp [Around.under, Code.weight, Code.isCreation, Code.isGuard, Code.isCaller, Code.frames, Code.isFrame, guardIds]
theorem make_units {A : Around} {C : Addr} {us : List Value} {kw : List (Str × Value)} : (A.under (.builtin "type.__call__" ⟨.ref C :: us, kw⟩)).units = A.units + 1 := by
  first | rfl | simp [Around.under, Code.cUnits, Code.frames, Code.isFrame]
theorem Room.make {k : Nat} {A : Around} (r : Room (k + 1) A) (C : Addr) (us : List Value) (kw : List (Str × Value)) : Room k (A.under (.builtin "type.__call__" ⟨.ref C :: us, kw⟩)) :=
  ⟨r.hd, by have := r.dp; rw [make_depth]; omega, by have := r.un; rw [make_units]; omega⟩
theorem Room.depth {k : Nat} {A : Around} (r : Room k A) : A.depth < recursionLimit := by have := r.dp; omega
theorem Room.units {k : Nat} {A : Around} (r : Room k A) : A.units + 64 < cLine := by have := r.un; omega
theorem Room.units0 {k : Nat} {A : Around} (r : Room k A) : A.units < cLine := by have := r.un; omega

/-! ### argument lists and displays -/
def tNil : TA := fun _ H Q => Q [] H
def tCons (ta : TE) (tr : TA) : TA := fun σ H Q => ta σ H fun x H1 => tr σ H1 fun xs H2 => Q (x :: xs) H2
section
variable {X : Cx} {e : Expr} {es : List Expr} {te : TE} {t : TA} {pos : Pos}
theorem pa_nil : PA X [] tNil := fun _ _ _ _ H Q I h => Calls.spliced_nil ⟨[], H, I, .nil, h⟩
theorem pa_cons (ha : PE X e te) (hr : PA X es t) (hs : starEach (e :: es) X.env = (false, eval e X.env) :: starEach es X.env := by rfl) : PA X (e :: es) (tCons te t) := by
  intro pos pins s σ H Q I h
  rw [hs]
  show wpAny _ _ (spliced ((false, eval e X.env) :: backTo pos (starEach es X.env))) _ _ s
  refine Calls.spliced_cons (thn (ha pins s σ H _ I h) fun u s1 ⟨x, H1, I1, r1, q1⟩ => ?_)
  exact thn (hr pos pins s1 σ H1 _ I1 q1) fun us s2 ⟨xs, H2, I2, r2, q2⟩ => ⟨x :: xs, H2, I2, .cons r1 r2, q2⟩

/-- a tuple, a list of written items -/
def tTup (t : TA) : TE := fun σ H Q => t σ H fun xs H1 => xs.length ≤ sizeLine ∧ ∀ p, H1 p = none → Q (.ref p) (upd H1 p (.tup xs))
def tLst (t : TA) : TE := fun σ H Q => t σ H fun xs H1 => xs.length ≤ sizeLine ∧ ∀ p, H1 p = none → Q (.ref p) (upd H1 p (.lst xs))
theorem pe_tup {x1} (h : PA X es t) : PE X (.Tuple es x1 pos) (tTup t) := by
  intro pins s σ H Q I hq
  refine wpAny_Tuple_spliced (thn (h pos pins s σ H _ I hq) fun us s1 ⟨xs, H1, I1, r, z, q⟩ => ⟨by rw [← r.length]; exact z, ?_⟩)
  have hf : H1 s1.heap.objs.size = none := I1.hok.fresh (Nat.le_refl _)
  refine ⟨.ref s1.heap.objs.size, upd H1 s1.heap.objs.size (.tup xs), I1.laid (t' := s1.toks) (fun b u e => Heap.get?_push_of_some _ e) (Nat.le_refl _) ?_, rfl, q _ hf⟩
  exact ⟨z, us, r, ⟨_, Heap.get?_push_size _ rfl, rfl, _, rfl⟩⟩
theorem pe_lst (h : PA X es t) : PE X (.List es pos) (tLst t) := by
  intro pins s σ H Q I hq
  refine wpAny_List_spliced (thn (h pos pins s σ H _ I hq) fun us s1 ⟨xs, H1, I1, r, z, q⟩ => ⟨by rw [← r.length]; exact z, ?_⟩)
  have hf : H1 s1.heap.objs.size = none := I1.hok.fresh (Nat.le_refl _)
  refine ⟨.ref s1.heap.objs.size, upd H1 s1.heap.objs.size (.lst xs), I1.laid (t' := s1.toks) (fun b u e => Heap.get?_push_of_some _ e) (Nat.le_refl _) ?_, rfl, q _ hf⟩
  exact ⟨z, us, 0, r, Heap.get?_push_size _ rfl⟩
end

/-! ### what a def promises -/
/-- a def's promise: the bound arguments in the parameters' order, the heap, the wanted end, the wanted exception -/
abbrev Sp := List V → Hp → VK → XK → Prop
/-- how an exception lies behind a call (file 08 gives it): the callers' frames, abstract heap and state ahead of the call, the wish, the exception, the state -/
abbrev CXT := List Env → Hp → Shared → XK → Value → Shared → Prop

/-- the state at a call -/
structure Env0 (P : Program) (w : World) (K : PySem.W.Frag) (mg : Str → Option Value) (base : Heap) (A : Around) (outer : List Env) (s : Shared) (H : Hp) : Prop where
  frames : A.frames = some outer
  mod : Mod K mg base
  bs : ∀ b o, base.get? b = some o → s.heap.get? b = some o ∧ H b = none
  bsz : base.objs.size ≤ s.heap.objs.size
  funs : s.heap.FunFrames base outer
  frf : ∀ b ∈ frs outer, H b = none
  hok : HOk P w H s.heap
  bare : AllBare s.gens
/-- a call's end -/
def CE (outer : List Env) (P : Program) (w : World) (H : Hp) (s : Shared) (Q : VK) (u : Value) (s' : Shared) : Prop :=
  ∃ v H', s'.os = s.os ∧ AllBare s'.gens ∧ Un (frs outer) [] H H' s.heap s'.heap ∧ HOk P w H' s'.heap ∧ RelV v u ∧ Q v H'
def CR (CX : CXT) (outer : List Env) (P : Program) (w : World) (H : Hp) (s : Shared) (Q : VK) (E : XK) (r : Result) (s' : Shared) : Prop :=
  match r with
  | .ok (.ret u) => CE outer P w H s Q u s'
  | .ok _ => False
  | .error e => CX outer H s E e s'
structure FnOk (P : Program) (w : World) (K : PySem.W.Frag) (mg : Str → Option Value) (base : Heap) (CX : CXT) (k : Nat) (f : Addr) (fd : FuncData) (ps : List Str) (sp : Sp) : Prop where
  len : ∀ vs H Q E, sp vs H Q E → vs.length = ps.length
  run : ∀ (A : Around) (outer : List Env) (s : Shared) (H : Hp) (args : Args) (us : List Value) (vs : List V) (Q : VK) (E : XK), Room k A → Env0 P w K mg base A outer s H → BindsTo s fd args (ps.zip us) → Vals vs us → sp vs H Q E →
    codeAny (model P w) A (.call (.ref f) args) (CR CX outer P w H s Q E) s
theorem FnOk.mono {P : Program} {w : World} {K : PySem.W.Frag} {mg : Str → Option Value} {base : Heap} {CX : CXT} {j k : Nat} {f : Addr} {fd : FuncData} {ps : List Str} {sp : Sp} (F : FnOk P w K mg base CX j f fd ps sp) (h : j ≤ k) :
    FnOk P w K mg base CX k f fd ps sp := ⟨F.len, fun A outer s H args us vs Q E hr => F.run A outer s H args us vs Q E (hr.mono h)⟩
/-- a weaker promise -/
theorem FnOk.imp {P : Program} {w : World} {K : PySem.W.Frag} {mg : Str → Option Value} {base : Heap} {CX : CXT} {k : Nat} {f : Addr} {fd : FuncData} {ps : List Str} {sp sp' : Sp} (F : FnOk P w K mg base CX k f fd ps sp)
    (h : ∀ vs H Q E, sp' vs H Q E → sp vs H Q E) : FnOk P w K mg base CX k f fd ps sp' :=
  ⟨fun vs H Q E q => F.len vs H Q E (h _ _ _ _ q), fun A outer s H args us vs Q E hr he hb hv hs => F.run A outer s H args us vs Q E hr he hb hv (h _ _ _ _ hs)⟩

theorem Env0.make {P : Program} {w : World} {K : PySem.W.Frag} {mg : Str → Option Value} {base : Heap} {A : Around} {outer : List Env} {s : Shared} {H : Hp} (e : Env0 P w K mg base A outer s H) (C : Addr) (us : List Value) (kw : List (Str × Value)) :
    Env0 P w K mg base (A.under (.builtin "type.__call__" ⟨.ref C :: us, kw⟩)) outer s H := ⟨by first | exact e.frames | (simpa [Around.under, Code.envs, Code.isFrame, pushEnvs] using e.frames), e.mod, e.bs, e.bsz, e.funs, e.frf, e.hok, e.bare⟩
theorem Env0.in1 {P : Program} {w : World} {K : PySem.W.Frag} {mg : Str → Option Value} {base : Heap} {A : Around} {outer : List Env} {s : Shared} {H : Hp} (e : Env0 P w K mg base A outer s H) :
    Env0 P w K mg base A.in1 outer s H := ⟨e.frames, e.mod, e.bs, e.bsz, e.funs, e.frf, e.hok, e.bare⟩

section
variable {X : Cx} {pins : List (Addr × Obj)} {σ : St} {H : Hp} {s s' : Shared}
/-- from a body: what a callee wants -/
theorem Inv.env0 (I : Inv X pins σ H s) : Env0 X.prog X.w X.K X.mg X.base X.A X.stack s H :=
  ⟨I.ok.frames, I.ok.mod, I.bs, Nat.le_trans I.ok.bsz I.sz, I.stack, I.stkFree, I.hok, I.bare⟩
/-- behind a call -/
theorem Inv.after {Q : VK} {u : Value} (I : Inv X pins σ H s) (h : CE X.stack X.prog X.w H s Q u s') : EP X pins σ Q u s' := by
  obtain ⟨v, H', os, bare, un, hok, r, q⟩ := h
  obtain ⟨hh, g, d, t, os'⟩ := s'
  obtain rfl : os' = s.os := os
  exact ⟨v, H', I.call (h' := hh) (g' := g) (d' := d) (t' := t) (ch := []) un hok bare (fun b z => absurd z (by simp)), r, q⟩
end

/-! ### calls -/
/-- f(..): the written arguments, then the defaults dvs; E: what is wanted of an exception -/
def tCall (sp : Sp) (dvs : List V) (E : XK) (t : TA) : TE := fun σ H Q => t σ H fun vs H1 => sp (vs ++ dvs) H1 Q E
/-- o.m(..) of an instance of the class at C -/
def tMeth (C : Addr) (m : Str) (sp : Sp) (dvs : List V) (E : XK) (ta : TE) (t : TA) : TE := fun σ H Q => ta σ H fun x H1 => ∃ a dx fs, x = .ref a ∧ H1 a = some (.ins C dx fs) ∧ fs.lookup m = none ∧
  t σ H1 fun vs H2 => sp (x :: (vs ++ dvs)) H2 Q E
/-- C(..): a new instance and its dict, then __init__ -/
def tMake (C : Addr) (sp : Sp) (dvs : List V) (E : XK) (t : TA) : TE := fun σ H Q => t σ H fun vs H1 => ∀ x dx, H1 x = none → H1 dx = none → dx ≠ x →
  sp (.ref x :: (vs ++ dvs)) (upd (upd H1 dx (.own x)) x (.ins C dx [])) (fun v H2 => v = .non ∧ Q (.ref x) H2) E

/-- how the parameters are bound: us the positional arguments, kw the keywords' values by name, ds the defaults that fill up -/
def Binds (K : PySem.W.Frag) (fd : FuncData) (ps : List Str) (ds : List Value) : Prop :=
  ∀ (s : Shared) (us : List Value), K.In s.heap → (us ++ ds).length = ps.length → BindsTo s fd ⟨us, []⟩ (ps.zip (us ++ ds))
/-- every parameter is given -/
theorem Binds.all {K : PySem.W.Frag} {fd : FuncData} {ps : List Str} (h : ∀ us : List Value, us.length = ps.length → bindArgs fd ⟨us, []⟩ = pure (ps.zip us)) : Binds K fd ps [] := fun s us _ hl => by
  rw [List.append_nil] at hl ⊢
  exact .of_eq (h us hl)

/-- an exception of a callee reaches what this body wants of exceptions -/
def Passes (CX : CXT) (X : Cx) (E : XK) : Prop := ∀ (pins : List (Addr × Obj)) (σ : St) (H : Hp) (s : Shared) (e : Value) (s' : Shared), Inv X pins σ H s → CX X.stack H s E e s' → X.xe e s'

section
variable {X : Cx} {CX : CXT} {k : Nat} {f C : Addr} {fd : FuncData} {ps : List Str} {sp : Sp} {dvs : List V} {ds : List Value} {E : XK} {x m : Str} {p pos apos : Pos} {e o : Expr} {es : List Expr} {ta : TE} {t : TA}

/-- the callee runs -/
theorem run_fn {pins : List (Addr × Obj)} {σ : St} {H : Hp} {s : Shared} {Q : VK} {us : List Value} {vs : List V} (F : FnOk X.prog X.w X.K X.mg X.base CX k f fd ps sp) (hr : Room k X.A) (hb : Binds X.K fd ps ds) (hd : Vals dvs ds) (hx : Passes CX X E)
    (I : Inv X pins σ H s) (r : Vals vs us) (h : sp (vs ++ dvs) H Q E) : wpAny (model X.prog X.w) X.A (call (.ref f) us) (EP X pins σ Q) X.xe s := by
  have r2 : Vals (vs ++ dvs) (us ++ ds) := r.append hd
  have hl : (us ++ ds).length = ps.length := by rw [← r2.length]; exact F.len _ _ _ _ h
  refine wpAny_call (codeAny_mono (F.run X.A X.stack s H ⟨us, []⟩ (us ++ ds) (vs ++ dvs) Q E hr I.env0 (hb s us I.kIn hl) r2 h) fun r s' hq => ?_)
  cases r with
  | error e => exact hx pins σ H s e s' I hq
  | ok fl =>
    cases fl with
    | ret u => exact I.after hq
    | next => exact False.elim hq
    | brk => exact False.elim hq
    | cont => exact False.elim hq

theorem pe_call (F : FnOk X.prog X.w X.K X.mg X.base CX k f fd ps sp) (hr : Room k X.A) (hg : Gl X x) (hm : X.mg x = some (.ref f)) (hk : PySem.W.keepIn X.K (.ref f) = true) (hb : Binds X.K fd ps ds) (hd : Vals dvs ds) (hx : Passes CX X E)
    (ha : PA X (e :: es) t) (hdb : (x == ("__debug__" : Str)) = false := by decide) (he : starEach (e :: es) X.env = (false, eval e X.env) :: starEach es X.env := by rfl) (hpl : (backTo pos (starEach es X.env)).any (·.1) = false := by rfl) :
    PE X (.Call (.Name x p) (e :: es) [] pos) (tCall sp dvs E t) := by
  intro pins s σ H Q I h
  refine wpAny_Call_Name_kw (ld_glob I hg hm ?_ hdb)
  refine PySem.W.callWith_K (h₀ := X.base) I.ok.mod.kin hk (thn (ha pos pins s σ H _ I h) fun us s1 ⟨vs, H1, I1, r, q⟩ => ⟨I1.kIn, ?_⟩) he hpl
  exact run_fn F hr hb hd hx I1 r q
theorem pe_call0 (F : FnOk X.prog X.w X.K X.mg X.base CX k f fd ps sp) (hr : Room k X.A) (hg : Gl X x) (hm : X.mg x = some (.ref f)) (hk : PySem.W.keepIn X.K (.ref f) = true) (hb : Binds X.K fd ps ds) (hd : Vals dvs ds) (hx : Passes CX X E)
    (hdb : (x == ("__debug__" : Str)) = false := by decide) : PE X (.Call (.Name x p) [] [] pos) (tCall sp dvs E tNil) := by
  intro pins s σ H Q I h
  refine wpAny_Call_Name_kw (ld_glob I hg hm ?_ hdb)
  exact PySem.W.callWith_K0 I.kIn hk (run_fn (us := []) F hr hb hd hx I .nil h)

/-- o.m(e, ..) -/
theorem pe_meth {pl : Sem Bool} (he : PE X o ta) (c : Cls X.K C) (hm : Meth X.K C m f) (F : FnOk X.prog X.w X.K X.mg X.base CX k f fd ps sp) (hr : Room k X.A) (hb : Binds X.K fd ps ds) (hd : Vals dvs ds) (hx : Passes CX X E) (ha : PA X (e :: es) t)
    (hst : starEach (e :: es) X.env = (false, eval e X.env) :: starEach es X.env := by rfl) (hpl : (backTo pos (starEach es X.env)).any (·.1) = false := by rfl)
    (ht : eval (.Call (.Attribute o m apos) (e :: es) [] pos) X.env = (do
      let ov ← eval o X.env
      standAt apos.atName
      let (f, first) ← holding [ov] (getMethod ov m pl)
      callWith pos f first (backTo pos (starEach (e :: es) X.env)) (backToKw pos (keywordEach [] X.env))) := by rfl) :
    PE X (.Call (.Attribute o m apos) (e :: es) [] pos) (tMeth C m sp dvs E ta t) := by
  intro pins s σ H Q I h
  refine PySem.W.methodCall_KW (pl := pl) (thn (he pins s σ H _ I h) fun u s1 ⟨x, H1, I1, rx, a, dx, fs, ex, ea, l, q⟩ => ?_) ht
  subst ex
  obtain rfl : u = Value.ref a := rx
  refine getmeth_ok I1 ea c hm l ?_
  refine PySem.W.callWith_K (first := [.ref a]) (h₀ := X.base) I.ok.mod.kin hm.kp (thn (ha pos pins s1 σ H1 _ I1 q) fun us s2 ⟨vs, H2, I2, r, q2⟩ => ⟨I2.kIn, ?_⟩) hst hpl
  exact run_fn (us := .ref a :: us) (vs := .ref a :: vs) F hr hb hd hx I2 (.cons rfl r) q2
/-- o.m() -/
theorem pe_meth0 {pl : Sem Bool} (he : PE X o ta) (c : Cls X.K C) (hm : Meth X.K C m f) (F : FnOk X.prog X.w X.K X.mg X.base CX k f fd ps sp) (hr : Room k X.A) (hb : Binds X.K fd ps ds) (hd : Vals dvs ds) (hx : Passes CX X E)
    (ht : eval (.Call (.Attribute o m apos) [] [] pos) X.env = (do
      let ov ← eval o X.env
      standAt apos.atName
      let (f, first) ← holding [ov] (getMethod ov m pl)
      callWith pos f first (backTo pos (starEach [] X.env)) (backToKw pos (keywordEach [] X.env))) := by rfl) :
    PE X (.Call (.Attribute o m apos) [] [] pos) (tMeth C m sp dvs E ta tNil) := by
  intro pins s σ H Q I h
  refine PySem.W.methodCall_KW (pl := pl) (thn (he pins s σ H _ I h) fun u s1 ⟨x, H1, I1, rx, a, dx, fs, ex, ea, l, q⟩ => ?_) ht
  subst ex
  obtain rfl : u = Value.ref a := rx
  refine getmeth_ok I1 ea c hm l ?_
  exact PySem.W.callWith_K0 (first := [.ref a]) I1.kIn hm.kp (run_fn (us := [.ref a]) (vs := [.ref a]) F hr hb hd hx I1 (.cons rfl .nil) q)

/-- what a class must have to be made -/
structure Mk (K : PySem.W.Frag) (C f : Addr) : Prop where
  makes : PySem.W.makesIn K C = true
  init : PySem.W.findIn K (.ref C) "__init__" = some (some (.ref f))
  fn : PySem.W.isFn K (.ref f) = true
  kp : PySem.W.keepIn K (.ref C) = true

theorem run_make {pins : List (Addr × Obj)} {σ : St} {H : Hp} {s : Shared} {Q : VK} {us : List Value} {vs : List V} (M : Mk X.K C f) (F : FnOk X.prog X.w X.K X.mg X.base CX k f fd ps sp) (hr : Room (k + 1) X.A) (hb : Binds X.K fd ps ds) (hd : Vals dvs ds)
    (hx : Passes CX X E) (I : Inv X pins σ H s) (r : Vals vs us)
    (h : ∀ x dx, H x = none → H dx = none → dx ≠ x → sp (.ref x :: (vs ++ dvs)) (upd (upd H dx (.own x)) x (.ins C dx [])) (fun v H2 => v = .non ∧ Q (.ref x) H2) E) :
    wpAny (model X.prog X.w) X.A (call (.ref C) us) (EP X pins σ Q) X.xe s := by
  have hq := h (s.heap.objs.size + 1) s.heap.objs.size (I.hok.fresh (Nat.le_succ _)) (I.hok.fresh (Nat.le_refl _)) (Nat.ne_of_lt (Nat.lt_succ_self _))
  have I2 := Inv.made (C := C) I
  have r2 : Vals (V.ref (s.heap.objs.size + 1) :: (vs ++ dvs)) (Value.ref (s.heap.objs.size + 1) :: (us ++ ds)) := .cons rfl (r.append hd)
  have hl : (Value.ref (s.heap.objs.size + 1) :: us ++ ds).length = ps.length := by
    have e := r2.length
    rw [F.len _ _ _ _ hq] at e
    exact e.symm
  refine wpAny_call (make_map (f := f) I.kIn M.makes M.init (beq_iff_eq.mp M.fn) (codeAny_mono (F.run _ X.stack _ _ ⟨Value.ref (s.heap.objs.size + 1) :: us, []⟩ (Value.ref (s.heap.objs.size + 1) :: (us ++ ds)) _ _ E (hr.make C us [])
    (I2.env0.make C us []) (hb _ (Value.ref (s.heap.objs.size + 1) :: us) I2.kIn hl) r2 hq) fun r s' hq' => ?_))
  cases r with
  | error e => exact hx pins σ _ _ e s' I2 hq'
  | ok fl =>
    cases fl with
    | ret u =>
      obtain ⟨v, H', I3, rv, ev, q3⟩ := I2.after hq'
      subst ev
      exact ⟨rv, ⟨V.ref (s.heap.objs.size + 1), H', I3, rfl, q3⟩⟩
    | next => exact False.elim hq'
    | brk => exact False.elim hq'
    | cont => exact False.elim hq'
theorem pe_make (M : Mk X.K C f) (F : FnOk X.prog X.w X.K X.mg X.base CX k f fd ps sp) (hr : Room (k + 1) X.A) (hg : Gl X x) (hm : X.mg x = some (.ref C)) (hb : Binds X.K fd ps ds) (hd : Vals dvs ds) (hx : Passes CX X E)
    (ha : PA X (e :: es) t) (hdb : (x == ("__debug__" : Str)) = false := by decide) (he : starEach (e :: es) X.env = (false, eval e X.env) :: starEach es X.env := by rfl) (hpl : (backTo pos (starEach es X.env)).any (·.1) = false := by rfl) :
    PE X (.Call (.Name x p) (e :: es) [] pos) (tMake C sp dvs E t) := by
  intro pins s σ H Q I h
  refine wpAny_Call_Name_kw (ld_glob I hg hm ?_ hdb)
  refine PySem.W.callWith_K (h₀ := X.base) I.ok.mod.kin M.kp (thn (ha pos pins s σ H _ I h) fun us s1 ⟨vs, H1, I1, r, q⟩ => ⟨I1.kIn, ?_⟩) he hpl
  exact run_make M F hr hb hd hx I1 r q
theorem pe_make0 (M : Mk X.K C f) (F : FnOk X.prog X.w X.K X.mg X.base CX k f fd ps sp) (hr : Room (k + 1) X.A) (hg : Gl X x) (hm : X.mg x = some (.ref C)) (hb : Binds X.K fd ps ds) (hd : Vals dvs ds) (hx : Passes CX X E)
    (hdb : (x == ("__debug__" : Str)) = false := by decide) : PE X (.Call (.Name x p) [] [] pos) (tMake C sp dvs E tNil) := by
  intro pins s σ H Q I h
  refine wpAny_Call_Name_kw (ld_glob I hg hm ?_ hdb)
  exact PySem.W.callWith_K0 I.kIn M.kp (run_make (us := []) M F hr hb hd hx I .nil h)
end

/-! ### keywords -/
/-- the values of the keywords, from the left -/
def PK (X : Cx) (kws : List Keyword) (t : TA) : Prop :=
  ∀ (pos : Pos) (pins : List (Addr × Obj)) (s : Shared) (σ : St) (H : Hp) (Q : List V → Hp → Prop), Inv X pins σ H s → t σ H Q → wpAny (model X.prog X.w) X.A (evalAll ((backToKw pos (keywordEach kws X.env)).map (·.2))) (AP X pins σ Q) X.xe s
section
variable {X : Cx} {CX : CXT} {k : Nat} {f C : Addr} {fd : FuncData} {ps ks : List Str} {sp : Sp} {E : XK} {x m : Str} {p pos apos kpos : Pos} {e o : Expr} {es : List Expr} {kws : List Keyword} {te ta : TE} {t tk : TA} {nm : Option Str}
theorem pk_nil : PK X [] tNil := fun _ _ _ _ H Q I h => wpAny_evalAll_nil ⟨[], H, I, .nil, h⟩
theorem pk_cons (ha : PE X e te) (hr : PK X kws t) : PK X (⟨nm, e, kpos⟩ :: kws) (tCons te t) := by
  intro pos pins s σ H Q I h
  show wpAny _ _ (evalAll ((do let v ← eval e X.env; standAt pos; pure v) :: (backToKw pos (keywordEach kws X.env)).map (·.2))) _ _ s
  refine wpAny_evalAll_cons (wpAny_bind (thn (ha pins s σ H _ I h) fun u s1 ⟨x, H1, I1, r1, q1⟩ => wpAny_bind (wpAny_standAt (wpAny_pure ?_))))
  exact thn (hr pos pins s1 σ H1 _ I1 q1) fun us s2 ⟨xs, H2, I2, r2, q2⟩ => ⟨x :: xs, H2, I2, .cons r1 r2, q2⟩

/-- how a call with keywords binds: g puts the positional values us and the keywords' values ws (names ks) in the parameters' order, defaults among them -/
structure KBinds (K : PySem.W.Frag) (fd : FuncData) (ps ks : List Str) (g : List Value → List Value → List Value) (gV : List V → List V → List V) : Prop where
  to : ∀ (s : Shared) (us ws : List Value), K.In s.heap → (g us ws).length = ps.length → BindsTo s fd ⟨us, ks.zip ws⟩ (ps.zip (g us ws))
  rel : ∀ {vs : List V} {us : List Value} {zs : List V} {ws : List Value}, Vals vs us → Vals zs ws → Vals (gV vs zs) (g us ws)
def tCallK (sp : Sp) (gV : List V → List V → List V) (E : XK) (t tk : TA) : TE := fun σ H Q => t σ H fun vs H1 => tk σ H1 fun zs H2 => sp (gV vs zs) H2 Q E
variable {g : List Value → List Value → List Value} {gV : List V → List V → List V}
theorem run_fnk {pins : List (Addr × Obj)} {σ : St} {H : Hp} {s : Shared} {Q : VK} {us ws : List Value} {vs zs : List V} (F : FnOk X.prog X.w X.K X.mg X.base CX k f fd ps sp) (hr : Room k X.A) (hb : KBinds X.K fd ps ks g gV) (hx : Passes CX X E)
    (I : Inv X pins σ H s) (r : Vals vs us) (rz : Vals zs ws) (h : sp (gV vs zs) H Q E) : wpAny (model X.prog X.w) X.A (call (.ref f) us (ks.zip ws)) (EP X pins σ Q) X.xe s := by
  have r2 := hb.rel r rz
  have hl : (g us ws).length = ps.length := by rw [← r2.length]; exact F.len _ _ _ _ h
  refine wpAny_call (codeAny_mono (F.run X.A X.stack s H ⟨us, ks.zip ws⟩ (g us ws) (gV vs zs) Q E hr I.env0 (hb.to s us ws I.kIn hl) r2 h) fun r s' hq => ?_)
  cases r with
  | error e => exact hx pins σ H s e s' I hq
  | ok fl =>
    cases fl with
    | ret u => exact I.after hq
    | next => exact False.elim hq
    | brk => exact False.elim hq
    | cont => exact False.elim hq
/-- f(e, .., k = v, ..) -/
theorem pe_callK (F : FnOk X.prog X.w X.K X.mg X.base CX k f fd ps sp) (hr : Room k X.A) (hg : Gl X x) (hm : X.mg x = some (.ref f)) (hk : PySem.W.keepIn X.K (.ref f) = true) (hb : KBinds X.K fd ps ks g gV) (hx : Passes CX X E)
    (ha : PA X (e :: es) t) (hkw : PK X kws tk) (hall : (backToKw pos (keywordEach kws X.env)).all (·.1.isSome) = true := by rfl) (hks : (backToKw pos (keywordEach kws X.env)).filterMap (·.1) = ks := by rfl)
    (hdb : (x == ("__debug__" : Str)) = false := by decide) (he : starEach (e :: es) X.env = (false, eval e X.env) :: starEach es X.env := by rfl)
    (hpl : ((backTo pos (starEach (e :: es) X.env)).any (·.1) || (backToKw pos (keywordEach kws X.env)).any (·.1.isNone)) = false := by rfl) :
    PE X (.Call (.Name x p) (e :: es) kws pos) (tCallK sp gV E t tk) := by
  intro pins s σ H Q I h
  refine wpAny_Call_Name_kw (ld_glob I hg hm ?_ hdb)
  refine PySem.W.callWith_KW (h₀ := X.base) I.ok.mod.kin hk hall (thn (ha pos pins s σ H _ I h) fun us s1 ⟨vs, H1, I1, r, q⟩ => ?_) hpl he
  refine thn (hkw pos pins s1 σ H1 _ I1 q) fun ws s2 ⟨zs, H2, I2, rz, q2⟩ => ⟨I2.kIn, ?_⟩
  rw [hks]
  exact run_fnk F hr hb hx I2 r rz q2
end

/-! ### a def's body keeps its promise -/
/-- names: the parameters first -/
structure FnScope (N P : List Str) (sc : Scope) : Prop where
  kind : sc.kind = .function
  co : sc.isCoroutine = false
  gen : sc.isGenerator = false
  nd : N.Nodup
  pre : N.take P.length = P
  par : ∀ x ∈ P, sc.names.lookup x = some .local ∨ sc.names.lookup x = some .cell
  nofree : ∀ y ∈ sc.names, y.2 ≠ .free

theorem bindL_out {kindOf : Str → Option NameKind} {x : Str} : ∀ {binds : List (Str × Value)} {m : Str → Option Value}, (∀ v, (x, v) ∉ binds) → bindL kindOf binds m x = m x
  | [], _, _ => rfl
  | (n, v) :: r, m, h => by
    unfold bindL
    rw [bindL_out fun w hw => h w (List.mem_cons_of_mem _ hw)]
    split
    · have : x ≠ n := by rintro rfl; exact h v List.mem_cons_self
      simp [this]
    · rfl
theorem bindC_out {kindOf : Str → Option NameKind} {x : Str} : ∀ {binds : List (Str × Value)} {m : Str → Option Value}, (∀ v, (x, v) ∉ binds) → bindC kindOf binds m x = m x
  | [], _, _ => rfl
  | (n, v) :: r, m, h => by
    unfold bindC
    rw [bindC_out fun w hw => h w (List.mem_cons_of_mem _ hw)]
    split
    · rfl
    · have : x ≠ n := by rintro rfl; exact h v List.mem_cons_self
      simp [this]
theorem bindL_get {kindOf : Str → Option NameKind} {x : Str} {v : Value} : ∀ {P : List Str} {vs : List Value} {i : Nat} {m : Str → Option Value}, P.Nodup → P[i]? = some x → vs[i]? = some v → kindOf x = some .local →
    bindL kindOf (P.zip vs) m x = some v
  | [], _, _, _, _, h, _, _ => by simp at h
  | _ :: _, [], _, _, _, _, h, _ => by simp at h
  | p :: P, w :: vs, 0, m, nd, h1, h2, hk => by
    simp at h1 h2; subst h1; subst h2
    show bindL kindOf ((p, w) :: P.zip vs) m p = _
    unfold bindL
    rw [bindL_out fun v hv => (List.nodup_cons.mp nd).1 (List.of_mem_zip hv).1, if_pos hk]
    simp
  | p :: P, w :: vs, i + 1, m, nd, h1, h2, hk => by
    show bindL kindOf ((p, w) :: P.zip vs) m x = _
    unfold bindL
    exact bindL_get (i := i) (List.nodup_cons.mp nd).2 (by simpa using h1) (by simpa using h2) hk
theorem bindC_get {kindOf : Str → Option NameKind} {x : Str} {v : Value} : ∀ {P : List Str} {vs : List Value} {i : Nat} {m : Str → Option Value}, P.Nodup → P[i]? = some x → vs[i]? = some v → kindOf x ≠ some .local →
    bindC kindOf (P.zip vs) m x = some v
  | [], _, _, _, _, h, _, _ => by simp at h
  | _ :: _, [], _, _, _, _, h, _ => by simp at h
  | p :: P, w :: vs, 0, m, nd, h1, h2, hk => by
    simp at h1 h2; subst h1; subst h2
    show bindC kindOf ((p, w) :: P.zip vs) m p = _
    unfold bindC
    rw [bindC_out fun v hv => (List.nodup_cons.mp nd).1 (List.of_mem_zip hv).1, if_neg hk]
    simp
  | p :: P, w :: vs, i + 1, m, nd, h1, h2, hk => by
    show bindC kindOf ((p, w) :: P.zip vs) m x = _
    unfold bindC
    exact bindC_get (i := i) (List.nodup_cons.mp nd).2 (by simpa using h1) (by simpa using h2) hk

/-- the names' values at the entry -/
def start (N : List Str) (vs : List V) : St := vs.map some ++ List.replicate (N.length - vs.length) none

/-- the context of a def's body, at its entry; an exception leaves the frame, then lies as CX says -/
def cxOf (CX : CXT) (P : Program) (w : World) (K : PySem.W.Frag) (mg : Str → Option Value) (base : Heap) (N : List Str) (qual : Str) (scope : Scope) (f : Addr) (cd : Value) (A : Around) (outer : List Env) (s : Shared) (H : Hp) (E : XK) : Cx where
  prog := P
  w := w
  K := K
  mg := mg
  base := base
  A := A.deeper (envOfC qual scope s.heap.objs.size f cd)
  N := N
  s₀ := s
  H₀ := H
  env := envOfC qual scope s.heap.objs.size f cd
  outer := outer
  stack := envOfC qual scope s.heap.objs.size f cd :: outer
  ex := []
  calm := true
  fn := fun _ => true
  pn := []
  xe := fun e s' => wpAny (model P w) (A.deeper (envOfC qual scope s.heap.objs.size f cd)) (leaving (envOfC qual scope s.heap.objs.size f cd) e) (fun _ s'' => CX outer H s E e s'') (fun e' s'' => CX outer H s E e' s'') s'

theorem cell_has {sc : Scope} {n : Nat} {x : Str} (h : sc.names.lookup x = some .cell) : ∃ c, (cellsFrom n sc.names []).lookup x = some c := by
  have q := PySem.W.cellsFrom_some sc.names n [] (.inl h)
  exact Option.isSome_iff_exists.mp q

theorem inv_start {CX : CXT} {P : Program} {w : World} {K : PySem.W.Frag} {mg : Str → Option Value} {base : Heap} {N ps : List Str} {qual : Str} {scope : Scope} {f : Addr} {cd : Value} {A : Around} {outer : List Env} {s s1 : Shared} {H : Hp} {E : XK} {us : List Value} {vs : List V}
    (S : FnScope N ps scope) (hd : A.handled = none) (e0 : Env0 P w K mg base A outer s H) (hl : vs.length = ps.length) (r : Vals vs us)
    (x : InCallC s s.heap.objs.size (bindL (envOfC qual scope s.heap.objs.size f cd).kindOf (ps.zip us) fun _ => none) (cellsFrom (s.heap.objs.size + 1) scope.names []) (bindC (envOfC qual scope s.heap.objs.size f cd).kindOf (ps.zip us) fun _ => none) s1) :
    Inv (cxOf CX P w K mg base N qual scope f cd A outer s H E) [] (start N vs) H s1 := by
  have hpl : ps.length ≤ N.length := by have := congrArg List.length S.pre; rw [List.length_take] at this; omega
  obtain ⟨h1, tk, rfl, hk⟩ := x.done
  have noA : ∀ b : Addr, b ∉ (cxOf CX P w K mg base N qual scope f cd A outer s H E).ex := fun b z => absurd (show b ∈ ([] : List Addr) from z) (by simp)
  refine ⟨⟨e0.mod, S.kind, rfl, rfl, Nat.le_refl _, fun y z c h1 h2 => ?_, fun y hy => ?_, fun y c _ h => ?_, fun _ => hd, Around.frames_deeper e0.frames, .inr ⟨rfl, rfl⟩, fun b z => absurd z (noA b), e0.bs, e0.bsz, fun b _ _ => noA b, fun b z => absurd z (noA b), e0.funs, e0.frf⟩,
    rfl, e0.bare, Un.kept hk, ⟨_, x.toInCall.ns, fun i y v h1 h2 h3 => ?_⟩, fun y c h => ⟨_, x.cell y c h⟩, e0.hok.fresh (Nat.le_refl _), fun y c h => ?_, fun p hp => absurd (show p ∈ ([] : List (Addr × Obj)) from hp) (by simp), e0.hok.kept hk, ?_⟩
  · exact name_of_addr x.apart (PySem.mem_of_lookup h1) (PySem.mem_of_lookup h2)
  · have hy : scope.names.lookup y = some .cell ∨ scope.names.lookup y = some .free := hy
    rcases hy with hy | hy
    · exact cell_has hy
    · exact absurd rfl (S.nofree _ (PySem.mem_of_lookup hy))
  · exact Nat.le_of_lt (x.above y c (PySem.mem_of_lookup h))
  · have hi : i < vs.length := by
      unfold start at h2
      by_cases hi : i < vs.length
      · exact hi
      · rw [List.getElem?_append_right (by simpa using hi)] at h2
        rw [List.getElem?_replicate] at h2
        split at h2 <;> cases h2
    have ha : vs[i]? = some v := by
      unfold start at h2
      rw [List.getElem?_append_left (by simpa using hi), List.getElem?_map] at h2
      cases e : vs[i]? with
      | none => rw [e] at h2; cases h2
      | some a => rw [e] at h2; cases h2; rfl
    obtain ⟨u, hu, rv⟩ := r.get ha
    have hp : ps[i]? = some y := by
      rw [← S.pre, List.getElem?_take_of_lt (by omega)]; exact h1
    have ndP : ps.Nodup := by rw [← S.pre]; exact S.nd.sublist (List.take_sublist _ _)
    refine ⟨u, rv, ?_⟩
    rcases S.par y (List.mem_of_getElem? hp) with k | k
    · exact .inl ⟨k, bindL_get ndP hp hu k⟩
    · obtain ⟨c, e⟩ := cell_has (n := s.heap.objs.size + 1) k
      refine .inr ⟨.inl k, c, e, ?_⟩
      have q := x.cell y c e
      rw [bindC_get ndP hp hu (by show scope.names.lookup y ≠ _; rw [k]; decide)] at q
      exact q
  · exact e0.hok.fresh (Nat.le_of_lt (x.above y c (PySem.mem_of_lookup h)))
  · unfold start
    show _ = N.length
    rw [List.length_append, List.length_map, List.length_replicate]
    omega

/-- THE RULE: a def (or a method) of the text, by its body. The body's reading t is chosen for each entry; it is run at the parameters' values -/
theorem fn_of {CX : CXT} {P : Program} {w : World} {K : PySem.W.Frag} {mg : Str → Option Value} {base : Heap} {k : Nat} {f : Addr} {name qual : Str} {params : Arguments} {body : List Stmt} {scope : Scope} {dV kV doc pm cdv ct oc : Value} {an od : Option Addr}
    {osl : Array (Option Value)} {N ps : List Str} {sp : Sp} (lk : K.lookup f = some ⟨oc, od, .func (PySem.W.fnOf name qual params body scope dV kV doc pm an cdv ct), osl⟩) (hcd : PySem.W.codeIn K cdv qual = true) (S : FnScope N ps scope)
    (len : ∀ vs H Q E, sp vs H Q E → vs.length = ps.length)
    (hbody : ∀ (A : Around) (outer : List Env) (s : Shared) (H : Hp) (vs : List V) (Q : VK) (E : XK), Room k (A.deeper (envOfC qual scope s.heap.objs.size f cdv)) → sp vs H Q E →
      ∃ t, PSs (cxOf CX P w K mg base N qual scope f cdv A outer s H E) body t ∧ t { nx := fun _ H' => Q .non H', rt := Q } (start N vs) H) :
    FnOk P w K mg base CX (k + 1) f (PySem.W.fnOf name qual params body scope dV kV doc pm an cdv ct) ps sp := by
  refine ⟨len, fun A outer s H args us vs Q E hr e0 hb r hsp => ?_⟩
  have hl := len _ _ _ _ hsp
  have KX : K.In s.heap := e0.mod.kin.keeps fun b o e => (e0.bs b o e).1
  have lim : s.heap.NoLimit := e0.mod.nolimit.keeps fun b o e => (e0.bs b o e).1
  have hkind : ∀ y ∈ ps.zip us, scope.names.lookup y.1 = some .local ∨ (scope.names.lookup y.1 = some .cell ∧ ((cellsFrom (s.heap.objs.size + 1) scope.names []).lookup y.1).isSome = true) := fun ⟨n, v⟩ hy => by
    rcases S.par n (List.of_mem_zip hy).1 with q | q
    · exact .inl q
    · exact .inr ⟨q, PySem.W.cellsFrom_some _ _ _ (.inl q)⟩
  refine codeAny_call_function hr.depth (KX _ _ lk) rfl S.co S.gen rfl (PySem.W.codeRec_of KX hcd) (hb _ _ _ _ ?_)
  refine wpAny_newFunctionEnv_cells S.kind hkind fun env he s1 x => ?_
  subst he
  refine ⟨lim.keeps x.toInCall.keep, codeAny_func ?_⟩
  obtain ⟨t, ht, hq⟩ := hbody A outer s H vs Q E (hr.deeper _) hsp
  have I : Inv (cxOf CX P w K mg base N qual scope f cdv A outer s H E) [] (start N vs) H s1 := inv_start S hr.hd e0 hl r x
  refine wpAny_mono (ht [] s1 (start N vs) H _ I hq) (fun fl s' hs => ?_) fun e s' hs => hs
  have fin : ∀ {σ' : St} {H' : Hp} {v : V} {u : Value}, Inv (cxOf CX P w K mg base N qual scope f cdv A outer s H E) [] σ' H' s' → RelV v u → Q v H' → CE outer P w H s Q u s' :=
    fun {σ' H' v u} J rv q => ⟨v, H', J.os, J.bare, J.base, J.hok, rv, q⟩
  cases fl with
  | ret u =>
    obtain ⟨v, σ', H', J, rv, q⟩ := hs
    exact fin J rv q
  | next =>
    obtain ⟨σ', H', J, q⟩ := hs
    exact fin (v := V.non) (u := Value.none) J rfl q
  | brk =>
    obtain ⟨_, _, _, q⟩ := hs
    exact False.elim q
  | cont =>
    obtain ⟨_, _, _, q⟩ := hs
    exact False.elim q
end L2

namespace L2
open PySem PySem.Spec PyProof.Rows
section
variable {X : Cx} {x : Str} {p pos : Pos} {e : Expr} {es : List Expr} {t : TA} {id T : String} {r : List V → Hp → VK → Prop}

def tCB (r : List V → Hp → VK → Prop) (t : TA) : TE := fun σ H Q => t σ H fun vs H1 => r vs H1 Q
/-- f(e, ..), f a built-in function -/
theorem pe_callB (hc : CallR X (.builtin id) r) (hg : Gl X x) (hm : X.mg x = none) (hv : bootBuiltins x = some (.builtin id)) (ha : PA X (e :: es) t) (hn : x ≠ "__name__" := by decide) (hdb : (x == ("__debug__" : Str)) = false := by decide)
    (he : starEach (e :: es) X.env = (false, eval e X.env) :: starEach es X.env := by rfl) (hpl : (backTo pos (starEach es X.env)).any (·.1) = false := by rfl) : PE X (.Call (.Name x p) (e :: es) [] pos) (tCB r t) := by
  intro pins s σ H Q I h
  refine wpAny_Call_Name_kw (ld_blt I hg hm hv ?_ hn hdb)
  exact PyProof.Rows.callWith_builtin1 (thn (ha pos pins s σ H _ I h) fun us s1 ⟨vs, H1, I1, r1, q1⟩ => hc pins s1 σ H1 vs us Q I1 r1 q1) he hpl
/-- T(e, ..), T a built-in type -/
theorem pe_callTy (hc : CallR X (.type T) r) (hg : Gl X x) (hm : X.mg x = none) (hv : bootBuiltins x = some (.type T)) (ha : PA X (e :: es) t) (hn : x ≠ "__name__" := by decide) (hdb : (x == ("__debug__" : Str)) = false := by decide)
    (he : starEach (e :: es) X.env = (false, eval e X.env) :: starEach es X.env := by rfl) (hpl : (backTo pos (starEach es X.env)).any (·.1) = false := by rfl) : PE X (.Call (.Name x p) (e :: es) [] pos) (tCB r t) := by
  intro pins s σ H Q I h
  refine wpAny_Call_Name_kw (ld_blt I hg hm hv ?_ hn hdb)
  exact PyProof.Rows.callWith_type1 (thn (ha pos pins s σ H _ I h) fun us s1 ⟨vs, H1, I1, r1, q1⟩ => hc pins s1 σ H1 vs us Q I1 r1 q1) he hpl
/-- T() -/
theorem pe_callTy0 (hc : CallR X (.type T) r) (hg : Gl X x) (hm : X.mg x = none) (hv : bootBuiltins x = some (.type T)) (hn : x ≠ "__name__" := by decide) (hdb : (x == ("__debug__" : Str)) = false := by decide) :
    PE X (.Call (.Name x p) [] [] pos) (tCB r tNil) := by
  intro pins s σ H Q I h
  refine wpAny_Call_Name_kw (ld_blt I hg hm hv ?_ hn hdb)
  exact PyProof.Rows.callWith_type0 (hc pins s σ H [] [] Q I .nil h)
end
end L2

namespace HT
open PySem PyProof.Rows

/-- t < u of tuples of ints -/
def lexLt : List Int → List Int → Bool
  | [], [] => false
  | [], _ :: _ => true
  | _ :: _, [] => false
  | x :: xs, y :: ys => if x = y then lexLt xs ys else decide (x < y)
theorem lexLt_cons (x y : Int) (xs ys : List Int) : lexLt (x :: xs) (y :: ys) = if x = y then lexLt xs ys else decide (x < y) := rfl
theorem lexLt_nil_nil : lexLt [] [] = false := rfl
theorem lexLt_nil_cons (y : Int) (ys : List Int) : lexLt [] (y :: ys) = true := rfl
theorem lexLt_cons_nil (x : Int) (xs : List Int) : lexLt (x :: xs) [] = false := rfl

theorem eqAt_int (A : Around) (s : Shared) (a : Int) (t : Tok) (c : Int) (u : Tok) : ∃ e, SeqAt.EqAt A s (.int a t) (.int c u) e ∧ (e = true ↔ a = c) :=
  ⟨(a == c), SeqAt.EqAt.int_int a t c u, by simp⟩
theorem rcLt_int (A : Around) (s : Shared) (a : Int) (t : Tok) (c : Int) (u : Tok) (prog : Program) (w : World) (E : Value → Shared → Prop) (Q : Value → Shared → Prop) (h : Q (.bool (decide (a < c))) s) :
    wpAny (model prog w) A (richCompare .Lt (.int a t) (.int c u)) Q E s :=
  (PyProof.Rows.lt_int h : wpAny (model prog w) A (compareOp .Lt (.int a t) (.int c u)) Q E s)

section
open PySem.SeqAt
open PySem.AutoSeq1 (wpAny_loadPart')
open PySem.MeetsSeq PySem.MeetsSeq2 PySem.MeetsSeq3

theorem tuple_lt_ints (l b : Addr) (items items2 : Array Value) (n n2 : Nat) (dd dd2 : Option Addr) (sl sl2 : Array (Option Value)) (ns ms : List Int) (hi : IntsAre items.toList ns) (hj : IntsAre items2.toList ms) :
    Meets (Builtin.«tuple.__lt__» ⟨[.ref l, .ref b], []⟩)
      (fun _ R s => s.heap.get? l = some { cls := .type "tuple", dict := dd, data := .seq items n, slots := sl } ∧ s.heap.get? b = some { cls := .type "tuple", dict := dd2, data := .seq items2 n2, slots := sl2 } ∧
        R (.ok (.ret (.bool (lexLt ns ms)))) s) :=
  .of_wp fun prog w A R s h => by
    obtain ⟨hp, g, d, tk, os⟩ := s; obtain ⟨hl, hb, h⟩ := h
    have f2 := AutoSeq1.sub_tuple_tuple
    have z1 : items.size = ns.length := by rw [← hi.length]; simp
    have z2 : items2.size = ms.length := by rw [← hj.length]; simp
    wp_walk using wpAny_loadPart' hl, wpAny_loadPart' hb, wpAny_forIn_list _ (fun rest b s' => b.1 = none ∧ s' = ⟨hp, g, d, tk, os⟩ ∧ ∃ (vs ws : List Value) (ns' ms' : List Int), rest = vs.zip ws ∧
      IntsAre vs ns' ∧ IntsAre ws ms' ∧ ns'.length + items2.size = ms'.length + items.size ∧ R (.ok (.ret (.bool (lexLt ns' ms')))) ⟨hp, g, d, tk, os⟩) _
    case turn =>
      rintro ⟨y, x⟩ rest b s' ⟨hb', rfl, vs, ws, ns', ms', hz, hvi, hwi, hlen, hR⟩
      cases hvi with
      | nil => rw [List.zip_nil_left] at hz; cases hz
      | cons a t hvi' =>
        cases hwi with
        | nil => rw [List.zip_nil_right] at hz; cases hz
        | cons c u hwi' =>
          rw [List.zip_cons_cons] at hz
          injection hz with hyx hrest
          injection hyx with hy hx
          subst hy hx
          rw [lexLt_cons] at hR
          simp only [List.length_cons] at hlen
          obtain ⟨e, he, hiff⟩ := eqAt_int A.in1 ⟨hp, g, d, tk, os⟩ a t c u
          refine wpAny_bind (he prog w _ _ ?_)
          cases e with
          | true =>
            rw [if_pos (hiff.mp rfl)] at hR
            wp_walk
            exact ⟨rfl, rfl, _, _, _, _, hrest, hvi', hwi', by omega, hR⟩
          | false =>
            rw [if_neg (fun q => absurd (hiff.mpr q) Bool.false_ne_true)] at hR
            have hri := rcLt_int A.in1 ⟨hp, g, d, tk, os⟩ a t c u prog w
            wp_walk using hri
            exact ⟨_, rfl, by simpa using hR⟩
    case fin =>
      rintro ⟨b1, b2⟩ s' ⟨hb', rfl, vs, ws, ns', ms', hz, hvi, hwi, hlen, hR⟩
      simp only at hb'
      subst hb'
      have hv : lexLt ns' ms' = decide (items.size < items2.size) := by
        cases hvi with
        | nil =>
          cases hwi with
          | nil =>
            simp only [List.length_nil] at hlen
            rw [lexLt_nil_nil]
            exact (decide_eq_false (by omega)).symm
          | cons c u hw =>
            simp only [List.length_nil, List.length_cons] at hlen
            rw [lexLt_nil_cons]
            exact (decide_eq_true (by omega)).symm
        | cons a t hv =>
          cases hwi with
          | nil =>
            simp only [List.length_nil, List.length_cons] at hlen
            rw [lexLt_cons_nil]
            exact (decide_eq_false (by omega)).symm
          | cons c u hw =>
            rw [List.zip_cons_cons] at hz
            cases hz
      rw [hv] at hR
      wp_walk
      exact ⟨_, rfl, by simpa [Builtin.Tuple.tupleCompareSizes] using hR⟩
    case h =>
      exact ⟨rfl, rfl, items.toList, items2.toList, ns, ms, rfl, hi, hj, by omega, h⟩
end

section
variable {prog : Program} {w : World} {A : Around} {E : Value → Shared → Prop} {s : Shared}

theorem lt_tupInts {l b : Addr} {items items2 : Array Value} {ns ms : List Int} {Q : Value → Shared → Prop} (hl : IsTup s.heap l items) (hb : IsTup s.heap b items2) (hi : IntsAre items.toList ns) (hj : IntsAre items2.toList ms)
    (hu : A.units < cLine) (h : Q (.bool (lexLt ns ms)) s) : wpAny (model prog w) A (compareOp .Lt (.ref l) (.ref b)) Q E s := by
  obtain ⟨⟨cls, dd, data, sl⟩, ho, hc, n, hd⟩ := id hl
  obtain ⟨⟨cls2, dd2, data2, sl2⟩, ho2, hc2, n2, hd2⟩ := id hb
  simp only at hc hd hc2 hd2
  subst hc hd hc2 hd2
  exact richCompare_meets_room (op := .Lt) ⟨_, ho, rfl⟩ ⟨_, ho2, rfl⟩ PySem.F.slot_tuple_lt PySem.F.entry_tuple_lt (PySem.F.args_tuple_lt_2 _ _) (tuple_lt_ints l b items items2 n n2 dd dd2 sl sl2 ns ms hi hj)
    ⟨ho, ho2, show Value.bool (lexLt ns ms) ≠ Value.notImplemented ∧ Q (.bool (lexLt ns ms)) s from ⟨(fun x => nomatch x), h⟩⟩ hu

/-- t + u, t not empty -/
theorem cat_tup {t b : Addr} {vs ws : List Value} {Q : Value → Shared → Prop} (ht : IsTup s.heap t vs.toArray) (hb : IsTup s.heap b ws.toArray) (hv : vs ≠ [])
    (h1 : ws = [] → Q (.ref t) s) (h2 : ws ≠ [] → Q (.ref s.heap.objs.size) { s with heap := s.heap.push { cls := .type "tuple", data := .seq (vs ++ ws).toArray } })
    (hsz : vs.length + ws.length ≤ sizeLine) : wpAny (model prog w) A (binaryOp .Add (.ref t) (.ref b)) Q E s := by
  obtain ⟨⟨cls, dd, data, sl⟩, ho, hc, n, hd⟩ := id ht
  obtain ⟨⟨cls2, dd2, data2, sl2⟩, ho2, hc2, n2, hd2⟩ := id hb
  simp only at hc hd hc2 hd2
  subst hc hd hc2 hd2
  have e : vs.toArray ++ ws.toArray = (vs ++ ws).toArray := by simp
  by_cases hw : ws = []
  · exact concat_meets ⟨_, ho, rfl⟩ ⟨_, ho2, rfl⟩ noFill_tuple_add seq_tuple_add PySem.F.slot_tuple_add PySem.F.entry_tuple_add (PySem.F.args_tuple_add_2 _ _)
      (tuple_addW1 t b vs.toArray ws.toArray n n2 dd dd2 sl sl2 (by simpa using hv) (by simp [hw])) ⟨ho, ho2, h1 hw⟩
  · refine concat_meets ⟨_, ho, rfl⟩ ⟨_, ho2, rfl⟩ noFill_tuple_add seq_tuple_add PySem.F.slot_tuple_add PySem.F.entry_tuple_add (PySem.F.args_tuple_add_2 _ _)
      (tuple_addW2 t b vs.toArray ws.toArray n n2 dd dd2 sl sl2 (by simpa using hv) (by simpa using hw) (by rw [List.size_toArray, List.size_toArray]; exact hsz)) ⟨ho, ho2, ?_⟩
    rw [e]
    exact h2 hw

/-! ### t[a:b], not the whole -/
/-- a slice's bound as a place among n (d where it is left out) -/
def sIx (n d : Nat) : Option Int → Nat
  | none => d
  | some v => if v < 0 then (v + (n : Int)).toNat else min v.toNat n
theorem sIx_none (n d : Nat) : sIx n d none = d := rfl
theorem sIx_nat (n d k : Nat) : sIx n d (some (k : Int)) = min k n := by
  show (if (k : Int) < 0 then ((k : Int) + (n : Int)).toNat else min (k : Int).toNat n) = min k n
  rw [if_neg (by omega), Int.toNat_natCast]
theorem sIx_le (n d : Nat) (hd : d ≤ n) (o : Option Int) : sIx n d o ≤ n := by
  cases o with
  | none => exact hd
  | some v =>
    show (if v < 0 then (v + (n : Int)).toNat else min v.toNat n) ≤ n
    by_cases hv : v < 0
    · rw [if_pos hv]; omega
    · rw [if_neg hv]; exact Nat.min_le_right _ _
theorem clip_eq (v : Int) (n d : Nat) : (if v < 0 then max (v + (n : Int)) 0 else min v (n : Int)) = ((sIx n d (some v) : Nat) : Int) := by
  show (if v < 0 then max (v + (n : Int)) 0 else min v (n : Int)) = (((if v < 0 then (v + (n : Int)).toNat else min v.toNat n) : Nat) : Int)
  by_cases hv : v < 0
  · simp only [if_pos hv]; omega
  · simp only [if_neg hv]; omega
theorem adjust_gen (lo hi : Option Int) (n : Nat) : Builtin.Slice.sliceAdjust lo hi 1 (n : Int) = (((sIx n 0 lo : Nat) : Int), ((sIx n n hi : Nat) : Int)) := by
  have h1 : ¬ ((1 : Int) < 0) := by omega
  unfold Builtin.Slice.sliceAdjust
  simp only [h1, if_false]
  refine Prod.ext ?_ ?_
  · cases lo with
    | none => rfl
    | some v => exact clip_eq v n 0
  · cases hi with
    | none => rfl
    | some v => exact clip_eq v n n
theorem places_gen (i j : Nat) : Builtin.Slice.slicePlaces (i : Int) (j : Int) 1 = j - i := by
  unfold Builtin.Slice.slicePlaces
  have h1 : (1 : Int) > 0 := by omega
  simp only [h1, if_true, Int.ediv_one]
  split <;> omega
theorem slicePart_ {v : Value} {o : Option Int} {Q : Option Int → Shared → Prop} (p : IsPart v o) (h : Q o s) : wpAny (model prog w) A (Builtin.Slice.slicePartIndex v) Q E s := by
  cases p with
  | none => exact slicePart_none h
  | int i t => exact slicePart_int h
theorem sliceApplied_gen {sl : Addr} {vl vu : Value} {lo hi : Option Int} {n : Nat} {Q : Int × Int × Nat → Shared → Prop} (hs : s.heap.IsSliceOf sl vl vu .none) (pl : IsPart vl lo) (pu : IsPart vu hi)
    (h : Q (((sIx n 0 lo : Nat) : Int), 1, sIx n n hi - sIx n 0 lo) s) : wpAny (model prog w) A (Builtin.Slice.sliceApplied (.ref sl) (pure (n : Int))) Q E s := by
  obtain ⟨os, hos, hcs, hds⟩ := id hs
  unfold Builtin.Slice.sliceApplied Builtin.Slice.sliceFields
  refine wpAny_bind (wpAny_bind (wpAny_field hos hds (x := vl) rfl (wpAny_bind (wpAny_field hos hds (x := vu) rfl (wpAny_bind (wpAny_field hos hds (x := .none) rfl (wpAny_pure ?_)))))))
  refine wpAny_bind (slicePart_none ?_)
  show wpAny _ _ (if ((1 : Int) == 0) = true then _ else _) _ _ s
  rw [if_neg (by decide)]
  refine wpAny_bind (slicePart_ pl (wpAny_bind (slicePart_ pu (wpAny_bind (wpAny_pure ?_)))))
  show wpAny _ _ (match Builtin.Slice.sliceAdjust lo hi 1 (n : Int) with | (lo, hi) => pure (lo, (1 : Int), Builtin.Slice.slicePlaces lo hi 1)) _ _ s
  rw [adjust_gen lo hi n]
  show wpAny _ _ (pure (((sIx n 0 lo : Nat) : Int), (1 : Int), Builtin.Slice.slicePlaces ((sIx n 0 lo : Nat) : Int) ((sIx n n hi : Nat) : Int) 1)) _ _ s
  rw [places_gen]
  exact wpAny_pure h
theorem pick_gen (xs : Array Value) (i k : Nat) : ((List.range k).filterMap fun (m : Nat) => xs[((i : Int) + (m : Int) * 1).toNat]?).toArray = ((xs.toList.drop i).take k).toArray := by
  have e : (fun (m : Nat) => xs[((i : Int) + (m : Int) * 1).toNat]?) = fun m => xs[i + m]? := by
    funext m
    have : ((i : Int) + (m : Int) * 1).toNat = i + m := by omega
    rw [this]
  rw [e]
  have := pick_run xs i k
  rw [List.filterMap_map] at this
  have e2 : ((fun x => xs[x]?) ∘ fun x => i + x) = fun m => xs[i + m]? := rfl
  rw [e2] at this
  rw [this]

theorem getItem_tuple_cut {t sl : Addr} {items : Array Value} {vl vu : Value} {lo hi : Option Int} {Q : Value → Shared → Prop} (ht : IsTup s.heap t items) (hs : s.heap.IsSliceOf sl vl vu .none) (pl : IsPart vl lo) (pu : IsPart vu hi)
    (hw : ¬ (sIx items.size 0 lo = 0 ∧ sIx items.size items.size hi = items.size))
    (h : Q (.ref s.heap.objs.size) { s with heap := s.heap.push { cls := .type "tuple", data := .seq ((items.toList.drop (sIx items.size 0 lo)).take (sIx items.size items.size hi - sIx items.size 0 lo)).toArray } })
    (hsz : items.size ≤ sizeLine) : wpAny (model prog w) A (getItem (.ref t) (.ref sl)) Q E s := by
  have htake : sizeOk (.seq ((items.toList.drop (sIx items.size 0 lo)).take (sIx items.size items.size hi - sIx items.size 0 lo)).toArray) := by
    show ((items.toList.drop (sIx items.size 0 lo)).take (sIx items.size items.size hi - sIx items.size 0 lo)).toArray.size ≤ sizeLine
    rw [List.size_toArray, List.length_take, List.length_drop, Array.length_toList]
    omega
  have hj : sIx items.size items.size hi ≤ items.size := sIx_le _ _ (Nat.le_refl _) hi
  obtain ⟨os, hos, hcs, hds⟩ := id hs
  have hTs : s.TypeIs (.ref sl) "slice" := ⟨os, hos, hcs⟩
  unfold getItem
  try with_reducible refine wpAny_holding ?_
  first | refine wpAny_bind (wpAny_pure ?_) | skip
  refine wpAny_bind (wpAny_sequenceKey ht.typeIs (by decide) ?_)
  refine wpAny_bind (wpAny_callSpecial?_slot (name := Str.ofString "__getitem__") ht.typeIs PyProof.Rows.slot_tuple_getitem
    (wpAny_call_entry PyProof.Rows.slot_tuple_getitem ht.typeIs entry_tuple_getitem ?_ (args_tuple_getitem _ _)))
  show wpAny _ _ (Builtin.Tuple.tupleItemsOf (.ref t) >>= _) _ _ s
  refine wpAny_bind (tupleItemsOf_ ht ?_)
  refine wpAny_bind (wpAny_typeOf hTs ?_)
  rw [if_pos (by decide)]
  refine wpAny_bind (sliceApplied_gen hs pl pu ?_)
  have hno : ¬ ((((sIx items.size 0 lo : Nat) : Int) == 0 && (1 : Int) == 1 && (sIx items.size items.size hi - sIx items.size 0 lo) == items.size) = true) := by
    intro q
    rw [Bool.and_eq_true, Bool.and_eq_true] at q
    have q1 : ((sIx items.size 0 lo : Nat) : Int) = 0 := eq_of_beq q.1.1
    have q2 : sIx items.size items.size hi - sIx items.size 0 lo = items.size := eq_of_beq q.2
    exact hw ⟨by omega, by omega⟩
  show wpAny _ _ (if (((sIx items.size 0 lo : Nat) : Int) == 0 && (1 : Int) == 1 && (sIx items.size items.size hi - sIx items.size 0 lo) == items.size) = true then _ else _) _ _ s
  rw [if_neg hno, pick_gen]
  first
    | exact wpAny_bind (m := Builtin.Tuple.tupleExact _) (wpAny_newObj_type (wpAny_pure ⟨_, rfl, wpAny_pure h⟩) htake)
    | exact wpAny_bind (m := Builtin.Tuple.tupleExact _) (wpAny_newObj_type (wpAny_bind (wpAny_pure (wpAny_pure ⟨_, rfl, wpAny_pure h⟩))) htake)
    | exact wpAny_bind (wpAny_bind (m := Builtin.Tuple.tupleExact _) (wpAny_newObj_type (wpAny_pure (wpAny_pure ⟨_, rfl, wpAny_pure h⟩)) htake))
    | exact wpAny_bind (wpAny_bind (m := Builtin.Tuple.tupleExact _) (wpAny_newObj_type (wpAny_pure ⟨_, rfl, wpAny_pure h⟩) htake))
end
end HT

namespace L2
open PySem PySem.Spec PyProof.Rows

/-! ### the parts of a slice -/
abbrev TO := St → Hp → (Option Int → Hp → Prop) → Prop
/-- a slice's part (left out, or an int) -/
def PO (X : Cx) (e : Option Expr) (t : TO) : Prop :=
  ∀ (pins : List (Addr × Obj)) (s : Shared) (σ : St) (H : Hp) (Q : Option Int → Hp → Prop), Inv X pins σ H s → t σ H Q →
    wpAny (model X.prog X.w) X.A (evalPart e X.env) (fun u s' => ∃ o H', Inv X pins σ H' s' ∧ IsPart u o ∧ Q o H') X.xe s
def tNoPart : TO := fun _ H Q => Q none H
def tPart (t : TE) : TO := fun σ H Q => t σ H fun x H1 => ∃ i, x = .int i ∧ Q (some i) H1

theorem intsAre_of {ns : List Int} : ∀ {us : List Value}, Vals (ns.map V.int) us → IntsAre us ns := by
  induction ns with
  | nil => intro us r; rw [List.map_nil] at r; cases r; exact .nil
  | cons n ns ih =>
    intro us r
    rw [List.map_cons] at r
    cases r with
    | cons r1 r2 =>
      obtain ⟨t, e⟩ := r1
      subst e
      exact .cons n t (ih r2)

section
variable {X : Cx} {e : Expr} {te : TE} {lo hi : Option Expr} {tl th : TO} {pos p2 : Pos}

theorem po_none : PO X none tNoPart := by
  intro pins s σ H Q I h
  rw [evalPart_none]
  exact wpAny_pure ⟨none, H, I, .none, h⟩
theorem po_some (h : PE X e te) : PO X (some e) (tPart te) := by
  intro pins s σ H Q I hw
  rw [evalPart_some]
  refine thn (h pins s σ H _ I hw) fun u s1 ⟨x, H1, I1, r1, q1⟩ => ?_
  obtain ⟨i, rfl, q⟩ := q1
  obtain ⟨t, rfl⟩ := r1
  exact ⟨some i, H1, I1, .int i t, q⟩

/-- what a slice of a value is, by values: the slice object stands at sl -/
def SlR (X : Cx) (r : V → Option Int → Option Int → Hp → VK → Prop) : Prop :=
  ∀ (pins : List (Addr × Obj)) (s : Shared) (σ : St) (H : Hp) (x : V) (v vl vu : Value) (lo hi : Option Int) (sl : Addr) (Q : VK), Inv X pins σ H s → RelV x v → s.heap.IsSliceOf sl vl vu .none → IsPart vl lo → IsPart vu hi → r x lo hi H Q →
    ∃ T id, typeLookup (.type T) "__getitem__" = pure (some (.builtin id)) ∧ s.TypeIs v T ∧ wpAny (model X.prog X.w) X.A (getItem v (.ref sl)) (EP X pins σ Q) X.xe s
theorem SlR.or {r r' : V → Option Int → Option Int → Hp → VK → Prop} (h : SlR X r) (h' : SlR X r') : SlR X (fun x lo hi H Q => r x lo hi H Q ∨ r' x lo hi H Q) := by
  intro pins s σ H x v vl vu lo hi sl Q I rx hs pl pu q
  rcases q with q | q
  · exact h pins s σ H x v vl vu lo hi sl Q I rx hs pl pu q
  · exact h' pins s σ H x v vl vu lo hi sl Q I rx hs pl pu q
def tSl (r : V → Option Int → Option Int → Hp → VK → Prop) (te : TE) (tl th : TO) : TE := fun σ H Q => te σ H fun x H1 => tl σ H1 fun l H2 => th σ H2 fun u H3 => r x l u H3 Q
/-- a[lo:hi], any a -/
theorem pe_slice {r : V → Option Int → Option Int → Hp → VK → Prop} (hr : SlR X r) (he : PE X e te) (hl : PO X lo tl) (hu : PO X hi th) : PE X (.Subscript e (.Slice lo hi none p2) pos) (tSl r te tl th) := by
  intro pins s σ H Q I h
  refine Subscript_ (thn (he pins s σ H _ I h) fun v s1 ⟨x, H1, I1, r1, q1⟩ => ?_)
  refine wpAny_Slice (thn (hl pins s1 σ H1 _ I1 q1) fun vl s2 ⟨l, H2, I2, pl, q2⟩ => thn (hu pins s2 σ H2 _ I2 q2) fun vu s3 ⟨u, H3, I3, pu, q3⟩ => ?_)
  rw [evalPart_none]
  refine wpAny_pure ?_
  have I4 : Inv X pins σ H3 { s3 with heap := s3.heap.push { cls := .type "slice", data := .fields #[vl, vu, .none] } } := I3.kept (t' := s3.toks) fun b ob q => Heap.get?_push_of_some _ q
  obtain ⟨T, id, hT, ht, hg⟩ := hr pins { s3 with heap := s3.heap.push { cls := .type "slice", data := .fields #[vl, vu, .none] } } σ H3 x v vl vu l u s3.heap.objs.size Q I4 r1 (Heap.IsSliceOf.new ..) pl pu q3
  show wpAny (model X.prog X.w) X.A (subscriptTail e (.Slice lo hi none p2) v (.ref s3.heap.objs.size)) (EP X pins σ Q) X.xe { s3 with heap := s3.heap.push { cls := .type "slice", data := .fields #[vl, vu, .none] } }
  exact tail_any (ops := [.ref s3.heap.objs.size, v]) ht hT hg (by with_unfolding_all rfl)

/-- the items of xs[lo:hi] -/
def cutV (xs : List V) (lo hi : Option Int) : List V := (xs.drop (HT.sIx xs.length 0 lo)).take (HT.sIx xs.length xs.length hi - HT.sIx xs.length 0 lo)
theorem cutV_length (xs : List V) (lo hi : Option Int) : (cutV xs lo hi).length ≤ xs.length := by
  unfold cutV
  rw [List.length_take, List.length_drop]
  omega
/-- t[lo:hi], not the whole of it (the whole would be t itself) -/
def rSlT (K : PySem.W.Frag) : V → Option Int → Option Int → Hp → VK → Prop := fun x lo hi H Q => ∃ a xs, x = .ref a ∧ SqT K H a xs ∧
  ¬ (HT.sIx xs.length 0 lo = 0 ∧ HT.sIx xs.length xs.length hi = xs.length) ∧ ∀ p, H p = none → Q (.ref p) (upd H p (.tup (cutV xs lo hi)))
theorem sl_tup : SlR X (rSlT X.K) := by
  intro pins s σ H x v vl vu lo hi sl Q I rx hs pl pu h
  obtain ⟨a, xs, rfl, hx, hw, q⟩ := h
  cases rx
  obtain ⟨its, r, ht, hz⟩ := I.tuple hx
  have hlen : its.toArray.size = xs.length := by rw [List.size_toArray]; exact r.length.symm
  refine ⟨"tuple", _, PyProof.Rows.slot_tuple_getitem.lookup, ht.typeIs, ?_⟩
  refine HT.getItem_tuple_cut ht hs pl pu (by rw [hlen]; exact hw) ?_ (by rw [hlen]; exact hz)
  rw [hlen]
  refine ⟨.ref s.heap.objs.size, _, I.laid (t' := s.toks) (o := .tup (cutV xs lo hi)) (fun b ob q => Heap.get?_push_of_some _ q) (Nat.le_refl _) ?_, rfl, q _ (I.hok.fresh (Nat.le_refl _))⟩
  exact ⟨Nat.le_trans (cutV_length xs lo hi) hz, _, (r.drop (HT.sIx xs.length 0 lo)).take (HT.sIx xs.length xs.length hi - HT.sIx xs.length 0 lo), IsTup.new _ _⟩

/-! ### t < u, t + u -/
def rLtT (K : PySem.W.Frag) : R2 := fun x y H Q => ∃ a b ns ms, x = .ref a ∧ y = .ref b ∧ SqT K H a (ns.map V.int) ∧ SqT K H b (ms.map V.int) ∧ Q (.bl (HT.lexLt ns ms)) H
theorem op_ltT (hu : X.A.units < cLine) : OpR X (compareOp .Lt) (rLtT X.K) := by
  intro pins s σ H x y v u Q I rx ry h
  obtain ⟨a, b, ns, ms, rfl, rfl, ha, hb, q⟩ := h
  cases rx
  cases ry
  obtain ⟨its, r1, p1, _⟩ := I.tuple ha
  obtain ⟨its2, r2, p2, _⟩ := I.tuple hb
  have i1 : IntsAre its.toArray.toList ns := intsAre_of r1
  have i2 : IntsAre its2.toArray.toList ms := intsAre_of r2
  exact HT.lt_tupInts p1 p2 i1 i2 hu ⟨.bl (HT.lexLt ns ms), H, I, rfl, q⟩
/-- t + u, t not empty: u empty gives t itself -/
def rCatT (K : PySem.W.Frag) : R2 := fun x y H Q => ∃ a b xs ys, x = .ref a ∧ y = .ref b ∧ SqT K H a xs ∧ SqT K H b ys ∧ xs ≠ [] ∧ xs.length + ys.length ≤ sizeLine ∧
  (ys = [] → Q (.ref a) H) ∧ (ys ≠ [] → ∀ p, H p = none → Q (.ref p) (upd H p (.tup (xs ++ ys))))
theorem Vals.nil_iff {xs : List V} {us : List Value} (r : Vals xs us) : us = [] ↔ xs = [] := by
  cases r with
  | nil => simp
  | cons _ _ => simp
theorem op_catT : OpR X (binaryOp .Add) (rCatT X.K) := by
  intro pins s σ H x y v u Q I rx ry h
  obtain ⟨a, b, xs, ys, rfl, rfl, ha, hb, hx, hz, q1, q2⟩ := h
  cases rx
  cases ry
  obtain ⟨its, r1, p1, _⟩ := I.tuple ha
  obtain ⟨its2, r2, p2, _⟩ := I.tuple hb
  refine HT.cat_tup p1 p2 (fun z => hx (r1.nil_iff.mp z)) (fun z => ⟨.ref a, H, I, rfl, q1 (r2.nil_iff.mp z)⟩) (fun z => ?_) (by rw [← r1.length, ← r2.length]; exact hz)
  refine ⟨.ref s.heap.objs.size, _, I.laid (t' := s.toks) (o := .tup (xs ++ ys)) (fun b ob q => Heap.get?_push_of_some _ q) (Nat.le_refl _) ?_, rfl, q2 (fun w => z (r2.nil_iff.mpr w)) _ (I.hok.fresh (Nat.le_refl _))⟩
  exact ⟨by rw [List.length_append]; exact hz, _, r1.append r2, IsTup.new _ _⟩
/-- tuple(t) -/
theorem call_tupleT : CallR X (.type "tuple") (fun xs H Q => ∃ a ys, xs = [.ref a] ∧ SqT X.K H a ys ∧ Q (.ref a) H) := by
  intro pins s σ H xs us Q I r h
  obtain ⟨a, ys, rfl, ha, q⟩ := h
  obtain ⟨u, rfl, ru⟩ := vals1 r
  cases ru
  obtain ⟨its, _, p1, _⟩ := I.tuple ha
  exact call_tuple_same (items := its.toArray) p1 ⟨.ref a, H, I, rfl, q⟩
end
end L2

namespace L2
open PySem PySem.Spec PyProof.Rows

/-! ### places -/
/-- the place that an index of any sign means -/
def ixN (n : Nat) (i : Int) : Option Nat := if 0 ≤ i then (if i < n then some i.toNat else none) else if -(n : Int) ≤ i then some (i + n).toNat else none
def atI {α : Type} (xs : List α) (i : Int) : Option α := (ixN xs.length i).bind fun j => xs[j]?
theorem ixN_seq {n : Nat} {i : Int} {j : Nat} (h : ixN n i = some j) : seqIndex? i n = some j ∧ j < n ∧ -(n : Int) ≤ i ∧ i < n := by
  unfold ixN at h
  by_cases h0 : 0 ≤ i
  · rw [if_pos h0] at h
    by_cases h1 : i < n
    · rw [if_pos h1] at h
      have e : i.toNat = j := Option.some.inj h
      exact ⟨by rw [seqIndex_of h0 h1, e], by omega, by omega, h1⟩
    · rw [if_neg h1] at h; cases h
  · rw [if_neg h0] at h
    by_cases h1 : -(n : Int) ≤ i
    · rw [if_pos h1] at h
      have e : (i + n).toNat = j := Option.some.inj h
      exact ⟨by rw [seqIndex_neg (by omega) h1, e], by omega, h1, by omega⟩
    · rw [if_neg h1] at h; cases h
theorem atI_get {α : Type} {xs : List α} {i : Int} {v : α} (h : atI xs i = some v) : ∃ j, seqIndex? i xs.length = some j ∧ xs[j]? = some v ∧ j < xs.length ∧ -(xs.length : Int) ≤ i ∧ i < xs.length := by
  unfold atI at h
  cases e : ixN xs.length i with
  | none => rw [e] at h; cases h
  | some j =>
    rw [e] at h
    obtain ⟨h1, h2, h3, h4⟩ := ixN_seq e
    exact ⟨j, h1, h, h2, h3, h4⟩
theorem atI_nat {α : Type} {xs : List α} {j : Nat} {v : α} (h : xs[j]? = some v) : atI xs (j : Int) = some v := by
  have hj : j < xs.length := (List.getElem?_eq_some_iff.mp h).1
  have e : ixN xs.length (j : Int) = some j := by
    unfold ixN
    rw [if_pos (by omega), if_pos (by omega)]; simp
  unfold atI; rw [e]; exact h
theorem atI_last {α : Type} (xs : List α) (v : α) : atI (xs ++ [v]) (-1) = some v := by
  have hl : (xs ++ [v]).length = xs.length + 1 := by simp
  have e : ixN (xs ++ [v]).length (-1) = some xs.length := by
    unfold ixN
    rw [hl, if_neg (by decide), if_pos (by omega)]
    congr 1
    omega
  unfold atI
  rw [e]
  show (xs ++ [v])[xs.length]? = some v
  simp

/-! ### what may be subscripted -/
/-- what stands as an index of a plain subscript -/
def PlainIx (b : Expr) : Prop := ∀ o i, subscripted b false o i = operate [o, i] (getItem o i)
/-- a subscript by values -/
def IxR (X : Cx) (r : R2) : Prop :=
  ∀ (value slice : Expr) (pins : List (Addr × Obj)) (s : Shared) (σ : St) (H : Hp) (x y : V) (v u : Value) (Q : VK), Inv X pins σ H s → RelV x v → RelV y u → r x y H Q →
    subscripted slice false v u = operate [v, u] (getItem v u) → wpAny (model X.prog X.w) X.A (subscriptTail value slice v u) (EP X pins σ Q) X.xe s
/-- a call of a builtin's method by values: the receiver, the arguments -/
def MtR (X : Cx) (id : String) (r : V → List V → Hp → VK → Prop) : Prop :=
  ∀ (pins : List (Addr × Obj)) (s : Shared) (σ : St) (H : Hp) (x : V) (xs : List V) (v : Value) (us : List Value) (Q : VK), Inv X pins σ H s → RelV x v → Vals xs us → r x xs H Q →
    wpAny (model X.prog X.w) X.A (call (.builtin id) (v :: us)) (EP X pins σ Q) X.xe s
section
variable {X : Cx} {a b : Expr} {ta tb : TE} {pos : Pos}
theorem IxR.or {r r' : R2} (h : IxR X r) (h' : IxR X r') : IxR X (fun x y H Q => r x y H Q ∨ r' x y H Q) := by
  intro value slice pins s σ H x y v u Q I rx ry q hs
  rcases q with q | q
  · exact h value slice pins s σ H x y v u Q I rx ry q hs
  · exact h' value slice pins s σ H x y v u Q I rx ry q hs
theorem MtR.or {id : String} {r r' : V → List V → Hp → VK → Prop} (h : MtR X id r) (h' : MtR X id r') : MtR X id (fun x xs H Q => r x xs H Q ∨ r' x xs H Q) := by
  intro pins s σ H x xs v us Q I rx rs q
  rcases q with q | q
  · exact h pins s σ H x xs v us Q I rx rs q
  · exact h' pins s σ H x xs v us Q I rx rs q
/-- a[b] -/
theorem pe_ix {r : R2} (hr : IxR X r) (ha : PE X a ta) (hb : PE X b tb) (hs : PlainIx b) : PE X (.Subscript a b pos) (tOp r ta tb) := by
  intro pins s σ H Q I h
  exact Subscript_ (binT ha hb I h fun v u s2 x y H2 I2 rx ry q => hr a b pins s2 σ H2 x y v u Q I2 rx ry q (hs _ _))

def rIxL (K : PySem.W.Frag) : R2 := fun x y H Q => ∃ p xs i v, x = .ref p ∧ y = .int i ∧ SqL K H p xs ∧ atI xs i = some v ∧ Q v H
def rIxT (K : PySem.W.Frag) : R2 := fun x y H Q => ∃ p xs i v, x = .ref p ∧ y = .int i ∧ SqT K H p xs ∧ atI xs i = some v ∧ Q v H
def rIxS : R2 := fun x y H Q => ∃ z i c, x = .str z ∧ y = .int i ∧ z.length ≤ sizeLine ∧ atI z.cps.toList i = some c ∧ Q (.str ⟨#[c]⟩) H
theorem ix_list : IxR X (rIxL X.K) := by
  intro value slice pins s σ H x y v u Q I rx ry h hs
  obtain ⟨p, xs, i, z, rfl, rfl, hq, he, q⟩ := h
  cases rx
  obtain ⟨t, rfl⟩ := ry
  obtain ⟨its, r, pl, hz⟩ := I.list hq
  obtain ⟨j, h1, h2, h3, h4, h5⟩ := atI_get he
  obtain ⟨w, ew, rw'⟩ := r.get h2
  have hl := r.length
  have hn := line63
  have fin : EP X pins σ Q w s := ⟨z, H, I, rw', q⟩
  by_cases h0 : 0 ≤ i
  · have hj : i.toNat = j := by
      rw [seqIndex_of h0 h5] at h1
      exact Option.some.inj h1
    exact item_listR pl.isList h0 (by omega) (by rw [hj]; simpa using ew) fin hs
  · have hj : (i + (its.toArray.size : Int)).toNat = j := by
      rw [seqIndex_neg (by omega) h4] at h1
      rw [List.size_toArray, ← hl]
      exact Option.some.inj h1
    exact subscriptTail_builtinR (x := w) pl.isList.typeIs slot_list_getitem.lookup
      (wpAny_getItem_list_neg (Q := fun r s' => r = w ∧ EP X pins σ Q r s') pl.isList (by omega) (by rw [List.size_toArray] <;> omega) (by omega) (by rw [hj]; simpa using ew) ⟨rfl, fin⟩) hs
theorem ix_tup : IxR X (rIxT X.K) := by
  intro value slice pins s σ H x y v u Q I rx ry h hs
  obtain ⟨p, xs, i, z, rfl, rfl, hq, he, q⟩ := h
  cases rx
  obtain ⟨t, rfl⟩ := ry
  obtain ⟨its, r, pl, hz⟩ := I.tuple hq
  obtain ⟨j, h1, h2, h3, h4, h5⟩ := atI_get he
  obtain ⟨w, ew, rw'⟩ := r.get h2
  have hl := r.length
  have hn := line63
  have fin : EP X pins σ Q w s := ⟨z, H, I, rw', q⟩
  exact subscriptTail_builtinR (x := w) pl.typeIs slot_tuple_getitem.lookup
    (getItem_tuple (j := j) (Q := fun r s' => r = w ∧ EP X pins σ Q r s') pl (by omega) (by omega) (by rw [List.size_toArray, ← hl]; exact h1) (by simpa using ew) ⟨rfl, fin⟩) hs
theorem ix_str : IxR X rIxS := by
  intro value slice pins s σ H x y v u Q I rx ry h hs
  obtain ⟨z, i, c, rfl, rfl, hz, he, q⟩ := h
  obtain ⟨t, rfl⟩ := rx
  obtain ⟨t', rfl⟩ := ry
  obtain ⟨j, h1, h2, h3, h4, h5⟩ := atI_get he
  have hl : z.cps.toList.length = z.length := by simp [Str.length]
  rw [hl] at h1 h4 h5
  have hn := line63
  exact tail_any (typeIs_str s z t) slot_str_getitem.lookup (getItem_str (c := c) (by
    have e1 : decide (i < -(2 ^ 63 : Int)) = false := decide_eq_false (by omega)
    have e2 : decide (i ≥ 2 ^ 63) = false := decide_eq_false (by omega)
    rw [e1, e2, Bool.or_false]) (by rw [h1]; simpa using h2) ⟨.str ⟨#[c]⟩, H, I.tok _, ⟨_, rfl⟩, q⟩) hs
/-- list, tuple or str -/
def rIx (K : PySem.W.Frag) : R2 := fun x y H Q => rIxL K x y H Q ∨ rIxT K x y H Q ∨ rIxS x y H Q
theorem ix_seq : IxR X (rIx X.K) := ix_list.or (ix_tup.or ix_str)

/-! ### xs[i] = v, any sign -/
/-- the list's object behind a store -/
theorem mapSeq_set (its : List Value) (n j : Nat) (u : Value) : Obj.mapSeq (·.setIfInBounds j u) { cls := .type "list", data := .seq its.toArray n } = { cls := .type "list", data := .seq (its.set j u).toArray n } := by
  simp [Obj.mapSeq]
theorem Inv.lst {pins : List (Addr × Obj)} {σ : St} {H : Hp} {s : Shared} {p : Addr} {xs : List V} (I : Inv X pins σ H s) (h : H p = some (.lst xs)) :
    ∃ (its : List Value) (n : Nat), Vals xs its ∧ s.heap.get? p = some { cls := .type "list", data := .seq its.toArray n } ∧ xs.length ≤ sizeLine := by
  obtain ⟨z, its, n, r, e⟩ := I.hok p _ h
  exact ⟨its, n, r, e, z⟩
/-- the list at p is written by an update of its object -/
theorem Inv.lstUpd {pins : List (Addr × Obj)} {σ : St} {H : Hp} {s : Shared} {p : Addr} {xs ys : List V} {its its' : List Value} {n n' : Nat} {f : Obj → Obj} (I : Inv X pins σ H s) (h : H p = some (.lst xs))
    (ho : s.heap.get? p = some { cls := .type "list", data := .seq its.toArray n }) (hf : f { cls := .type "list", data := .seq its.toArray n } = { cls := .type "list", data := .seq its'.toArray n' }) (r : Vals ys its') (hz : ys.length ≤ sizeLine) (t : Nat) :
    Inv X pins σ (upd H p (.lst ys)) { s with heap := s.heap.update p f, toks := t } := by
  have e : (s.heap.update p f).get? p = some { cls := .type "list", data := .seq its'.toArray n' } := by
    rw [Heap.get?_update_self f ho (by rw [hf] <;> rfl), hf]
  refine I.write (x := p) (e := p) (by rw [h]; trivial) (.inl rfl) (fun b u hb q => (Heap.get?_update_other _ _ (Ne.symm hb)).trans q) ⟨_, e⟩ ?_
  exact ⟨hz, its', n', r, e⟩
def rSetL : V → V → V → Hp → (Hp → Prop) → Prop := fun o i v H Q => ∃ p xs k j, o = .ref p ∧ i = .int k ∧ H p = some (.lst xs) ∧ ixN xs.length k = some j ∧ Q (upd H p (.lst (xs.set j v)))
theorem set_list : PSet X rSetL := by
  intro pins s σ H o i v ov iv u Q I ro ri rv h
  obtain ⟨p, xs, k, j, rfl, rfl, hp, hj, q⟩ := h
  cases ro
  obtain ⟨t, rfl⟩ := ri
  obtain ⟨its, n, r, ho, hz⟩ := I.lst hp
  obtain ⟨h1, h2, h3, h4⟩ := ixN_seq hj
  have hl := r.length
  have hn := line63
  have I' : Inv X pins σ (upd H p (.lst (xs.set j v))) { s with heap := s.heap.update p (Obj.mapSeq (·.setIfInBounds j u)) } :=
    I.lstUpd hp ho (mapSeq_set its n j u) (r.set rv j) (by rw [List.length_set]; exact hz) s.toks
  by_cases h0 : 0 ≤ k
  · have hk : k.toNat = j := by
      rw [seqIndex_of h0 h4] at h1
      exact Option.some.inj h1
    exact PySem.W.ki_setAt ho h0 (by omega) (by rw [List.size_toArray, ← hl]; exact h4) (by rw [hk]; exact ⟨_, I', q⟩)
  · have hk : (k + (its.toArray.size : Int)).toNat = j := by
      rw [seqIndex_neg (by omega) h3] at h1
      rw [List.size_toArray, ← hl]
      exact Option.some.inj h1
    exact PySem.W.ki_setBack ho (by omega) (by rw [List.size_toArray, ← hl]; exact h3) (by omega) (by rw [hk]; exact ⟨_, I', q⟩)

/-! ### slices -/
theorem slice_bounds (lo hi : Option Int) (n : Nat) : (sliceBounds lo hi none n).1 = ((HT.sIx n 0 lo : Nat) : Int) ∧ (sliceBounds lo hi none n).2.1 = ((HT.sIx n n hi : Nat) : Int) ∧ (sliceBounds lo hi none n).2.2 = 1 := by
  refine ⟨?_, ?_, rfl⟩
  · cases lo with
    | none => simp [sliceBounds, HT.sIx]
    | some i =>
      simp only [sliceBounds, HT.sIx, Option.getD_none, show (1 : Int) > 0 by decide, if_true]
      by_cases h : i < 0
      · simp only [h, if_true] <;> omega
      · simp only [h, if_false] <;> omega
  · cases hi with
    | none => simp [sliceBounds, HT.sIx]
    | some i =>
      simp only [sliceBounds, HT.sIx, Option.getD_none, show (1 : Int) > 0 by decide, if_true]
      by_cases h : i < 0
      · simp only [h, if_true] <;> omega
      · simp only [h, if_false] <;> omega
theorem slicePick_cut (its : List Value) (lo hi : Option Int) : slicePick its.toArray lo hi none = ((its.drop (HT.sIx its.length 0 lo)).take (HT.sIx its.length its.length hi - HT.sIx its.length 0 lo)).toArray := by
  obtain ⟨h1, h2, h3⟩ := slice_bounds lo hi its.toArray.size
  unfold slicePick
  rw [h1, h2, h3]
  simp only [sliceRange_one, pick_run, List.size_toArray] <;> rfl
/-- xs[lo:hi] of a list: a new list -/
def rSlL (K : PySem.W.Frag) : V → Option Int → Option Int → Hp → VK → Prop := fun x lo hi H Q => ∃ a xs, x = .ref a ∧ SqL K H a xs ∧ ∀ p, H p = none → Q (.ref p) (upd H p (.lst (cutV xs lo hi)))
theorem sl_list : SlR X (rSlL X.K) := by
  intro pins s σ H x v vl vu lo hi sl Q I rx hs pl pu h
  obtain ⟨a, xs, rfl, hx, q⟩ := h
  cases rx
  obtain ⟨its, r, ht, hz⟩ := I.list hx
  have hlen := r.length
  refine ⟨"list", _, slot_list_getitem.lookup, ht.isList.typeIs, ?_⟩
  refine wpAny_getItem_list_slice ht.isList hs pl pu .none (by simp) ?_ (by rw [List.size_toArray] <;> omega)
  rw [slicePick_cut, ← hlen]
  refine ⟨.ref s.heap.objs.size, _, I.laid (t' := s.toks) (o := .lst (cutV xs lo hi)) (fun b ob q => Heap.get?_push_of_some _ q) (Nat.le_refl _) ?_, rfl, q _ (I.hok.fresh (Nat.le_refl _))⟩
  exact ⟨Nat.le_trans (cutV_length xs lo hi) hz, _, 0, (r.drop (HT.sIx xs.length 0 lo)).take (HT.sIx xs.length xs.length hi - HT.sIx xs.length 0 lo), Heap.get?_push_size _ rfl⟩

/-! ### in, not in: flat items -/
def flatV : V → Bool
  | .non => true
  | .bl _ => true
  | .int _ => true
  | .str _ => true
  | _ => false
/-- == of flat values -/
def eqV : V → V → Bool
  | .non, .non => true
  | .bl a, .bl b => a == b
  | .bl a, .int b => (if a then 1 else 0) == b
  | .int a, .bl b => a == (if b then 1 else 0)
  | .int a, .int b => a == b
  | .str a, .str b => a == b
  | _, _ => false
theorem eqAt_V {A : Around} {s : Shared} {y x : V} {u v : Value} (ry : RelV y u) (rx : RelV x v) (fy : flatV y = true) (fx : flatV x = true) : SeqAt.EqAt A s u v (eqV y x) := by
  cases y with
  | non =>
    cases ry
    cases x with
    | non => cases rx; exact SeqAt.EqAt.same _
    | bl b => cases rx; exact SeqAt.EqAt.none_bool b
    | int b => obtain ⟨t, rfl⟩ := rx; exact SeqAt.EqAt.none_int b t
    | str b => obtain ⟨t, rfl⟩ := rx; exact SeqAt.EqAt.none_str b t
    | _ => exact absurd (show false = true from fx) Bool.false_ne_true
  | bl a =>
    cases ry
    cases x with
    | non => cases rx; exact SeqAt.EqAt.bool_none a
    | bl b => cases rx; exact SeqAt.EqAt.bool_bool a b
    | int b => obtain ⟨t, rfl⟩ := rx; exact SeqAt.EqAt.bool_int a b t
    | str b => obtain ⟨t, rfl⟩ := rx; exact SeqAt.EqAt.bool_str a b t
    | _ => exact absurd (show false = true from fx) Bool.false_ne_true
  | int a =>
    obtain ⟨t', rfl⟩ := ry
    cases x with
    | non => cases rx; exact SeqAt.EqAt.int_none a t'
    | bl b => cases rx; exact SeqAt.EqAt.int_bool a t' b
    | int b => obtain ⟨t, rfl⟩ := rx; exact SeqAt.EqAt.int_int a t' b t
    | str b => obtain ⟨t, rfl⟩ := rx; exact SeqAt.EqAt.int_str a t' b t
    | _ => exact absurd (show false = true from fx) Bool.false_ne_true
  | str a =>
    obtain ⟨t', rfl⟩ := ry
    cases x with
    | non => cases rx; exact SeqAt.EqAt.str_none a t'
    | bl b => cases rx; exact SeqAt.EqAt.str_bool a t' b
    | int b => obtain ⟨t, rfl⟩ := rx; exact SeqAt.EqAt.str_int a t' b t
    | str b => obtain ⟨t, rfl⟩ := rx; exact SeqAt.EqAt.str_str a t' b t
    | _ => exact absurd (show false = true from fx) Bool.false_ne_true
  | _ => exact absurd (show false = true from fy) Bool.false_ne_true
/-- the items' answers, read off the values (a value's own answer does not lean on its token) -/
def eqU (x : V) (u : Value) : Bool := match u with
  | .none => eqV .non x
  | .bool b => eqV (.bl b) x
  | .int i _ => eqV (.int i) x
  | .str z _ => eqV (.str z) x
  | _ => false
theorem eqU_of {x y : V} {u : Value} (r : RelV y u) (f : flatV y = true) : eqU x u = eqV y x := by
  cases y with
  | non => cases r; rfl
  | bl b => cases r; rfl
  | int i => obtain ⟨t, rfl⟩ := r; rfl
  | str z => obtain ⟨t, rfl⟩ := r; rfl
  | _ => exact absurd (show false = true from f) Bool.false_ne_true
theorem any_eqU {x : V} : ∀ {xs : List V} {us : List Value}, Vals xs us → xs.all flatV = true → us.any (eqU x) = xs.any fun y => eqV y x
  | _, _, .nil, _ => rfl
  | y :: xs, u :: us, .cons r t, f => by
    rw [List.all_cons, Bool.and_eq_true] at f
    rw [List.any_cons, List.any_cons, eqU_of r f.1, any_eqU t f.2]
theorem mem_eqAt {A : Around} {s : Shared} {x : V} {v : Value} (rx : RelV x v) (fx : flatV x = true) : ∀ {xs : List V} {us : List Value}, Vals xs us → xs.all flatV = true → ∀ u ∈ us, SeqAt.EqAt A s u v (eqU x u)
  | _, _, .nil, _ => fun u hu => by cases hu
  | y :: xs, u :: us, .cons r t, f => fun u' hu => by
    rw [List.all_cons, Bool.and_eq_true] at f
    rcases List.mem_cons.mp hu with rfl | hu
    · rw [eqU_of r f.1]; exact eqAt_V r rx f.1 fx
    · exact mem_eqAt rx fx t f.2 u' hu
def inV (x : V) (xs : List V) : Bool := xs.any fun y => eqV y x
/-- x in a list or tuple of flat items -/
def rIn (K : PySem.W.Frag) (neg : Bool) : R2 := fun x y H Q => ∃ p xs, y = .ref p ∧ (SqL K H p xs ∨ SqT K H p xs) ∧ flatV x = true ∧ xs.all flatV = true ∧ Q (.bl (if neg then !inV x xs else inV x xs)) H
theorem op_in_seq : OpR X (compareOp .In) (rIn X.K false) := by
  intro pins s σ H x y v u Q I rx ry h
  obtain ⟨p, xs, rfl, hq, fx, fs, q⟩ := h
  cases ry
  rcases hq with hq | hq
  · obtain ⟨its, r, pl, hz⟩ := I.list hq
    refine SeqAt.in_listAt (eqU x) pl.isList (fun w hw => mem_eqAt rx fx r fs w (by simpa using hw)) ⟨.bl _, H, I, rfl, ?_⟩
    rw [show its.toArray.any (eqU x) = its.any (eqU x) by simp, any_eqU r fs]
    exact q
  · obtain ⟨its, r, pl, hz⟩ := I.tuple hq
    refine SeqAt.in_tupleAt (eqU x) pl (fun w hw => mem_eqAt rx fx r fs w (by simpa using hw)) ⟨.bl _, H, I, rfl, ?_⟩
    rw [show its.toArray.any (eqU x) = its.any (eqU x) by simp, any_eqU r fs]
    exact q
theorem op_notIn_seq : OpR X (compareOp .NotIn) (rIn X.K true) := by
  intro pins s σ H x y v u Q I rx ry h
  obtain ⟨p, xs, rfl, hq, fx, fs, q⟩ := h
  cases ry
  rcases hq with hq | hq
  · obtain ⟨its, r, pl, hz⟩ := I.list hq
    refine SeqAt.notIn_listAt (eqU x) pl.isList (fun w hw => mem_eqAt rx fx r fs w (by simpa using hw)) ⟨.bl _, H, I, rfl, ?_⟩
    rw [show its.toArray.any (eqU x) = its.any (eqU x) by simp, any_eqU r fs]
    exact q
  · obtain ⟨its, r, pl, hz⟩ := I.tuple hq
    refine SeqAt.notIn_tupleAt (eqU x) pl (fun w hw => mem_eqAt rx fx r fs w (by simpa using hw)) ⟨.bl _, H, I, rfl, ?_⟩
    rw [show its.toArray.any (eqU x) = its.any (eqU x) by simp, any_eqU r fs]
    exact q
theorem op_notIn_str : OpR X (compareOp .NotIn) (fun x y H Q => ∃ i j, x = .str i ∧ y = .str j ∧ Q (.bl (!(!(Builtin.Str.occurrences j i 0 j.length 1).isEmpty))) H) := by
  intro pins s σ H x y v u Q I rx ry h
  obtain ⟨i, j, rfl, rfl, q⟩ := h
  obtain ⟨t, rfl⟩ := rx
  obtain ⟨t', rfl⟩ := ry
  exact notIn_str ⟨.bl _, H, I, rfl, q⟩

/-! ### len, list(x), tuple(x) of any list or tuple that is read -/
theorem call_len_seq : CallR X (.builtin "len") (fun xs H Q => ∃ p ys, xs = [.ref p] ∧ (SqL X.K H p ys ∨ SqT X.K H p ys) ∧ Q (.int ys.length) H) := by
  intro pins s σ H xs us Q I r h
  obtain ⟨p, ys, rfl, hq, q⟩ := h
  obtain ⟨u, rfl, rx⟩ := vals1 r
  cases rx
  have hn := line63
  rcases hq with hq | hq
  · obtain ⟨its, r', pl, hz⟩ := I.list hq
    have hlen := r'.length
    exact Calls.call_len_list pl.isList (by simp only [List.size_toArray] <;> omega) ⟨.int ys.length, H, I.tok _, ⟨s.toks + 1, by rw [List.size_toArray, hlen]⟩, q⟩
  · obtain ⟨its, r', pl, hz⟩ := I.tuple hq
    have hlen := r'.length
    exact len_tuple pl (by simp only [List.size_toArray] <;> omega) ⟨.int ys.length, H, I.tok _, ⟨s.toks + 1, by rw [List.size_toArray, hlen]⟩, q⟩
theorem call_len_str : CallR X (.builtin "len") (fun xs H Q => ∃ z, xs = [.str z] ∧ z.length ≤ sizeLine ∧ Q (.int z.length) H) := by
  intro pins s σ H xs us Q I r h
  obtain ⟨z, rfl, hz, q⟩ := h
  obtain ⟨u, rfl, t, rfl⟩ := vals1 r
  have hn := line63
  exact len_str (by omega) ⟨.int z.length, H, I.tok _, ⟨_, rfl⟩, q⟩
theorem CallR.or {f : Value} {r r' : List V → Hp → VK → Prop} (h : CallR X f r) (h' : CallR X f r') : CallR X f (fun xs H Q => r xs H Q ∨ r' xs H Q) := by
  intro pins s σ H xs us Q I rs q
  rcases q with q | q
  · exact h pins s σ H xs us Q I rs q
  · exact h' pins s σ H xs us Q I rs q
theorem call_list_of : CallR X (.type "list") (fun xs H Q => ∃ p ys, xs = [.ref p] ∧ (SqL X.K H p ys ∨ SqT X.K H p ys) ∧ ∀ l, H l = none → Q (.ref l) (upd H l (.lst ys))) := by
  intro pins s σ H xs us Q I r h
  obtain ⟨p, ys, rfl, hq, q⟩ := h
  obtain ⟨u, rfl, rx⟩ := vals1 r
  cases rx
  have fin : ∀ (its : List Value), Vals ys its → ys.length ≤ sizeLine → ∀ (h' : Heap) (c' : Nat), (∀ b o', s.heap.get? b = some o' → h'.get? b = some o') →
      h'.get? s.heap.objs.size = some { cls := .type "list", dict := none, data := .seq its.toArray c', slots := #[] } → EP X pins σ Q (.ref s.heap.objs.size) { s with heap := h' } := fun its r' hz h' c' kp e =>
    ⟨.ref s.heap.objs.size, _, I.laid (t' := s.toks) kp (Nat.le_refl _) (show ObjOk X.prog X.w _ h' _ (.lst ys) from ⟨hz, its, c', r', e⟩), rfl, q _ (I.hok.fresh (Nat.le_refl _))⟩
  rcases hq with hq | hq
  · obtain ⟨its, r', pl, hz⟩ := I.list hq
    have hlen := r'.length
    obtain ⟨o, ho, hc, n, hd⟩ := pl.isList
    exact call_list_seq p (.inl rfl) ho hc hd (fun h' c' kp e => fin its r' hz h' c' kp e) (by simp only [List.size_toArray] <;> omega)
  · obtain ⟨its, r', pl, hz⟩ := I.tuple hq
    have hlen := r'.length
    obtain ⟨o, ho, hc, n, hd⟩ := pl
    exact call_list_seq p (.inr rfl) ho hc hd (fun h' c' kp e => fin its r' hz h' c' kp e) (by simp only [List.size_toArray] <;> omega)
theorem call_tuple_of : CallR X (.type "tuple") (fun xs H Q => ∃ p ys, xs = [.ref p] ∧ ((SqL X.K H p ys ∧ ∀ l, H l = none → Q (.ref l) (upd H l (.tup ys))) ∨ (SqT X.K H p ys ∧ Q (.ref p) H))) := by
  intro pins s σ H xs us Q I r h
  obtain ⟨p, ys, rfl, h⟩ := h
  obtain ⟨u, rfl, rx⟩ := vals1 r
  cases rx
  rcases h with ⟨hq, q⟩ | ⟨hq, q⟩
  · obtain ⟨its, r', pl, hz⟩ := I.list hq
    have hlen := r'.length
    refine call_tuple_list pl.isList (fun h' kp => ?_) (by simp only [List.size_toArray] <;> omega)
    have I1 : Inv X pins σ H { s with heap := h' } := I.kept (t' := s.toks) kp
    have I2 : Inv X pins σ (upd H h'.objs.size (.tup ys)) { s with heap := h'.push { cls := .type "tuple", data := .seq its.toArray } } :=
      I1.laid (t' := s.toks) (fun b o e => Heap.get?_push_of_some _ e) (Nat.le_refl _) (show ObjOk X.prog X.w _ _ _ (.tup ys) from ⟨hz, its, r', IsTup.new _ _⟩)
    exact ⟨.ref h'.objs.size, _, I2, rfl, q _ (I1.hok.fresh (Nat.le_refl _))⟩
  · obtain ⟨its, r', pl, hz⟩ := I.tuple hq
    exact call_tuple_same pl ⟨.ref p, H, I, rfl, q⟩

/-! ### the call of a builtin's method: o.m(..) -/
/-- the value is of that builtin type -/
def tyV (K : PySem.W.Frag) (T : String) (x : V) (H : Hp) : Prop := match x with
  | .str _ => T = "str"
  | .int _ => T = "int"
  | .ref p => (T = "list" ∧ ∃ xs, SqL K H p xs) ∨ (T = "tuple" ∧ ∃ o, K.lookup p = some o ∧ o.cls = .type "tuple" ∧ o.dict = none) ∨
      (T = "dict" ∧ ((∃ kvs, H p = some (.dK kvs)) ∨ ∃ kvs, H p = some (.dT kvs))) ∨ (T = "set" ∧ ∃ S n, H p = some (.set S n))
  | _ => False
theorem tyV_is {pins : List (Addr × Obj)} {σ : St} {H : Hp} {s : Shared} {T : String} {x : V} {v : Value} (I : Inv X pins σ H s) (r : RelV x v) (ty : tyV X.K T x H) :
    s.TypeIs v T ∧ ∀ a, v = .ref a → ∃ ob, s.heap.get? a = some ob ∧ ob.dict = none := by
  cases x with
  | str z =>
    obtain ⟨t, rfl⟩ := r
    cases (show T = "str" from ty)
    exact ⟨typeIs_str s z t, fun _ e => nomatch e⟩
  | int i =>
    obtain ⟨t, rfl⟩ := r
    cases (show T = "int" from ty)
    exact ⟨typeIs_int s i t, fun _ e => nomatch e⟩
  | ref p =>
    cases r
    rcases ty with ⟨rfl, xs, hq⟩ | ⟨rfl, o, hk, hc, hd⟩ | ⟨rfl, hk⟩ | ⟨rfl, S, n, hk⟩
    · obtain ⟨its, _, pl, _⟩ := I.list hq
      refine ⟨pl.isList.typeIs, fun a e => ?_⟩
      cases e
      obtain ⟨o, n, e, c, hd, _⟩ := pl
      exact ⟨o, e, hd⟩
    · refine ⟨⟨o, I.kIn p o hk, hc⟩, fun a e => ?_⟩
      cases e
      exact ⟨o, I.kIn _ o hk, hd⟩
    · have z : ∃ o, s.heap.get? p = some o ∧ o.ExactDict := by
        rcases hk with ⟨kvs, hk⟩ | ⟨kvs, hk⟩
        · obtain ⟨_, _, _, _, o, _, _, e, ex, _⟩ := I.hok p _ hk
          exact ⟨o, e, ex⟩
        · obtain ⟨_, _, _, _, o, _, _, e, ex, _⟩ := I.hok p _ hk
          exact ⟨o, e, ex⟩
      obtain ⟨o, e, ex⟩ := z
      refine ⟨⟨o, e, ex.1⟩, fun a e2 => ?_⟩
      cases e2
      exact ⟨o, e, ex.2.1⟩
    · obtain ⟨o, _, _, _, e, ex, _⟩ := I.hok p _ hk
      refine ⟨⟨o, e, ex.1⟩, fun a e2 => ?_⟩
      cases e2
      exact ⟨o, e, ex.2.1⟩
  | _ => exact False.elim ty
def tBM0 (K : PySem.W.Frag) (T : String) (r : V → List V → Hp → VK → Prop) (to : TE) : TE := fun σ H Q => to σ H fun x H1 => tyV K T x H1 ∧ r x [] H1 Q
def tBM (K : PySem.W.Frag) (T : String) (r : V → List V → Hp → VK → Prop) (to : TE) (t : TA) : TE := fun σ H Q => to σ H fun x H1 => tyV K T x H1 ∧ t σ H1 fun xs H2 => r x xs H2 Q
variable {o e : Expr} {es : List Expr} {to : TE} {t : TA} {name : Str} {apos cpos : Pos} {T id : String} {r : V → List V → Hp → VK → Prop}
theorem pe_bm0 (pa : PlainAttrs T) (slot : Slot T name id) (hty : typeOf (.builtin id) = pure (.type "method_descriptor")) (hm : MtR X id r) (ho : PE X o to)
    (hbase : attributeBase o name X.env (eval o X.env) = eval o X.env := by rfl) (hline : (apos.endLine == cpos.line) = true := by rfl) : PE X (.Call (.Attribute o name apos) [] [] cpos) (tBM0 X.K T r to) := by
  intro pins s σ H Q I h
  refine wpAny_Call_method0_late hbase hline (thn (ho pins s σ H _ I h) fun v s1 ⟨x, H1, I1, r1, ty, q1⟩ => ?_)
  obtain ⟨h1, h2⟩ := tyV_is I1 r1 ty
  exact ⟨T, id, pa, slot, hty, h1, h2, Calls.callWith_builtin rfl (PySem.evalArgs_none (hm pins s1 σ H1 x [] v [] Q I1 r1 .nil q1))⟩
theorem pe_bm (pa : PlainAttrs T) (slot : Slot T name id) (hty : typeOf (.builtin id) = pure (.type "method_descriptor")) (hm : MtR X id r) (ho : PE X o to) (ha : PA X (e :: es) t)
    (hbase : attributeBase o name X.env (eval o X.env) = eval o X.env := by rfl)
    (hfew : ((backTo cpos (starEach (e :: es) X.env)).all (fun x => !x.1) && (backToKw cpos (keywordEach [] X.env)).all (fun x => x.1.isSome)
      && decide ((e :: es).length + ([] : List Keyword).length + (if ([] : List Keyword).isEmpty then 0 else 1) < 30)) = true := by rfl)
    (hline : (apos.endLine == cpos.line) = true := by rfl) (hs : starEach (e :: es) X.env = (false, eval e X.env) :: starEach es X.env := by rfl) (hplain : (backTo cpos (starEach es X.env)).any (·.1) = false := by rfl) :
    PE X (.Call (.Attribute o name apos) (e :: es) [] cpos) (tBM X.K T r to t) := by
  intro pins s σ H Q I h
  refine wpAny_Call_method_late hbase hfew hline rfl (thn (ho pins s σ H _ I h) fun v s1 ⟨x, H1, I1, r1, ty, q1⟩ => ?_)
  obtain ⟨h1, h2⟩ := tyV_is I1 r1 ty
  refine ⟨T, id, pa, slot, hty, h1, h2, ?_⟩
  have hA := ha cpos pins s1 σ H1 _ I1 q1
  rw [hs] at hA ⊢
  refine Calls.callWith_builtin (by show (false || (backTo cpos (starEach es X.env)).any (·.1)) = false; rw [hplain] <;> rfl) (Calls.evalArgs_plain ?_)
  exact thn hA fun us s2 ⟨vs, H2, I2, r2, q2⟩ => hm pins s2 σ H2 x vs v us Q I2 r1 r2 q2
/- xs.append(e), list.index on a module's tuple .. are MtR facts of 06m -/
end
end L2

namespace L2
open PySem PySem.Spec PyProof.Rows

def MtM (X : Cx) (id : String) (r : V → List V → Hp → VK → Prop) : Prop :=
  ∀ (pins : List (Addr × Obj)) (s : Shared) (σ : St) (H : Hp) (x : V) (xs : List V) (v : Value) (us : List Value) (Q : VK), Inv X pins σ H s → RelV x v → Vals xs us → r x xs H Q →
    wpAny (model X.prog X.w) X.A (call (.builtin id) (v :: us)) (EP X pins σ Q) X.xe s

/-! ### lists of values -/
theorem Vals.one : ∀ {x : V} {us : List Value}, Vals [x] us → ∃ u, us = [u] ∧ RelV x u
  | _, _, .cons r .nil => ⟨_, rfl, r⟩
theorem Vals.two : ∀ {x y : V} {us : List Value}, Vals [x, y] us → ∃ u v, us = [u, v] ∧ RelV x u ∧ RelV y v
  | _, _, _, .cons r (.cons q .nil) => ⟨_, _, rfl, r, q⟩
theorem Vals.zero : ∀ {us : List Value}, Vals [] us → us = []
  | _, .nil => rfl
theorem Vals.dropLast {xs : List V} {us : List Value} (h : Vals xs us) : Vals xs.dropLast us.dropLast := by
  induction h with
  | nil => exact .nil
  | cons r t ih =>
    cases t with
    | nil => exact .nil
    | cons q t' => exact .cons r ih
theorem Vals.eraseIdx : ∀ {xs : List V} {us : List Value} (i : Nat), Vals xs us → Vals (xs.eraseIdx i) (us.eraseIdx i)
  | _, _, _, .nil => .nil
  | _, _, 0, .cons _ t => t
  | _, _, i + 1, .cons r t => .cons r (Vals.eraseIdx i t)
theorem Vals.reverse {xs : List V} {us : List Value} (h : Vals xs us) : Vals xs.reverse us.reverse := by
  induction h with
  | nil => exact .nil
  | cons r t ih => rw [List.reverse_cons, List.reverse_cons]; exact Vals.append ih (.cons r .nil)
theorem Vals.rep {xs : List V} {us : List Value} (h : Vals xs us) : ∀ k : Nat, Vals (List.replicate k xs).flatten (List.replicate k us).flatten
  | 0 => .nil
  | k + 1 => by
    rw [List.replicate_succ, List.replicate_succ, List.flatten_cons, List.flatten_cons]
    exact Vals.append h (Vals.rep h k)
theorem erase_last {α : Type} (l : List α) : l.eraseIdx (l.length - 1) = l.dropLast := by
  induction l with
  | nil => rfl
  | cons a r ih =>
    cases r with
    | nil => rfl
    | cons b r =>
      have e : (a :: b :: r).length - 1 = ((b :: r).length - 1) + 1 := by
        have h1 : (a :: b :: r).length = r.length + 2 := rfl
        have h2 : (b :: r).length = r.length + 1 := rfl
        omega
      rw [e, List.eraseIdx_cons_succ, ih]
      all_goals rfl
theorem len_erase {α : Type} : ∀ (l : List α) (i : Nat), (l.eraseIdx i).length ≤ l.length
  | [], _ => Nat.le_refl _
  | _ :: _, 0 => Nat.le_succ _
  | _ :: r, i + 1 => Nat.succ_le_succ (len_erase r i)
theorem foldl_rep (its : List Value) : ∀ (k : Nat) (acc : List Value),
    List.foldl (fun x1 x2 => x1 ++ x2) acc.toArray (List.replicate k its.toArray) = (acc ++ (List.replicate k its).flatten).toArray
  | 0, acc => by simp
  | k + 1, acc => by
    have e : acc.toArray ++ its.toArray = (acc ++ its).toArray := by simp
    have e2 : (acc ++ its) ++ (List.replicate k its).flatten = acc ++ (List.replicate (k + 1) its).flatten := by
      rw [List.replicate_succ, List.flatten_cons, List.append_assoc]
    rw [← e2, ← foldl_rep its k (acc ++ its), ← e, List.replicate_succ, List.foldl_cons]

section
variable {X : Cx} {pins : List (Addr × Obj)} {σ : St} {H : Hp} {s : Shared} {l b : Addr} {xs ys zs : List V}

/-! ### the two steps: a tracked list is rewritten, a new list is laid -/
theorem Inv.lset {its its' : List Value} {n : Nat} {f : Array Value → Array Value} {t' : Nat} (I : Inv X pins σ H s) (hH : H l = some (.lst xs))
    (e : s.heap.get? l = some { cls := .type "list", data := .seq its.toArray n }) (hf : f its.toArray = its'.toArray) (hv : Vals ys its') (hz : ys.length ≤ sizeLine) :
    Inv X pins σ (upd H l (.lst ys)) { s with heap := s.heap.update l (Obj.mapSeq f), toks := t' } := by
  have q := PySem.IsL.update e f
  rw [hf] at q
  refine I.write (x := l) (e := l) (by rw [hH]; exact trivial) (.inl rfl) (fun b' u hb hu => (Heap.get?_update_other s.heap (Obj.mapSeq f) (Ne.symm hb)).trans hu) ⟨_, q⟩ ?_
  exact ⟨hz, its', _, hv, q⟩
theorem Inv.lnew {its : List Value} {t' : Nat} (I : Inv X pins σ H s) (hv : Vals ys its) (hz : ys.length ≤ sizeLine) :
    Inv X pins σ (upd H s.heap.objs.size (.lst ys)) { s with heap := s.heap.push { cls := .type "list", data := .seq its.toArray }, toks := t' } :=
  I.laid (fun _ _ q => Heap.get?_push_of_some _ q) (Nat.le_refl _) ⟨hz, its, 0, hv, Heap.get?_push_size _ rfl⟩
theorem Inv.fresh (I : Inv X pins σ H s) : H s.heap.objs.size = none := I.hok.fresh (Nat.le_refl _)
theorem Inv.lstM (I : Inv X pins σ H s) (hH : H l = some (.lst xs)) : xs.length ≤ sizeLine ∧ ∃ (its : List Value) (n : Nat), Vals xs its ∧ xs.length = its.length ∧ s.heap.get? l = some { cls := .type "list", data := .seq its.toArray n } := by
  obtain ⟨z, its, n, r, e⟩ := I.hok l _ hH
  exact ⟨z, its, n, r, r.length, e⟩

theorem notLongL {n : Nat} (h : n ≤ sizeLine) : Builtin.List.listTooLong n = false := by
  unfold Builtin.List.listTooLong
  exact decide_eq_false (by omega)
end

section
variable {X : Cx}

/-! ### methods -/
def rAppend : V → List V → Hp → VK → Prop := fun x vs H Q => ∃ l xs y, x = .ref l ∧ vs = [y] ∧ H l = some (.lst xs) ∧ xs.length < sizeLine ∧ Q .non (upd H l (.lst (xs ++ [y])))
theorem mt_append : MtM X "list.append" rAppend := by
  intro pins s σ H x vs v us Q I rx rv h
  obtain ⟨l, xs, y, rfl, rfl, hH, hz, q⟩ := h
  cases rx
  obtain ⟨u, rfl, ru⟩ := rv.one
  obtain ⟨z, its, n, r, hl, e⟩ := I.lstM hH
  refine call_meets F.slot_list_append ⟨_, e, rfl⟩ F.entry_list_append (F.args_list_append_2 _ _) (PySem.list_append l its.toArray n u (by rw [List.size_toArray]; omega)) ⟨e, ?_⟩
  refine ⟨.non, _, I.lset (its' := its ++ [u]) hH e (by simp) (r.append (.cons ru .nil)) ?_, rfl, q⟩
  rw [List.length_append, List.length_singleton]
  omega

def rExtend : V → List V → Hp → VK → Prop := fun x vs H Q => ∃ l b xs zs, x = .ref l ∧ vs = [.ref b] ∧ H l = some (.lst xs) ∧ H b = some (.lst zs) ∧ xs.length + zs.length ≤ sizeLine ∧ Q .non (upd H l (.lst (xs ++ zs)))
theorem mt_extend : MtM X "list.extend" rExtend := by
  intro pins s σ H x vs v us Q I rx rv h
  obtain ⟨l, b, xs, zs, rfl, rfl, hH, hB, hz, q⟩ := h
  cases rx
  obtain ⟨u, rfl, ru⟩ := rv.one
  cases ru
  obtain ⟨z, its, n, r, hl, e⟩ := I.lstM hH
  obtain ⟨z2, its2, n2, r2, hl2, e2⟩ := I.lstM hB
  have hsz : its.toArray.size + its2.toArray.size ≤ sizeLine := by rw [List.size_toArray, List.size_toArray]; omega
  have hlong : ¬ (!its.toArray.isEmpty && Builtin.List.listTooLong (its.toArray.size + its2.toArray.size)) = true := by
    rw [notLongL hsz, Bool.and_false]
    exact Bool.false_ne_true
  refine call_meets F.slot_list_extend ⟨_, e, rfl⟩ F.entry_list_extend (F.args_list_extend_2 _ _)
    (AutoSeq1.list_extend_list_list_0 l its.toArray n b its2.toArray n2 hlong (by rw [List.size_toArray]; omega) (by omega)) ⟨e, e2, ?_⟩
  refine ⟨.non, _, I.lset (its' := its ++ its2) hH e (by simp) (r.append r2) ?_, rfl, q⟩
  rw [List.length_append]
  omega

def rPop : V → List V → Hp → VK → Prop := fun x vs H Q => ∃ l xs y, x = .ref l ∧ vs = [] ∧ H l = some (.lst xs) ∧ xs[xs.length - 1]? = some y ∧ Q y (upd H l (.lst xs.dropLast))
theorem mt_pop : MtM X "list.pop" rPop := by
  intro pins s σ H x vs v us Q I rx rv h
  obtain ⟨l, xs, y, rfl, rfl, hH, hy, q⟩ := h
  cases rx
  have hus := rv.zero
  subst hus
  obtain ⟨z, its, n, r, hl, e⟩ := I.lstM hH
  obtain ⟨u, hu, ru⟩ := r.get hy
  have hy' : its.toArray[its.toArray.size - 1]? = some u := by
    show its.toArray[its.length - 1]? = some u
    rw [← Array.getElem?_toList, ← hl]
    exact hu
  refine call_meets F.slot_list_pop ⟨_, e, rfl⟩ F.entry_list_pop (F.args_list_pop_1 _) (MeetsSeq.list_pop_last l its.toArray n u hy' (by rw [List.size_toArray]; omega)) ⟨e, ?_⟩
  refine ⟨y, _, I.lset (its' := its.dropLast) hH e ?_ r.dropLast ?_, ru, q⟩
  · show its.toArray.eraseIdxIfInBounds (its.toArray.size - 1) = its.dropLast.toArray
    rw [List.size_toArray, List.eraseIdxIfInBounds_toArray, erase_last]
  · rw [List.length_dropLast]
    omega

def rPopAt : V → List V → Hp → VK → Prop := fun x vs H Q => ∃ l xs i k y, x = .ref l ∧ vs = [.int i] ∧ H l = some (.lst xs) ∧ -(2 ^ 63) ≤ i ∧ i < 2 ^ 63 ∧ seqIndex? i xs.length = some k ∧ xs[k]? = some y ∧ Q y (upd H l (.lst (xs.eraseIdx k)))
theorem mt_popAt : MtM X "list.pop" rPopAt := by
  intro pins s σ H x vs v us Q I rx rv h
  obtain ⟨l, xs, i, k, y, rfl, rfl, hH, h1, h2, hk, hy, q⟩ := h
  cases rx
  obtain ⟨u, rfl, ru⟩ := rv.one
  obtain ⟨t, rfl⟩ := ru
  obtain ⟨z, its, n, r, hl, e⟩ := I.lstM hH
  obtain ⟨w, hw, rw'⟩ := r.get hy
  refine call_meets F.slot_list_pop ⟨_, e, rfl⟩ F.entry_list_pop (F.args_list_pop_2 _ _)
    (MeetsSeq.list_pop_at l its.toArray n i t k w (fitsIndex_both h1 h2) (by rw [List.size_toArray, ← hl]; exact hk) (by rw [← Array.getElem?_toList]; exact hw) (by rw [List.size_toArray]; omega)) ⟨e, ?_⟩
  refine ⟨y, _, I.lset (its' := its.eraseIdx k) hH e ?_ (r.eraseIdx k) ?_, rw', q⟩
  · show its.toArray.eraseIdxIfInBounds k = (its.eraseIdx k).toArray
    rw [List.eraseIdxIfInBounds_toArray]
  · have := len_erase xs k
    omega

def rReverse : V → List V → Hp → VK → Prop := fun x vs H Q => ∃ l xs, x = .ref l ∧ vs = [] ∧ H l = some (.lst xs) ∧ Q .non (upd H l (.lst xs.reverse))
theorem mt_reverse : MtM X "list.reverse" rReverse := by
  intro pins s σ H x vs v us Q I rx rv h
  obtain ⟨l, xs, rfl, rfl, hH, q⟩ := h
  cases rx
  have hus := rv.zero
  subst hus
  obtain ⟨z, its, n, r, hl, e⟩ := I.lstM hH
  refine call_meets F.slot_list_reverse ⟨_, e, rfl⟩ F.entry_list_reverse (F.args_list_reverse_1 _) (AutoSeq1.list_reverse_list_0 l its.toArray n (by rw [List.size_toArray]; omega)) ⟨e, ?_⟩
  refine ⟨.non, _, I.lset (its' := its.reverse) hH e (by simp) r.reverse ?_, rfl, q⟩
  rw [List.length_reverse]
  omega

def rClear : V → List V → Hp → VK → Prop := fun x vs H Q => ∃ l xs, x = .ref l ∧ vs = [] ∧ H l = some (.lst xs) ∧ Q .non (upd H l (.lst []))
theorem mt_clear : MtM X "list.clear" rClear := by
  intro pins s σ H x vs v us Q I rx rv h
  obtain ⟨l, xs, rfl, rfl, hH, q⟩ := h
  cases rx
  have hus := rv.zero
  subst hus
  obtain ⟨z, its, n, r, hl, e⟩ := I.lstM hH
  refine call_meets F.slot_list_clear ⟨_, e, rfl⟩ F.entry_list_clear (F.args_list_clear_1 _) (AutoSeq1.list_clear_list_0 l its.toArray n (by rw [List.size_toArray]; omega)) ⟨e, ?_⟩
  exact ⟨.non, _, I.lset (its' := []) (ys := []) hH e rfl .nil (Nat.zero_le _), rfl, q⟩

/-! ### list + list, list += list, list * int -/
def rCat : R2 := fun x y H Q => ∃ l b xs zs, x = .ref l ∧ y = .ref b ∧ H l = some (.lst xs) ∧ H b = some (.lst zs) ∧ xs.length + zs.length ≤ sizeLine ∧ ∀ p, H p = none → Q (.ref p) (upd H p (.lst (xs ++ zs)))
theorem op_cat : OpR X (binaryOp .Add) rCat := by
  intro pins s σ H x y v u Q I rx ry h
  obtain ⟨l, b, xs, zs, rfl, rfl, hH, hB, hz, q⟩ := h
  cases rx
  cases ry
  obtain ⟨z, its, n, r, hl, e⟩ := I.lstM hH
  obtain ⟨z2, its2, n2, r2, hl2, e2⟩ := I.lstM hB
  refine PySem.P.add_list e e2 ?_ (by rw [List.size_toArray, List.size_toArray]; omega)
  have ea : its.toArray ++ its2.toArray = (its ++ its2).toArray := by simp
  rw [ea]
  exact ⟨.ref _, _, I.lnew (t' := s.toks) (r.append r2) (by rw [List.length_append]; omega), rfl, q _ I.fresh⟩
/-- a list times an int (a negative one is nothing) -/
def rRep : R2 := fun x y H Q => ∃ l k xs, x = .ref l ∧ y = .int k ∧ H l = some (.lst xs) ∧ -(2 ^ 63) ≤ k ∧ k < 2 ^ 63 ∧ xs.length * k.toNat ≤ sizeLine ∧
  ∀ p, H p = none → Q (.ref p) (upd H p (.lst (List.replicate k.toNat xs).flatten))
theorem len_rep {α : Type} (xs : List α) (k : Nat) : (List.replicate k xs).flatten.length = k * xs.length := by
  induction k with
  | zero => simp
  | succ k ih => rw [List.replicate_succ, List.flatten_cons, List.length_append, ih, Nat.succ_mul, Nat.add_comm]
theorem op_rep : OpR X (binaryOp .Mult) rRep := by
  intro pins s σ H x y v u Q I rx ry h
  obtain ⟨l, k, xs, rfl, rfl, hH, h1, h2, hz, q⟩ := h
  cases rx
  obtain ⟨t, rfl⟩ := ry
  obtain ⟨z, its, n, r, hl, e⟩ := I.lstM hH
  have hlen : its.toArray.size * k.toNat ≤ sizeLine := by rw [List.size_toArray, ← hl]; exact hz
  have hcap : ¬ its.toArray.size * k.toNat > (2 ^ 63 - 1) / 8 := by
    have : (sizeLine : Nat) ≤ (2 ^ 63 - 1) / 8 := by decide
    omega
  have hfit : ¬ (!Builtin.List.listFitsIndex k) = true := by
    rw [fitsIndex_both h1 h2]
    exact Bool.false_ne_true
  have hlong : ¬ Builtin.List.listTooLong (its.toArray.size * k.toNat) = true := by
    rw [notLongL hlen]
    exact Bool.false_ne_true
  have hnew : List.foldl (fun x1 x2 => x1 ++ x2) #[] (List.replicate (if its.toArray.isEmpty = true then 0 else k.toNat) its.toArray) = (List.replicate k.toNat its).flatten.toArray := by
    have f0 : ∀ m : Nat, List.foldl (fun x1 x2 => x1 ++ x2) #[] (List.replicate m its.toArray) = (List.replicate m its).flatten.toArray := fun m => by
      have := foldl_rep its m []
      rw [List.nil_append] at this
      exact this
    rw [f0]
    cases its with
    | nil => simp
    | cons a r' => rw [if_neg (by simp)]
  refine wpAny_binaryOp_repeat_ref (T := "list") (U := "int") (by decide) ⟨_, e, rfl⟩ (fun s' => typeIs_int s' k t) noFill_list_mul F.fills_int_mul F.slot_int_rmul repeat_list F.slot_int_index.lookup
    (call_meets F.slot_int_rmul (typeIs_int s k t) F.entry_int_rmul (F.args_int_rmul_2 _ _) (int___rmul___int_list k t l its.toArray n)
      ⟨e, rfl, ⟨_, e, rfl⟩, call_meets F.slot_list_mul ⟨_, e, rfl⟩ F.entry_list_mul (F.args_list_mul_2 _ _) (AutoListH.list___mul___list_int_3 l its.toArray n k t hfit hcap hlong) ⟨e, ?_⟩⟩)
  rw [hnew]
  exact ⟨.ref _, _, I.lnew (t' := s.toks) (r.rep k.toNat) (by rw [len_rep, Nat.mul_comm]; exact hz), rfl, q _ I.fresh⟩

/-! ### del xs[i] -/
theorem del_list {pins : List (Addr × Obj)} {s : Shared} {σ : St} {H : Hp} {l : Addr} {xs : List V} {i : Int} {t : Tok} {k : Nat} {Q : Unit → Shared → Prop} (I : Inv X pins σ H s) (hH : H l = some (.lst xs))
    (h1 : -(2 ^ 63) ≤ i) (h2 : i < 2 ^ 63) (hk : seqIndex? i xs.length = some k) (h : ∀ s', Inv X pins σ (upd H l (.lst (xs.eraseIdx k))) s' → Q () s') :
    wpAny (model X.prog X.w) X.A (delItem (.ref l) (.int i t)) Q X.xe s := by
  obtain ⟨z, its, n, r, hl, e⟩ := I.lstM hH
  refine PySem.P.delItem_list (k := k) e (fitsIndex_both h1 h2) (by rw [List.size_toArray, ← hl]; exact hk) (h _ ?_) (by rw [List.size_toArray]; omega)
  refine I.lset (its' := its.eraseIdx k) (t' := s.toks) hH e ?_ (r.eraseIdx k) ?_
  · show its.toArray.eraseIdxIfInBounds k = (its.eraseIdx k).toArray
    rw [List.eraseIdxIfInBounds_toArray]
  · have := len_erase xs k
    omega
end

/-! ### xs[a:b] = ys -/
section
variable {prog : Program} {w : World} {A : Around} {E : Value → Shared → Prop} {s : Shared}
theorem splice_eq (its its2 : List Value) (a c : Nat) : its.toArray.extract 0 a ++ its2.toArray ++ its.toArray.extract c its.toArray.size = (its.take a ++ its2 ++ its.drop c).toArray := by
  apply Array.toList_inj.mp
  first
    | (simp
       exact List.take_of_length_le (by simp))
    | simp [List.take_of_length_le]
    | simp
theorem bounds_run {a c n : Nat} (hac : a ≤ c) (hc : c ≤ n) : sliceBounds (some (a : Int)) (some (c : Int)) none n = ((a : Int), (c : Int), 1) := by
  simp only [sliceBounds, Option.getD_none]
  have h1 : ¬ ((a : Int) < 0) := by omega
  have h2 : ¬ ((c : Int) < 0) := by omega
  simp only [h1, h2, if_false, show (1 : Int) > 0 by decide, if_true]
  congr 1
  · omega
  · congr 1; omega
set_option maxRecDepth 100000 in
/-- list.__setitem__ with a slice of step one and another list -/
theorem setItem_slice {l b sl : Addr} {items new : Array Value} {n n2 : Nat} {vl vu : Value} {a c : Nat} {Q : Unit → Shared → Prop}
    (e : s.heap.get? l = some { cls := .type "list", data := .seq items n }) (e2 : s.heap.get? b = some { cls := .type "list", data := .seq new n2 }) (hne : l ≠ b)
    (hs : s.heap.IsSliceOf sl vl vu .none) (pl : IsPart vl (some (a : Int))) (pu : IsPart vu (some (c : Int))) (hac : a ≤ c) (hc : c ≤ items.size)
    (hsz : items.size + new.size ≤ sizeLine) (h : Q () { s with heap := s.heap.update l (Obj.mapSeq fun xs => xs.extract 0 a ++ new ++ xs.extract c xs.size) }) :
    wpAny (model prog w) A (setItem (.ref l) (.ref sl) (.ref b)) Q E s := by
  have hl : s.heap.IsList l items := PySem.IsL.isList e
  have hb : s.heap.IsList b new := PySem.IsL.isList e2
  obtain ⟨os, hos, hcs, hds⟩ := id hs
  have hTs : s.TypeIs (.ref sl) "slice" := ⟨os, hos, hcs⟩
  have hstep : ¬ ((rawPart none == rawInt 0) = true) := Bool.false_ne_true
  have hsame : Builtin.List.listSameRef (.ref l) (.ref b) = false := by
    unfold Builtin.List.listSameRef
    exact beq_eq_false_iff_ne.mpr hne
  have hmax : (max (a : Int) (c : Int)).toNat = c := by omega
  have hz' : ((fun xs : Array Value => xs.extract 0 a ++ new ++ xs.extract c xs.size) items).size ≤ sizeLine + 1 := by
    simp only [Array.size_append, Array.size_extract]
    omega
  unfold setItem
  try with_reducible refine wpAny_holding ?_
  first | refine wpAny_bind (wpAny_pure ?_) | skip
  refine wpAny_bind (wpAny_sequenceKey hl.typeIs (by decide) ?_)
  refine wpAny_bind (wpAny_callSpecial?_slot (name := Str.ofString "__setitem__") hl.typeIs slot_list_setitem
    (wpAny_call_entry slot_list_setitem hl.typeIs entry_list_setitem ?_ (args_list_setitem _ _ _)))
  show wpAny _ _ (Builtin.List.listSubscript? (.ref sl) >>= _) _ _ s
  refine wpAny_bind ?_
  unfold Builtin.List.listSubscript?
  refine wpAny_bind (wpAny_specialOf hTs slice_no_index ?_)
  simp only [Option.isNone_none, if_true]
  refine wpAny_pure ?_
  show wpAny _ _ (typeOf (.ref sl) >>= _) _ _ s
  refine wpAny_bind (wpAny_typeOf hTs ?_)
  first
    | rw [if_neg (by decide)]
    | refine PySem.W.KFB.if_not (by decide) ?_
  rw [listSliceParts_eq]
  refine wpAny_bind (wpAny_bind (wpAny_field hos hds (x := .none) rfl (wpAny_bind (wpAny_listPart .none ?_))))
  rw [if_neg hstep]
  refine wpAny_bind (wpAny_field hos hds (x := vl) rfl (wpAny_bind (wpAny_listPart pl ?_)))
  refine wpAny_bind (wpAny_field hos hds (x := vu) rfl (wpAny_bind (wpAny_listPart pu (wpAny_pure ?_))))
  first
    | simp only [hsame, Bool.false_eq_true, if_false]
    | refine PySem.W.KFB.if_not hsame ?_
    | (dsimp only
       rw [if_neg (by rw [hsame]; exact Bool.false_ne_true)])
  refine wpAny_bind (m := Builtin.List.listAllItems (.ref b) "must assign iterable to extended slice") ?_
  unfold Builtin.List.listAllItems
  refine wpAny_bind (wpAny_typeOf hb.typeIs ?_)
  first
    | refine PySem.W.KFB.if_so (by decide) ?_
    | rw [if_pos (by decide)]
    | simp only [beq_self_eq_true, Bool.true_or, if_true]
  unfold Builtin.List.listItems
  refine wpAny_bind (wpAny_seqItems e2 rfl (wpAny_pure ?_))
  refine wpAny_bind (wpAny_bind (wpAny_seqItems e rfl (wpAny_pure ?_)))
  refine wpAny_bind (wpAny_of_eq ((sliceIndices_raw (some (a : Int)) (some (c : Int)) none items.size (by simp)).trans (congrArg (pure : Int × Int × Int → Sem (Int × Int × Int)) (bounds_run hac hc))) ?_)
  show wpAny _ _ (if ((1 : Int) == 1) = true then _ else _) _ _ s
  rw [if_pos (by decide)]
  refine wpAny_bind (wpAny_rule ?_)
  first
    | simp only [notLongL hsz, Bool.false_eq_true, if_false]
    | refine PySem.W.KFB.if_not (notLongL hsz) ?_
  first | refine wpAny_bind (wpAny_pure ?_) | skip
  show wpAny _ _ (updateSeq l (fun xs => xs.extract 0 ((a : Int)).toNat ++ new ++ xs.extract (max (a : Int) (c : Int)).toNat xs.size) >>= _) _ _ s
  rw [hmax, Int.toNat_natCast]
  refine wpAny_bind (wpAny_updateSeq (hz := Nat.le_trans (Nat.le_add_right _ _) hsz) (_hz' := hz') e rfl ?_)
  refine wpAny_bind (wpAny_letGo ?_)
  first
    | exact wpAny_bind (wpAny_pure (wpAny_pure ⟨.none, rfl, wpAny_pure h⟩))
    | exact wpAny_pure ⟨.none, rfl, wpAny_pure h⟩
end

section
variable {X : Cx}
/-- xs[a:c] = ys of another list, at the value level: sl is the slice object that was just made -/
theorem set_slice {pins : List (Addr × Obj)} {s : Shared} {σ : St} {H : Hp} {l b sl : Addr} {xs ys : List V} {a c : Int} {vl vu : Value} {Q : Unit → Shared → Prop} (I : Inv X pins σ H s)
    (hH : H l = some (.lst xs)) (hB : H b = some (.lst ys)) (hne : l ≠ b) (hs : s.heap.IsSliceOf sl vl vu .none) (ra : RelV (.int a) vl) (rc : RelV (.int c) vu) (h0 : 0 ≤ a) (hac : a ≤ c) (hc : c ≤ xs.length)
    (hz : xs.length + ys.length ≤ sizeLine) (h : ∀ s', Inv X pins σ (upd H l (.lst (xs.take a.toNat ++ ys ++ xs.drop c.toNat))) s' → Q () s') :
    wpAny (model X.prog X.w) X.A (setItem (.ref l) (.ref sl) (.ref b)) Q X.xe s := by
  obtain ⟨ta, rfl⟩ := ra
  obtain ⟨tc, rfl⟩ := rc
  obtain ⟨z, its, n, r, hl, e⟩ := I.lstM hH
  obtain ⟨z2, its2, n2, r2, hl2, e2⟩ := I.lstM hB
  obtain ⟨a', rfl⟩ := Int.eq_ofNat_of_zero_le h0
  obtain ⟨c', rfl⟩ := Int.eq_ofNat_of_zero_le (Int.le_trans h0 hac)
  simp only [Int.toNat_natCast] at h
  refine setItem_slice (a := a') (c := c') e e2 hne hs (.int _ _) (.int _ _) (by omega) (by rw [List.size_toArray]; omega) (by rw [List.size_toArray, List.size_toArray]; omega) (h _ ?_)
  refine I.lset (its' := its.take a' ++ its2 ++ its.drop c') (t' := s.toks) hH e ?_ (Vals.append (Vals.append (r.take _) r2) (r.drop _)) ?_
  · exact splice_eq its its2 a' c'
  · rw [List.length_append, List.length_append, List.length_take, List.length_drop]
    omega
end
end L2

namespace L2
open PySem PySem.Spec PyProof.Rows

/-! ### lists of pairs as tables -/
section
variable {κ : Type} [DecidableEq κ]
def valV (kvs : List (κ × V)) (k : κ) : Option V := (kvs.find? fun kv => decide (kv.1 = k)).map (·.2)
/-- in its place, or at the end -/
def putK (kvs : List (κ × V)) (k : κ) (v : V) : List (κ × V) :=
  if (kvs.any fun kv => decide (kv.1 = k)) = true then kvs.map (fun kv => if kv.1 = k then (kv.1, v) else kv) else kvs ++ [(k, v)]
def dropK (kvs : List (κ × V)) (k : κ) : List (κ × V) := kvs.filter fun kv => decide (kv.1 ≠ k)

theorem valV_nil {k : κ} : valV ([] : List (κ × V)) k = none := rfl
theorem valV_pos {p : κ × V} {r : List (κ × V)} {k : κ} (e : p.1 = k) : valV (p :: r) k = some p.2 := by simp [valV, List.find?_cons, e]
theorem valV_neg {p : κ × V} {r : List (κ × V)} {k : κ} (e : ¬ p.1 = k) : valV (p :: r) k = valV r k := by simp [valV, List.find?_cons, e]
theorem valV_any (k : κ) : ∀ kvs : List (κ × V), (kvs.any fun kv => decide (kv.1 = k)) = (valV kvs k).isSome
  | [] => rfl
  | p :: r => by
    rw [List.any_cons]
    by_cases e : p.1 = k
    · simp only [valV_pos e, decide_eq_true e, Bool.true_or, Option.isSome_some]
    · rw [valV_neg e, decide_eq_false e, Bool.false_or]; exact valV_any k r
theorem valV_map (k j : κ) (y : V) : ∀ kvs : List (κ × V), valV (kvs.map fun kv => if kv.1 = k then (kv.1, y) else kv) j = (valV kvs j).map fun x => if j = k then y else x
  | [] => rfl
  | p :: r => by
    have ih := valV_map k j y r
    rw [List.map_cons]
    by_cases h : p.1 = k
    · rw [if_pos h]
      by_cases e : p.1 = j
      · rw [valV_pos (p := (p.1, y)) e, valV_pos e, Option.map_some, if_pos (e.symm.trans h)]
      · rw [valV_neg (p := (p.1, y)) e, valV_neg e, ih]
    · rw [if_neg h]
      by_cases e : p.1 = j
      · rw [valV_pos (p := p) e, valV_pos e, Option.map_some, if_neg (fun z => h (e.trans z))]
      · rw [valV_neg (p := p) e, valV_neg e, ih]
theorem valV_snoc (k j : κ) (y : V) : ∀ kvs : List (κ × V), valV kvs k = none → valV (kvs ++ [(k, y)]) j = if j = k then some y else valV kvs j
  | [], _ => by
    by_cases e : k = j
    · rw [if_pos e.symm]; exact valV_pos (p := (k, y)) e
    · rw [if_neg (fun z => e z.symm)]; exact valV_neg (p := (k, y)) e
  | p :: r, hn => by
    rw [List.cons_append]
    have hk : ¬ p.1 = k := fun z => by rw [valV_pos z] at hn; cases hn
    rw [valV_neg hk] at hn
    have ih := valV_snoc k j y r hn
    by_cases e : p.1 = j
    · rw [valV_pos e, valV_pos e, if_neg (fun z => hk (e.trans z))]
    · rw [valV_neg e, valV_neg e, ih]
theorem valV_put (kvs : List (κ × V)) (k j : κ) (y : V) : valV (putK kvs k y) j = if j = k then some y else valV kvs j := by
  unfold putK
  by_cases a : (kvs.any fun kv => decide (kv.1 = k)) = true
  · rw [if_pos a, valV_map]
    rw [valV_any] at a
    by_cases e : j = k
    · obtain ⟨x, hx⟩ := Option.isSome_iff_exists.mp a
      rw [if_pos e, e, hx, Option.map_some, if_pos rfl]
    · rw [if_neg e]
      cases valV kvs j with
      | none => rfl
      | some x => rw [Option.map_some, if_neg e]
  · rw [if_neg a]
    refine valV_snoc k j y kvs ?_
    rw [valV_any] at a
    cases q : valV kvs k with
    | none => rfl
    | some x => rw [q] at a; exact (a rfl).elim
theorem length_putK (kvs : List (κ × V)) (k : κ) (v : V) : (putK kvs k v).length ≤ kvs.length + 1 := by
  unfold putK
  split
  · rw [List.length_map]; omega
  · rw [List.length_append, List.length_cons, List.length_nil]; omega
theorem putK_new {kvs : List (κ × V)} {k : κ} (v : V) (h : valV kvs k = none) : putK kvs k v = kvs ++ [(k, v)] := by
  unfold putK
  rw [valV_any, h]
  exact if_neg (by decide)

theorem RelO.isSome_eq {o : Option V} {u : Option Value} (r : RelO o u) : o.isSome = u.isSome := by
  cases o with
  | none => cases u with
    | none => rfl
    | some _ => exact (show False from r).elim
  | some _ => cases u with
    | none => exact (show False from r).elim
    | some _ => rfl
theorem RelO.getD {o : Option V} {u : Option Value} {d : V} {d' : Value} (r : RelO o u) (rd : RelV d d') : RelV (o.getD d) (u.getD d') := by
  cases o with
  | none => cases u with
    | none => exact rd
    | some _ => exact (show False from r).elim
  | some _ => cases u with
    | none => exact (show False from r).elim
    | some _ => exact r

/-- raw tables of the same keys -/
theorem KV.val {kvs : List (κ × V)} {vs : List (κ × Value)} (r : KV kvs vs) (k : κ) : RelO (valV kvs k) (valueAt vs k) := by
  unfold KV at r
  induction r with
  | nil => exact True.intro
  | @cons p q ps qs h t ih =>
    obtain ⟨h1, h2⟩ := h
    by_cases e : p.1 = k
    · have e' : q.1 = k := h1.symm.trans e
      have b : valueAt (q :: qs) k = some q.2 := by simp [valueAt, List.find?_cons, e']
      rw [valV_pos e, b]; exact h2
    · have e' : ¬ q.1 = k := fun z => e (h1.trans z)
      have b : valueAt (q :: qs) k = valueAt qs k := by simp [valueAt, List.find?_cons, e']
      rw [valV_neg e, b]; exact ih
theorem KV.any {kvs : List (κ × V)} {vs : List (κ × Value)} (r : KV kvs vs) (k : κ) : (kvs.any fun kv => decide (kv.1 = k)) = vs.any fun kv => decide (kv.1 = k) := by
  unfold KV at r
  induction r with
  | nil => rfl
  | cons h t ih => rw [List.any_cons, List.any_cons, ih, h.1]
theorem KV.repl {kvs : List (κ × V)} {vs : List (κ × Value)} (r : KV kvs vs) (k : κ) {y : V} {u : Value} (ry : RelV y u) :
    KV (kvs.map fun kv => if kv.1 = k then (kv.1, y) else kv) (vs.map fun kv => if kv.1 = k then (kv.1, u) else kv) := by
  unfold KV at r ⊢
  induction r with
  | nil => exact .nil
  | @cons p q ps qs h t ih =>
    rw [List.map_cons, List.map_cons]
    refine .cons ?_ ih
    obtain ⟨h1, h2⟩ := h
    by_cases e : p.1 = k
    · rw [if_pos e, if_pos (h1.symm.trans e)]; exact ⟨h1, ry⟩
    · rw [if_neg e, if_neg (fun z => e (h1.trans z))]; exact ⟨h1, h2⟩
theorem KV.put {kvs : List (κ × V)} {vs : List (κ × Value)} (r : KV kvs vs) (k : κ) {y : V} {u : Value} (ry : RelV y u) : KV (putK kvs k y) (stored vs k u) := by
  unfold putK stored
  rw [r.any k]
  by_cases e : (vs.any fun kv => decide (kv.1 = k)) = true
  · rw [if_pos e, if_pos e]; exact r.repl k ry
  · rw [if_neg e, if_neg e]; exact Paired.snoc r ⟨rfl, ry⟩
theorem KV.drop {kvs : List (κ × V)} {vs : List (κ × Value)} (r : KV kvs vs) (k : κ) : KV (dropK kvs k) (without vs k) := by
  unfold KV at r ⊢
  unfold dropK without
  induction r with
  | nil => exact .nil
  | @cons p q ps qs h t ih =>
    obtain ⟨h1, h2⟩ := h
    rw [List.filter_cons, List.filter_cons]
    by_cases e : p.1 = k
    · have a : ¬ decide (p.1 ≠ k) = true := by simp [e]
      have b : ¬ decide (q.1 ≠ k) = true := by simp [h1.symm.trans e]
      rw [if_neg a, if_neg b]; exact ih
    · have e' : ¬ q.1 = k := fun z => e (h1.trans z)
      have a : decide (p.1 ≠ k) = true := by simp [e]
      have b : decide (q.1 ≠ k) = true := by simp [e']
      rw [if_pos a, if_pos b]; exact .cons ⟨h1, h2⟩ ih
theorem KV.keys {kvs : List (κ × V)} {vs : List (κ × Value)} (r : KV kvs vs) : kvs.map (·.1) = vs.map (·.1) := by
  unfold KV at r
  induction r with
  | nil => rfl
  | cons h t ih => rw [List.map_cons, List.map_cons, ih, h.1]
theorem KV.length {kvs : List (κ × V)} {vs : List (κ × Value)} (r : KV kvs vs) : kvs.length = vs.length := Paired.length r
theorem dropK_le (kvs : List (κ × V)) (k : κ) : (dropK kvs k).length ≤ kvs.length := List.length_filter_le _ _
end


/-! ### a tracked dict, its keys ints and texts or tuples of these -/
theorem kV_is {P : Program} {w : World} {k : Key} {u : Value} (r : RelV (kV k) u) : (mixKind P w).is k u = true := by
  cases k with
  | inl i => obtain ⟨t, e⟩ := (show ∃ t, u = Value.int i t from r); subst e; exact mixKind_int P w i t
  | inr x => obtain ⟨t, e⟩ := (show ∃ t, u = Value.str x t from r); subst e; exact mixKind_str P w x t
theorem kV_inj {a b : Key} (e : kV a = kV b) : a = b := by
  cases a with
  | inl i => cases b with
    | inl j => have e' : V.int i = V.int j := e; injection e' with e'; rw [e']
    | inr y => exact nomatch (show V.int i = V.str y from e)
  | inr x => cases b with
    | inl j => exact nomatch (show V.str x = V.int j from e)
    | inr y => have e' : V.str x = V.str y := e; injection e' with e'; rw [e']
theorem kVs_inj : ∀ {a b : List Key}, a.map kV = b.map kV → a = b
  | [], [], _ => rfl
  | [], _ :: _, e => by simp at e
  | _ :: _, [], e => by simp at e
  | x :: xs, y :: ys, e => by
    rw [List.map_cons, List.map_cons] at e
    injection e with e1 e2
    rw [kV_inj e1, kVs_inj e2]
theorem items_are {P : Program} {w : World} : ∀ {ks : List Key} {us : List Value}, Vals (ks.map kV) us → ItemsAre (mixKind P w) ks us
  | [], _, r => by rw [List.map_nil] at r; cases r; exact .nil
  | k :: ks, _, r => by
    rw [List.map_cons] at r
    cases r with
    | cons h t => exact .cons (kV_is h) (items_are t)

/-- raw entries of a dict with tuple keys -/
abbrev KT (H : Hp) : List (List Key × V) → List (List Key × Addr × Value) → Prop := Paired fun p q => p.1 = q.1 ∧ H q.2.1 = some (.tup (p.1.map kV)) ∧ RelV p.2 q.2.2
theorem KT.val {H : Hp} {kvs : List (List Key × V)} {xs : List (List Key × Addr × Value)} (r : KT H kvs xs) (k : List Key) : RelO (valV kvs k) ((atKey xs k).map (·.2)) := by
  induction r with
  | nil => exact True.intro
  | @cons p q ps qs h t ih =>
    obtain ⟨h1, _, h2⟩ := h
    by_cases e : p.1 = k
    · have e' : q.1 = k := h1.symm.trans e
      have b : atKey (q :: qs) k = some q.2 := by simp [atKey, List.find?_cons, e']
      rw [valV_pos e, b]; exact h2
    · have e' : ¬ q.1 = k := fun z => e (h1.trans z)
      have b : atKey (q :: qs) k = atKey qs k := by simp [atKey, List.find?_cons, e']
      rw [valV_neg e, b]; exact ih
theorem KT.repl {H : Hp} {kvs : List (List Key × V)} {xs : List (List Key × Addr × Value)} (r : KT H kvs xs) (k : List Key) {y : V} {u : Value} (ry : RelV y u) :
    KT H (kvs.map fun kv => if kv.1 = k then (kv.1, y) else kv) (xs.map (putAt k u)) := by
  induction r with
  | nil => exact .nil
  | @cons p q ps qs h t ih =>
    rw [List.map_cons, List.map_cons]
    refine .cons ?_ ih
    obtain ⟨h1, h2, h3⟩ := h
    unfold putAt
    by_cases e : p.1 = k
    · rw [if_pos e, if_pos (h1.symm.trans e)]; exact ⟨h1, h2, ry⟩
    · rw [if_neg e, if_neg (fun z => e (h1.trans z))]; exact ⟨h1, h2, h3⟩
theorem KT.put {H : Hp} {kvs : List (List Key × V)} {xs : List (List Key × Addr × Value)} (r : KT H kvs xs) (k : List Key) {b : Addr} {y : V} {u : Value} (hb : H b = some (.tup (k.map kV))) (ry : RelV y u) :
    KT H (putK kvs k y) (storedH xs k b u) := by
  have e : (kvs.any fun kv => decide (kv.1 = k)) = (atKey xs k).isSome := by
    rw [valV_any, (r.val k).isSome_eq, Option.isSome_map]
  unfold putK storedH
  rw [e]
  by_cases q : (atKey xs k).isSome = true
  · rw [if_pos q, if_pos q]; exact r.repl k ry
  · rw [if_neg q, if_neg q]; exact Paired.snoc r ⟨rfl, hb, ry⟩
theorem KT.keeps {H H' : Hp} {kvs : List (List Key × V)} {xs : List (List Key × Addr × Value)} (r : KT H kvs xs) (ht : ∀ b ys, H b = some (.tup ys) → H' b = some (.tup ys)) : KT H' kvs xs :=
  Paired.mapP r fun _ _ z => ⟨z.1, ht _ _ z.2.1, z.2.2⟩

section
variable {P : Program} {w : World} {H : Hp} {h : Heap} {a : Addr}
theorem rd_of {u : HO} (ok : HOk P w H h) (e : Rd H a u) : ObjOk P w H h a u := e.ok ok
theorem dk_rd {kvs : List (Key × V)} (ok : HOk P w H h) (e : Rd H a (.dK kvs)) : kvs.length ≤ sizeLine ∧ (a == sysModules) = false ∧ ∃ vs, KV kvs vs ∧ h.DictOf (mixKind P w) a vs :=
  show ObjOk P w H h a (.dK kvs) from rd_of ok e
theorem dk_of {kvs : List (Key × V)} (ok : HOk P w H h) (e : H a = some (.dK kvs)) : kvs.length ≤ sizeLine ∧ (a == sysModules) = false ∧ ∃ vs, KV kvs vs ∧ h.DictOf (mixKind P w) a vs := dk_rd ok (.inl e)
/-- a tracked tuple of ints and texts is a key -/
theorem key_of {ks : List Key} (ok : HOk P w H h) (e : H a = some (.tup (ks.map kV))) : (tupleKind (mixKind P w)).is h ks a := by
  obtain ⟨_, its, r, o, h1, h2, n, h3⟩ := (show ObjOk P w H h a (.tup (ks.map kV)) from ok a _ e)
  exact ⟨o, its.toArray, n, h1, h2, h3, by simpa using items_are r⟩
theorem dt_rd {kvs : List (List Key × V)} (ok : HOk P w H h) (e : Rd H a (.dT kvs)) : kvs.length ≤ sizeLine ∧ (a == sysModules) = false ∧
    ∃ xs, KT H kvs xs ∧ h.DictOfH (tupleKind (mixKind P w)) a xs := by
  obtain ⟨z, y, xs, r, o, es, ep, h1, h2, h3, h4, h5⟩ := (show ObjOk P w H h a (.dT kvs) from rd_of ok e)
  refine ⟨z, y, xs, r, o, es, ep, h1, h2, h3, h4, fun x hx => ?_, h5⟩
  have all : ∀ {l : List (List Key × V)} {m : List (List Key × Addr × Value)}, KT H l m → ∀ x ∈ m, (tupleKind (mixKind P w)).is h x.1 x.2.1 := by
    intro l m q
    induction q with
    | nil => intro x hx; exact nomatch hx
    | @cons p q ps qs hq t ih =>
      intro x hx
      rcases List.mem_cons.mp hx with e | hx
      · subst e
        exact key_of ok (by rw [← hq.1]; exact hq.2.1)
      · exact ih x hx
  exact all r x hx
theorem dt_of {kvs : List (List Key × V)} (ok : HOk P w H h) (e : H a = some (.dT kvs)) : kvs.length ≤ sizeLine ∧ (a == sysModules) = false ∧
    ∃ xs, KT H kvs xs ∧ h.DictOfH (tupleKind (mixKind P w)) a xs := dt_rd ok (.inl e)
end

/-- what the dict at a holds at the key y -/
def DGet (H : Hp) (a : Addr) (y : V) (r : Option V) : Prop :=
  (∃ kvs k, Rd H a (.dK kvs) ∧ y = kV k ∧ r = valV kvs k) ∨ ∃ kvs k b, Rd H a (.dT kvs) ∧ y = .ref b ∧ H b = some (.tup (k.map kV)) ∧ r = valV kvs k
/-- the heap behind a[y] = v -/
def DPut (H : Hp) (a : Addr) (y v : V) (H' : Hp) : Prop :=
  (∃ kvs k, H a = some (.dK kvs) ∧ y = kV k ∧ kvs.length < sizeLine ∧ H' = upd H a (.dK (putK kvs k v))) ∨
  ∃ kvs k b, H a = some (.dT kvs) ∧ y = .ref b ∧ H b = some (.tup (k.map kV)) ∧ kvs.length < sizeLine ∧ H' = upd H a (.dT (putK kvs k v))
theorem DGet.k {H : Hp} {a : Addr} {kvs : List (Key × V)} {k : Key} (e : H a = some (.dK kvs)) : DGet H a (kV k) (valV kvs k) := .inl ⟨kvs, k, .inl e, rfl, rfl⟩
theorem DGet.t {H : Hp} {a b : Addr} {kvs : List (List Key × V)} {k : List Key} (e : H a = some (.dT kvs)) (eb : H b = some (.tup (k.map kV))) : DGet H a (.ref b) (valV kvs k) := .inr ⟨kvs, k, b, .inl e, rfl, eb, rfl⟩
theorem DPut.k {H : Hp} {a : Addr} {kvs : List (Key × V)} {k : Key} {v : V} (e : H a = some (.dK kvs)) (hl : kvs.length < sizeLine) : DPut H a (kV k) v (upd H a (.dK (putK kvs k v))) := .inl ⟨kvs, k, e, rfl, hl, rfl⟩
theorem DPut.t {H : Hp} {a b : Addr} {kvs : List (List Key × V)} {k : List Key} {v : V} (e : H a = some (.dT kvs)) (eb : H b = some (.tup (k.map kV))) (hl : kvs.length < sizeLine) :
    DPut H a (.ref b) v (upd H a (.dT (putK kvs k v))) := .inr ⟨kvs, k, b, e, rfl, eb, hl, rfl⟩


section
variable {X : Cx} {pins : List (Addr × Obj)} {σ : St} {H : Hp} {s : Shared} {a : Addr} {y v : V} {u r : Value} {o : Option V} {A : Around} {E : Value → Shared → Prop}

theorem Inv.big (I : Inv X pins σ H s) : sysModules < s.heap.objs.size := by
  have h : mainGlobals < s.heap.objs.size := (I.mod.glob.keeps I.bk).lt
  exact Nat.lt_trans (by decide) h

/-- d[y], there -/
theorem d_getItem {Q : Value → Shared → Prop} (hu : A.units + 1 < cLine) (I : Inv X pins σ H s) (g : DGet H a y (some v)) (ry : RelV y u) (h : ∀ w' s', Inv X pins σ H s' → RelV v w' → Q w' s') :
    wpAny (model X.prog X.w) A (getItem (.ref a) u) Q E s := by
  rcases g with ⟨kvs, k, e, ey, l⟩ | ⟨kvs, k, b, e, ey, eb, l⟩
  · subst ey
    obtain ⟨z, hd, vs, rel, dd⟩ := dk_rd I.hok e
    obtain ⟨w', hw, rw'⟩ := RelO.some_of (v := v) (o := valueAt vs k) (by rw [l]; exact rel.val k)
    exact wpAny_getItem_of (kV_is ry) dd.mapOf hw (h w' _ (I.tok _) rw')
  · subst ey
    cases (show u = Value.ref b from ry)
    obtain ⟨z, hd, xs, rel, dd⟩ := dt_rd I.hok e
    obtain ⟨w', hw, rw'⟩ := RelO.some_of (v := v) (o := (atKey xs k).map (·.2)) (by rw [l]; exact rel.val k)
    obtain ⟨p, hp, hp2⟩ := Option.map_eq_some_iff.mp hw
    refine wpAny_getItem_heap (tupleKind_room_in1 hu) (key_of I.hok eb) dd hp ?_
    rw [hp2]
    exact h w' _ (I.tok _) rw'
/-- y in d -/
theorem d_in {Q : Value → Shared → Prop} (hu : A.units + 1 < cLine) (I : Inv X pins σ H s) (g : DGet H a y o) (ry : RelV y u) (h : ∀ s', Inv X pins σ H s' → Q (.bool o.isSome) s') :
    wpAny (model X.prog X.w) A (compareOp .In u (.ref a)) Q E s := by
  rcases g with ⟨kvs, k, e, ey, l⟩ | ⟨kvs, k, b, e, ey, eb, l⟩
  · subst ey
    obtain ⟨z, hd, vs, rel, dd⟩ := dk_rd I.hok e
    refine wpAny_in_of (kV_is ry) hd dd.mapOf ?_
    rw [← (rel.val k).isSome_eq, ← l]
    exact h _ (I.tok _)
  · subst ey
    cases (show u = Value.ref b from ry)
    obtain ⟨z, hd, xs, rel, dd⟩ := dt_rd I.hok e
    refine wpAny_in_heap (tupleKind_room_in1 hu) (key_of I.hok eb) hd dd ?_
    have q := (rel.val k).isSome_eq
    rw [Option.isSome_map] at q
    rw [← q, ← l]
    exact h _ (I.tok _)
theorem d_notIn {Q : Value → Shared → Prop} (hu : A.units + 1 < cLine) (I : Inv X pins σ H s) (g : DGet H a y o) (ry : RelV y u) (h : ∀ s', Inv X pins σ H s' → Q (.bool (!o.isSome)) s') :
    wpAny (model X.prog X.w) A (compareOp .NotIn u (.ref a)) Q E s := by
  rcases g with ⟨kvs, k, e, ey, l⟩ | ⟨kvs, k, b, e, ey, eb, l⟩
  · subst ey
    obtain ⟨z, hd, vs, rel, dd⟩ := dk_rd I.hok e
    refine wpAny_notIn_of (kV_is ry) hd dd.mapOf ?_
    rw [← (rel.val k).isSome_eq, ← l]
    exact h _ (I.tok _)
  · subst ey
    cases (show u = Value.ref b from ry)
    obtain ⟨z, hd, xs, rel, dd⟩ := dt_rd I.hok e
    refine wpAny_notIn_heap (tupleKind_room_in1 hu) (key_of I.hok eb) hd dd ?_
    have q := (rel.val k).isSome_eq
    rw [Option.isSome_map] at q
    rw [← q, ← l]
    exact h _ (I.tok _)
/-- a dict's object is replaced -/
theorem d_write {h' : Heap} {t' : Nat} {ob : HO} (I : Inv X pins σ H s) (mu : Mut (H a)) (hs : Heap.SameBut a s.heap h') (he : ∃ q, h'.get? a = some q) (new : ObjOk X.prog X.w (upd H a ob) h' a ob) :
    Inv X pins σ (upd H a ob) { s with heap := h', toks := t' } :=
  I.write (x := a) (e := a) mu (.inl rfl) (fun b q hb z => (hs.2 b hb).trans z) he new
theorem dk_new {P : Program} {w : World} {H' : Hp} {h' : Heap} {kvs : List (Key × V)} {vs : List (Key × Value)} (z : kvs.length ≤ sizeLine) (hd : (a == sysModules) = false) (rel : KV kvs vs) (dd : h'.DictOf (mixKind P w) a vs) :
    ObjOk P w H' h' a (.dK kvs) := ⟨z, hd, vs, rel, dd⟩
/-- d[y] = v -/
theorem d_setItem {H' : Hp} {Q : Unit → Shared → Prop} (hu : A.units + 1 < cLine) (I : Inv X pins σ H s) (g : DPut H a y v H') (ry : RelV y u) (rv : RelV v r) (h : ∀ s', Inv X pins σ H' s' → Q () s') :
    wpAny (model X.prog X.w) A (setItem (.ref a) u r) Q E s := by
  rcases g with ⟨kvs, k, e, ey, l, eH⟩ | ⟨kvs, k, b, e, ey, eb, l, eH⟩
  · subst ey eH
    obtain ⟨z, hd, vs, rel, dd⟩ := dk_of I.hok e
    have hz : vs.length ≤ sizeLine := by rw [← rel.length]; exact z
    have hl : (putK kvs k v).length ≤ sizeLine := by have := length_putK kvs k v; omega
    refine wpAny_setItem_pairs (hsz := hz) (kV_is ry) dd fun h' dd' hs => h _ ?_
    have he : ∃ q, h'.get? a = some q := let ⟨q, _, _, hq, _⟩ := dd'; ⟨q, hq⟩
    exact d_write I (by rw [e]; exact True.intro) hs he (dk_new hl hd (rel.put k rv) dd')
  · subst ey eH
    cases (show u = Value.ref b from ry)
    obtain ⟨z, hd, xs, rel, dd⟩ := dt_of I.hok e
    have hz : xs.length ≤ sizeLine := by rw [← Paired.length rel]; exact z
    have hl : (putK kvs k v).length ≤ sizeLine := by have := length_putK kvs k v; omega
    refine wpAny_setItem_heap (hsz := hz) (tupleKind_room_in1 hu) (key_of I.hok eb) dd fun h' dd' hs => h _ ?_
    obtain ⟨q, es, ep, hq, h2, h3, h4, _, h5⟩ := dd'
    refine d_write I (by rw [e]; exact True.intro) hs ⟨q, hq⟩ ⟨hl, hd, _, (rel.put k eb rv).keeps fun c ys ec => ?_, q, es, ep, hq, h2, h3, h4, h5⟩
    rw [upd_ne (ne_of ec e (fun z => nomatch z))]
    exact ec
end

section
variable {X : Cx} {pins : List (Addr × Obj)} {σ : St} {H : Hp} {s : Shared} {a : Addr} {kvs : List (Key × V)} {k : Key} {u : Value} {A : Around} {E : Value → Shared → Prop}
/-- del d[k] -/
theorem d_delItem {Q : Unit → Shared → Prop} (I : Inv X pins σ H s) (e : H a = some (.dK kvs)) (ry : RelV (kV k) u) (l : (valV kvs k).isSome = true) (h : ∀ s', Inv X pins σ (upd H a (.dK (dropK kvs k))) s' → Q () s') :
    wpAny (model X.prog X.w) A (delItem (.ref a) u) Q E s := by
  obtain ⟨z, hd, vs, rel, dd⟩ := dk_of I.hok e
  refine wpAny_delItem_slot dd.typeIs (by decide) PySem.F.slot_dict_delitem
    (call_meetsIn PySem.F.slot_dict_delitem dd.typeIs PySem.F.entry_dict_delitem (PySem.F.args_dict_delitem_2 _ _) (meets_dict_delitem_pairs (mixKind X.prog X.w) a (kV_is ry)) ⟨vs, dd, by rw [← rel.length]; exact z, by rw [← (rel.val k).isSome_eq]; exact l, fun h' dd' hs => h _ ?_⟩)
  have he : ∃ q, h'.get? a = some q := let ⟨q, _, _, hq, _⟩ := dd'; ⟨q, hq⟩
  exact d_write I (by rw [e]; exact True.intro) hs he (dk_new (Nat.le_trans (dropK_le kvs k) z) hd (rel.drop k) dd')
/-- d.pop(k[, x]), there -/
theorem d_pop {v : V} {more : List Value} {Q : Value → Shared → Prop} (I : Inv X pins σ H s) (e : H a = some (.dK kvs)) (ry : RelV (kV k) u) (l : valV kvs k = some v) (hm : more = [] ∨ ∃ x, more = [x])
    (h : ∀ w' s', Inv X pins σ (upd H a (.dK (dropK kvs k))) s' → RelV v w' → Q w' s') : wpAny (model X.prog X.w) A (call (.builtin "dict.pop") (.ref a :: u :: more)) Q E s := by
  obtain ⟨z, hd, vs, rel, dd⟩ := dk_of I.hok e
  obtain ⟨w', hw, rw'⟩ := RelO.some_of (v := v) (o := valueAt vs k) (by rw [← l]; exact rel.val k)
  have hp : (keyPart u).isSome = true := by
    cases k with
    | inl i => obtain ⟨t, q⟩ := (show ∃ t, u = Value.int i t from ry); subst q; rfl
    | inr x => obtain ⟨t, q⟩ := (show ∃ t, u = Value.str x t from ry); subst q; rfl
  have ha : argsOk "dict.pop" ⟨.ref a :: u :: more, []⟩ := by
    rcases hm with q | ⟨x, q⟩
    · subst q; exact PySem.F.args_dict_pop_2 _ _
    · subst q; exact PySem.F.args_dict_pop_3 _ _ _
  refine call_meetsIn PySem.F.slot_dict_pop dd.typeIs PySem.F.entry_dict_pop ha (meets_dict_pop_there (mixKind X.prog X.w) a (kV_is ry) more hm hp)
    ⟨vs, w', dd, by rw [← rel.length]; exact z, hw, fun h' dd' hs => h w' _ ?_ rw'⟩
  have he : ∃ q, h'.get? a = some q := let ⟨q, _, _, hq, _⟩ := dd'; ⟨q, hq⟩
  exact d_write I (by rw [e]; exact True.intro) hs he (dk_new (Nat.le_trans (dropK_le kvs k) z) hd (rel.drop k) dd')
/-- d.pop(k, x), not there -/
theorem d_popD {r : Value} {Q : Value → Shared → Prop} (I : Inv X pins σ H s) (e : H a = some (.dK kvs)) (ry : RelV (kV k) u) (l : valV kvs k = none) (h : ∀ s', Inv X pins σ H s' → Q r s') :
    wpAny (model X.prog X.w) A (call (.builtin "dict.pop") [.ref a, u, r]) Q E s := by
  obtain ⟨z, hd, vs, rel, dd⟩ := dk_of I.hok e
  have hn : valueAt vs k = none := RelO.none_of (by rw [← l]; exact rel.val k)
  have hp : (keyPart u).isSome = true := by
    cases k with
    | inl i => obtain ⟨t, q⟩ := (show ∃ t, u = Value.int i t from ry); subst q; rfl
    | inr x => obtain ⟨t, q⟩ := (show ∃ t, u = Value.str x t from ry); subst q; rfl
  exact call_meetsIn PySem.F.slot_dict_pop dd.typeIs PySem.F.entry_dict_pop (PySem.F.args_dict_pop_3 _ _ _) (meets_dict_pop_default (mixKind X.prog X.w) a (kV_is ry) hd hp r) ⟨vs, dd, hn, h _ (I.tok _)⟩
/-- d.clear() -/
theorem d_clear {Q : Value → Shared → Prop} (I : Inv X pins σ H s) (e : H a = some (.dK kvs)) (h : ∀ s', Inv X pins σ (upd H a (.dK [])) s' → Q .none s') : wpAny (model X.prog X.w) A (call (.builtin "dict.clear") [.ref a]) Q E s := by
  obtain ⟨z, hd, vs, rel, dd⟩ := dk_of I.hok e
  refine call_meetsIn PySem.F.slot_dict_clear dd.typeIs PySem.F.entry_dict_clear (PySem.F.args_dict_clear_1 _) (meets_dict_clear (mixKind X.prog X.w) a) ⟨vs, dd, by rw [← rel.length]; exact z, fun h' dd' hs => h _ ?_⟩
  have he : ∃ q, h'.get? a = some q := let ⟨q, _, _, hq, _⟩ := dd'; ⟨q, hq⟩
  exact d_write (t' := s.toks) I (by rw [e]; exact True.intro) hs he (dk_new (Nat.zero_le _) hd .nil dd')
/-- len(d) -/
theorem d_len {Q : Value → Shared → Prop} (I : Inv X pins σ H s) (e : Rd H a (.dK kvs)) (h : ∀ t s', Inv X pins σ H s' → Q (.int kvs.length t) s') : wpAny (model X.prog X.w) A (call (.builtin "len") [.ref a]) Q E s := by
  obtain ⟨z, hd, vs, rel, dd⟩ := dk_rd I.hok e
  refine call_len_dict hd dd (by rw [← rel.length]; rw [sizeLine_eq] at z; omega) ?_
  rw [← rel.length]
  exact h _ _ (I.tok _)
/-- if d -/
theorem d_truth {Q : Bool → Shared → Prop} (I : Inv X pins σ H s) (e : Rd H a (.dK kvs)) (h : ∀ s', Inv X pins σ H s' → Q (!kvs.isEmpty) s') : wpAny (model X.prog X.w) A (truthy (.ref a)) Q E s := by
  obtain ⟨z, hd, vs, rel, dd⟩ := dk_rd I.hok e
  refine wpAny_truthy_dict hd dd (by rw [← rel.length]; rw [sizeLine_eq] at z; omega) ?_
  have q : kvs.isEmpty = vs.isEmpty := by cases rel <;> rfl
  rw [← q]
  exact h _ (I.tok _)
end


/-! ### readings and rules -/
/-- the element of a subscription, not a slice -/
def NoSl (i : Expr) : Prop := ∀ ov iv, subscripted i false ov iv = operate [ov, iv] (getItem ov iv)
theorem subD_of {prog : Program} {w : World} {A : Around} {E : Value → Shared → Prop} {s : Shared} {env : Env} {value slice : Expr} {pos : Pos} {T id : String} {Q : Value → Shared → Prop}
    (hl : typeLookup (.type T) "__getitem__" = pure (some (.builtin id))) (hs : NoSl slice)
    (h : wpAny (model prog w) A (eval value env) (fun o s₁ => wpAny (model prog w) A (eval slice env) (fun i s₂ => s₂.TypeIs o T ∧ wpAny (model prog w) A (getItem o i) Q E s₂) E s₁) E s) :
    wpAny (model prog w) A (eval (.Subscript value slice pos) env) Q E s := by
  refine Subscript_ (wpAny_mono h (fun o s₁ h₁ => wpAny_mono h₁ (fun i s₂ h₂ => ?_) fun _ _ x => x) fun _ _ x => x)
  obtain ⟨hT, h₂⟩ := h₂
  unfold subscriptTail
  refine wpAny_bind ?_
  rw [getitemInPython_of_ne hT.not_modules]
  refine wpAny_bind (wpAny_specialOf hT hl ?_)
  have fin : wpAny (model prog w) A (subscripted slice false o i) (fun r s₃ => wpAny (model prog w) A (letTemporaryGo value o r >>= fun _ => pure r) Q E s₃) E s₂ := by
    rw [hs o i]
    exact wpAny_operating (wpAny_mono h₂ (fun r s₃ h₃ => wpAny_bind (wpAny_letTemporaryGo (wpAny_pure h₃))) fun _ _ x => x)
  first
    | exact wpAny_pure (wpAny_bind fin)
    | exact wpAny_bind (wpAny_pure (wpAny_bind fin))
    | exact wpAny_bind fin

theorem dict_typeIs {X : Cx} {pins : List (Addr × Obj)} {σ : St} {H : Hp} {s : Shared} {a : Addr} {y : V} {o : Option V} (I : Inv X pins σ H s) (g : DGet H a y o) : s.TypeIs (.ref a) "dict" := by
  rcases g with ⟨kvs, k, e, _, _⟩ | ⟨kvs, k, b, e, _, _, _⟩
  · obtain ⟨_, _, vs, _, dd⟩ := dk_rd I.hok e
    exact dd.typeIs
  · obtain ⟨_, _, xs, _, dd⟩ := dt_rd I.hok e
    exact dd.typeIs
theorem dict_noDict {X : Cx} {pins : List (Addr × Obj)} {σ : St} {H : Hp} {s : Shared} {a : Addr} {y : V} {o : Option V} (I : Inv X pins σ H s) (g : DGet H a y o) :
    ∀ b, Value.ref a = .ref b → ∃ ob, s.heap.get? b = some ob ∧ ob.dict = none := fun b q => by
  cases q
  rcases g with ⟨kvs, k, e, _, _⟩ | ⟨kvs, k, b, e, _, _, _⟩
  · obtain ⟨_, _, vs, _, ob, _, _, h1, h2, _⟩ := dk_rd I.hok e
    exact ⟨ob, h1, h2.2.1⟩
  · obtain ⟨_, _, xs, _, ob, _, _, h1, h2, _⟩ := dt_rd I.hok e
    exact ⟨ob, h1, h2.2.1⟩

/-- d[y] -/
def tDGet (td ty : TE) : TE := fun σ H Q => td σ H fun x H1 => ty σ H1 fun y H2 => ∃ a v, x = .ref a ∧ DGet H2 a y (some v) ∧ Q v H2
/-- y in d, y not in d -/
def tDIn (ty td : TE) : TE := fun σ H Q => ty σ H fun y H1 => td σ H1 fun x H2 => ∃ a o, x = .ref a ∧ DGet H2 a y o ∧ Q (.bl o.isSome) H2
def tDNotIn (ty td : TE) : TE := fun σ H Q => ty σ H fun y H1 => td σ H1 fun x H2 => ∃ a o, x = .ref a ∧ DGet H2 a y o ∧ Q (.bl (!o.isSome)) H2
/-- d[y] = v -/
def sDPut (td ty tv : TE) : TS := fun D σ H => tv σ H fun v H1 => td σ H1 fun x H2 => ty σ H2 fun y H3 => ∃ a H4, x = .ref a ∧ DPut H3 a y v H4 ∧ D.nx σ H4
/-- d[y] op= v -/
def sDAug (td ty tv : TE) (rd : V → V → Hp → VK → Prop) : TS := fun D σ H => td σ H fun x H1 => ty σ H1 fun y H2 => ∃ a v, x = .ref a ∧ DGet H2 a y (some v) ∧
  tv σ H2 fun y2 H3 => rd v y2 H3 fun z H4 => ∃ H5, DPut H4 a y z H5 ∧ D.nx σ H5
/-- del d[y] -/
def sDDel (td ty : TE) : TS := fun D σ H => td σ H fun x H1 => ty σ H1 fun y H2 => ∃ a kvs k, x = .ref a ∧ H2 a = some (.dK kvs) ∧ y = kV k ∧ (valV kvs k).isSome = true ∧ D.nx σ (upd H2 a (.dK (dropK kvs k)))

section
variable {X : Cx} {o i e value : Expr} {pos pos' tpos : Pos} {td ty tv : TE}
theorem pe_dget (hu : X.A.units + 1 < cLine) (ho : PE X o td) (hi : PE X i ty) (hs : NoSl i) : PE X (.Subscript o i pos) (tDGet td ty) := by
  intro pins s σ H Q I h
  refine subD_of PySem.F.slot_dict_getitem.lookup hs (thn (ho pins s σ H _ I h) fun u s1 ⟨x, H1, I1, rx, q1⟩ => thn (hi pins s1 σ H1 _ I1 q1) fun iv s2 ⟨y, H2, I2, ry, a, v, ex, g, q2⟩ => ?_)
  subst ex
  obtain rfl : u = Value.ref a := rx
  exact ⟨dict_typeIs I2 g, d_getItem hu I2 g ry fun w' s3 I3 rw' => ⟨v, H2, I3, rw', q2⟩⟩
theorem pc_din (hu : X.A.units + 1 < cLine) (hi : PE X i ty) (ho : PE X o td) : PC X .In i o (tDIn ty td) := by
  intro pins s σ H Q I h
  refine thn (hi pins s σ H _ I h) fun iv s1 ⟨y, H1, I1, ry, q1⟩ => thn (ho pins s1 σ H1 _ I1 q1) fun u s2 ⟨x, H2, I2, rx, a, ov, ex, g, q2⟩ => ?_
  subst ex
  obtain rfl : u = Value.ref a := rx
  exact d_in hu I2 g ry fun s3 I3 => ⟨.bl ov.isSome, H2, I3, rfl, q2⟩
theorem pc_dnotin (hu : X.A.units + 1 < cLine) (hi : PE X i ty) (ho : PE X o td) : PC X .NotIn i o (tDNotIn ty td) := by
  intro pins s σ H Q I h
  refine thn (hi pins s σ H _ I h) fun iv s1 ⟨y, H1, I1, ry, q1⟩ => thn (ho pins s1 σ H1 _ I1 q1) fun u s2 ⟨x, H2, I2, rx, a, ov, ex, g, q2⟩ => ?_
  subst ex
  obtain rfl : u = Value.ref a := rx
  exact d_notIn hu I2 g ry fun s3 I3 => ⟨.bl (!ov.isSome), H2, I3, rfl, q2⟩
theorem ps_dput (hu : X.A.units + 1 < cLine) (ho : PE X o td) (hi : PE X i ty) (hv : PE X value tv) (hs : swapsWith value (some (.Subscript o i pos')) pos.line X.env = pure false) :
    PS X (.Assign [.Subscript o i pos'] value pos) (sDPut td ty tv) := by
  intro pins s σ H D I h
  refine wpAny_Assign_Subscript (thn (hv pins s σ H _ I h) fun r s1 ⟨v, H1, I1, rv, q1⟩ => thn (ho pins s1 σ H1 _ I1 q1) fun u s2 ⟨x, H2, I2, rx, q2⟩ => thn (hi pins s2 σ H2 _ I2 q2) fun iv s3 ⟨y, H3, I3, ry, a, H4, ex, g, q3⟩ => ?_) hs
  subst ex
  obtain rfl : u = Value.ref a := rx
  exact d_setItem hu I3 g ry rv fun s4 I4 => ⟨σ, H4, I4, q3⟩
theorem ps_daug {op : Operator} {rd : V → V → Hp → VK → Prop} (hu : X.A.units + 1 < cLine) (ho : PE X o td) (hi : PE X i ty) (hv : PE X value tv) (hop : InOp X op rd)
    (ha : ∀ ov iv new, augStore i ov iv new = (do holding [new, ov, iv] (setItem ov iv new); release [new, ov, iv] []; pure .next)) : PS X (.AugAssign (.Subscript o i tpos) op value pos) (sDAug td ty tv rd) := by
  intro pins s σ H D I h
  refine wpAny_AugAssign_SubscriptAny (thn (ho pins s σ H _ I h) fun u s1 ⟨x, H1, I1, rx, q1⟩ => thn (hi pins s1 σ H1 _ I1 q1) fun iv s2 ⟨y, H2, I2, ry, a, v, ex, g, q2⟩ => ?_) ha
  subst ex
  obtain rfl : u = Value.ref a := rx
  refine d_getItem hu I2 g ry fun w' s3 I3 rw' => thn (hv pins s3 σ H2 _ I3 q2) fun w2 s4 ⟨y2, H3, I4, ry2, q3⟩ => thn (hop pins s4 σ H3 v y2 w' w2 _ I4 rw' ry2 q3) fun w3 s5 ⟨z, H4, I5, rz, H5, g5, q4⟩ => ?_
  exact d_setItem hu I5 g5 ry rz fun s6 I6 => ⟨σ, H5, I6, q4⟩
theorem ps_ddel (ho : PE X o td) (hi : PE X i ty) : PS X (.Delete [.Subscript o i tpos] pos) (sDDel td ty) := by
  intro pins s σ H D I h
  refine wpAny_Delete (wpAny_deleteEach_cons (wpAny_delete_Subscript (thn (ho pins s σ H _ I h) fun u s1 ⟨x, H1, I1, rx, q1⟩ => thn (hi pins s1 σ H1 _ I1 q1) fun iv s2 ⟨y, H2, I2, ry, a, kvs, k, ex, e, ey, l, q2⟩ => ?_)))
  subst ex ey
  obtain rfl : u = Value.ref a := rx
  exact d_delItem I2 e ry l fun s3 I3 => wpAny_deleteEach_nil ⟨σ, _, I3, q2⟩
end


/-! ### displays -/
theorem dk_empty {P : Program} {w : World} {H : Hp} (h : Heap) (hb : sysModules < h.objs.size) : ObjOk P w H (h.push { cls := .type "dict", data := .dict #[] }) h.objs.size (.dK []) :=
  ⟨Nat.zero_le _, beq_eq_false_iff_ne.mpr (Ne.symm (Nat.ne_of_lt hb)), [], .nil, Heap.DictOf.new h⟩
theorem dt_empty {P : Program} {w : World} {H : Hp} (h : Heap) (hb : sysModules < h.objs.size) : ObjOk P w H (h.push { cls := .type "dict", data := .dict #[] }) h.objs.size (.dT []) :=
  ⟨Nat.zero_le _, beq_eq_false_iff_ne.mpr (Ne.symm (Nat.ne_of_lt hb)), [], .nil, _, #[], 0, Heap.get?_push_size _ rfl, ⟨rfl, rfl, rfl⟩, rfl, rfl, List.nodup_nil⟩
/-- {}, to be a dict of the kind that is wanted -/
def tDNewK : TE := fun _ H Q => ∀ p, H p = none → Q (.ref p) (upd H p (.dK []))
def tDNewT : TE := fun _ H Q => ∀ p, H p = none → Q (.ref p) (upd H p (.dT []))
section
variable {X : Cx} {pos : Pos}
theorem pe_dnewK : PE X (.Dict [] [] pos) tDNewK := fun pins s σ H Q I h =>
  wpAny_Dict_empty ⟨.ref s.heap.objs.size, _, I.laid (a := s.heap.objs.size) (o := .dK []) (t' := s.toks) (fun _ _ q => Heap.get?_push_of_some _ q) (Nat.le_refl _) (dk_empty s.heap I.big), rfl, h _ (I.hok.fresh (Nat.le_refl _))⟩
theorem pe_dnewT : PE X (.Dict [] [] pos) tDNewT := fun pins s σ H Q I h =>
  wpAny_Dict_empty ⟨.ref s.heap.objs.size, _, I.laid (a := s.heap.objs.size) (o := .dT []) (t' := s.toks) (fun _ _ q => Heap.get?_push_of_some _ q) (Nat.le_refl _) (dt_empty s.heap I.big), rfl, h _ (I.hok.fresh (Nat.le_refl _))⟩
end

/-- the pairs of a display, from the left -/
def tPairs : List (TE × TE) → St → Hp → (List (V × V) → Hp → Prop) → Prop
  | [], _, H, Q => Q [] H
  | (tk, tv) :: r, σ, H, Q => tk σ H fun x H1 => tv σ H1 fun y H2 => tPairs r σ H2 fun ps H3 => Q ((x, y) :: ps) H3
abbrev VV : List (V × V) → List (Value × Value) → Prop := Paired fun p q => RelV p.1 q.1 ∧ RelV p.2 q.2
def PPs (X : Cx) (pos : Pos) (keys : List (Option Expr)) (values : List Expr) (trs : List (TE × TE)) : Prop :=
  ∀ (pins : List (Addr × Obj)) (s : Shared) (σ : St) (H : Hp) (Q : List (V × V) → Hp → Prop), Inv X pins σ H s → tPairs trs σ H Q →
    wpAny (model X.prog X.w) X.A (evalPairs (pairTrees keys values X.env pos)) (fun vs s' => ∃ ps H', Inv X pins σ H' s' ∧ VV ps vs ∧ Q ps H') X.xe s
theorem pps_nil {X : Cx} {pos : Pos} : PPs X pos [] [] [] := fun pins s σ H Q I h => pairTrees_nil_walk ⟨[], H, I, .nil, h⟩
theorem pps_cons {X : Cx} {pos : Pos} {k v : Expr} {ks : List (Option Expr)} {vs : List Expr} {tk tv : TE} {trs : List (TE × TE)} (hk : PE X k tk) (hv : PE X v tv) (hr : PPs X pos ks vs trs) :
    PPs X pos (some k :: ks) (v :: vs) ((tk, tv) :: trs) := fun pins s σ H Q I h =>
  pairTrees_cons_walk (thn (hk pins s σ H _ I h) fun u s1 ⟨x, H1, I1, rx, q1⟩ => thn (hv pins s1 σ H1 _ I1 q1) fun w2 s2 ⟨y, H2, I2, ry, q2⟩ =>
    thn (hr pins s2 σ H2 _ I2 q2) fun ws s3 ⟨ps, H3, I3, rel, q3⟩ => ⟨(x, y) :: ps, H3, I3, .cons ⟨rx, ry⟩ rel, q3⟩)

def mergeK (kvs more : List (Key × V)) : List (Key × V) := more.foldl (fun acc kv => putK acc kv.1 kv.2) kvs
theorem KV.merge : ∀ {more : List (Key × V)} {rs : List (Key × Value)} {kvs : List (Key × V)} {vs : List (Key × Value)}, KV more rs → KV kvs vs → KV (mergeK kvs more) (merged vs rs) := by
  intro more rs kvs vs r
  unfold KV at r
  induction r generalizing kvs vs with
  | nil => intro q; exact q
  | @cons p q ps qs h t ih =>
    intro r0
    have e : KV (putK kvs p.1 p.2) (stored vs q.1 q.2) := by
      have := r0.put p.1 h.2
      rw [← h.1]; exact this
    exact ih e
theorem length_mergeK : ∀ (more kvs : List (Key × V)), (mergeK kvs more).length ≤ kvs.length + more.length
  | [], kvs => by show kvs.length ≤ kvs.length + 0; omega
  | p :: r, kvs => by
    have h1 := length_mergeK r (putK kvs p.1 p.2)
    have h2 := length_putK kvs p.1 p.2
    show (mergeK (putK kvs p.1 p.2) r).length ≤ _
    rw [List.length_cons]; omega
theorem carries_of {P : Program} {w : World} : ∀ {kvs : List (Key × V)} {ws : List (Value × Value)}, VV (kvs.map fun kv => (kV kv.1, kv.2)) ws → ∃ rs, Carries (mixKind P w) ws rs ∧ KV kvs rs
  | [], _, r => by rw [List.map_nil] at r; cases r; exact ⟨[], True.intro, .nil⟩
  | p :: kvs, _, r => by
    rw [List.map_cons] at r
    cases r with
    | @cons a b as bs h t =>
      obtain ⟨rs, c, q⟩ := carries_of (P := P) (w := w) t
      obtain ⟨b1, b2⟩ := b
      exact ⟨(p.1, b2) :: rs, ⟨kV_is h.1, rfl, c⟩, .cons ⟨rfl, h.2⟩ q⟩
/-- {k: v, ..} with keys ints and texts; the new dict stands empty while the pairs are made -/
def tDisp (trs : List (TE × TE)) : TE := fun σ H Q => ∀ p, H p = none → tPairs trs σ (upd H p (.dK [])) fun ps H2 => H2 p = some (.dK []) ∧ ∃ kvs : List (Key × V), ps = kvs.map (fun kv => (kV kv.1, kv.2)) ∧ kvs.length ≤ 15 ∧ Q (.ref p) (upd H2 p (.dK (mergeK [] kvs)))
theorem pe_disp {X : Cx} {pos : Pos} {keys : List (Option Expr)} {values : List Expr} {trs : List (TE × TE)} (h : PPs X pos keys values trs) (hall : keys.all (·.isSome) = true) (hl : keys.length = values.length) (h0 : keys ≠ [])
    (h15 : keys.length ≤ 15) : PE X (.Dict keys values pos) (tDisp trs) := by
  intro pins s σ H Q I q
  have hn := I.hok.fresh (Nat.le_refl s.heap.objs.size)
  have I1 := I.laid (a := s.heap.objs.size) (o := .dK []) (h' := s.heap.push { cls := .type "dict", data := .dict #[] }) (t' := s.toks) (fun _ _ q => Heap.get?_push_of_some _ q) (Nat.le_refl _) (dk_empty s.heap I.big)
  refine wpAny_Dict_walk (knd := mixKind X.prog X.w) hall hl h0 h15 (thn (h pins _ σ _ _ I1 (q _ hn)) fun ws s2 ⟨ps, H2, I2, rel, e, kvs, ep, lk, q2⟩ => ?_)
  subst ep
  obtain ⟨rs, c, rk⟩ := carries_of (P := X.prog) (w := X.w) rel
  obtain ⟨z, hd, vs0, r0, dd⟩ := dk_of I2.hok e
  cases r0
  refine ⟨rs, c, dd, fun h' dd' hs => ⟨.ref s.heap.objs.size, _, ?_, rfl, q2⟩⟩
  have hz : (mergeK [] kvs).length ≤ sizeLine := by
    have h1 := length_mergeK kvs []
    rw [List.length_nil] at h1
    rw [sizeLine_eq]; omega
  have he : ∃ q, h'.get? s.heap.objs.size = some q := let ⟨q, _, _, hq, _⟩ := dd'; ⟨q, hq⟩
  exact d_write I2 (by rw [e]; exact True.intro) hs he (dk_new hz hd (rk.merge .nil) dd')


/-! ### methods -/
/-- a method call o.m(e) of a built-in, with one argument: what must be seen of the text -/
structure M1 (X : Cx) (o : Expr) (m : Str) (apos : Pos) (e : Expr) (cpos : Pos) : Prop where
  base : attributeBase o m X.env (eval o X.env) = eval o X.env
  few : ((backTo cpos (starEach [e] X.env)).all (fun x => !x.1) && (backToKw cpos (keywordEach [] X.env)).all (fun x => x.1.isSome)
    && decide (([e] : List Expr).length + ([] : List Keyword).length + (if ([] : List Keyword).isEmpty then 0 else 1) < 30)) = true
  line : (apos.endLine == cpos.line) = true
  trees : backTo cpos (starEach [e] X.env) = [(false, eval e X.env)]
structure M2 (X : Cx) (o : Expr) (m : Str) (apos : Pos) (e f : Expr) (cpos : Pos) : Prop where
  base : attributeBase o m X.env (eval o X.env) = eval o X.env
  few : ((backTo cpos (starEach [e, f] X.env)).all (fun x => !x.1) && (backToKw cpos (keywordEach [] X.env)).all (fun x => x.1.isSome)
    && decide (([e, f] : List Expr).length + ([] : List Keyword).length + (if ([] : List Keyword).isEmpty then 0 else 1) < 30)) = true
  line : (apos.endLine == cpos.line) = true
  trees : backTo cpos (starEach [e, f] X.env) = [(false, eval e X.env), (false, eval f X.env)]

/-- a is a dict, whatever its keys -/
def IsD (H : Hp) (a : Addr) : Prop := (∃ kvs, Rd H a (.dK kvs)) ∨ ∃ kvs, Rd H a (.dT kvs)
theorem isD_at {X : Cx} {pins : List (Addr × Obj)} {σ : St} {H : Hp} {s : Shared} {a : Addr} (I : Inv X pins σ H s) (d : IsD H a) :
    s.TypeIs (.ref a) "dict" ∧ (∀ b, Value.ref a = .ref b → ∃ ob, s.heap.get? b = some ob ∧ ob.dict = none) ∧ (a == sysModules) = false := by
  rcases d with ⟨kvs, e⟩ | ⟨kvs, e⟩
  · obtain ⟨_, hd, vs, _, dd⟩ := dk_rd I.hok e
    refine ⟨dd.typeIs, fun b q => ?_, hd⟩
    cases q
    obtain ⟨ob, _, _, h1, h2, _⟩ := dd
    exact ⟨ob, h1, h2.2.1⟩
  · obtain ⟨_, hd, xs, _, dd⟩ := dt_rd I.hok e
    refine ⟨dd.typeIs, fun b q => ?_, hd⟩
    cases q
    obtain ⟨ob, _, _, h1, h2, _⟩ := dd
    exact ⟨ob, h1, h2.2.1⟩

section
variable {X : Cx} {pins : List (Addr × Obj)} {σ : St} {H : Hp} {s : Shared} {a : Addr} {y d : V} {u r : Value} {o : Option V} {A : Around} {E : Value → Shared → Prop}
/-- d.get(y) -/
theorem d_get1 {Q : Value → Shared → Prop} (hu : A.units + 1 < cLine) (I : Inv X pins σ H s) (g : DGet H a y o) (ry : RelV y u) (h : ∀ w' s', Inv X pins σ H s' → RelV (o.getD .non) w' → Q w' s') :
    wpAny (model X.prog X.w) A (call (.builtin "dict.get") [.ref a, u]) Q E s := by
  rcases g with ⟨kvs, k, e, ey, l⟩ | ⟨kvs, k, b, e, ey, eb, l⟩
  · subst ey
    obtain ⟨z, hd, vs, rel, dd⟩ := dk_rd I.hok e
    refine call_meetsIn PySem.F.slot_dict_get dd.typeIs PySem.F.entry_dict_get (PySem.F.args_dict_get_2 _ _) (meets_dict_get (mixKind X.prog X.w) a (kV_is ry) hd) ⟨_, dd.mapOf, h _ _ (I.tok _) ?_⟩
    rw [l]
    exact (rel.val k).getD rfl
  · subst ey
    cases (show u = Value.ref b from ry)
    obtain ⟨z, hd, xs, rel, dd⟩ := dt_rd I.hok e
    refine call_meetsIn PySem.F.slot_dict_get dd.typeIs PySem.F.entry_dict_get (PySem.F.args_dict_get_2 _ _) (meetsH_dict_get (tupleKind (mixKind X.prog X.w)) a b hd) ⟨tupleKind_room_in1 hu, k, xs, key_of I.hok eb, dd, h _ _ (I.tok _) ?_⟩
    rw [l]
    exact (rel.val k).getD rfl
/-- d.get(y, x) -/
theorem d_get2 {Q : Value → Shared → Prop} (hu : A.units + 1 < cLine) (I : Inv X pins σ H s) (g : DGet H a y o) (ry : RelV y u) (rd : RelV d r) (h : ∀ w' s', Inv X pins σ H s' → RelV (o.getD d) w' → Q w' s') :
    wpAny (model X.prog X.w) A (call (.builtin "dict.get") [.ref a, u, r]) Q E s := by
  rcases g with ⟨kvs, k, e, ey, l⟩ | ⟨kvs, k, b, e, ey, eb, l⟩
  · subst ey
    obtain ⟨z, hd, vs, rel, dd⟩ := dk_rd I.hok e
    refine call_meetsIn PySem.F.slot_dict_get dd.typeIs PySem.F.entry_dict_get (PySem.F.args_dict_get_3 _ _ _) (meets_dict_get_default (mixKind X.prog X.w) a (kV_is ry) hd r) ⟨_, dd.mapOf, h _ _ (I.tok _) ?_⟩
    rw [l]
    exact (rel.val k).getD rd
  · subst ey
    cases (show u = Value.ref b from ry)
    obtain ⟨z, hd, xs, rel, dd⟩ := dt_rd I.hok e
    refine call_meetsIn PySem.F.slot_dict_get dd.typeIs PySem.F.entry_dict_get (PySem.F.args_dict_get_3 _ _ _) (meetsH_dict_get_default (tupleKind (mixKind X.prog X.w)) a b hd r) ⟨tupleKind_room_in1 hu, k, xs, key_of I.hok eb, dd, h _ _ (I.tok _) ?_⟩
    rw [l]
    exact (rel.val k).getD rd
end

def tDGet1 (td ty : TE) : TE := fun σ H Q => td σ H fun x H1 => ∃ a, x = .ref a ∧ IsD H1 a ∧ ty σ H1 fun y H2 => ∃ o, DGet H2 a y o ∧ Q (o.getD .non) H2
def tDGet2 (td ty tx : TE) : TE := fun σ H Q => td σ H fun x H1 => ∃ a, x = .ref a ∧ IsD H1 a ∧ ty σ H1 fun y H2 => tx σ H2 fun z H3 => ∃ o, DGet H3 a y o ∧ Q (o.getD z) H3
/-- d.pop(k): there; d.pop(k, x): there or not -/
def tDPop1 (td ty : TE) : TE := fun σ H Q => td σ H fun x H1 => ∃ a, x = .ref a ∧ IsD H1 a ∧ ty σ H1 fun y H2 => ∃ kvs k v, H2 a = some (.dK kvs) ∧ y = kV k ∧ valV kvs k = some v ∧ Q v (upd H2 a (.dK (dropK kvs k)))
def tDPop2 (td ty tx : TE) : TE := fun σ H Q => td σ H fun x H1 => ∃ a, x = .ref a ∧ IsD H1 a ∧ ty σ H1 fun y H2 => tx σ H2 fun z H3 => ∃ kvs k, H3 a = some (.dK kvs) ∧ y = kV k ∧
  (∀ v, valV kvs k = some v → Q v (upd H3 a (.dK (dropK kvs k)))) ∧ (valV kvs k = none → Q z H3)
section
variable {X : Cx} {o e f : Expr} {apos cpos : Pos} {td ty tx : TE}
theorem pe_dget1 (hu : X.A.units + 1 < cLine) (ho : PE X o td) (he : PE X e ty) (m : M1 X o "get" apos e cpos) : PE X (.Call (.Attribute o "get" apos) [e] [] cpos) (tDGet1 td ty) := by
  intro pins s σ H Q I h
  refine wpAny_Call_method m.base m.few m.line PySem.F.plainAttrs_dict PySem.F.slot_dict_get PySem.F.type_dict_get (thn (ho pins s σ H _ I h) fun u s1 ⟨x, H1, I1, rx, a, ex, d, q1⟩ => ?_)
  subst ex
  obtain rfl : u = Value.ref a := rx
  obtain ⟨t1, t2, _⟩ := isD_at I1 d
  refine ⟨t1, t2, ?_⟩
  rw [m.trees]
  refine Calls.callWith_builtin rfl (Calls.evalArgs_plain (Calls.spliced_cons (thn (he pins s1 σ H1 _ I1 q1) fun iv s2 ⟨y, H2, I2, ry, ov, g, q2⟩ => Calls.spliced_nil ?_)))
  exact d_get1 hu I2 g ry fun w' s3 I3 rw' => ⟨_, H2, I3, rw', q2⟩
theorem pe_dget2 (hu : X.A.units + 1 < cLine) (ho : PE X o td) (he : PE X e ty) (hf : PE X f tx) (m : M2 X o "get" apos e f cpos) : PE X (.Call (.Attribute o "get" apos) [e, f] [] cpos) (tDGet2 td ty tx) := by
  intro pins s σ H Q I h
  refine wpAny_Call_method m.base m.few m.line PySem.F.plainAttrs_dict PySem.F.slot_dict_get PySem.F.type_dict_get (thn (ho pins s σ H _ I h) fun u s1 ⟨x, H1, I1, rx, a, ex, d, q1⟩ => ?_)
  subst ex
  obtain rfl : u = Value.ref a := rx
  obtain ⟨t1, t2, _⟩ := isD_at I1 d
  refine ⟨t1, t2, ?_⟩
  rw [m.trees]
  refine Calls.callWith_builtin rfl (Calls.evalArgs_plain (Calls.spliced_cons (thn (he pins s1 σ H1 _ I1 q1) fun iv s2 ⟨y, H2, I2, ry, q2⟩ =>
    Calls.spliced_cons (thn (hf pins s2 σ H2 _ I2 q2) fun fv s3 ⟨z, H3, I3, rz, ov, g, q3⟩ => Calls.spliced_nil ?_))))
  exact d_get2 hu I3 g ry rz fun w' s4 I4 rw' => ⟨_, H3, I4, rw', q3⟩
theorem pe_dpop1 (ho : PE X o td) (he : PE X e ty) (m : M1 X o "pop" apos e cpos) : PE X (.Call (.Attribute o "pop" apos) [e] [] cpos) (tDPop1 td ty) := by
  intro pins s σ H Q I h
  refine wpAny_Call_method m.base m.few m.line PySem.F.plainAttrs_dict PySem.F.slot_dict_pop PySem.F.type_dict_pop (thn (ho pins s σ H _ I h) fun u s1 ⟨x, H1, I1, rx, a, ex, d, q1⟩ => ?_)
  subst ex
  obtain rfl : u = Value.ref a := rx
  obtain ⟨t1, t2, _⟩ := isD_at I1 d
  refine ⟨t1, t2, ?_⟩
  rw [m.trees]
  refine Calls.callWith_builtin rfl (Calls.evalArgs_plain (Calls.spliced_cons (thn (he pins s1 σ H1 _ I1 q1) fun iv s2 ⟨y, H2, I2, ry, kvs, k, v, ea, ey, l, q2⟩ => Calls.spliced_nil ?_)))
  subst ey
  exact d_pop I2 ea ry l (.inl rfl) fun w' s3 I3 rw' => ⟨v, _, I3, rw', q2⟩
theorem pe_dpop2 (ho : PE X o td) (he : PE X e ty) (hf : PE X f tx) (m : M2 X o "pop" apos e f cpos) : PE X (.Call (.Attribute o "pop" apos) [e, f] [] cpos) (tDPop2 td ty tx) := by
  intro pins s σ H Q I h
  refine wpAny_Call_method m.base m.few m.line PySem.F.plainAttrs_dict PySem.F.slot_dict_pop PySem.F.type_dict_pop (thn (ho pins s σ H _ I h) fun u s1 ⟨x, H1, I1, rx, a, ex, d, q1⟩ => ?_)
  subst ex
  obtain rfl : u = Value.ref a := rx
  obtain ⟨t1, t2, _⟩ := isD_at I1 d
  refine ⟨t1, t2, ?_⟩
  rw [m.trees]
  refine Calls.callWith_builtin rfl (Calls.evalArgs_plain (Calls.spliced_cons (thn (he pins s1 σ H1 _ I1 q1) fun iv s2 ⟨y, H2, I2, ry, q2⟩ =>
    Calls.spliced_cons (thn (hf pins s2 σ H2 _ I2 q2) fun fv s3 ⟨z, H3, I3, rz, kvs, k, ea, ey, q3, q4⟩ => Calls.spliced_nil ?_))))
  subst ey
  cases l : valV kvs k with
  | some v => exact d_pop I3 ea ry l (.inr ⟨fv, rfl⟩) fun w' s4 I4 rw' => ⟨v, _, I4, rw', q3 v l⟩
  | none => exact d_popD I3 ea ry l fun s4 I4 => ⟨z, H3, I4, rz, q4 l⟩
end

/-! ### dict(d): a copy -/
section
variable {X : Cx} {pins : List (Addr × Obj)} {σ : St} {H : Hp} {s : Shared} {a : Addr} {kvs : List (Key × V)} {A : Around} {E : Value → Shared → Prop}
theorem d_copyOf {Q : Value → Shared → Prop} (I : Inv X pins σ H s) (e : Rd H a (.dK kvs)) (h : ∀ p s', H p = none → Inv X pins σ (upd H p (.dK kvs)) s' → Q (.ref p) s') : wpAny (model X.prog X.w) A (call (.type "dict") [.ref a]) Q E s := by
  obtain ⟨z, hd, vs, rel, dd⟩ := dk_rd I.hok e
  refine kt_call_dict hd dd (by rw [← rel.length]; exact z) fun h' dd' hs => ?_
  refine h _ _ (I.hok.fresh (Nat.le_refl _)) (I.laid (a := s.heap.objs.size) (o := .dK kvs) (t' := s.toks) (fun b q hq => ?_) (Nat.le_refl _) (dk_new z (beq_eq_false_iff_ne.mpr (Ne.symm (Nat.ne_of_lt I.big))) rel dd'))
  exact (hs.2 b (Nat.ne_of_lt (Heap.lt_size hq))).trans (Heap.get?_push_of_some _ hq)
end


section
variable {X : Cx} {pins : List (Addr × Obj)} {σ : St} {H : Hp} {s : Shared} {a : Addr} {y : V} {u : Value} {A : Around} {E : Value → Shared → Prop}
/-- d[y], not there: a KeyError -/
theorem d_missing {Q : Value → Shared → Prop} (hu : A.units + 1 < cLine) (hh : A.handled = none) (I : Inv X pins σ H s) (g : DGet H a y none) (ry : RelV y u)
    (h : ∀ h' e t', Heap.NewExc s.heap h' e "KeyError" → E (.ref e) { s with heap := h', toks := t' }) : wpAny (model X.prog X.w) A (getItem (.ref a) u) Q E s := by
  rcases g with ⟨kvs, k, e, ey, l⟩ | ⟨kvs, k, b, e, ey, eb, l⟩
  · subst ey
    obtain ⟨z, hd, vs, rel, dd⟩ := dk_rd I.hok e
    have hn : valueAt vs k = none := RelO.none_of (by rw [l]; exact rel.val k)
    exact wpAny_getItem_missing_of (kV_is ry) hd hh dd.mapOf hn fun h' ex ne => h h' ex _ ne
  · subst ey
    cases (show u = Value.ref b from ry)
    obtain ⟨z, hd, xs, rel, dd⟩ := dt_rd I.hok e
    have hn : (atKey xs k).map (·.2) = none := RelO.none_of (by rw [l]; exact rel.val k)
    exact wpAny_getItem_missing_heap (tupleKind_room_in1 hu) (key_of I.hok eb) hd hh dd (Option.map_eq_none_iff.mp hn) fun h' ex ne => h h' ex _ ne
end
end L2

namespace Att
open PySem PySem.W PySem.Calls PyProof.Rows

/-! ### the script -/
theorem ints_of_wellAll {P : Params} {h : Heap} : ∀ (ns : List Int) (vs : List Value), WellAll P h vs (ns.map WData.int) → IntsAre vs ns := by
  intro ns
  induction ns with
  | nil =>
    intro vs w
    rw [List.map_nil] at w
    cases w
    exact .nil
  | cons n ns ih =>
    intro vs w
    rw [List.map_cons] at w
    cases w with
    | cons a b =>
      cases a
      exact .cons _ _ (ih _ b)

theorem script_of {l : OpenLaw} {n : Nat} (hn : l.most = some n) {P : Params} {h : Heap} {args : List WData} {vals : List Value}
    (hpre : l.row.toRowW.claim.pre args = true) (hwl : WellAll P h vals args) :
    ∃ a vs ns, vals = [Value.ref a] ∧ args = [WData.list (ns.map WData.int)] ∧ h.get? a = some { cls := .type "list", data := .seq vs.toArray } ∧ IntsAre vs ns ∧ ns.length ≤ n := by
  have hsh : WShape.hasAll [] args [.list .int] = true := (pre_splitW hpre).1
  have hc : l.pre.holds [] { args := args } = true := (pre_splitW hpre).2
  obtain ⟨d, r, rfl, h1, h2⟩ := hasAllW_cons hsh
  obtain rfl := hasAllW_nil h2
  obtain ⟨xs, rfl, h3⟩ := hasW_list h1
  obtain ⟨ns, rfl⟩ := items_int h3
  have hlen : ns.length ≤ n := by
    unfold OpenLaw.pre at hc
    have h4 : (WTm.not (.lt (.lit (.int (n : Int))) (.len (.arg 0)))).holds [] { args := [.list (ns.map .int)] } = true := by
      have h4 := (holds_andW hc).1
      rw [hn] at h4
      exact h4
    have h5 := condW_of h4 (w_not (w_lt w_lit (w_len_list (w_arg rfl))))
    rw [List.length_map] at h5
    refine Nat.le_of_not_lt fun q => ?_
    have q' : (n : Int) < ((ns.length : Nat) : Int) := by omega
    first
      | (rw [decide_eq_true q'] at h5; exact absurd h5 (by decide))
      | (simp at h5; omega)
  cases hwl with
  | cons w1 w2 =>
    cases w2
    cases w1 with
    | list ho hall => exact ⟨_, _, ns, rfl, rfl, ho, ints_of_wellAll ns _ hall, hlen⟩

theorem post_true (l : OpenLaw) (args : List WData) : l.row.toRowW.claim.post args (.bool true) args = true :=
  postW_of (r := l.row.toRowW) (X := (true == true))
    (show WShape.has [] (.bool true) .bool = true by first | rfl | decide | simp [WShape.has, WShape.arms, WShape.armsAll])
    (show (WTm.eq .res (.lit (.bool true))).value [] { args := args, res := some (.bool true), after := args } = some (.bool (true == true)) from w_eq_bool (w_res rfl) w_lit) rfl

/-! ### the attachment: holds_open's last premise (the goal 'hc' behind k_head) from a wpAny of the law's body -/
theorem attach {l : OpenLaw} {n : Nat} {q : Program} {loose : List Str} {XP : (Str → Option Value) → Heap → Prop} {YP : World → Heap → Prop} {d : DefRec} {x : Str}
    (hn : l.most = some n) (hdf : d.params.defaults = [])
    (hbind : ∀ pm cd doc v : Value, bindArgs (docDef d.name d.params d.body d.scope pm cd doc) ⟨[v], []⟩ = pure [(x, v)])
    (hx : d.scope.names.lookup x = some .local ∨ d.scope.names.lookup x = some .cell)
    (hk : d.scope.kind = .function) (hco : d.scope.isCoroutine = false) (hgen : d.scope.isGenerator = false)
    (body : ∀ (w : World) (s₀ s₁ s : Shared) (mg mb : Str → Option Value) (fa : Addr) (o : Obj) (pm cd doc : Value) (a : Addr) (vs : List Value) (ns : List Int),
      Ground q loose [] XP w s₀ mg mb s₁.heap → YP w s₁.heap →
      s₁.heap.get? fa = some o → o.data = .func (docDef d.name d.params d.body d.scope pm cd doc) → s₁.heap.CodeRec cd d.name → mg d.name = some (.ref fa) →
      s₁.heap.get? a = some { cls := .type "list", data := .seq vs.toArray } → IntsAre vs ns → ns.length ≤ n →
      s.gens = #[] → s.os = s₁.os →
      Fr s₁.heap s₁.heap.objs.size s.heap (bindL (envOfC d.name d.scope s₁.heap.objs.size fa cd).kindOf [(x, .ref a)] fun _ => none) →
      Cl s₁.heap.objs.size (cellsFrom (s₁.heap.objs.size + 1) d.scope.names []) s.heap (bindC (envOfC d.name d.scope s₁.heap.objs.size fa cd).kindOf [(x, .ref a)] fun _ => none) →
      wpAny (model l.prog w) (callerA.deeper (envOfC d.name d.scope s₁.heap.objs.size fa cd)) (execs d.body (envOfC d.name d.scope s₁.heap.objs.size fa cd))
        (fun f s' => f = .ret (.bool true) ∧ OldK s₁.heap s'.heap ∧ s'.os = s₁.os ∧ AllBare s'.gens) (fun _ _ => False) s) :
    WalkO q loose XP YP l.row.toRowW d [] (fun f vs => PySem.call f vs) := by
  intro w s₀ s₁ mg mb G Y fa o pm cd doc dV kV ho hd hcd hD hmg hg args vals as hpre hlay hrd hwl hlo
  obtain rfl : dV = .none := Dflts.none hD hdf
  obtain rfl : kV = .none := Dflts.noKw hD
  obtain ⟨a, vs, ns, rfl, rfl, hobj, hints, hlen⟩ := script_of hn hpre hwl
  refine enter_call ?_
  refine call_cells_ret (o := o) (by rw [depth_caller]; decide) ho (fd_plain hd) G.T.nolimit hcd (hbind pm cd doc (.ref a)) (fun y hy => ?_) (fun h₁ tk F X => ?_) hco hgen hk
  · obtain rfl : y = (x, Value.ref a) := List.mem_singleton.mp hy
    rcases hx with e | e
    · exact .inl e
    · exact .inr ⟨e, cellsFrom_some _ _ _ (.inl e)⟩
  · refine wpAny_mono (body w s₀ s₁ { s₁ with heap := h₁, toks := tk } mg mb fa o pm cd doc a vs ns G Y ho (fd_plain hd) hcd hmg hobj hints hlen hg rfl F X) (fun f s' hq => ?_) (fun _ _ hq => hq)
    obtain ⟨rfl, h2, h3, h4⟩ := hq
    exact ⟨.inl ⟨.bool true, .bool true, [], rfl, fun _ => rfl, .bool true, post_true l _, fun _ => ⟨List.Pairwise.nil, fun _ hm => (nomatch hm)⟩⟩, h2, h3, h4⟩

/-- the same from a codeAny of the CALL (for a layer whose function contracts speak of calls) -/
theorem attach_call {l : OpenLaw} {n : Nat} {q : Program} {loose : List Str} {XP : (Str → Option Value) → Heap → Prop} {YP : World → Heap → Prop} {d : DefRec}
    (hn : l.most = some n) (hdf : d.params.defaults = [])
    (call : ∀ (w : World) (s₀ s₁ : Shared) (mg mb : Str → Option Value) (fa : Addr) (o : Obj) (pm cd doc : Value) (a : Addr) (vs : List Value) (ns : List Int),
      Ground q loose [] XP w s₀ mg mb s₁.heap → YP w s₁.heap →
      s₁.heap.get? fa = some o → o.data = .func (docDef d.name d.params d.body d.scope pm cd doc) → s₁.heap.CodeRec cd d.name → mg d.name = some (.ref fa) →
      s₁.heap.get? a = some { cls := .type "list", data := .seq vs.toArray } → IntsAre vs ns → ns.length ≤ n → s₁.gens = #[] →
      codeAny (model l.prog w) callerA (.call (.ref fa) ⟨[.ref a], []⟩) (fun r s' => r = .ok (.ret (.bool true)) ∧ OldK s₁.heap s'.heap ∧ s'.os = s₁.os ∧ AllBare s'.gens) s₁) :
    WalkO q loose XP YP l.row.toRowW d [] (fun f vs => PySem.call f vs) := by
  intro w s₀ s₁ mg mb G Y fa o pm cd doc dV kV ho hd hcd hD hmg hg args vals as hpre hlay hrd hwl hlo
  obtain rfl : dV = .none := Dflts.none hD hdf
  obtain rfl : kV = .none := Dflts.noKw hD
  obtain ⟨a, vs, ns, rfl, rfl, hobj, hints, hlen⟩ := script_of hn hpre hwl
  refine enter_call (codeAny_mono (call w s₀ s₁ mg mb fa o pm cd doc a vs ns G Y ho (fd_plain hd) hcd hmg hobj hints hlen hg) fun r s' hq => ?_)
  obtain ⟨rfl, h2, h3, h4⟩ := hq
  exact ⟨.inl ⟨.bool true, .bool true, [], rfl, fun _ => rfl, .bool true, post_true l _, fun _ => ⟨List.Pairwise.nil, fun _ hm => (nomatch hm)⟩⟩, h2, h3, h4⟩

/-- the same where the top left finished generators (o_head chose holds_openN): nothing may have changed at all and no generator may be left -/
theorem attachN {l : OpenLaw} {n : Nat} {q : Program} {loose : List Str} {XP : (Str → Option Value) → Heap → Prop} {YP : World → Heap → Prop} {d : DefRec} {x : Str}
    (hn : l.most = some n) (hdf : d.params.defaults = [])
    (hbind : ∀ pm cd doc v : Value, bindArgs (docDef d.name d.params d.body d.scope pm cd doc) ⟨[v], []⟩ = pure [(x, v)])
    (hx : d.scope.names.lookup x = some .local ∨ d.scope.names.lookup x = some .cell)
    (hk : d.scope.kind = .function) (hco : d.scope.isCoroutine = false) (hgen : d.scope.isGenerator = false)
    (body : ∀ (w : World) (s₀ s₁ s : Shared) (mg mb : Str → Option Value) (fa : Addr) (o : Obj) (pm cd doc : Value) (a : Addr) (vs : List Value) (ns : List Int),
      Ground q loose [] XP w s₀ mg mb s₁.heap → YP w s₁.heap →
      s₁.heap.get? fa = some o → o.data = .func (docDef d.name d.params d.body d.scope pm cd doc) → s₁.heap.CodeRec cd d.name → mg d.name = some (.ref fa) →
      s₁.heap.get? a = some { cls := .type "list", data := .seq vs.toArray } → IntsAre vs ns → ns.length ≤ n →
      s.gens = #[] → s.os = s₁.os →
      Fr s₁.heap s₁.heap.objs.size s.heap (bindL (envOfC d.name d.scope s₁.heap.objs.size fa cd).kindOf [(x, .ref a)] fun _ => none) →
      Cl s₁.heap.objs.size (cellsFrom (s₁.heap.objs.size + 1) d.scope.names []) s.heap (bindC (envOfC d.name d.scope s₁.heap.objs.size fa cd).kindOf [(x, .ref a)] fun _ => none) →
      wpAny (model l.prog w) (callerA.deeper (envOfC d.name d.scope s₁.heap.objs.size fa cd)) (execs d.body (envOfC d.name d.scope s₁.heap.objs.size fa cd))
        (fun f s' => f = .ret (.bool true) ∧ (∀ b o, s₁.heap.get? b = some o → s'.heap.get? b = some o) ∧ s'.os = s₁.os ∧ s'.gens = #[]) (fun _ _ => False) s) :
    WalkN q loose XP YP l.row.toRowW d [] (fun f vs => PySem.call f vs) := by
  intro w s₀ s₁ mg mb G Y fa o pm cd doc dV kV ho hd hcd hD hmg hg args vals as hpre hlay hrd hwl hlo
  obtain rfl : dV = .none := Dflts.none hD hdf
  obtain rfl : kV = .none := Dflts.noKw hD
  obtain ⟨a, vs, ns, rfl, rfl, hobj, hints, hlen⟩ := script_of hn hpre hwl
  refine enter_callW ?_
  refine call_cells_ret (o := o) (by rw [depth_caller]; decide) ho (fd_plain hd) G.T.nolimit hcd (hbind pm cd doc (.ref a)) (fun y hy => ?_) (fun h₁ tk F X => ?_) hco hgen hk
  · obtain rfl : y = (x, Value.ref a) := List.mem_singleton.mp hy
    rcases hx with e | e
    · exact .inl e
    · exact .inr ⟨e, cellsFrom_some _ _ _ (.inl e)⟩
  · refine wpAny_mono (body w s₀ s₁ { s₁ with heap := h₁, toks := tk } mg mb fa o pm cd doc a vs ns G Y ho (fd_plain hd) hcd hmg hobj hints hlen hg rfl F X) (fun f s' hq => ?_) (fun _ _ hq => hq)
    obtain ⟨rfl, h2, h3, h4⟩ := hq
    exact ⟨.inl ⟨.bool true, .bool true, [], rfl, fun _ => rfl, .bool true, post_true l _, fun _ => ⟨List.Pairwise.nil, fun _ hm => (nomatch hm)⟩⟩, h2, h3, h4⟩

/-! ### rules over ANY heap (no ledger) from facts about the written part K: the library's own take a ledger (News) for what they write -/
section
variable {prog : Program} {w : World} {A : Around} {E : Value → Shared → Prop} {s : Shared} {K : Frag}

/-- a def of the module, or a method (qual 'C.m'), entered: the frame is the next address; cells behind it -/
theorem call_fn {R : Result → Shared → Prop} {name qual : Str} {params : Arguments} {body : List Stmt} {scope : Scope} {dV kV doc pm cdv ct oc : Value} {an od : Option Addr} {osl : Array (Option Value)} {f : Addr} {args : Args} {binds : List (Str × Value)}
    (X : K.In s.heap) (hlim : s.heap.NoLimit) (ho : K.lookup f = some ⟨oc, od, .func (fnOf name qual params body scope dV kV doc pm an cdv ct), osl⟩) (hcd : codeIn K cdv qual = true) (hroom : A.depth < recursionLimit)
    (hbind : BindsTo s (fnOf name qual params body scope dV kV doc pm an cdv ct) args binds)
    (hkind : (binds.all fun y => scope.names.lookup y.1 == some .local || scope.names.lookup y.1 == some .cell) = true)
    (h : ∀ s₁, InCallC s s.heap.objs.size (bindL (envOfC qual scope s.heap.objs.size f cdv).kindOf binds fun _ => none) (cellsFrom (s.heap.objs.size + 1) scope.names [])
        (bindC (envOfC qual scope s.heap.objs.size f cdv).kindOf binds fun _ => none) s₁ →
      wpAny (model prog w) (A.deeper (envOfC qual scope s.heap.objs.size f cdv)) (execs body (envOfC qual scope s.heap.objs.size f cdv))
        (fun fl s' => R (.ok (.ret (match fl with | .ret v => v | _ => .none))) s')
        (fun e s' => wpAny (model prog w) (A.deeper (envOfC qual scope s.heap.objs.size f cdv)) (leaving (envOfC qual scope s.heap.objs.size f cdv) e) (fun _ s'' => R (.error e) s'') (fun e' s'' => R (.error e') s'') s') s₁)
    (hco : scope.isCoroutine = false) (hgen : scope.isGenerator = false) (hk : scope.kind = .function) : codeAny (model prog w) A (.call (.ref f) args) R s := by
  refine codeAny_call_function hroom (X _ _ ho) rfl hco hgen rfl (codeRec_of X hcd) (hbind _ _ _ _ ?_)
  refine wpAny_newFunctionEnv_cells hk (kindsX hkind _) fun env he s₁ x => ?_
  subst he
  exact ⟨hlim.keeps x.toInCall.keep, codeAny_func (h s₁ x)⟩

/-- C(..): dict at size, instance at size + 1, then __init__ -/
theorem make_obj {R : Result → Shared → Prop} {C fI : Addr} {rest : List Value} {kw : List (Str × Value)}
    (X : K.In s.heap) (hm : makesIn K C = true) (hi : findIn K (.ref C) "__init__" = some (some (.ref fI))) (hf : isFn K (.ref fI) = true)
    (h : codeAny (model prog w) (A.under (.builtin "type.__call__" ⟨.ref C :: rest, kw⟩)) (.call (.ref fI) ⟨.ref (s.heap.objs.size + 1) :: rest, kw⟩) (InitBack (s.heap.objs.size + 1) R)
      { s with heap := (s.heap.push emptyDict).push (instObj C s.heap.objs.size) }) : codeAny (model prog w) A (.call (.ref C) ⟨rest, kw⟩) R s := by
  obtain ⟨hh, g, d, t, os⟩ := s
  exact make_core (makes_of X hm) (looks_findIn X hi) (fun self => bind_fn X self (beq_iff_eq.mp hf)) (.inl rfl) h

/-- x.name where the instance's dict holds the name and the class does not -/
theorem get_field {x C : Addr} {ox : Obj} {es : List DictEntry} {n : Nat} {name : Str} {expr : Bool} {v : Value} {Q : Value → Shared → Prop}
    (X : K.In s.heap) (I : PySem.W.InstAt s.heap x ox C (some (dictOf es n))) (hg : plainGet K C name = true) (hh : hasDictIn K C = true) (ha : findIn K (.ref C) name = some none)
    (hl : getL name es = some (some v)) (hv : handedIn v = true) (h : Q v { s with toks := s.toks + 1 }) : wpAny (model prog w) A (getAttr (.ref x) name expr) Q E s :=
  get_value X I (plainGet_of hg).1 (findObj_own hh ha rfl hl) hv h

/-- x.m(..): the method found in the class -/
theorem get_method {x C f : Addr} {ox : Obj} {es : List DictEntry} {n : Nat} {name : Str} {pl : Sem Bool} {Q : Value × List Value → Shared → Prop}
    (X : K.In s.heap) (I : PySem.W.InstAt s.heap x ox C (some (dictOf es n))) (hg : plainGet K C name = true) (hf : findIn K (.ref C) name = some (some (.ref f))) (ht : isFn K (.ref f) = true)
    (hl : getL name es = some none) (h : Q (.ref f, [.ref x]) s) : wpAny (model prog w) A (getMethod (.ref x) name pl) Q E s :=
  method_fn X I (plainGet_of hg).1 (plainGet_of hg).2 hf (beq_iff_eq.mp ht) (by show (lookIn name (dictOf es n)).map _ = _; rw [lookIn_dict, hl]; rfl) h

/-! the whole heap as the ledger: makes every rule that writes through a ledger a rule over any heap -/
def noObjs (h : Heap) : Heap := { h with objs := #[] }
theorem noObjs_get (h : Heap) (b : Addr) : (noObjs h).get? b = none := by
  cases e : (noObjs h).get? b with
  | none => rfl
  | some o => exact absurd (Heap.lt_size e) (Nat.not_lt_zero _)
def ledger (h : Heap) (L d : Addr) : List (Addr × Obj) := (List.range h.objs.size).filterMap fun a => if a = L ∨ a = d then none else (h.get? a).map fun o => (a, o)
theorem mem_ledger {h : Heap} {L d a : Addr} {o : Obj} : (a, o) ∈ ledger h L d ↔ a ≠ L ∧ a ≠ d ∧ h.get? a = some o := by
  unfold ledger
  rw [List.mem_filterMap]
  constructor
  · rintro ⟨b, _, e⟩
    split at e
    · cases e
    · rename_i hb
      obtain ⟨o', ho, e'⟩ := Option.map_eq_some_iff.mp e
      cases e'
      exact ⟨fun q => hb (.inl q), fun q => hb (.inr q), ho⟩
  · rintro ⟨n1, n2, ho⟩
    refine ⟨a, List.mem_range.mpr (Heap.lt_size ho), ?_⟩
    rw [if_neg (show ¬ (a = L ∨ a = d) from fun q => q.elim n1 n2), ho] <;> rfl
theorem news_ledger {h : Heap} {L d : Addr} {od : Obj} (hne : d ≠ L) (ho : h.get? d = some od) : News (noObjs h) L h ([] ++ (d, od) :: ledger h L d) := by
  rintro ⟨a, o⟩ hp
  rcases List.mem_cons.mp hp with e | hp
  · cases e
    exact ⟨ho, hne, noObjs_get _ _⟩
  · obtain ⟨n1, n2, e⟩ := mem_ledger.mp hp
    exact ⟨e, n1, noObjs_get _ _⟩
theorem fr_all {h : Heap} {L : Addr} {m : Str → Option Value} (n : h.Ns L m) : Fr (noObjs h) L h m :=
  ⟨n, fun b o e => (by rw [noObjs_get] at e; cases e), Nat.zero_le _⟩
/-- Upd of the head entry (for append_K, setItem_K ..) -/
theorem upd_ledger {h : Heap} {L d : Addr} {o o' : Obj} : Upd d o o' ((d, o) :: ledger h L d) ((d, o') :: ledger h L d) :=
  .head fun ⟨_, _⟩ hp => (mem_ledger.mp hp).2.1

/-- x.name = v over any heap: L is any namespace of the heap (the frame's, say): its map stays, its object is not told; all else but the dict stays -/
theorem set_field {x C dx L : Addr} {ox : Obj} {m : Str → Option Value} {es es' : List DictEntry} {n n' : Nat} {name : Str} {v : Value} {Q : Unit → Shared → Prop}
    (X : K.In s.heap) (I : PySem.W.InstAt s.heap x ox C (some (dictOf es n))) (hd : ox.dict = some dx) (hL : s.heap.Ns L m) (hne : dx ≠ L)
    (hs : findIn K (.ref C) "__setattr__" = some (some (.builtin "object.__setattr__"))) (hp : plainOver K C = true) (ht : takerIn K C name = some none) (hh : hasDictIn K C = true) (hl : (getL name es).isSome = true)
    (e : (putL name (PyData.keyHash w.params name) (.str name (s.toks + 1)) v es, putN name es n) = (es', n')) (hz : es'.length ≤ 1000)
    (h : ∀ h' : Heap, h'.Ns L m → h'.get? dx = some (dictOf es' n') → (∀ b o, b ≠ dx → b ≠ L → s.heap.get? b = some o → h'.get? b = some o) → Q () { s with heap := h', toks := s.toks + 2 }) :
    wpAny (model prog w) A (setAttr (.ref x) name v) Q E s := by
  obtain ⟨e1, e2⟩ := Prod.mk.inj e
  have hdx : s.heap.get? dx = some (dictOf es n) := by
    have := I.dict
    rw [hd] at this
    exact this
  refine set_plain X I hs (osa_dict (s := { s with toks := s.toks + 1 }) (h₀ := noObjs s.heap) (L := L) (m := m) (od := dictOf es n) (od' := dictOf es' n') (es := es') (n := n') (pre := []) (post := ledger s.heap L dx)
    (fr_all hL) (news_ledger hne hdx) X I hd hp ht hh hl (fun _ q => nomatch q) (fun ⟨_, _⟩ q => (mem_ledger.mp q).2.1) (by rw [putName_dict, e1, e2]) rfl hz fun h' F' N' => ?_)
  exact h h' F'.ns (N'.get (List.Mem.head _)) fun b o n1 n2 ho => N'.get (List.Mem.tail _ (mem_ledger.mpr ⟨n2, n1, ho⟩))
end
end Att

namespace L2
open PySem PySem.Spec PyProof.Rows

theorem vals_ints : ∀ {vs : List Value} {ns : List Int}, IntsAre vs ns → Vals (ns.map V.int) vs
  | _, _, .nil => .nil
  | _, _, .cons n t h => .cons ⟨t, rfl⟩ (vals_ints h)

/-- nothing is tracked but the script, known to the object (or it is an object of the module) -/
def Only (H : Hp) : Prop := ∀ b, H b = none ∨ ∃ o xs, H b = some (.frz o (.lst xs))

/-- THE HEAD: the law's promise, at the heap behind the top. F, the promise of the law's def, may use that base is part of the heap (so K.In base, base.Ns mainGlobals mg stand in Mod) -/
theorem law_call {P : Program} {w : World} {K : PySem.W.Frag} {mg mb : Str → Option Value} {CX : CXT} {k : Nat} {fa a : Addr} {fd : FuncData} {x : Str} {sp : Sp} {s₁ : Shared} {vs : List Value} {ns : List Int}
    (KX : K.In s₁.heap) (hns : s₁.heap.Ns mainGlobals mg) (hb : s₁.heap.Ns builtinsNs mb) (hbb : ∀ x : Str, x ≠ "__name__" → mb x = bootBuiltins x) (hlim : s₁.heap.NoLimit) (hg : s₁.gens = #[])
    (ha : s₁.heap.get? a = some { cls := .type "list", data := .seq vs.toArray }) (hi : IntsAre vs ns) (hl : ns.length ≤ sizeLine) (hr : Room k callerA)
    (F : ∀ base : Heap, K.In base → base.Ns mainGlobals mg → FnOk P w K mg base CX k fa fd [x] sp) (hbind : ∀ (s : Shared) (u : Value), BindsTo s fd ⟨[u], []⟩ [(x, u)])
    (hsp : ∀ H : Hp, Only H → SqL K H a (ns.map V.int) → sp [.ref a] H (fun v _ => v = .bl true) fun _ _ _ => False)
    (hCX : ∀ H e s', CX [] H s₁ (fun _ _ _ => False) e s' → False) :
    codeAny (model P w) callerA (.call (.ref fa) ⟨[.ref a], []⟩) (fun r s' => r = .ok (.ret (.bool true)) ∧ OldK s₁.heap s'.heap ∧ s'.os = s₁.os ∧ AllBare s'.gens) s₁ := by
  have rv := vals_ints hi
  have lenV := hi.length
  -- from an abstract heap in which nothing but the script may be tracked
  have core : ∀ H : Hp, Only H → SqL K H a (ns.map V.int) → HOk P w H s₁.heap → (∀ b, H b ≠ none → b = a) → (H a ≠ none → K.lookup a = none) →
      codeAny (model P w) callerA (.call (.ref fa) ⟨[.ref a], []⟩) (fun r s' => r = .ok (.ret (.bool true)) ∧ OldK s₁.heap s'.heap ∧ s'.os = s₁.os ∧ AllBare s'.gens) s₁ := by
    intro H hO hS hok hA hK
    have base_of : ∀ {b : Addr} {o : Obj}, s₁.heap.get? b = some o → H b = none → (hidT s₁.heap H).get? b = some o := fun e n => hidT_get e n
    have noA : ∀ {b : Addr} {o : Obj} {es : Array DictEntry} {ep : Nat}, s₁.heap.get? b = some o → o.data = .dict es ep → H b = none := fun {b o es ep} e d => by
      cases q : H b with
      | none => rfl
      | some u =>
        have e' : b = a := hA b (by rw [q]; simp)
        subst e'
        rw [ha] at e; cases e
        have d' : Data.seq vs.toArray _ = Data.dict es ep := d
        cases d'
    have nsK : ∀ {b : Addr} {m : Str → Option Value}, s₁.heap.Ns b m → (hidT s₁.heap H).Ns b m := fun {b m} ⟨o, es, ep, e, d, r⟩ => ⟨o, es, ep, base_of e (noA e d), d, r⟩
    have hKb : K.In (hidT s₁.heap H) := fun b o e => base_of (KX b o e) (by
      cases q : H b with
      | none => rfl
      | some u =>
        have e' : b = a := hA b (by rw [q]; simp)
        subst e'
        rw [hK (by rw [q]; simp)] at e; cases e)
    have hM : Mod K mg (hidT s₁.heap H) := ⟨hKb, nsK hns, ⟨mb, nsK hb, hbb⟩, let ⟨mc, h1, h2⟩ := hlim; ⟨mc, nsK h1, h2⟩⟩
    have e0 : Env0 P w K mg (hidT s₁.heap H) callerA [] s₁ H := ⟨rfl, hM, fun b o e => of_hidT e, Nat.le_of_eq (hidT_size _ _), trivial, fun b hb => absurd (show b ∈ ([] : List Addr) from hb) (by simp), hok, .of_eq hg⟩
    refine codeAny_mono ((F _ hKb (nsK hns)).run callerA [] s₁ H ⟨[.ref a], []⟩ [.ref a] [.ref a] _ _ hr e0 (hbind s₁ (.ref a)) (.cons rfl .nil) (hsp H hO hS)) fun r s' h => ?_
    cases r with
    | error e => exact (hCX H e s' h).elim
    | ok fl =>
      cases fl with
      | next => exact False.elim h
      | brk => exact False.elim h
      | cont => exact False.elim h
      | ret u =>
        obtain ⟨v, H', os, bare, un, hok', r', q⟩ := h
        have q' : v = .bl true := q
        subst q'
        obtain rfl : u = Value.bool true := r'
        refine ⟨rfl, OldK.of_keep fun b o e => ?_, os, bare⟩
        cases q : H b with
        | none => exact un.keep b o e q (by intro z; exact absurd (show b ∈ ([] : List Addr) from z) (by simp)) (by simp)
        | some u =>
          rcases hO b with z | ⟨ob, xs, z⟩
          · rw [q] at z; cases z
          · have z2 := un.frzs b ob _ z
            obtain ⟨e1, _⟩ := hok b _ z
            obtain ⟨e2, _⟩ := hok' b _ z2
            rw [e] at e1; cases e1
            exact e2
  cases hk : K.lookup a with
  | some o =>
    -- the script is one of the module's own objects
    have e := KX a o hk
    rw [ha] at e
    cases e
    refine core (fun _ => none) (fun _ => .inl rfl) (.inr ⟨_, vs.toArray, _, hk, rfl, rfl, rfl, by rw [List.size_toArray, lenV]; exact hl, by simpa using rv⟩) (fun b u z => by have z' : (none : Option HO) = some u := z; cases z') (fun b z => absurd rfl z) fun z => absurd rfl z
  | none =>
    refine core (fun b => if b = a then some (.frz { cls := .type "list", data := .seq vs.toArray } (.lst (ns.map V.int))) else none) (fun b => ?_) (.inl (.inr ⟨{ cls := .type "list", data := .seq vs.toArray }, if_pos rfl⟩)) (fun b u z => ?_) (fun b z => ?_) fun _ => hk
    · by_cases hb : b = a
      · exact .inr ⟨_, _, if_pos hb⟩
      · exact .inl (if_neg hb)
    · by_cases hb : b = a
      · have z' := (if_pos hb).symm.trans z
        cases z'
        subst hb
        exact ⟨ha, by rw [List.length_map]; exact hl, vs, _, rv, ha⟩
      · have z' := (if_neg hb).symm.trans z
        cases z'
    · by_cases hb : b = a
      · exact hb
      · exact absurd (if_neg hb) z
end L2

namespace L2
open PySem PySem.Spec PyProof.Rows

abbrev KOf {K : PySem.W.Frag} {h : Heap} (_ : K.In h) : PySem.W.Frag := K

/-- the goal that k_head leaves (case hc), from the law's promise. F gives the function object fd (K's own) once, then the promise over every base -/
theorem walk_of {l : PySem.W.OpenLaw} {n k : Nat} {q : Program} {loose : List Str} {XP : (Str → Option Value) → Heap → Prop} {YP : World → Heap → Prop} {d : DefRec} {K : Params → PySem.W.Frag} {CX : World → CXT} {sp : World → Sp} {x : Str}
    (hn : l.most = some n) (hn2 : n ≤ sizeLine) (hdf : d.params.defaults = []) (hr : Room k callerA)
    (hY : ∀ (w : World) (h : Heap), YP w h → (K w.params).In h)
    (F : ∀ (w : World) (mg : Str → Option Value) (fa : Addr) (h : Heap), (K w.params).In h → h.Ns mainGlobals mg → mg d.name = some (.ref fa) →
      ∃ fd : FuncData, (∀ (s : Shared) (u : Value), BindsTo s fd ⟨[u], []⟩ [(x, u)]) ∧
        ∀ base : Heap, (K w.params).In base → base.Ns mainGlobals mg → FnOk l.prog w (K w.params) mg base (CX w) k fa fd [x] (sp w))
    (hsp : ∀ (w : World) (H : Hp) (a : Addr) (ns : List Int), ns.length ≤ n → Only H → SqL (K w.params) H a (ns.map V.int) → sp w [.ref a] H (fun v _ => v = .bl true) fun _ _ _ => False)
    (hCX : ∀ (w : World) (H : Hp) (s : Shared) (e : Value) (s' : Shared), CX w [] H s (fun _ _ _ => False) e s' → False) :
    PySem.W.WalkO q loose XP YP l.row.toRowW d [] (fun f vs => PySem.call f vs) := by
  refine Att.attach_call hn hdf fun w s₀ s₁ mg mb fa o pm cd doc a vs ns G Y ho hd hcd hmg hobj hints hlen hg => ?_
  have KX := hY w _ Y
  obtain ⟨fd, hb, hF⟩ := F w mg fa _ KX G.T.g hmg
  exact law_call KX G.T.g G.T.b G.T.builtins G.T.nolimit hg hobj hints (Nat.le_trans hlen hn2) hr hF hb (fun H hO hS => hsp w H a ns hlen hO hS) fun H e s' => hCX w H s₁ e s'
/-- the same where the promise hangs on the written part alone: (sp := My.sp_law), no hole under a binder -/
theorem walk_ofK {l : PySem.W.OpenLaw} {n k : Nat} {q : Program} {loose : List Str} {XP : (Str → Option Value) → Heap → Prop} {YP : World → Heap → Prop} {d : DefRec} {K : Params → PySem.W.Frag} {CX : CXT} {sp : PySem.W.Frag → Sp} {x : Str}
    (hn : l.most = some n) (hn2 : n ≤ sizeLine) (hdf : d.params.defaults = []) (hr : Room k callerA)
    (hY : ∀ (w : World) (h : Heap), YP w h → (K w.params).In h)
    (F : ∀ (w : World) (mg : Str → Option Value) (fa : Addr) (h : Heap), (K w.params).In h → h.Ns mainGlobals mg → mg d.name = some (.ref fa) →
      ∃ fd : FuncData, (∀ (s : Shared) (u : Value), BindsTo s fd ⟨[u], []⟩ [(x, u)]) ∧
        ∀ base : Heap, (K w.params).In base → base.Ns mainGlobals mg → FnOk l.prog w (K w.params) mg base CX k fa fd [x] (sp (K w.params)))
    (hsp : ∀ (K : PySem.W.Frag) (H : Hp) (a : Addr) (ns : List Int), ns.length ≤ n → Only H → SqL K H a (ns.map V.int) → sp K [.ref a] H (fun v _ => v = .bl true) fun _ _ _ => False)
    (hCX : ∀ (H : Hp) (s : Shared) (e : Value) (s' : Shared), CX [] H s (fun _ _ _ => False) e s' → False) :
    PySem.W.WalkO q loose XP YP l.row.toRowW d [] (fun f vs => PySem.call f vs) :=
  walk_of (K := K) (CX := fun _ => CX) (sp := fun w => sp (K w.params)) hn hn2 hdf hr hY F (fun w H a ns h1 h2 h3 => hsp (K w.params) H a ns h1 h2 h3) fun _ H s e s' => hCX H s e s'
end L2

/- THE LAST THEOREM (shape; LID, My.* are yours):
   My.Adr: a structure of the addresses that your layer names (classes, functions); My.Txt K t: a structure (Prop) of the equations over K;
   My.txt_mk : {K} {implicit addresses ..} (e1 : nsIn K mainGlobals "law" = some (some (.ref f))) (e2 : K.lookup f = some ⟨oc, od, .func (fnOf "law" "law" params body scope dV kV doc pm an cdv ct), sl⟩) (e3 : codeIn K cdv "law" = true) .. : ∃ t, My.Txt K t

set_option maxRecDepth 100000 in
set_option maxHeartbeats 0 in
theorem PySem.Challenge.cw_LID_holds : PySem.Challenge.rw_LID.Holds := by
  w_on; o_law; k_head; (case hw => w_witness2)
  k_fill
  refine L2.walk_of (l := PySem.Challenge.rw_LID) (n := 63) (k := 40) (x := "script") (CX := fun w => ..) (sp := fun _ => My.sp_law) rfl (by decide) rfl ⟨rfl, by decide, by decide⟩ (fun w h Y => PySem.W.kIn_of Y) ?F ?S ?C
  case F =>
    intro w mg fa h KX G hmg
    have T : ∃ t, My.Txt (L2.KOf KX) t := by
      dsimp only [L2.KOf]                          -- K must stand as «<heap const> w.params» for k_is
      refine' My.txt_mk ?e1 ?e2 ?e3 ..
      (case e1 => PySem.W.k_is)                    -- in the order: a name -> its address -> its object -> its parts
      (case e2 => PySem.W.k_is)
      ..
    obtain ⟨t, T⟩ := T
    have e0 := hmg.symm.trans (PySem.W.mg_of KX G T.law)
    cases e0                                       -- fa is the law's own address
    exact ⟨_, fun s u => .of_eq rfl, fun base kb nb => My.law_fn T kb nb⟩     -- if «.of_eq rfl» comes too early: refine' ⟨_, ?b, fun base kb nb => My.law_fn T kb nb⟩; exact fun s u => .of_eq rfl
  case S => exact fun w H a ns hl hO hS => ..
  case C => exact ..
(the tactic k_is has no namespace: write k_is) -/

/-! SHORT WORDS over the layer: a def of the text, its body, what a loop and a test want. -/
namespace L2
open PySem PySem.Spec PyProof.Rows

/-! ### the text by places -/
/-- the j-th statement of a class's body -/
def inClass (s : Stmt) (j : Nat) : Stmt := match s with
  | .ClassDef _ _ _ body _ _ _ _ _ _ _ => body.getD j (.Pass ⟨0, 0, 0, 0⟩)
  | _ => .Pass ⟨0, 0, 0, 0⟩
def defArgs (s : Stmt) : Arguments := match s with
  | .FunctionDef _ a _ _ _ _ _ _ _ _ => a
  | _ => { posonlyargs := [], args := [], vararg := none, kwonlyargs := [], kw_defaults := [], kwarg := none, defaults := [] }
def defBody (s : Stmt) : List Stmt := match s with
  | .FunctionDef _ _ b _ _ _ _ _ _ _ => b
  | _ => []
def defScope (s : Stmt) : Scope := match s with
  | .FunctionDef _ _ _ _ _ _ sc _ _ _ => sc
  | _ => { kind := .function, names := [], isGenerator := false, isCoroutine := false }

/-! ### no exception leaves a def -/
abbrev CX0 : CXT := fun _ _ _ _ _ _ => False
abbrev E0 : XK := fun _ _ _ => False
theorem pass0 {X : Cx} : Passes CX0 X E0 := fun _ _ _ _ _ _ _ h => h.elim

/-! ### a def (or method) of the text as it stands behind the top -/
structure Fun (K : PySem.W.Frag) (x qual : Str) (st : Stmt) (f : Addr) (fd : FuncData) : Prop where
  ex : ∃ (oc : Value) (od : Option Addr) (kV doc pm : Value) (an : Option Addr) (cdv ct : Value) (osl : Array (Option Value)),
    fd = PySem.W.fnOf x qual (defArgs st) (defBody st) (defScope st) .none kV doc pm an cdv ct ∧ K.lookup f = some ⟨oc, od, .func fd, osl⟩ ∧ PySem.W.codeIn K cdv qual = true
  kp : PySem.W.keepIn K (.ref f) = true
section
variable {P : Program} {w : World} {K : PySem.W.Frag} {mg : Str → Option Value} {base : Heap}
/-- THE RULE for a def: its body as a term of rules, and the reading of that term -/
theorem Fun.ok {x qual : Str} {st : Stmt} {f : Addr} {fd : FuncData} {N ps : List Str} {k : Nat} {sp : Sp} (F : Fun K x qual st f fd) (S : FnScope N ps (defScope st)) (len : ∀ vs H Q E, sp vs H Q E → vs.length = ps.length)
    (hbody : ∀ (cdv : Value) (A : Around) (outer : List Env) (s : Shared) (H : Hp) (vs : List V) (Q : VK) (E : XK), Room k (A.deeper (envOfC qual (defScope st) s.heap.objs.size f cdv)) → sp vs H Q E →
      ∃ t, PSs (cxOf CX0 P w K mg base N qual (defScope st) f cdv A outer s H E).nox (defBody st) t ∧ t { nx := fun _ H' => Q .non H', rt := Q } (start N vs) H) : FnOk P w K mg base CX0 (k + 1) f fd ps sp := by
  obtain ⟨oc, od, kV, doc, pm, an, cdv, ct, osl, rfl, lk, hcd⟩ := F.ex
  refine fn_of lk hcd S len fun A outer s H vs Q E hr hsp => ?_
  obtain ⟨t, h, q⟩ := hbody cdv A outer s H vs Q E hr hsp
  exact ⟨t, h.nox, q⟩
/-- how its arguments bind (no defaults): h is «fun _ _ _ _ _ _ us hl => match us, hl with | [_, _], _ => rfl», one _ a parameter -/
theorem Fun.binds {x qual : Str} {st : Stmt} {f : Addr} {fd : FuncData} {ps : List Str} (F : Fun K x qual st f fd)
    (h : ∀ (kV doc pm : Value) (an : Option Addr) (cdv ct : Value) (us : List Value), us.length = ps.length → bindArgs (PySem.W.fnOf x qual (defArgs st) (defBody st) (defScope st) .none kV doc pm an cdv ct) ⟨us, []⟩ = pure (ps.zip us)) : Binds K fd ps [] := by
  obtain ⟨oc, od, kV, doc, pm, an, cdv, ct, osl, rfl, lk, hcd⟩ := F.ex
  exact .all (h kV doc pm an cdv ct)
theorem fun_mk {x qual : Str} {st : Stmt} {f : Addr} {oc : Value} {od an : Option Addr} {osl : Array (Option Value)} {kV doc pm cdv ct : Value} (l : K.lookup f = some ⟨oc, od, .func (PySem.W.fnOf x qual (defArgs st) (defBody st) (defScope st) .none kV doc pm an cdv ct), osl⟩)
    (c : PySem.W.codeIn K cdv qual = true) (k : PySem.W.keepIn K (.ref f) = true) : Fun K x qual st f (PySem.W.fnOf x qual (defArgs st) (defBody st) (defScope st) .none kV doc pm an cdv ct) := ⟨⟨oc, od, kV, doc, pm, an, cdv, ct, osl, rfl, l, c⟩, k⟩
end
theorem hu_of {A : Around} {k : Nat} (hr : Room k A) : A.units + 1 < cLine := Nat.lt_of_le_of_lt (Nat.add_le_add_left (by decide : 1 ≤ 64) _) hr.units
theorem small1000 {n : Nat} (h : n ≤ 1000) : n < sizeLine := Nat.lt_of_le_of_lt h (by decide)

/-! ### expressions in short: the name that stands in the i-th slot -/
section
variable {X : Cx}
theorem pv (i : Nat) {x : Str} {pos : Pos} (hN : X.N[i]? = some x := by rfl) (hv : Vis X.env.scope x := by first | exact Or.inl rfl | exact Or.inr (Or.inl rfl) | exact Or.inr (Or.inr rfl)) (hd : (x == ("__debug__" : Str)) = false := by decide)
    (hcd : (x == ("__classdict__" : Str)) = false := by decide) : PE X (.Name x pos) (tVar i) := pe_var hN hv hd hcd
/-- len of a dict -/
theorem call_lenD : CallR X (.builtin "len") (fun xs H Q => ∃ a kvs, xs = [V.ref a] ∧ H a = some (.dK kvs) ∧ Q (.int kvs.length) H) := by
  intro pins s σ H xs us Q I r h
  obtain ⟨a, kvs, rfl, ha, q⟩ := h
  obtain ⟨u, rfl, ru⟩ := vals1 r
  cases ru
  exact d_len I (.inl ha) fun t s' I' => ⟨.int kvs.length, H, I', ⟨t, rfl⟩, q⟩
end

/-! ### tests -/
theorem iteF {A B : Prop} (h : B) : if false = true then A else B := by
  rw [if_neg Bool.false_ne_true]
  exact h
theorem iteT {A B : Prop} (h : A) : if true = true then A else B := by
  rw [if_pos rfl]
  exact h
theorem ite2 {c A B : Prop} [Decidable c] (h1 : c → A) (h2 : ¬ c → B) : if c then A else B := by
  by_cases h : c
  · rw [if_pos h]
    exact h1 h
  · rw [if_neg h]
    exact h2 h
theorem iteNS {c A B : Prop} [Decidable c] (hc : c) (h : B) : if (!decide c) = true then A else B := by
  rw [decide_eq_true hc]
  exact iteF h

/-! ### heaps -/
/-- all that was tracked is as it was -/
def Same (H H' : Hp) : Prop := ∀ b o, H b = some o → H' b = some o
theorem Same.refl (H : Hp) : Same H H := fun _ _ h => h
theorem Same.trans {H H1 H2 : Hp} (a : Same H H1) (b : Same H1 H2) : Same H H2 := fun c o h => b c o (a c o h)
theorem Same.free {H H' : Hp} (e : Same H H') {l : Addr} (h : H' l = Option.none) : H l = Option.none := by
  cases q : H l with
  | none => rfl
  | some o =>
    rw [e l o q] at h
    cases h
theorem Same.seq {K : PySem.W.Frag} {H H' : Hp} {a : Addr} {xs : List V} (e : Same H H') (h : SqL K H a xs) : SqL K H' a xs := by
  rcases h with (h | ⟨o, h⟩) | h
  · exact .inl (.inl (e _ _ h))
  · exact .inl (.inr ⟨o, e _ _ h⟩)
  · exact .inr h

/-! ### a dict's pairs: keys that differ -/
section
variable {κ : Type} [DecidableEq κ]
theorem valV_not {kvs : List (κ × V)} {k : κ} (h : valV kvs k = none) : ¬ k ∈ kvs.map (·.1) := by
  intro m
  obtain ⟨p, hp, e⟩ := List.mem_map.mp m
  have q : (kvs.any fun kv => decide (kv.1 = k)) = true := List.any_eq_true.mpr ⟨p, hp, decide_eq_true e⟩
  rw [valV_any, h] at q
  exact absurd q (by simp)
theorem valV_in {kvs : List (κ × V)} {k : κ} {v : V} (h : valV kvs k = some v) : k ∈ kvs.map (·.1) := by
  have q : (kvs.any fun kv => decide (kv.1 = k)) = true := by
    rw [valV_any, h]
    all_goals rfl
  obtain ⟨p, hp, e⟩ := List.any_eq_true.mp q
  exact List.mem_map.mpr ⟨p, hp, of_decide_eq_true e⟩
theorem nd_snoc : ∀ {l : List κ} {k : κ}, l.Nodup → ¬ k ∈ l → (l ++ [k]).Nodup
  | [], k, _, _ => by simp
  | a :: r, k, h, hk => by
    obtain ⟨h1, h2⟩ := List.nodup_cons.mp h
    show (a :: (r ++ [k])).Nodup
    refine List.nodup_cons.mpr ⟨fun m => ?_, nd_snoc h2 fun m => hk (List.mem_cons.mpr (Or.inr m))⟩
    rcases List.mem_append.mp m with q | q
    · exact h1 q
    · exact hk (List.mem_cons.mpr (Or.inl (List.mem_singleton.mp q).symm))
theorem nd_putK {kvs : List (κ × V)} {k : κ} (v : V) (hn : (kvs.map (·.1)).Nodup) (h : valV kvs k = none) : ((putK kvs k v).map (·.1)).Nodup := by
  rw [putK_new v h, List.map_append]
  exact nd_snoc hn (valV_not h)
theorem dropK_pos {p : κ × V} {r : List (κ × V)} {k : κ} (e : p.1 = k) : dropK (p :: r) k = dropK r k := by
  unfold dropK
  rw [List.filter_cons, if_neg (by simp [e])]
theorem dropK_neg {p : κ × V} {r : List (κ × V)} {k : κ} (e : ¬ p.1 = k) : dropK (p :: r) k = p :: dropK r k := by
  unfold dropK
  rw [List.filter_cons, if_pos (by simp [e])]
theorem dropK_no : ∀ {kvs : List (κ × V)} {k : κ}, ¬ k ∈ kvs.map (·.1) → dropK kvs k = kvs
  | [], _, _ => rfl
  | p :: r, k, h => by
    have h' : ¬ k ∈ r.map (·.1) := fun m => by
      obtain ⟨q, hq, e⟩ := List.mem_map.mp m
      exact h (List.mem_map.mpr ⟨q, List.mem_cons.mpr (Or.inr hq), e⟩)
    rw [dropK_neg fun e => h (List.mem_map.mpr ⟨p, List.mem_cons.mpr (Or.inl rfl), e⟩), dropK_no h']
theorem dropK_mem {kvs : List (κ × V)} {k : κ} {p : κ × V} (h : p ∈ dropK kvs k) : p ∈ kvs := (List.mem_filter.mp h).1
theorem nd_dropK : ∀ {kvs : List (κ × V)} {k : κ}, (kvs.map (·.1)).Nodup → ((dropK kvs k).map (·.1)).Nodup
  | [], _, _ => List.nodup_nil
  | p :: r, k, h => by
    have h : (p.1 :: r.map (·.1)).Nodup := h
    obtain ⟨h1, h2⟩ := List.nodup_cons.mp h
    by_cases e : p.1 = k
    · rw [dropK_pos e]
      exact nd_dropK h2
    · rw [dropK_neg e]
      show (p.1 :: (dropK r k).map (·.1)).Nodup
      refine List.nodup_cons.mpr ⟨fun m => h1 ?_, nd_dropK h2⟩
      obtain ⟨q, hq, eq⟩ := List.mem_map.mp m
      exact List.mem_map.mpr ⟨q, dropK_mem hq, eq⟩
theorem dropK_len : ∀ {kvs : List (κ × V)} {k : κ}, (kvs.map (·.1)).Nodup → k ∈ kvs.map (·.1) → (dropK kvs k).length + 1 = kvs.length
  | [], _, _, m => by simp at m
  | p :: r, k, h, m => by
    have h : (p.1 :: r.map (·.1)).Nodup := h
    have m : k = p.1 ∨ k ∈ r.map (·.1) := List.mem_cons.mp m
    obtain ⟨h1, h2⟩ := List.nodup_cons.mp h
    by_cases e : p.1 = k
    · subst e
      rw [dropK_pos rfl, dropK_no h1]
      all_goals rfl
    · have m' : k ∈ r.map (·.1) := m.resolve_left fun z => e z.symm
      have q := dropK_len h2 m'
      rw [dropK_neg e, List.length_cons, List.length_cons]
      omega
end
end L2

set_option Elab.async false
set_option linter.all false
set_option maxRecDepth 100000
set_option maxHeartbeats 4000000
set_option Elab.async false
namespace GR
/-- the days of a leg -/
def dil (c : Int) : Int := if c % 2 = 1 then c else c - 1
def lastO (c : Int) : Option Int := if c % 2 = 0 then some (c - 1) else none
def singM (c d : Int) : Int := d * ((dil c + 1) / 2) % dil c
def partM (c d t : Int) : Option Int :=
  if lastO c = some t then some (singM c d) else if (d - t) % dil c = t then lastO c else some ((d - t) % dil c)
def homeM (c lo hi : Int) : Int :=
  if lastO c = some hi then (if lo % 2 = 0 then lo else hi) else (if (hi - lo) % 2 = 1 then lo else hi)
/-- the day's place in its leg -/
def dayM (c d : Int) : Int := if d < dil c then d else d - dil c

theorem emod_near {x D : Int} (hD : 0 < D) (h1 : -D ≤ x) (h2 : x < 2 * D) :
    x % D = if x < 0 then x + D else if x < D then x else x - D := by
  split
  · rw [← Int.add_emod_right]; exact Int.emod_eq_of_lt (by omega) (by omega)
  · split
    · exact Int.emod_eq_of_lt (by omega) (by omega)
    · rw [← Int.sub_emod_right]; exact Int.emod_eq_of_lt (by omega) (by omega)

theorem dil_odd (c : Int) : dil c % 2 = 1 := by unfold dil; split <;> omega
theorem dil_pos {c : Int} (h : 2 ≤ c) : 0 < dil c := by unfold dil; split <;> omega

/-- half a remainder -/
theorem half_mod {D d k : Int} (hD : 0 < D) (ho : D % 2 = 1) (h0 : 0 ≤ k) (h1 : k < D) (e : d = k ∨ d = k + D) :
    d * ((D + 1) / 2) % D = if k % 2 = 0 then k / 2 else (k + D) / 2 := by
  obtain ⟨m, hm⟩ : ∃ m, D = 2 * m + 1 := ⟨D / 2, by omega⟩
  have hh : (D + 1) / 2 = m + 1 := by omega
  rw [hh]
  have step : d * (m + 1) % D = k * (m + 1) % D := by
    rcases e with e | e
    · rw [e]
    · rw [e, Int.add_mul, Int.mul_comm D, Int.add_mul_emod_self_right]
  rw [step]
  split
  · rename_i hk
    obtain ⟨j, hj⟩ : ∃ j, k = 2 * j := ⟨k / 2, by omega⟩
    have e1 : k * (m + 1) = j + j * D := by
      rw [hj, hm, Int.mul_add, Int.mul_add, Int.mul_assoc, Int.mul_left_comm j 2 m]
      omega
    rw [e1, Int.add_mul_emod_self_right, Int.emod_eq_of_lt (by omega) (by omega)]
    omega
  · rename_i hk
    obtain ⟨j, hj⟩ : ∃ j, k = 2 * j + 1 := ⟨k / 2, by omega⟩
    have e1 : k * (m + 1) = (j + m + 1) + j * D := by
      have e2 : 2 * j * m = 2 * (j * m) := Int.mul_assoc 2 j m
      have e3 : j * (2 * m) = 2 * (j * m) := Int.mul_left_comm j 2 m
      rw [hj, hm, Int.add_mul, Int.mul_add, Int.mul_add j, e2, e3]
      omega
    rw [e1, Int.add_mul_emod_self_right, Int.emod_eq_of_lt (by omega) (by omega)]
    omega

/-- two teams meet, by their numbers (k: the day's place in its leg) -/
def Meet (c k a b : Int) : Prop :=
  (a < dil c ∧ b < dil c ∧ (a + b = k ∨ a + b = k + dil c)) ∨ (b = dil c ∧ a < dil c ∧ (2 * a = k ∨ 2 * a = k + dil c)) ∨ (a = dil c ∧ b < dil c ∧ (2 * b = k ∨ 2 * b = k + dil c))

theorem lastO_eq {c t : Int} : lastO c = some t ↔ (c % 2 = 0 ∧ t = c - 1) := by
  unfold lastO
  split
  · rename_i h
    constructor
    · intro e; cases e; exact ⟨h, rfl⟩
    · rintro ⟨_, rfl⟩; rfl
  · rename_i h
    constructor
    · intro e; cases e
    · rintro ⟨h', _⟩; exact absurd h' h

theorem dayM_lt {c d : Int} (hc : 2 ≤ c) (h0 : 0 ≤ d) (h1 : d < 2 * dil c) : 0 ≤ dayM c d ∧ dayM c d < dil c ∧ (d = dayM c d ∨ d = dayM c d + dil c) := by
  have := dil_pos hc
  unfold dayM
  split <;> omega

theorem ring_mod {c d t : Int} (hc : 2 ≤ c) (h0 : 0 ≤ d) (h1 : d < 2 * dil c) (t0 : 0 ≤ t) (t1 : t < dil c) :
    ∃ r, (d - t) % dil c = r ∧ 0 ≤ r ∧ r < dil c ∧ (r = dayM c d - t ∨ r = dayM c d - t + dil c) := by
  have hD := dil_pos hc
  refine ⟨_, rfl, Int.emod_nonneg _ (by omega), Int.emod_lt_of_pos _ hD, ?_⟩
  rw [emod_near hD (by omega) (by omega)]
  have k := dayM_lt hc h0 h1
  have e : dayM c d = if d < dil c then d else d - dil c := rfl
  generalize dil c = D at *
  generalize dayM c d = kk at *
  split at e <;> (repeat' split) <;> omega

theorem sing_val {c d : Int} (hc : 2 ≤ c) (h0 : 0 ≤ d) (h1 : d < 2 * dil c) :
    singM c d = if dayM c d % 2 = 0 then dayM c d / 2 else (dayM c d + dil c) / 2 := by
  have k := dayM_lt hc h0 h1
  exact half_mod (dil_pos hc) (dil_odd c) k.1 k.2.1 k.2.2

/-- whom a team meets -/
theorem part_some {c d t o : Int} (hc : 2 ≤ c) (h0 : 0 ≤ d) (h1 : d < 2 * dil c) (t0 : 0 ≤ t) (t1 : t < c) (h : partM c d t = some o) :
    0 ≤ o ∧ o < c ∧ o ≠ t ∧ Meet c (dayM c d) t o := by
  have k := dayM_lt hc h0 h1
  have hD := dil_pos hc
  have hodd := dil_odd c
  have eD : dil c = if c % 2 = 1 then c else c - 1 := rfl
  unfold partM at h
  split at h
  · rename_i hl
    obtain ⟨l1, l2⟩ := lastO_eq.mp hl
    have ev := sing_val hc h0 h1
    cases h
    rw [ev]
    unfold Meet
    generalize dil c = D at *
    generalize dayM c d = kk at *
    split at eD <;> split <;> omega
  · rename_i hl
    have hl' : ¬ (c % 2 = 0 ∧ t = c - 1) := fun q => hl (lastO_eq.mpr q)
    have tD : t < dil c := by generalize dil c = D at *; split at eD <;> omega
    obtain ⟨r, er, r0, r1, r2⟩ := ring_mod hc h0 h1 t0 tD
    rw [er] at h
    split at h
    · rename_i hs
      obtain ⟨l1, l2⟩ := lastO_eq.mp h
      clear h er
      unfold Meet
      generalize dil c = D at *
      generalize dayM c d = kk at *
      split at eD <;> omega
    · rename_i hs
      cases h
      clear er
      unfold Meet
      generalize dil c = D at *
      generalize dayM c d = kk at *
      split at eD <;> omega

theorem part_none {c d t : Int} (hc : 2 ≤ c) (h0 : 0 ≤ d) (h1 : d < 2 * dil c) (t0 : 0 ≤ t) (t1 : t < c) (h : partM c d t = none) :
    c % 2 = 1 ∧ (2 * t = dayM c d ∨ 2 * t = dayM c d + dil c) := by
  have k := dayM_lt hc h0 h1
  have hD := dil_pos hc
  have eD : dil c = if c % 2 = 1 then c else c - 1 := rfl
  unfold partM at h
  split at h
  · cases h
  · rename_i hl
    have hl' : ¬ (c % 2 = 0 ∧ t = c - 1) := fun q => hl (lastO_eq.mpr q)
    have tD : t < dil c := by generalize dil c = D at *; split at eD <;> omega
    obtain ⟨r, er, r0, r1, r2⟩ := ring_mod hc h0 h1 t0 tD
    rw [er] at h
    split at h
    · rename_i hs
      have hc2 : ¬ c % 2 = 0 := by
        intro q
        unfold lastO at h
        rw [if_pos q] at h
        cases h
      clear h er
      generalize dil c = D at *
      generalize dayM c d = kk at *
      split at eD <;> omega
    · cases h

/-- who meets is the partner -/
theorem part_of {c d t o : Int} (hc : 2 ≤ c) (h0 : 0 ≤ d) (h1 : d < 2 * dil c) (t0 : 0 ≤ t) (t1 : t < c) (o0 : 0 ≤ o) (o1 : o < c) (ne : o ≠ t) (m : Meet c (dayM c d) t o) :
    partM c d t = some o := by
  have k := dayM_lt hc h0 h1
  have hD := dil_pos hc
  have hodd := dil_odd c
  have eD : dil c = if c % 2 = 1 then c else c - 1 := rfl
  unfold Meet at m
  unfold partM
  split
  · rename_i hl
    obtain ⟨l1, l2⟩ := lastO_eq.mp hl
    rw [sing_val hc h0 h1]
    congr 1
    generalize dil c = D at *
    generalize dayM c d = kk at *
    split at eD <;> split <;> omega
  · rename_i hl
    have hl' : ¬ (c % 2 = 0 ∧ t = c - 1) := fun q => hl (lastO_eq.mpr q)
    have tD : t < dil c := by generalize dil c = D at *; split at eD <;> omega
    obtain ⟨r, er, r0, r1, r2⟩ := ring_mod hc h0 h1 t0 tD
    rw [er]
    clear er
    split
    · rename_i hs
      refine lastO_eq.mpr ?_
      generalize dil c = D at *
      generalize dayM c d = kk at *
      split at eD <;> omega
    · rename_i hs
      congr 1
      generalize dil c = D at *
      generalize dayM c d = kk at *
      split at eD <;> omega

theorem Meet.symm {c k a b : Int} (m : Meet c k a b) : Meet c k b a := by
  unfold Meet at *
  generalize dil c = D at *
  omega

theorem part_symm {c d t o : Int} (hc : 2 ≤ c) (h0 : 0 ≤ d) (h1 : d < 2 * dil c) (t0 : 0 ≤ t) (t1 : t < c) (h : partM c d t = some o) : partM c d o = some t := by
  obtain ⟨a, b, n, m⟩ := part_some hc h0 h1 t0 t1 h
  exact part_of hc h0 h1 a b t0 t1 n.symm m.symm
end GR
namespace GR
/-- the pairs (lower, higher) that meet, among the lower ones below n -/
def pairsUp (c d : Int) : Nat → List (Int × Int)
  | 0 => []
  | n + 1 => pairsUp c d n ++ (match partM c d (n : Int) with
    | some o => if (n : Int) < o then [((n : Int), o)] else []
    | none => [])
def atHomeM (c a b : Int) : Int := homeM c (if b < a then b else a) (if b > a then b else a)
def gameM (c d a b : Int) : Int × Int :=
  let h := atHomeM c a b
  let w := if h = a then b else a
  if d / dil c = 1 then (w, h) else (h, w)
def gamesUp (c d : Int) (n : Nat) : List (Int × Int) := (pairsUp c d n).map fun p => gameM c d p.1 p.2
def gamesM (c d : Int) : List (Int × Int) := gamesUp c d c.toNat

theorem pairsUp_mem {c d : Int} : ∀ {n : Nat} {p : Int × Int}, p ∈ pairsUp c d n → 0 ≤ p.1 ∧ p.1 < n ∧ p.1 < p.2 ∧ partM c d p.1 = some p.2
  | 0, p, h => by cases h
  | n + 1, p, h => by
    unfold pairsUp at h
    rcases List.mem_append.mp h with h | h
    · have := pairsUp_mem h
      exact ⟨this.1, by have := this.2.1; omega, this.2.2⟩
    · split at h
      · rename_i o ho
        split at h
        · rename_i hlt
          obtain rfl := List.mem_singleton.mp h
          refine ⟨by simp, by simp; omega, hlt, ho⟩
        · cases h
      · cases h
theorem pairsUp_sorted {c d : Int} : ∀ n : Nat, (pairsUp c d n).Pairwise fun p q => p.1 < q.1
  | 0 => List.Pairwise.nil
  | n + 1 => by
    unfold pairsUp
    refine List.pairwise_append.mpr ⟨pairsUp_sorted n, ?_, ?_⟩
    · split
      · split
        · exact List.pairwise_singleton _ _
        · exact List.Pairwise.nil
      · exact List.Pairwise.nil
    · intro p hp q hq
      have h1 := (pairsUp_mem hp).2.1
      split at hq
      · split at hq
        · obtain rfl := List.mem_singleton.mp hq
          exact h1
        · cases hq
      · cases hq
theorem pairsUp_has {c d t o : Int} (t0 : 0 ≤ t) (h : partM c d t = some o) (lt : t < o) : ∀ {n : Nat}, t < n → (t, o) ∈ pairsUp c d n
  | 0, hn => by omega
  | n + 1, hn => by
    unfold pairsUp
    by_cases e : t = (n : Int)
    · subst e
      refine List.mem_append_right _ ?_
      rw [h]
      simp only [if_pos lt]
      exact List.mem_singleton.mpr rfl
    · exact List.mem_append_left _ (pairsUp_has t0 h lt (by omega))
/-- how many there are, in figures -/
def lenF (c k D : Int) (n : Int) : Int :=
  (if 2 * n ≤ k then n else (k + 1) / 2) + (if n ≤ k + 1 then 0 else if 2 * n ≤ k + D then n - (k + 1) else (k + D + 1) / 2 - (k + 1)) +
    (if c % 2 = 0 ∧ (if k % 2 = 0 then k / 2 else (k + D) / 2) < n then 1 else 0)
theorem low_iff {c d : Int} (hc : 2 ≤ c) (h0 : 0 ≤ d) (h1 : d < 2 * dil c) {t : Int} (t0 : 0 ≤ t) (t1 : t < c) :
    (∃ o, partM c d t = some o ∧ t < o) ↔ (t < dil c ∧ (2 * t < dayM c d ∨ (dayM c d < t ∧ 2 * t < dayM c d + dil c) ∨ (c % 2 = 0 ∧ (2 * t = dayM c d ∨ 2 * t = dayM c d + dil c)))) := by
  have k := dayM_lt hc h0 h1
  have hD := dil_pos hc
  have eD : dil c = if c % 2 = 1 then c else c - 1 := rfl
  constructor
  · rintro ⟨o, e, lt⟩
    obtain ⟨a, b, n, m⟩ := part_some hc h0 h1 t0 t1 e
    clear e
    unfold Meet at m
    generalize dil c = D at *
    generalize dayM c d = kk at *
    split at eD <;> omega
  · intro h
    have key : ∃ o, 0 ≤ o ∧ o < c ∧ o ≠ t ∧ t < o ∧ Meet c (dayM c d) t o := by
      unfold Meet
      generalize dil c = D at *
      generalize dayM c d = kk at *
      rcases h with ⟨h, q | q | q⟩
      · exact ⟨kk - t, by omega, by split at eD <;> omega, by omega, by omega, by omega⟩
      · exact ⟨kk + D - t, by omega, by split at eD <;> omega, by omega, by omega, by omega⟩
      · exact ⟨D, by omega, by split at eD <;> omega, by omega, by omega, by omega⟩
    obtain ⟨o, o0, o1, ne, lt, m⟩ := key
    exact ⟨o, part_of hc h0 h1 t0 t1 o0 o1 ne m, lt⟩
set_option maxHeartbeats 4000000 in
theorem pairs_len {c d : Int} (hc : 2 ≤ c) (h0 : 0 ≤ d) (h1 : d < 2 * dil c) : ∀ n : Nat, (n : Int) ≤ dil c → ((pairsUp c d n).length : Int) = lenF c (dayM c d) (dil c) n
  | 0, _ => by
    have k := dayM_lt hc h0 h1
    have hD := dil_pos hc
    unfold lenF pairsUp
    generalize dil c = D at *
    generalize dayM c d = kk at *
    simp only [List.length_nil]
    repeat' split
    all_goals omega
  | n + 1, hn => by
    have ih := pairs_len hc h0 h1 n (by omega)
    have k := dayM_lt hc h0 h1
    have hD := dil_pos hc
    have ho := dil_odd c
    have hcD : dil c ≤ c := by unfold dil; split <;> omega
    have q := low_iff hc h0 h1 (t := (n : Int)) (by omega) (by omega)
    unfold pairsUp
    rw [List.length_append]
    have el : (match partM c d (n : Int) with
      | some o => if (n : Int) < o then [((n : Int), o)] else []
      | none => ([] : List (Int × Int))).length = if (∃ o, partM c d (n : Int) = some o ∧ (n : Int) < o) then 1 else 0 := by
      cases e : partM c d (n : Int) with
      | none => simp
      | some o => by_cases l : (n : Int) < o <;> simp [l]
    rw [el]
    simp only [q]
    rw [Int.natCast_add, ih]
    unfold lenF
    clear ih el q
    generalize dil c = D at *
    generalize dayM c d = kk at *
    repeat' split
    all_goals omega
set_option maxHeartbeats 4000000 in
theorem games_len {c d : Int} (hc : 2 ≤ c) (h0 : 0 ≤ d) (h1 : d < 2 * dil c) : ((gamesM c d).length : Int) = c / 2 := by
  have k := dayM_lt hc h0 h1
  have hD := dil_pos hc
  have ho := dil_odd c
  have eD : dil c = if c % 2 = 1 then c else c - 1 := rfl
  unfold gamesM gamesUp
  rw [List.length_map]
  by_cases p : c % 2 = 1
  · have e : dil c = c := by rw [eD, if_pos p]
    rw [pairs_len hc h0 h1 c.toNat (by omega)]
    have e2 : ((c.toNat : Nat) : Int) = c := by omega
    rw [e2]
    unfold lenF
    rw [e] at *
    generalize dayM c d = kk at *
    repeat' split
    all_goals omega
  · have e : dil c = c - 1 := by rw [eD, if_neg p]
    obtain ⟨m, hm⟩ : ∃ m : Nat, c.toNat = m + 1 := ⟨c.toNat - 1, by omega⟩
    have q := low_iff hc h0 h1 (t := (m : Int)) (by omega) (by omega)
    rw [hm]
    unfold pairsUp
    rw [List.length_append]
    have el : (match partM c d (m : Int) with
      | some o => if (m : Int) < o then [((m : Int), o)] else []
      | none => ([] : List (Int × Int))).length = 0 := by
      have nq : ¬ ∃ o, partM c d (m : Int) = some o ∧ (m : Int) < o := fun z => by
        have z1 := (q.mp z).1
        rw [e] at z1
        omega
      cases e : partM c d (m : Int) with
      | none => rfl
      | some o =>
        by_cases l : (m : Int) < o
        · exact absurd ⟨o, e, l⟩ nq
        · simp [l]
    clear q
    have hmD : (m : Int) ≤ dil c := by rw [e]; omega
    rw [el, Nat.add_zero, pairs_len hc h0 h1 m hmD]
    clear el hmD
    have e2 : (m : Int) = c - 1 := by omega
    rw [e2]
    unfold lenF
    rw [e] at *
    generalize dayM c d = kk at *
    repeat' split
    all_goals omega
/-- what a pair of the day says -/
theorem pairs_facts {c d : Int} (hc : 2 ≤ c) (h0 : 0 ≤ d) (h1 : d < 2 * dil c) {p : Int × Int} (hp : p ∈ pairsUp c d c.toNat) :
    0 ≤ p.1 ∧ p.1 < p.2 ∧ p.2 < c ∧ partM c d p.1 = some p.2 ∧ partM c d p.2 = some p.1 ∧ Meet c (dayM c d) p.1 p.2 := by
  obtain ⟨a, b, l, e⟩ := pairsUp_mem hp
  obtain ⟨q1, q2, q3, q4⟩ := part_some hc h0 h1 a (by omega) e
  exact ⟨a, l, q2, e, part_symm hc h0 h1 a (by omega) e, q4⟩
theorem game_either (c d a b : Int) : gameM c d a b = (a, b) ∨ gameM c d a b = (b, a) := by
  have h : atHomeM c a b = a ∨ atHomeM c a b = b := by
    unfold atHomeM homeM
    by_cases e1 : b < a
    · rw [if_pos e1, if_neg (by omega : ¬ b > a)]
      repeat' split
      all_goals simp
    · rw [if_neg e1]
      by_cases e2 : b > a
      · rw [if_pos e2]
        repeat' split
        all_goals simp
      · rw [if_neg e2]
        repeat' split
        all_goals simp
  unfold gameM
  rcases h with h | h
  · rw [h]
    simp only [if_true]
    split
    · exact .inr rfl
    · exact .inl rfl
  · rw [h]
    by_cases e : b = a
    · subst e
      simp
    · simp only [if_neg e]
      split
      · exact .inl rfl
      · exact .inr rfl
def flat (gs : List (Int × Int)) : List Int := gs.flatMap fun g => [g.1, g.2]
theorem mem_flat {x : Int} {gs : List (Int × Int)} : x ∈ flat gs ↔ ∃ g ∈ gs, x = g.1 ∨ x = g.2 := by
  unfold flat
  rw [List.mem_flatMap]
  constructor
  · rintro ⟨g, hg, hx⟩
    refine ⟨g, hg, ?_⟩
    rcases List.mem_cons.mp hx with e | e
    · exact .inl e
    · exact .inr (List.mem_singleton.mp e)
  · rintro ⟨g, hg, hx⟩
    refine ⟨g, hg, ?_⟩
    rcases hx with e | e
    · exact List.mem_cons.mpr (.inl e)
    · exact List.mem_cons.mpr (.inr (List.mem_singleton.mpr e))
theorem flat_len (gs : List (Int × Int)) : (flat gs).length = 2 * gs.length := by
  induction gs with
  | nil => rfl
  | cons g r ih =>
    show (g.1 :: g.2 :: flat r).length = 2 * (r.length + 1)
    rw [List.length_cons, List.length_cons, ih]
    omega
theorem flat_snoc (gs : List (Int × Int)) (g : Int × Int) : flat (gs ++ [g]) = flat gs ++ [g.1] ++ [g.2] := by
  unfold flat
  rw [List.flatMap_append]
  simp
/-- the i-th game of a day: what it is, and that its teams are not among the earlier ones' -/
theorem day_turn {c d : Int} (hc : 2 ≤ c) (h0 : 0 ≤ d) (h1 : d < 2 * dil c) {i : Nat} {g : Int × Int} (hg : (gamesM c d)[i]? = some g) :
    ∃ p : Int × Int, (pairsUp c d c.toNat)[i]? = some p ∧ g = gameM c d p.1 p.2 ∧ (g = (p.1, p.2) ∨ g = (p.2, p.1)) ∧ 0 ≤ p.1 ∧ p.1 < p.2 ∧ p.2 < c ∧ partM c d p.1 = some p.2 ∧ partM c d p.2 = some p.1 ∧ Meet c (dayM c d) p.1 p.2 ∧
      (∀ q ∈ (pairsUp c d c.toNat).take i, q.1 < p.1) ∧ ¬ p.1 ∈ flat ((gamesM c d).take i) ∧ ¬ p.2 ∈ flat ((gamesM c d).take i) := by
  unfold gamesM gamesUp at *
  rw [List.getElem?_map] at hg
  cases e : (pairsUp c d c.toNat)[i]? with
  | none => rw [e] at hg; cases hg
  | some p =>
    rw [e] at hg
    cases hg
    have hi : i < (pairsUp c d c.toNat).length := (List.getElem?_eq_some_iff.mp e).1
    have hp : p ∈ pairsUp c d c.toNat := List.mem_of_getElem? e
    obtain ⟨f1, f2, f3, f4, f5, f6⟩ := pairs_facts hc h0 h1 hp
    have srt : ∀ q ∈ (pairsUp c d c.toNat).take i, q.1 < p.1 := by
      intro q hq
      obtain ⟨j, hj, rfl⟩ := List.mem_take_iff_getElem.mp hq
      have := List.pairwise_iff_getElem.mp (pairsUp_sorted (c := c) (d := d) c.toNat) j i (by omega) hi (by omega)
      rw [(List.getElem?_eq_some_iff.mp e).2] at this
      exact this
    have old : ∀ x, x ∈ flat (List.take i (List.map (fun p => gameM c d p.1 p.2) (pairsUp c d c.toNat))) → ∃ q ∈ (pairsUp c d c.toNat).take i, x = q.1 ∨ x = q.2 := by
      intro x hx
      obtain ⟨g, hg, hx⟩ := mem_flat.mp hx
      rw [← List.map_take] at hg
      obtain ⟨q, hq, rfl⟩ := List.mem_map.mp hg
      refine ⟨q, hq, ?_⟩
      rcases game_either c d q.1 q.2 with z | z <;> rw [z] at hx
      · exact hx
      · exact hx.symm
    refine ⟨p, rfl, rfl, game_either c d p.1 p.2, f1, f2, f3, f4, f5, f6, srt, fun hx => ?_, fun hx => ?_⟩
    · obtain ⟨q, hq, hx⟩ := old _ hx
      have l := srt q hq
      obtain ⟨g1, g2, g3, g4, g5, g6⟩ := pairs_facts hc h0 h1 (List.mem_of_mem_take hq)
      rcases hx with hx | hx
      · omega
      · rw [← hx, f4] at g5
        have := Option.some.inj g5
        omega
    · obtain ⟨q, hq, hx⟩ := old _ hx
      have l := srt q hq
      obtain ⟨g1, g2, g3, g4, g5, g6⟩ := pairs_facts hc h0 h1 (List.mem_of_mem_take hq)
      rcases hx with hx | hx
      · omega
      · rw [← hx, f5] at g5
        have := Option.some.inj g5
        omega
theorem day_all {c d t o : Int} (hc : 2 ≤ c) (h0 : 0 ≤ d) (h1 : d < 2 * dil c) (t0 : 0 ≤ t) (t1 : t < c) (h : partM c d t = some o) : t ∈ flat (gamesM c d) := by
  obtain ⟨q1, q2, q3, q4⟩ := part_some hc h0 h1 t0 t1 h
  have sy := part_symm hc h0 h1 t0 t1 h
  unfold gamesM gamesUp
  rw [mem_flat]
  by_cases l : t < o
  · refine ⟨_, List.mem_map.mpr ⟨(t, o), pairsUp_has t0 h l (by omega), rfl⟩, ?_⟩
    rcases game_either c d t o with z | z <;> rw [z]
    · exact .inl rfl
    · exact .inr rfl
  · refine ⟨_, List.mem_map.mpr ⟨(o, t), pairsUp_has q1 sy (by omega) (by omega), rfl⟩, ?_⟩
    rcases game_either c d o t with z | z <;> rw [z]
    · exact .inr rfl
    · exact .inl rfl
/-- the law's own reckoning of a meeting -/
def offM (c lo hi d : Int) : Int := if hi = c - 1 + c % 2 then (lo + lo - d) % (c - 1 + c % 2) else (lo + hi - d) % (c - 1 + c % 2)
theorem dil_law (c : Int) : c - 1 + c % 2 = dil c := by unfold dil; split <;> omega
theorem off_zero {c d a b : Int} (hc : 2 ≤ c) (h0 : 0 ≤ d) (h1 : d < 2 * dil c) (a0 : 0 ≤ a) (lt : a < b) (hb : b < c) (m : Meet c (dayM c d) a b) : offM c a b d = 0 := by
  have k := dayM_lt hc h0 h1
  have hD := dil_pos hc
  unfold offM
  rw [dil_law]
  unfold Meet at m
  generalize dil c = D at *
  generalize dayM c d = kk at *
  have z : ∀ x : Int, (x = 0 ∨ x = D ∨ x = -D) → x % D = 0 := by
    rintro x (rfl | rfl | rfl)
    · simp
    · simp
    · simp
  split <;> exact z _ (by omega)
end GR
namespace GR
/-! ### one team over the days of a leg -/
theorem meet_day {c k k' a b : Int} (hc : 2 ≤ c) (m : Meet c k a b) (m' : Meet c k' a b) (h0 : 0 ≤ k) (h1 : k < dil c) (h0' : 0 ≤ k') (h1' : k' < dil c) : k = k' := by
  unfold Meet at *
  generalize dil c = D at *
  omega
theorem dayM_first {c d : Int} (h : d < dil c) : dayM c d = d := if_pos h
def restDay (c t : Int) : Int := if 2 * t < dil c then 2 * t else 2 * t - dil c
theorem rest_none {c d t : Int} (hc : 2 ≤ c) (h0 : 0 ≤ d) (h1 : d < dil c) (t0 : 0 ≤ t) (t1 : t < c) (h : partM c d t = none) : c % 2 = 1 ∧ d = restDay c t := by
  have hD := dil_pos hc
  obtain ⟨a, b⟩ := part_none hc h0 (by omega) t0 t1 h
  rw [dayM_first h1] at b
  refine ⟨a, ?_⟩
  have eD : dil c = c := if_pos a
  unfold restDay
  generalize dil c = D at *
  split <;> omega
theorem rest_some {c d t o : Int} (hc : 2 ≤ c) (h0 : 0 ≤ d) (h1 : d < dil c) (t0 : 0 ≤ t) (t1 : t < c) (h : partM c d t = some o) : ¬ (c % 2 = 1 ∧ d = restDay c t) := by
  have hD := dil_pos hc
  obtain ⟨a1, a2, a3, m⟩ := part_some hc h0 (by omega) t0 t1 h
  rw [dayM_first h1] at m
  rintro ⟨a, b⟩
  have eD : dil c = c := if_pos a
  unfold restDay at b
  unfold Meet at m
  generalize dil c = D at *
  split at b <;> omega
theorem rest_in {c t : Int} (hc : 2 ≤ c) (t0 : 0 ≤ t) (t1 : t < c) (a : c % 2 = 1) : 0 ≤ restDay c t ∧ restDay c t < dil c := by
  have eD : dil c = c := if_pos a
  unfold restDay
  rw [eD]
  split <;> omega
def restsM (c t : Int) (i : Nat) : Int := if c % 2 = 1 ∧ restDay c t < i then 1 else 0
theorem rests_none {c t : Int} {i : Nat} (hc : 2 ≤ c) (h1 : (i : Int) < dil c) (t0 : 0 ≤ t) (t1 : t < c) (h : partM c i t = none) : restsM c t (i + 1) = restsM c t i + 1 := by
  obtain ⟨a, b⟩ := rest_none hc (by omega) h1 t0 t1 h
  unfold restsM
  rw [if_pos ⟨a, by omega⟩, if_neg (by omega)]
  rfl
theorem rests_some {c t o : Int} {i : Nat} (hc : 2 ≤ c) (h1 : (i : Int) < dil c) (t0 : 0 ≤ t) (t1 : t < c) (h : partM c i t = some o) : restsM c t (i + 1) = restsM c t i := by
  have a := rest_some hc (by omega) h1 t0 t1 h
  unfold restsM
  by_cases q : c % 2 = 1 ∧ restDay c t < i
  · rw [if_pos q, if_pos ⟨q.1, by omega⟩]
  · rw [if_neg q, if_neg (by omega)]
theorem count_set : ∀ (l : List Bool) (i : Nat), l[i]? = some false → (l.set i true).count true = l.count true + 1
  | [], i, h => by simp at h
  | b :: r, 0, h => by
    have e : b = false := by simpa using h
    subst e
    simp
  | b :: r, i + 1, h => by
    have q := count_set r i (by simpa using h)
    rw [List.set_cons_succ, List.count_cons, List.count_cons, q]
    omega
/-- what is met so far -/
structure MetOk (c t : Int) (i : Nat) (l : List Bool) : Prop where
  len : (l.length : Int) = c
  cnt : ((l.count true : Nat) : Int) + restsM c t i = i
  yes : ∀ o : Nat, l[o]? = some true → ∃ d : Nat, d < i ∧ partM c d t = some (o : Int)
theorem met_start {c t : Int} (hc : 2 ≤ c) (t0 : 0 ≤ t) (t1 : t < c) : MetOk c t 0 (List.replicate c.toNat false) := by
  refine ⟨by rw [List.length_replicate]; omega, ?_, fun o h => ?_⟩
  · rw [List.count_replicate]
    unfold restsM
    have : ¬ (c % 2 = 1 ∧ restDay c t < ((0 : Nat) : Int)) := fun ⟨a, b⟩ => by
      have := (rest_in hc t0 t1 a).1
      omega
    rw [if_neg this]
    rfl
  · rw [List.getElem?_replicate] at h
    split at h <;> cases h
theorem met_none {c t : Int} {i : Nat} {l : List Bool} (hc : 2 ≤ c) (h1 : (i : Int) < dil c) (t0 : 0 ≤ t) (t1 : t < c) (h : partM c i t = none) (m : MetOk c t i l) : MetOk c t (i + 1) l := by
  refine ⟨m.len, ?_, fun o ho => ?_⟩
  · have := m.cnt
    rw [rests_none hc h1 t0 t1 h]
    omega
  · obtain ⟨d, a, b⟩ := m.yes o ho
    exact ⟨d, by omega, b⟩
theorem met_fresh {c t o : Int} {i : Nat} {l : List Bool} (hc : 2 ≤ c) (h1 : (i : Int) < dil c) (t0 : 0 ≤ t) (t1 : t < c) (h : partM c i t = some o) (m : MetOk c t i l) : l[o.toNat]? = some false := by
  have hD := dil_pos hc
  obtain ⟨a1, a2, a3, mm⟩ := part_some hc (by omega) (by omega) t0 t1 h
  have hl := m.len
  have ho : o.toNat < l.length := by omega
  cases e : l[o.toNat] with
  | false => rw [List.getElem?_eq_getElem ho, e]
  | true =>
    obtain ⟨d, d1, d2⟩ := m.yes o.toNat (by rw [List.getElem?_eq_getElem ho, e])
    have eo : ((o.toNat : Nat) : Int) = o := by omega
    rw [eo] at d2
    obtain ⟨_, _, _, m2⟩ := part_some hc (by omega) (by omega) t0 t1 d2
    rw [dayM_first (by omega)] at m2
    rw [dayM_first h1] at mm
    have := meet_day hc mm m2 (by omega) h1 (by omega) (by omega)
    omega
theorem met_some {c t o : Int} {i : Nat} {l : List Bool} (hc : 2 ≤ c) (h1 : (i : Int) < dil c) (t0 : 0 ≤ t) (t1 : t < c) (h : partM c i t = some o) (m : MetOk c t i l) : MetOk c t (i + 1) (l.set o.toNat true) := by
  have hD := dil_pos hc
  obtain ⟨a1, a2, a3, mm⟩ := part_some hc (by omega) (by omega) t0 t1 h
  refine ⟨by rw [List.length_set]; exact m.len, ?_, fun p hp => ?_⟩
  · rw [count_set _ _ (met_fresh hc h1 t0 t1 h m), rests_some hc h1 t0 t1 h]
    have := m.cnt
    omega
  · by_cases e : p = o.toNat
    · refine ⟨i, by omega, ?_⟩
      rw [h, e]
      congr 1
      omega
    · rw [List.getElem?_set_ne (by omega)] at hp
      obtain ⟨d, a, b⟩ := m.yes p hp
      exact ⟨d, by omega, b⟩
theorem met_end {c t : Int} {l : List Bool} (hc : 2 ≤ c) (t0 : 0 ≤ t) (t1 : t < c) (m : MetOk c t (dil c).toNat l) : restsM c t (dil c).toNat = c % 2 ∧ ((l.count true : Nat) : Int) = c - 1 := by
  have hD := dil_pos hc
  have eD : dil c = if c % 2 = 1 then c else c - 1 := rfl
  have e : (((dil c).toNat : Nat) : Int) = dil c := by omega
  have q : restsM c t (dil c).toNat = c % 2 := by
    unfold restsM
    rw [e]
    by_cases a : c % 2 = 1
    · rw [if_pos ⟨a, (rest_in hc t0 t1 a).2⟩, a]
    · rw [if_neg (fun z => a z.1)]
      omega
  have := m.cnt
  rw [q, e] at this
  refine ⟨q, ?_⟩
  split at eD <;> omega
end GR
namespace GR
/-! ### two teams -/
def meetM (c a b : Int) : Int := if lastO c = some (if b > a then b else a) then 2 * (if b < a then b else a) % dil c else ((if b < a then b else a) + (if b > a then b else a)) % dil c
theorem last_dil {c hi : Int} (hc : 2 ≤ c) (h : hi < c) : lastO c = some hi ↔ hi = dil c := by
  rw [lastO_eq]
  have eD : dil c = if c % 2 = 1 then c else c - 1 := rfl
  split at eD <;> omega
theorem meet_ok {c lo hi : Int} (hc : 2 ≤ c) (l0 : 0 ≤ lo) (lt : lo < hi) (h1 : hi < c) : meetM c lo hi = meetM c hi lo ∧ 0 ≤ meetM c lo hi ∧ meetM c lo hi < dil c ∧ Meet c (meetM c lo hi) lo hi := by
  have hD := dil_pos hc
  have eD : dil c = if c % 2 = 1 then c else c - 1 := rfl
  have hl := last_dil hc h1
  have e1 : meetM c lo hi = if hi = dil c then 2 * lo % dil c else (lo + hi) % dil c := by
    unfold meetM
    rw [if_neg (by omega : ¬ hi < lo), if_pos (show hi > lo from lt)]
    simp only [hl]
  have e2 : meetM c hi lo = if hi = dil c then 2 * lo % dil c else (lo + hi) % dil c := by
    unfold meetM
    rw [if_pos lt, if_neg (by omega : ¬ lo > hi)]
    simp only [hl]
  refine ⟨by rw [e1, e2], ?_⟩
  rw [e1]
  have hhi : hi ≤ dil c := by clear e1 e2 hl; generalize dil c = D at *; split at eD <;> omega
  clear e1 e2 hl
  have key : ∀ x : Int, 0 ≤ x → x < 2 * dil c → 0 ≤ x % dil c ∧ x % dil c < dil c ∧ (x = x % dil c ∨ x = x % dil c + dil c) := by
    intro x x0 x1
    refine ⟨Int.emod_nonneg _ (by omega), Int.emod_lt_of_pos _ hD, ?_⟩
    rw [emod_near hD (by omega) x1]
    generalize dil c = D at *
    repeat' split
    all_goals omega
  by_cases e : hi = dil c
  · rw [if_pos e]
    obtain ⟨a, b, d⟩ := key (2 * lo) (by omega) (by omega)
    refine ⟨a, b, ?_⟩
    unfold Meet
    generalize 2 * lo % dil c = k at *
    generalize dil c = D at *
    omega
  · rw [if_neg e]
    obtain ⟨a, b, d⟩ := key (lo + hi) (by omega) (by omega)
    refine ⟨a, b, ?_⟩
    unfold Meet
    generalize (lo + hi) % dil c = k at *
    generalize dil c = D at *
    omega
theorem home_sym {c lo hi : Int} (lt : lo < hi) : atHomeM c lo hi = homeM c lo hi ∧ atHomeM c hi lo = homeM c lo hi := by
  unfold atHomeM
  constructor
  · rw [if_neg (by omega : ¬ hi < lo), if_pos (show hi > lo from lt)]
  · rw [if_pos lt, if_neg (by omega : ¬ lo > hi)]
def turnedM (c lo hi : Int) : Bool := if hi = c - 1 + c % 2 then decide (lo % 2 = 1) else decide ((hi - lo) % 2 = 0)
theorem home_due {c lo hi : Int} (hc : 2 ≤ c) (h : hi < c) : homeM c lo hi = if turnedM c lo hi = true then hi else lo := by
  have hl := last_dil hc h
  unfold homeM turnedM
  simp only [hl, dil_law]
  split
  · by_cases e : lo % 2 = 0
    · rw [if_pos e, if_neg (by simp; omega)]
    · rw [if_neg e, if_pos (by simp; omega)]
  · by_cases e : (hi - lo) % 2 = 1
    · rw [if_pos e, if_neg (by simp; omega)]
    · rw [if_neg e, if_pos (by simp; omega)]
theorem game_first {c d lo hi : Int} (h0 : 0 ≤ d) (h1 : d < dil c) (lt : lo < hi) : gameM c d lo hi = (homeM c lo hi, lo + hi - homeM c lo hi) := by
  have e : d / dil c = 0 := Int.ediv_eq_zero_of_lt h0 h1
  have hh : homeM c lo hi = lo ∨ homeM c lo hi = hi := by
    unfold homeM
    repeat' split
    all_goals simp
  unfold gameM
  rw [(home_sym lt).1]
  simp only [e]
  rw [if_neg (by decide)]
  rcases hh with q | q
  · rw [q, if_pos rfl]
    congr 1
    omega
  · rw [q, if_neg (by omega)]
    congr 1
    omega
/-- the two teams' game stands on their day -/
theorem game_in {c lo hi : Int} (hc : 2 ≤ c) (l0 : 0 ≤ lo) (lt : lo < hi) (h1 : hi < c) : (homeM c lo hi, lo + hi - homeM c lo hi) ∈ gamesM c (meetM c lo hi) := by
  obtain ⟨_, d0, d1, m⟩ := meet_ok hc l0 lt h1
  have hD := dil_pos hc
  rw [← game_first d0 d1 lt]
  have hp : partM c (meetM c lo hi) lo = some hi := part_of hc d0 (by omega) l0 (by omega) (by omega) h1 (by omega) (by rw [dayM_first d1]; exact m)
  exact List.mem_map.mpr ⟨(lo, hi), pairsUp_has l0 hp lt (by omega), rfl⟩
end GR
namespace GR
/-! ### the whole season -/
theorem part_shift {c d : Int} (hc : 2 ≤ c) (h0 : 0 ≤ d) (h1 : d < dil c) {t : Int} (t0 : 0 ≤ t) (t1 : t < c) : partM c (d + dil c) t = partM c d t := by
  have hD := dil_pos hc
  have e1 : dayM c (d + dil c) = d := by unfold dayM; rw [if_neg (by omega)]; omega
  have e2 : dayM c d = d := dayM_first h1
  cases h : partM c d t with
  | some o =>
    obtain ⟨a, b, n, m⟩ := part_some hc h0 (by omega) t0 t1 h
    exact part_of hc (by omega) (by omega) t0 t1 a b n (by rw [e1, ← e2]; exact m)
  | none =>
    cases h' : partM c (d + dil c) t with
    | none => rfl
    | some o =>
      obtain ⟨a, b, n, m⟩ := part_some hc (by omega) (by omega) t0 t1 h'
      rw [e1, ← e2] at m
      rw [part_of hc h0 (by omega) t0 t1 a b n m] at h
      cases h
theorem pairs_shift {c d : Int} (hc : 2 ≤ c) (h0 : 0 ≤ d) (h1 : d < dil c) : ∀ n : Nat, (n : Int) ≤ c → pairsUp c (d + dil c) n = pairsUp c d n
  | 0, _ => rfl
  | n + 1, h => by
    unfold pairsUp
    rw [pairs_shift hc h0 h1 n (by omega), part_shift hc h0 h1 (by omega) (by omega)]
def swapP (g : Int × Int) : Int × Int := (g.2, g.1)
theorem games_shift {c d : Int} (hc : 2 ≤ c) (h0 : 0 ≤ d) (h1 : d < dil c) : gamesM c (d + dil c) = (gamesM c d).map swapP := by
  have hD := dil_pos hc
  have q1 : (d + dil c) / dil c = 1 := by
    rw [Int.add_ediv_of_dvd_right (Int.dvd_refl _), Int.ediv_self (by omega), Int.ediv_eq_zero_of_lt h0 h1]
    rfl
  have q0 : d / dil c = 0 := Int.ediv_eq_zero_of_lt h0 h1
  unfold gamesM gamesUp
  rw [pairs_shift hc h0 h1 _ (by omega), List.map_map]
  refine List.map_congr_left fun p _ => ?_
  unfold gameM swapP
  simp only [q1, q0, Function.comp, if_true, (by decide : ¬ (0 : Int) = 1), if_false]
theorem home_or (c lo hi : Int) : homeM c lo hi = lo ∨ homeM c lo hi = hi := by
  unfold homeM
  repeat' split
  all_goals simp
/-- who is at home in the first leg: the one that a game names first -/
def firstM (c a b : Int) : Bool := decide (atHomeM c a b = a)
theorem mem_day {c d a b : Int} (hc : 2 ≤ c) (h0 : 0 ≤ d) (h1 : d < dil c) (a0 : 0 ≤ a) (a1 : a < c) (b0 : 0 ≤ b) (b1 : b < c) (ne : a ≠ b) : (a, b) ∈ gamesM c d ↔ d = meetM c a b ∧ firstM c a b = true := by
  have hD := dil_pos hc
  obtain ⟨lo, hi, l0, lt, hh, em, eh, eab⟩ : ∃ lo hi : Int, 0 ≤ lo ∧ lo < hi ∧ hi < c ∧ meetM c a b = meetM c lo hi ∧ atHomeM c a b = homeM c lo hi ∧ ((a = lo ∧ b = hi) ∨ (a = hi ∧ b = lo)) := by
    by_cases z : a < b
    · exact ⟨a, b, a0, z, b1, rfl, (home_sym z).1, .inl ⟨rfl, rfl⟩⟩
    · have z' : b < a := by omega
      exact ⟨b, a, b0, z', a1, (meet_ok hc b0 z' a1).1.symm, (home_sym z').2, .inr ⟨rfl, rfl⟩⟩
  have ho := home_or c lo hi
  unfold firstM
  rw [decide_eq_true_eq, em, eh]
  constructor
  · intro m
    obtain ⟨p, hp, e⟩ := List.mem_map.mp m
    obtain ⟨f1, f2, f3, f4, f5, f6⟩ := pairs_facts hc h0 (by omega) hp
    rw [game_first h0 h1 f2] at e
    have e1 : homeM c p.1 p.2 = a := congrArg Prod.fst e
    have e2 : p.1 + p.2 - homeM c p.1 p.2 = b := congrArg Prod.snd e
    have hp2 := home_or c p.1 p.2
    have ep : p.1 = lo ∧ p.2 = hi := by omega
    obtain ⟨ep1, ep2⟩ := ep
    rw [ep1, ep2] at f6 e1
    rw [dayM_first h1] at f6
    obtain ⟨_, d0, d1, m'⟩ := meet_ok hc l0 lt hh
    exact ⟨meet_day hc f6 m' h0 h1 d0 d1, e1⟩
  · rintro ⟨e1, e2⟩
    have g := game_in hc l0 lt hh
    rw [← e1, e2] at g
    have eb : lo + hi - a = b := by omega
    rw [eb] at g
    exact g
theorem games_nodup {c d : Int} (hc : 2 ≤ c) (h0 : 0 ≤ d) (h1 : d < 2 * dil c) : (gamesM c d).Nodup := by
  unfold gamesM gamesUp
  rw [List.Nodup, List.pairwise_map]
  refine List.Pairwise.imp_of_mem ?_ (pairsUp_sorted (c := c) (d := d) c.toNat)
  intro p q hp hq lt e
  obtain ⟨_, p2, _⟩ := pairs_facts hc h0 h1 hp
  obtain ⟨_, q2, _⟩ := pairs_facts hc h0 h1 hq
  rcases game_either c d p.1 p.2 with z | z <;> rcases game_either c d q.1 q.2 with y | y <;> rw [z, y] at e <;> (have e1 := congrArg Prod.fst e; have e2 := congrArg Prod.snd e; simp only at e1 e2; omega)
/-- the games of the first leg -/
def leg1 (c : Int) : List (Int × Int) := ((List.range (dil c).toNat).map fun d : Nat => gamesM c (d : Int)).flatten
theorem sum_one (n d0 k : Nat) : ((List.range n).map fun d => if d = d0 then k else 0).sum = if d0 < n then k else 0 := by
  induction n with
  | zero => simp
  | succ n ih =>
    rw [List.range_succ, List.map_append, List.sum_append, ih]
    simp only [List.map_cons, List.map_nil, List.sum_cons, List.sum_nil]
    by_cases e : n = d0
    · subst e; simp
    · rw [if_neg e]
      by_cases l : d0 < n
      · rw [if_pos l, if_pos (by omega)]; rfl
      · rw [if_neg l, if_neg (by omega)]; rfl
theorem leg1_count {c a b : Int} (hc : 2 ≤ c) (a0 : 0 ≤ a) (a1 : a < c) (b0 : 0 ≤ b) (b1 : b < c) (ne : a ≠ b) : (leg1 c).count (a, b) = if firstM c a b = true then 1 else 0 := by
  have hD := dil_pos hc
  have dm : 0 ≤ meetM c a b ∧ meetM c a b < dil c := by
    by_cases z : a < b
    · have q := meet_ok hc a0 z b1; exact ⟨q.2.1, q.2.2.1⟩
    · have q := meet_ok hc b0 (by omega : b < a) a1
      rw [q.1] at q
      exact ⟨q.2.1, q.2.2.1⟩
  unfold leg1
  rw [List.count_flatten, List.map_map]
  have e : (List.range (dil c).toNat).map (List.count (a, b) ∘ fun d : Nat => gamesM c (d : Int)) = (List.range (dil c).toNat).map fun d => if d = (meetM c a b).toNat then (if firstM c a b = true then 1 else 0) else 0 := by
    refine List.map_congr_left fun d hd => ?_
    have hd' : (d : Int) < dil c := by have := List.mem_range.mp hd; omega
    have m := mem_day hc (Int.natCast_nonneg d) hd' a0 a1 b0 b1 ne
    show (gamesM c (d : Int)).count (a, b) = _
    rw [List.Nodup.count (games_nodup hc (by omega) (by omega))]
    simp only [m]
    by_cases e : d = (meetM c a b).toNat
    · rw [if_pos e]
      have e' : (d : Int) = meetM c a b := by omega
      by_cases g : firstM c a b = true
      · rw [if_pos ⟨e', g⟩, if_pos g]
      · rw [if_neg (fun z => g z.2), if_neg g]
    · rw [if_neg e, if_neg (fun z => e (by omega))]
  rw [e, sum_one, if_pos (by omega)]
theorem leg1_in {c : Int} (hc : 2 ≤ c) {g : Int × Int} (h : g ∈ leg1 c) : 0 ≤ g.1 ∧ g.1 < c ∧ 0 ≤ g.2 ∧ g.2 < c ∧ g.1 ≠ g.2 := by
  have hD := dil_pos hc
  unfold leg1 at h
  obtain ⟨l, hl, hg⟩ := List.mem_flatten.mp h
  obtain ⟨d, hd, rfl⟩ := List.mem_map.mp hl
  have hd' : (d : Int) < dil c := by have := List.mem_range.mp hd; omega
  obtain ⟨i, hi⟩ := List.getElem?_of_mem hg
  obtain ⟨p, _, _, e, f1, f2, f3, _⟩ := day_turn hc (Int.natCast_nonneg d) (by omega) hi
  rcases e with rfl | rfl <;> (refine ⟨?_, ?_, ?_, ?_, ?_⟩ <;> (simp only; omega))
/-- how many games name t first, by the others -/
theorem firsts_sum (t : Int) (n : Nat) : ∀ L : List (Int × Int), (∀ g ∈ L, 0 ≤ g.2 ∧ g.2 < n) → (L.filter fun g => decide (g.1 = t)).length = ((List.range n).map fun o : Nat => L.count (t, (o : Int))).sum
  | [], _ => by
    have : ((List.range n).map fun o : Nat => ([] : List (Int × Int)).count (t, (o : Int))) = (List.range n).map fun _ => 0 := rfl
    rw [this]
    clear this
    induction n with
    | zero => rfl
    | succ n ih => rw [List.range_succ, List.map_append, List.sum_append, ← ih (fun _ h => by cases h)]; rfl
  | g :: L, h => by
    have ih := firsts_sum t n L fun x hx => h x (List.mem_cons_of_mem _ hx)
    obtain ⟨b0, b1⟩ := h g List.mem_cons_self
    have e : ((List.range n).map fun o : Nat => (g :: L).count (t, (o : Int))).sum = ((List.range n).map fun o : Nat => L.count (t, (o : Int))).sum + ((List.range n).map fun o : Nat => if o = g.2.toNat then (if g.1 = t then 1 else 0) else 0).sum := by
      clear ih
      have : ∀ m : Nat, ((List.range m).map fun o : Nat => (g :: L).count (t, (o : Int))).sum = ((List.range m).map fun o : Nat => L.count (t, (o : Int))).sum + ((List.range m).map fun o : Nat => if o = g.2.toNat then (if g.1 = t then 1 else 0) else 0).sum := by
        intro m
        induction m with
        | zero => rfl
        | succ m ih =>
          rw [List.range_succ, List.map_append, List.sum_append, List.map_append, List.sum_append, List.map_append, List.sum_append, ih]
          simp only [List.map_cons, List.map_nil, List.sum_cons, List.sum_nil, List.count_cons (l := L) (b := g)]
          have : (if (g == (t, (m : Int))) = true then 1 else 0) = (if m = g.2.toNat then (if g.1 = t then 1 else 0) else 0) := by
            obtain ⟨x, y⟩ := g
            simp only at b0 b1 ⊢
            by_cases e1 : x = t
            · subst e1
              by_cases e2 : m = y.toNat
              · have : y = (m : Int) := by omega
                simp [this]
              · have : ¬ y = (m : Int) := by omega
                simp [this, e2]
            · simp [e1]
          omega
      exact this n
    rw [e, sum_one, ← ih, if_pos (by omega), List.filter_cons]
    by_cases z : g.1 = t
    · simp [z]
    · simp [z]
def homesM (c t : Nat) : Nat := ((List.range c).map fun o => if o ≠ t ∧ firstM (c : Int) (t : Int) (o : Int) = true then 1 else 0).sum
theorem leg1_self {c t : Int} (hc : 2 ≤ c) : (leg1 c).count (t, t) = 0 := by
  rw [List.count_eq_zero]
  intro h
  exact (leg1_in hc h).2.2.2.2 rfl
theorem leg1_homes {c t : Nat} (hc : 2 ≤ c) (ht : t < c) : ((leg1 (c : Int)).filter fun g => decide (g.1 = (t : Int))).length = homesM c t := by
  rw [firsts_sum (t : Int) c _ fun g hg => ⟨(leg1_in (by omega) hg).2.2.1, (leg1_in (by omega) hg).2.2.2.1⟩]
  unfold homesM
  congr 1
  refine List.map_congr_left fun o ho => ?_
  have ho' := List.mem_range.mp ho
  by_cases e : o = t
  · subst e
    rw [leg1_self (by omega), if_neg (fun z => z.1 rfl)]
  · rw [leg1_count (by omega) (by omega) (by omega) (by omega) (by omega) (by omega)]
    by_cases f : firstM (c : Int) (t : Int) (o : Int) = true
    · rw [if_pos f, if_pos ⟨e, f⟩]
    · rw [if_neg f, if_neg (fun z => f z.2)]
theorem first_swap {c a b : Int} (ne : a ≠ b) : firstM c b a = !firstM c a b := by
  unfold firstM
  have h : atHomeM c a b = atHomeM c b a ∧ (atHomeM c a b = a ∨ atHomeM c a b = b) := by
    by_cases z : a < b
    · rw [(home_sym z).1, (home_sym z).2]
      exact ⟨rfl, home_or c a b⟩
    · have z' : b < a := by omega
      rw [(home_sym z').1, (home_sym z').2]
      exact ⟨rfl, (home_or c b a).symm⟩
  obtain ⟨h1, h2⟩ := h
  rw [← h1]
  rcases h2 with h | h <;> rw [h] <;> simp [ne, ne.symm]
def okHomes (c t : Nat) : Bool := let h := homesM c t; (2 * h ≤ (c - 1) + (c - 1) % 2) && ((c - 1) ≤ 2 * h + (c - 1) % 2)
theorem homes_all : ∀ c < 25, ∀ t < c, okHomes c t = true := by decide +kernel
end GR
namespace GR
def daysM (c l : Int) : List (List (Int × Int)) := (List.range (l * dil c).toNat).map fun d : Nat => gamesM c (d : Int)
theorem days_one (c : Int) : (daysM c 1).flatten = leg1 c := by unfold daysM leg1; rw [Int.one_mul]
theorem days_two {c : Int} (hc : 2 ≤ c) : (daysM c 2).flatten = leg1 c ++ (leg1 c).map swapP := by
  have hD := dil_pos hc
  unfold daysM leg1
  rw [show (2 * dil c).toNat = (dil c).toNat + (dil c).toNat by omega, List.range_add, List.map_append, List.flatten_append, List.map_map]
  congr 1
  rw [List.map_flatten, List.map_map]
  congr 1
  refine List.map_congr_left fun d hd => ?_
  have hd' := List.mem_range.mp hd
  show gamesM c (((dil c).toNat + d : Nat) : Int) = (gamesM c (d : Int)).map swapP
  rw [show (((dil c).toNat + d : Nat) : Int) = (d : Int) + dil c by omega]
  exact games_shift hc (by omega) (by omega)
theorem count_swap (L : List (Int × Int)) (a b : Int) : (L.map swapP).count (a, b) = L.count (b, a) := by
  induction L with
  | nil => rfl
  | cons g r ih =>
    rw [List.map_cons, List.count_cons, List.count_cons, ih]
    obtain ⟨x, y⟩ := g
    unfold swapP
    by_cases e : x = b <;> by_cases f : y = a <;> simp [e, f]
def awaysM (c t : Nat) : Nat := ((List.range c).map fun o => if o ≠ t ∧ firstM (c : Int) (o : Int) (t : Int) = true then 1 else 0).sum
theorem leg1_aways {c t : Nat} (hc : 2 ≤ c) (ht : t < c) : (((leg1 (c : Int)).map swapP).filter fun g => decide (g.1 = (t : Int))).length = awaysM c t := by
  rw [firsts_sum (t : Int) c _ fun g hg => by
    obtain ⟨x, hx, rfl⟩ := List.mem_map.mp hg
    have z := leg1_in (by omega) hx
    exact ⟨z.1, z.2.1⟩]
  unfold awaysM
  congr 1
  refine List.map_congr_left fun o ho => ?_
  have ho' := List.mem_range.mp ho
  rw [count_swap]
  by_cases e : o = t
  · subst e
    rw [leg1_self (by omega), if_neg (fun z => z.1 rfl)]
  · rw [leg1_count (by omega) (by omega) (by omega) (by omega) (by omega) (by omega)]
    by_cases f : firstM (c : Int) (o : Int) (t : Int) = true
    · rw [if_pos f, if_pos ⟨e, f⟩]
    · rw [if_neg f, if_neg (fun z => f z.2)]
theorem both_all : ∀ c < 25, ∀ t < c, homesM c t + awaysM c t = c - 1 := by decide +kernel
theorem leg1_len {c : Int} (hc : 2 ≤ c) : ((leg1 c).length : Int) = (dil c) * (c / 2) := by
  have hD := dil_pos hc
  have key : ∀ n : Nat, (n : Int) ≤ dil c → ((((List.range n).map fun d : Nat => gamesM c (d : Int)).flatten).length : Int) = n * (c / 2) := by
    intro n
    induction n with
    | zero => intro _; simp
    | succ n ih =>
      intro h
      rw [List.range_succ, List.map_append, List.flatten_append, List.length_append]
      have g := games_len hc (d := (n : Int)) (by omega) (by omega)
      have i := ih (by omega)
      simp only [List.map_cons, List.map_nil, List.flatten_cons, List.flatten_nil, List.append_nil]
      rw [Int.natCast_add, i, g, Int.natCast_add, Int.add_mul]
      omega
  have := key (dil c).toNat (by omega)
  unfold leg1
  rw [this]
  congr 1
  omega
theorem len_all : ∀ c < 25, 2 ≤ c → dil ((c : Nat) : Int) * ((c : Int) / 2) = (c : Int) * ((c : Int) - 1) / 2 := by decide +kernel
structure Season (c l : Int) (G : List (Int × Int)) : Prop where
  len : (G.length : Int) = l * (c * (c - 1) / 2)
  cnt : ∀ a b : Int, 0 ≤ b → b < a → a < c → ((G.count (a, b) : Nat) : Int) + ((G.count (b, a) : Nat) : Int) = l ∧ ((G.count (a, b) : Nat) : Int) ≤ 1
  hom : ∀ t : Int, 0 ≤ t → t < c → -(l * (c - 1) % 2) ≤ 2 * (((G.filter fun g => decide (g.1 = t)).length : Nat) : Int) - l * (c - 1) ∧ 2 * (((G.filter fun g => decide (g.1 = t)).length : Nat) : Int) - l * (c - 1) ≤ l * (c - 1) % 2
theorem season_ok {c l : Int} (hc : 2 ≤ c) (hc' : c < 25) (hl : l = 1 ∨ l = 2) : Season c l (daysM c l).flatten := by
  obtain ⟨n, rfl⟩ : ∃ n : Nat, c = (n : Int) := ⟨c.toNat, by omega⟩
  have h25 : n < 25 := by omega
  have hn : 2 ≤ n := by omega
  have L1 := leg1_len hc
  rw [len_all n h25 hn] at L1
  have C : ∀ a b : Int, 0 ≤ b → b < a → a < (n : Int) → (leg1 (n : Int)).count (a, b) + (leg1 (n : Int)).count (b, a) = 1 := by
    intro a b h1 h2 h3
    rw [leg1_count hc (by omega) h3 h1 (by omega) (by omega), leg1_count hc h1 (by omega) (by omega) h3 (by omega), first_swap (by omega : a ≠ b)]
    cases firstM (n : Int) a b <;> rfl
  have Hh : ∀ t : Int, 0 ≤ t → t < (n : Int) → ∃ k : Nat, k < n ∧ t = (k : Int) := fun t a b => ⟨t.toNat, by omega, by omega⟩
  rcases hl with rfl | rfl
  · rw [days_one]
    refine ⟨by rw [L1, Int.one_mul], fun a b h1 h2 h3 => ?_, fun t t0 t1 => ?_⟩
    · have := C a b h1 h2 h3
      omega
    · obtain ⟨k, hk, rfl⟩ := Hh t t0 t1
      rw [leg1_homes hn hk]
      have := homes_all n h25 k hk
      unfold okHomes at this
      simp only [Bool.and_eq_true, decide_eq_true_eq] at this
      omega
  · rw [days_two hc]
    refine ⟨by rw [List.length_append, List.length_map]; omega, fun a b h1 h2 h3 => ?_, fun t t0 t1 => ?_⟩
    · have := C a b h1 h2 h3
      rw [List.count_append, List.count_append, count_swap, count_swap]
      omega
    · obtain ⟨k, hk, rfl⟩ := Hh t t0 t1
      rw [List.filter_append, List.length_append, leg1_homes hn hk, leg1_aways hn hk]
      have := both_all n h25 k hk
      omega
end GR
namespace GR
/-! ### results, marks, rows -/
abbrev Rs := Int × Int × Int × Int
def rRow (r : Rs) : List Int := [r.1, r.2.1, r.2.2.1, r.2.2.2]
def rRows (res : List Rs) : List (List Int) := res.map rRow
def hasM (c l h a : Int) : Bool := if h = a then false else if ¬ (0 ≤ h ∧ h < c) then false else if ¬ (0 ≤ a ∧ a < c) then false else decide ((if atHomeM c h a = h then (1 : Int) else 2) ≤ l)
theorem has_in {c l h a : Int} (e : hasM c l h a = true) : 0 ≤ h ∧ h < c ∧ 0 ≤ a ∧ a < c ∧ h ≠ a := by
  unfold hasM at e
  split at e
  · cases e
  · split at e
    · cases e
    · split at e
      · cases e
      · omega
def pf (a b : Int) : Int := if b < a then 3 else if a = b then 1 else 0
def addAt (t v : Int) (f : Int → Int) : Int → Int := fun u => f u + if u = t then v else 0
def listI (c : Int) (f : Int → Int) : List Int := (List.range c.toNat).map fun u : Nat => f (u : Int)
theorem listI_len (c : Int) (f : Int → Int) : (listI c f).length = c.toNat := by unfold listI; rw [List.length_map, List.length_range]
theorem listI_get {c t : Int} (f : Int → Int) (h0 : 0 ≤ t) (h1 : t < c) : (listI c f)[t.toNat]? = some (f t) := by
  unfold listI
  rw [List.getElem?_map, List.getElem?_range (by omega)]
  show some (f ((t.toNat : Nat) : Int)) = some (f t)
  rw [show ((t.toNat : Nat) : Int) = t by omega]
theorem listI_set {c t : Int} (f : Int → Int) (v : Int) (h0 : 0 ≤ t) (h1 : t < c) : (listI c f).set t.toNat (f t + v) = listI c (addAt t v f) := by
  refine List.ext_getElem? fun i => ?_
  by_cases hi : i < c.toNat
  · have e1 : (listI c (addAt t v f))[i]? = some (addAt t v f (i : Int)) := by
      have := listI_get (c := c) (t := (i : Int)) (addAt t v f) (by omega) (by omega)
      rwa [Int.toNat_natCast] at this
    rw [e1]
    by_cases e : i = t.toNat
    · subst e
      rw [List.getElem?_set_self (by rw [listI_len]; omega)]
      have : ((t.toNat : Nat) : Int) = t := by omega
      unfold addAt
      rw [this, if_pos rfl]
    · rw [List.getElem?_set_ne (by omega)]
      have := listI_get (c := c) (t := (i : Int)) f (by omega) (by omega)
      rw [Int.toNat_natCast] at this
      rw [this]
      unfold addAt
      rw [if_neg (by omega), Int.add_zero]
  · rw [List.getElem?_eq_none (by rw [List.length_set, listI_len]; omega), List.getElem?_eq_none (by rw [listI_len]; omega)]
def ptsR (r : Rs) (t : Int) : Int := (if t = r.1 then pf r.2.2.1 r.2.2.2 else 0) + (if t = r.2.1 then pf r.2.2.2 r.2.2.1 else 0)
def leadR (r : Rs) (t : Int) : Int := (if t = r.1 then r.2.2.1 - r.2.2.2 else 0) + (if t = r.2.1 then r.2.2.2 - r.2.2.1 else 0)
def goalR (r : Rs) (t : Int) : Int := (if t = r.1 then r.2.2.1 else 0) + (if t = r.2.1 then r.2.2.2 else 0)
def sumR (f : Rs → Int → Int) (res : List Rs) (t : Int) : Int := (res.map fun r => f r t).sum
theorem sumR_snoc (f : Rs → Int → Int) (res : List Rs) (r : Rs) (t : Int) : sumR f (res ++ [r]) t = sumR f res t + f r t := by
  unfold sumR
  rw [List.map_append, List.sum_append]
  simp
theorem two_adds (f : Rs → Int → Int) (res : List Rs) (r : Rs) (a b v w : Int) (h : ∀ t, f r t = (if t = a then v else 0) + (if t = b then w else 0)) : addAt b w (addAt a v (sumR f res)) = sumR f (res ++ [r]) := by
  funext t
  rw [sumR_snoc, h]
  unfold addAt
  omega
def markM (res : List Rs) (t : Int) : List Int := [sumR ptsR res t, sumR leadR res t, sumR goalR res t]
def marksM (c : Int) (res : List Rs) : List (List Int) := (List.range c.toNat).map fun t : Nat => markM res (t : Int)
/-! ### the order of tuples -/
def lexL : List Int → List Int → Bool
  | [], [] => false
  | [], _ :: _ => true
  | _ :: _, [] => false
  | x :: xs, y :: ys => if x = y then lexL xs ys else decide (x < y)
theorem lexL_irr : ∀ r, lexL r r = false
  | [] => rfl
  | x :: r => by rw [lexL, if_pos rfl]; exact lexL_irr r
theorem lexL_tr : ∀ a b c, lexL a b = true → lexL b c = true → lexL a c = true
  | [], [], _, h, _ => by cases h
  | [], _ :: _, [], _, h => by cases h
  | [], _ :: _, _ :: _, _, _ => rfl
  | _ :: _, [], _, h, _ => by cases h
  | _ :: _, _ :: _, [], _, h => by cases h
  | x :: a, y :: b, z :: c, h1, h2 => by
    rw [lexL] at h1 h2 ⊢
    by_cases e1 : x = y
    · rw [if_pos e1] at h1
      by_cases e2 : y = z
      · rw [if_pos e2] at h2
        rw [if_pos (e1.trans e2)]
        exact lexL_tr a b c h1 h2
      · rw [if_neg e2] at h2
        rw [if_neg (by omega), e1]
        exact h2
    · rw [if_neg e1] at h1
      have h1 := of_decide_eq_true h1
      by_cases e2 : y = z
      · rw [if_neg (by omega)]
        exact decide_eq_true (by omega)
      · rw [if_neg e2] at h2
        have h2 := of_decide_eq_true h2
        rw [if_neg (by omega)]
        exact decide_eq_true (by omega)
theorem lexL_tot : ∀ a b, a.length = b.length → a ≠ b → lexL a b = true ∨ lexL b a = true
  | [], [], _, h => absurd rfl h
  | [], _ :: _, h, _ => by simp at h
  | _ :: _, [], h, _ => by simp at h
  | x :: a, y :: b, hl, ne => by
    rw [lexL, lexL]
    by_cases e : x = y
    · rw [if_pos e, if_pos e.symm]
      exact lexL_tot a b (by simpa using hl) fun q => ne (by rw [e, q])
    · rw [if_neg e, if_neg (fun q => e q.symm)]
      rcases (by omega : x < y ∨ y < x) with q | q
      · exact .inl (decide_eq_true q)
      · exact .inr (decide_eq_true q)
def betterM (marks : List (List Int)) (own : List Int) : Int := ((marks.filter fun m => lexL own m).length : Int)
def rowM (c : Int) (res : List Rs) (t : Int) : List Int := [betterM (marksM c res) (markM res t) + 1, t, sumR ptsR res t, sumR leadR res t, sumR goalR res t]
def rowsM (c : Int) (res : List Rs) : List (List Int) := (List.range c.toNat).map fun t : Nat => rowM c res (t : Int)
structure ValidRes (c l : Int) (res : List Rs) : Prop where
  has : ∀ r ∈ res, hasM c l r.1 r.2.1 = true
  nd : (res.map fun r => (r.1, r.2.1)).Nodup
end GR
namespace GR
def gRow (g : Int × Int) : List Int := [g.1, g.2]
def gRows (gs : List (Int × Int)) : List (List Int) := gs.map gRow
/-! ### the season's games, as the law lists them -/
def firstS (c lo hi : Int) : Bool := if hi = c - 1 + c % 2 then decide (lo % 2 = 0) else decide ((hi - lo) % 2 = 1)
def pairS (c l lo hi : Int) : List (Int × Int) := (if firstS c lo hi = true ∨ l = 2 then [(lo, hi)] else []) ++ (if firstS c lo hi = false ∨ l = 2 then [(hi, lo)] else [])
def rowS (c l : Int) (i j : Nat) : List (Int × Int) := (List.range j).flatMap fun d : Nat => pairS c l (i : Int) ((i : Int) + 1 + (d : Int))
def seasonS (c l : Int) (n : Nat) : List (Int × Int) := (List.range n).flatMap fun i : Nat => rowS c l i (c - ((i : Int) + 1)).toNat
theorem first_home {c lo hi : Int} (hc : 2 ≤ c) (lt : lo < hi) (h : hi < c) : (firstS c lo hi = true ↔ homeM c lo hi = lo) := by
  have hl := last_dil hc h
  unfold firstS homeM
  simp only [hl, dil_law]
  split
  · by_cases e : lo % 2 = 0
    · simp [e]
    · simp [e]; omega
  · by_cases e : (hi - lo) % 2 = 1
    · simp [e]
    · simp [e]; omega
theorem pairS_len (c l lo hi : Int) : (pairS c l lo hi).length ≤ 2 := by
  unfold pairS
  rw [List.length_append]
  have a : ∀ {p : Prop} [Decidable p] (x : Int × Int), (if p then [x] else []).length ≤ 1 := by
    intro p _ x
    split
    · exact Nat.le_refl _
    · exact Nat.zero_le _
  have := a (p := firstS c lo hi = true ∨ l = 2) (lo, hi)
  have := a (p := firstS c lo hi = false ∨ l = 2) (hi, lo)
  omega
theorem mem_pairS {c l lo hi : Int} {g : Int × Int} : g ∈ pairS c l lo hi ↔ (g = (lo, hi) ∧ (firstS c lo hi = true ∨ l = 2)) ∨ (g = (hi, lo) ∧ (firstS c lo hi = false ∨ l = 2)) := by
  unfold pairS
  rw [List.mem_append]
  have a : ∀ {p : Prop} [Decidable p] (x : Int × Int), g ∈ (if p then [x] else []) ↔ (g = x ∧ p) := by
    intro p _ x
    split
    · rename_i h; simp [h]
    · rename_i h; simp [h]
  rw [a, a]
theorem mem_rowS {c l : Int} {i j : Nat} {g : Int × Int} : g ∈ rowS c l i j ↔ ∃ d : Nat, d < j ∧ g ∈ pairS c l (i : Int) ((i : Int) + 1 + (d : Int)) := by
  unfold rowS
  rw [List.mem_flatMap]
  constructor
  · rintro ⟨d, hd, hg⟩; exact ⟨d, List.mem_range.mp hd, hg⟩
  · rintro ⟨d, hd, hg⟩; exact ⟨d, List.mem_range.mpr hd, hg⟩
theorem mem_seasonS {c l : Int} {n : Nat} {g : Int × Int} : g ∈ seasonS c l n ↔ ∃ i d : Nat, i < n ∧ (d : Int) < c - ((i : Int) + 1) ∧ g ∈ pairS c l (i : Int) ((i : Int) + 1 + (d : Int)) := by
  unfold seasonS
  rw [List.mem_flatMap]
  constructor
  · rintro ⟨i, hi, hg⟩
    obtain ⟨d, hd, hg⟩ := mem_rowS.mp hg
    exact ⟨i, d, List.mem_range.mp hi, by omega, hg⟩
  · rintro ⟨i, d, hi, hd, hg⟩
    exact ⟨i, List.mem_range.mpr hi, mem_rowS.mpr ⟨d, by omega, hg⟩⟩
theorem season_has {c l : Int} (hc : 2 ≤ c) (hl : l = 1 ∨ l = 2) {g : Int × Int} (h : g ∈ seasonS c l c.toNat) : hasM c l g.1 g.2 = true := by
  obtain ⟨i, d, hi, hd, hg⟩ := mem_seasonS.mp h
  have lt : (i : Int) < (i : Int) + 1 + (d : Int) := by omega
  have hh : (i : Int) + 1 + (d : Int) < c := by omega
  have fh := first_home hc lt hh
  have ho := home_or c (i : Int) ((i : Int) + 1 + (d : Int))
  have hs := home_sym (c := c) lt
  unfold hasM
  rcases mem_pairS.mp hg with ⟨rfl, q⟩ | ⟨rfl, q⟩
  · simp only
    rw [if_neg (by omega), if_neg (by omega), if_neg (by omega), hs.1]
    refine decide_eq_true ?_
    rcases q with q | q
    · rw [if_pos (fh.mp q)]; omega
    · split <;> omega
  · simp only
    rw [if_neg (by omega), if_neg (by omega), if_neg (by omega), hs.2]
    refine decide_eq_true ?_
    rcases q with q | q
    · have : homeM c (i : Int) ((i : Int) + 1 + (d : Int)) = (i : Int) + 1 + (d : Int) := ho.resolve_left fun z => by rw [fh.mpr z] at q; cases q
      rw [if_pos this]; omega
    · split <;> omega
theorem season_nodup {c l : Int} (n : Nat) : (seasonS c l n).Nodup := by
  have pn : ∀ lo hi : Int, lo < hi → (pairS c l lo hi).Nodup := by
    intro lo hi lt
    unfold pairS
    by_cases a : firstS c lo hi = true ∨ l = 2 <;> by_cases b : firstS c lo hi = false ∨ l = 2
    · rw [if_pos a, if_pos b]
      simp
      omega
    · rw [if_pos a, if_neg b]; simp
    · rw [if_neg a, if_pos b]; simp
    · rw [if_neg a, if_neg b]; simp
  have key : ∀ {lo hi lo' hi' : Int} {x : Int × Int}, lo < hi → lo' < hi' → x ∈ pairS c l lo hi → x ∈ pairS c l lo' hi' → lo = lo' ∧ hi = hi' := by
    intro lo hi lo' hi' x h1 h2 m1 m2
    rcases mem_pairS.mp m1 with ⟨rfl, _⟩ | ⟨rfl, _⟩ <;> rcases mem_pairS.mp m2 with ⟨e, _⟩ | ⟨e, _⟩ <;> (injection e with e1 e2; omega)
  unfold seasonS rowS List.Nodup
  rw [List.pairwise_flatMap]
  refine ⟨fun i _ => ?_, ?_⟩
  · rw [List.pairwise_flatMap]
    refine ⟨fun d _ => pn _ _ (by omega), ?_⟩
    refine List.Pairwise.imp ?_ List.nodup_range
    intro d d' ne x hx y hy e
    subst e
    have := key (by omega) (by omega) hx hy
    omega
  · refine List.Pairwise.imp ?_ List.nodup_range
    intro i i' ne x hx y hy e
    subst e
    obtain ⟨d, _, hx⟩ := List.mem_flatMap.mp hx
    obtain ⟨d', _, hy⟩ := List.mem_flatMap.mp hy
    have := key (by omega) (by omega) hx hy
    omega
theorem rowS_len (c l : Int) (i : Nat) : ∀ j, (rowS c l i j).length ≤ 2 * j
  | 0 => Nat.le_refl _
  | j + 1 => by
    have := rowS_len c l i j
    unfold rowS at *
    rw [List.range_succ, List.flatMap_append, List.length_append]
    have := pairS_len c l (i : Int) ((i : Int) + 1 + (j : Int))
    simp only [List.flatMap_cons, List.flatMap_nil, List.append_nil]
    omega
theorem seasonS_len {c l : Int} (hc : c ≤ 100) : ∀ n, (seasonS c l n).length ≤ 200 * n
  | 0 => Nat.le_refl _
  | n + 1 => by
    have := seasonS_len (c := c) (l := l) hc n
    unfold seasonS at *
    rw [List.range_succ, List.flatMap_append, List.length_append]
    have := rowS_len c l n (c - ((n : Int) + 1)).toNat
    simp only [List.flatMap_cons, List.flatMap_nil, List.append_nil]
    omega
end GR
namespace GR
/-! ### what is due -/
def dueN (c l : Int) (res : List Rs) : Nat → Option Bool
  | 0 => none
  | i + 1 => match dueN c l res i with
    | some k => some k
    | none => match res[i]? with
      | none => none
      | some r => if hasM c l r.1 r.2.1 = true then (if (r.1, r.2.1) ∈ (res.take i).map (fun r => (r.1, r.2.1)) then some true else none) else some false
section
variable {c l : Int} {res : List Rs} {i : Nat} {r : Rs}
theorem due_some {k : Bool} (h : dueN c l res i = some k) : dueN c l res (i + 1) = some k := by rw [dueN, h]
theorem due_no (h : dueN c l res i = none) (e : res[i]? = some r) (q : hasM c l r.1 r.2.1 = false) : dueN c l res (i + 1) = some false := by
  rw [dueN, h]
  simp only [e, q]
  rfl
theorem due_tw (h : dueN c l res i = none) (e : res[i]? = some r) (q : hasM c l r.1 r.2.1 = true) (m : (r.1, r.2.1) ∈ (res.take i).map (fun r => (r.1, r.2.1))) : dueN c l res (i + 1) = some true := by
  rw [dueN, h]
  simp only [e, q]
  rw [if_pos trivial, if_pos m]
theorem due_ok (h : dueN c l res i = none) (e : res[i]? = some r) (q : hasM c l r.1 r.2.1 = true) (m : (r.1, r.2.1) ∉ (res.take i).map (fun r => (r.1, r.2.1))) : dueN c l res (i + 1) = none := by
  rw [dueN, h]
  simp only [e, q]
  rw [if_pos trivial, if_neg m]
theorem due_stays {k : Bool} (h : dueN c l res i = some k) : ∀ j, dueN c l res (i + j) = some k
  | 0 => h
  | j + 1 => due_some (due_stays h j)
theorem due_all {k : Bool} (h : dueN c l res i = some k) (hi : i ≤ res.length) : dueN c l res res.length = some k := by
  have z := due_stays h (res.length - i)
  rwa [show i + (res.length - i) = res.length by omega] at z
theorem due_none (h : dueN c l res (i + 1) = none) : dueN c l res i = none := by
  cases e : dueN c l res i with
  | none => rfl
  | some k => rw [due_some e] at h; cases h
theorem due_valid : ∀ i, i ≤ res.length → dueN c l res i = none → ValidRes c l (res.take i)
  | 0, _, _ => ⟨fun r h => by simp at h, by simp⟩
  | i + 1, hi, h => by
    have v := due_valid i (by omega) (due_none h)
    have e : res[i]? = some res[i] := List.getElem?_eq_getElem (by omega)
    generalize res[i] = r at e
    have eT : res.take (i + 1) = res.take i ++ [r] := by rw [List.take_add_one, e]; rfl
    have q : hasM c l r.1 r.2.1 = true := by
      cases z : hasM c l r.1 r.2.1 with
      | true => rfl
      | false => rw [due_no (due_none h) e z] at h; cases h
    have m : (r.1, r.2.1) ∉ (res.take i).map (fun r => (r.1, r.2.1)) := fun m => by rw [due_tw (due_none h) e q m] at h; cases h
    rw [eT]
    refine ⟨fun x hx => ?_, ?_⟩
    · rcases List.mem_append.mp hx with hx | hx
      · exact v.has x hx
      · rw [List.mem_singleton.mp hx]; exact q
    · rw [List.map_append]
      refine List.nodup_append.mpr ⟨v.nd, by simp, fun a ha b hb => ?_⟩
      intro z
      subst z
      have hb : a ∈ [(r.1, r.2.1)] := hb
      rw [List.mem_singleton.mp hb] at ha
      exact m ha
theorem due_table (h : dueN c l res res.length = none) : ValidRes c l res := by
  have z := due_valid res.length (Nat.le_refl _) h
  rwa [List.take_length] at z
end
theorem has_season {c l a b : Int} (hc : 2 ≤ c) (hl : l = 1 ∨ l = 2) (h : hasM c l a b = true) : (a, b) ∈ seasonS c l c.toNat := by
  obtain ⟨a0, a1, b0, b1, ne⟩ := has_in h
  unfold hasM at h
  rw [if_neg ne, if_neg (by omega), if_neg (by omega)] at h
  have h := of_decide_eq_true h
  rw [mem_seasonS]
  rcases (by omega : a < b ∨ b < a) with lt | lt
  · have hs := home_sym (c := c) lt
    have fh := first_home hc lt b1
    rw [hs.1] at h
    refine ⟨a.toNat, (b - a - 1).toNat, by omega, by omega, ?_⟩
    rw [show ((a.toNat : Nat) : Int) = a by omega, show a + 1 + (((b - a - 1).toNat : Nat) : Int) = b by omega]
    refine mem_pairS.mpr (.inl ⟨rfl, ?_⟩)
    by_cases e : homeM c a b = a
    · exact .inl (fh.mpr e)
    · rw [if_neg e] at h
      exact .inr (by omega)
  · have hs := home_sym (c := c) lt
    have fh := first_home hc lt a1
    rw [hs.2] at h
    refine ⟨b.toNat, (a - b - 1).toNat, by omega, by omega, ?_⟩
    rw [show ((b.toNat : Nat) : Int) = b by omega, show b + 1 + (((a - b - 1).toNat : Nat) : Int) = a by omega]
    refine mem_pairS.mpr (.inr ⟨rfl, ?_⟩)
    by_cases e : homeM c b a = a
    · refine .inl ?_
      cases z : firstS c b a with
      | false => rfl
      | true => have := fh.mp z; omega
    · rw [if_neg e] at h
      exact .inr (by omega)
theorem season_iff {c l : Int} (hc : 2 ≤ c) (hl : l = 1 ∨ l = 2) {g : Int × Int} : g ∈ seasonS c l c.toNat ↔ hasM c l g.1 g.2 = true :=
  ⟨season_has hc hl, fun h => has_season hc hl h⟩
end GR
namespace GR
open PySem L2
/-! ### defs of the text, and what a call of one asks -/
structure Mo (K : PySem.W.Frag) (mg : Str → Option Value) : Prop where
  at_ : ∀ (x : Str) (v : Value), PySem.W.nsIn K mainGlobals x = some (some v) → mg x = some v
structure DefTxt (K : PySem.W.Frag) (x : Str) (st : Stmt) : Prop where
  ex : ∃ (f : Addr) (fd : FuncData), PySem.W.nsIn K mainGlobals x = some (some (.ref f)) ∧ Fun K x x st f fd
theorem txt_mk {K : PySem.W.Frag} {x : Str} {st : Stmt} {f : Addr} {oc : Value} {od an : Option Addr} {osl : Array (Option Value)} {kV doc pm cdv ct : Value} (a : PySem.W.nsIn K mainGlobals x = some (some (.ref f)))
    (l : K.lookup f = some ⟨oc, od, .func (PySem.W.fnOf x x (defArgs st) (defBody st) (defScope st) .none kV doc pm an cdv ct), osl⟩)
    (c : PySem.W.codeIn K cdv x = true) (k : PySem.W.keepIn K (.ref f) = true) : DefTxt K x st := ⟨f, _, a, fun_mk l c k⟩
structure Def (P : Program) (w : World) (K : PySem.W.Frag) (mg : Str → Option Value) (base : Heap) (k : Nat) (x : Str) (ps : List Str) (sp : Sp) : Prop where
  ex : ∃ (f : Addr) (fd : FuncData), FnOk P w K mg base CX0 k f fd ps sp ∧ mg x = some (.ref f) ∧ PySem.W.keepIn K (.ref f) = true ∧ Binds K fd ps []
section
variable {P : Program} {w : World} {K : PySem.W.Frag} {mg : Str → Option Value} {base : Heap}
theorem def_of {x : Str} {st : Stmt} {N ps : List Str} {k : Nat} {sp : Sp} (M : Mo K mg) (T : DefTxt K x st) (S : FnScope N ps (defScope st))
    (hb : ∀ (kV doc pm : Value) (an : Option Addr) (cdv ct : Value) (us : List Value), us.length = ps.length → bindArgs (PySem.W.fnOf x x (defArgs st) (defBody st) (defScope st) .none kV doc pm an cdv ct) ⟨us, []⟩ = pure (ps.zip us))
    (len : ∀ vs H Q E, sp vs H Q E → vs.length = ps.length)
    (hbody : ∀ (f : Addr) (cdv : Value) (A : Around) (outer : List Env) (s : Shared) (H : Hp) (vs : List V) (Q : VK) (E : XK), Room k (A.deeper (PyProof.Rows.envOfC x (defScope st) s.heap.objs.size f cdv)) → sp vs H Q E →
      ∃ t, PSs (cxOf CX0 P w K mg base N x (defScope st) f cdv A outer s H E).nox (defBody st) t ∧ t { nx := fun _ H' => Q .non H', rt := Q } (start N vs) H) : Def P w K mg base (k + 1) x ps sp := by
  obtain ⟨f, fd, a, F⟩ := T.ex
  exact ⟨f, fd, F.ok S len (hbody f), M.at_ _ _ a, F.kp, F.binds hb⟩
theorem Def.imp {k : Nat} {x : Str} {ps : List Str} {sp sp' : Sp} (D : Def P w K mg base k x ps sp) (h : ∀ vs H Q E, sp' vs H Q E → sp vs H Q E) : Def P w K mg base k x ps sp' := by
  obtain ⟨f, fd, F, r⟩ := D.ex
  exact ⟨f, fd, F.imp h, r⟩
end
section
variable {X : Cx} {j k : Nat} {x : Str} {ps : List Str} {sp : Sp} {p pos : Pos} {e : Expr} {es : List Expr} {t : TA}
theorem pe_def (D : Def X.prog X.w X.K X.mg X.base k x ps sp) (hr : Room j X.A) (ha : PA X (e :: es) t) (hk : k ≤ j := by decide) (hg : Gl X x := by rfl) (hdb : (x == ("__debug__" : Str)) = false := by decide)
    (he : starEach (e :: es) X.env = (false, eval e X.env) :: starEach es X.env := by rfl) (hpl : (backTo pos (starEach es X.env)).any (·.1) = false := by rfl) : PE X (.Call (.Name x p) (e :: es) [] pos) (tCall sp [] E0 t) := by
  obtain ⟨f, fd, F, m, kp, b⟩ := D.ex
  exact pe_call F (hr.mono hk) hg m kp b .nil pass0 ha hdb he hpl
/-! ### isinstance -/
theorem call_isi : CallR X (.builtin "isinstance") (fun xs H Q => ∃ x t T b, xs = [x, V.ty T] ∧ TyOf X.K H x t ∧ PySem.W.kitOne X.K t (.type T) = some b ∧ Q (.bl b) H) := by
  intro pins s σ H xs us Q I r h
  obtain ⟨x, t, T, b, rfl, ty, e, q⟩ := h
  obtain ⟨u, w', rfl, ru, rw'⟩ := vals2 r
  cases (show w' = Value.type T from rw')
  exact isinst_ok I ru ty e fun tk => ⟨.bl b, H, I.tok tk, rfl, q⟩
end
theorem isi_ii (K : PySem.W.Frag) : PySem.W.kitOne K (.type "int") (.type "int") = some true := rfl
theorem isi_ll (K : PySem.W.Frag) : PySem.W.kitOne K (.type "list") (.type "list") = some true := rfl
theorem isi_tt (K : PySem.W.Frag) : PySem.W.kitOne K (.type "tuple") (.type "tuple") = some true := rfl
theorem isi_ib (K : PySem.W.Frag) : PySem.W.kitOne K (.type "int") (.type "bool") = some false := by with_unfolding_all rfl
/-! ### tests -/
theorem iteI {a b : Int} {A B : Prop} (h1 : a = b → A) (h2 : a ≠ b → B) : if decide (V.int a = V.int b) = true then A else B := by
  by_cases h : a = b
  · subst h; rw [if_pos (by simp)]; exact h1 rfl
  · rw [if_neg (by simp [h])]; exact h2 h
theorem iteNI {a b : Int} {A B : Prop} (h1 : a ≠ b → A) (h2 : a = b → B) : if (!decide (V.int a = V.int b)) = true then A else B := by
  by_cases h : a = b
  · subst h; rw [if_neg (by simp)]; exact h2 rfl
  · rw [if_pos (by simp [h])]; exact h1 h
theorem iteD {c A B : Prop} [Decidable c] (h1 : c → A) (h2 : ¬ c → B) : if decide c = true then A else B := by
  by_cases h : c
  · rw [if_pos (by simp [h])]; exact h1 h
  · rw [if_neg (by simp [h])]; exact h2 h
theorem iteD_f {c A B : Prop} [Decidable c] (h : ¬ c) (h2 : B) : if decide c = true then A else B := iteD (fun q => absurd q h) fun _ => h2
theorem iteD_t {c A B : Prop} [Decidable c] (h : c) (h2 : A) : if decide c = true then A else B := iteD (fun _ => h2) fun q => absurd h q
theorem iteNI_f {a b : Int} {A B : Prop} (h : a = b) (h2 : B) : if (!decide (V.int a = V.int b)) = true then A else B := iteNI (fun q => absurd h q) fun _ => h2
theorem iteI_f {a b : Int} {A B : Prop} (h : a ≠ b) (h2 : B) : if decide (V.int a = V.int b) = true then A else B := iteI (fun q => absurd q h) fun _ => h2
theorem iteb {b : Bool} {A B : Prop} (h1 : b = true → A) (h2 : b = false → B) : if b = true then A else B := by
  cases b
  · exact iteF (h2 rfl)
  · exact iteT (h1 rfl)
theorem iteb_f {b : Bool} {A B : Prop} (h : b = false) (h2 : B) : if b = true then A else B := by rw [h]; exact iteF h2
theorem iteb_t {b : Bool} {A B : Prop} (h : b = true) (h2 : A) : if b = true then A else B := by rw [h]; exact iteT h2
theorem size_le {n : Nat} (h : n ≤ 1000000) : n ≤ sizeLine := Nat.le_trans h (by decide)
theorem size_lt {n : Nat} (h : n ≤ 1000000) : n < sizeLine := Nat.lt_of_le_of_lt h (by decide)
theorem inV_int (x : Int) (l : List Int) : inV (.int x) (l.map V.int) = decide (x ∈ l) := by
  unfold inV
  induction l with
  | nil => rfl
  | cons y r ih =>
    rw [List.map_cons, List.any_cons, ih]
    show ((y == x) || decide (x ∈ r)) = decide (x ∈ y :: r)
    by_cases e : y = x
    · subst e; simp
    · have e' : x ≠ y := fun q => e q.symm
      simp [e, e']
theorem flat_ints (l : List Int) : (l.map V.int).all flatV = true := by
  induction l with
  | nil => rfl
  | cons y r ih => rw [List.map_cons, List.all_cons, ih]; rfl
/-! ### heaps -/
theorem same_new {H : Hp} {p : Addr} (h : H p = none) (o : HO) : Same H (upd H p o) := fun b u q => by rw [upd_ne (ne_of_none q h)]; exact q
theorem Same.tup {K : PySem.W.Frag} {H H' : Hp} {a : Addr} {xs : List V} (e : Same H H') (h : SqT K H a xs) : SqT K H' a xs := by
  rcases h with (h | ⟨o, h⟩) | h
  · exact .inl (.inl (e _ _ h))
  · exact .inl (.inr ⟨o, e _ _ h⟩)
  · exact .inr h
/-- a list of tuples of ints -/
def TupsAt (H : Hp) (ps : List Addr) (rows : List (List Int)) : Prop := Paired (fun p row => H p = some (.tup (row.map V.int))) ps rows
def Tups (H : Hp) (r : Addr) (rows : List (List Int)) : Prop := ∃ ps : List Addr, H r = some (.lst (ps.map V.ref)) ∧ TupsAt H ps rows
theorem TupsAt.len {H : Hp} {ps : List Addr} {rows : List (List Int)} (h : TupsAt H ps rows) : ps.length = rows.length := Paired.length h
theorem TupsAt.mono {H H' : Hp} {ps : List Addr} {rows : List (List Int)} (s : ∀ p row, H p = some (.tup row) → H' p = some (.tup row)) (h : TupsAt H ps rows) : TupsAt H' ps rows :=
  Paired.mapP h fun p _ q => s p _ q
theorem TupsAt.same {H H' : Hp} {ps : List Addr} {rows : List (List Int)} (s : Same H H') (h : TupsAt H ps rows) : TupsAt H' ps rows := h.mono fun _ _ q => s _ _ q
theorem Tups.same {H H' : Hp} {r : Addr} {rows : List (List Int)} (s : Same H H') (h : Tups H r rows) : Tups H' r rows := by
  obtain ⟨ps, h1, h2⟩ := h
  exact ⟨ps, s _ _ h1, h2.same s⟩
theorem paired_snoc {α β : Type} {F : α → β → Prop} {a : α} {b : β} (h : F a b) : ∀ {l₁ : List α} {l₂ : List β}, Paired F l₁ l₂ → Paired F (l₁ ++ [a]) (l₂ ++ [b])
  | _, _, .nil => .cons h .nil
  | _, _, .cons q r => .cons q (paired_snoc h r)
theorem paired_get {α β : Type} {F : α → β → Prop} : ∀ {l₁ : List α} {l₂ : List β} {i : Nat} {a : α}, Paired F l₁ l₂ → l₁[i]? = some a → ∃ b, l₂[i]? = some b ∧ F a b
  | _, _, _, _, .nil, e => by simp at e
  | _, _, 0, _, .cons r _, e => by simp at e; subst e; exact ⟨_, rfl, r⟩
  | _, _, i + 1, x, .cons _ t, e => by
    obtain ⟨u, h1, h2⟩ := paired_get (i := i) (a := x) t (by simpa using e)
    exact ⟨u, by simpa using h1, h2⟩
theorem paired_get' {α β : Type} {F : α → β → Prop} : ∀ {l₁ : List α} {l₂ : List β} {i : Nat} {b : β}, Paired F l₁ l₂ → l₂[i]? = some b → ∃ a, l₁[i]? = some a ∧ F a b
  | _, _, _, _, .nil, e => by simp at e
  | _, _, 0, _, .cons r _, e => by simp at e; subst e; exact ⟨_, rfl, r⟩
  | _, _, i + 1, x, .cons _ t, e => by
    obtain ⟨u, h1, h2⟩ := paired_get' (i := i) (b := x) t (by simpa using e)
    exact ⟨u, by simpa using h1, h2⟩
/-- a new tuple is appended -/
theorem TupsAt.snoc {H : Hp} {r p : Addr} {ps : List Addr} {rows : List (List Int)} {row : List Int} {l l' : List V} (hr : H r = some (.lst l)) (h : TupsAt H ps rows) (hp : H p = none) :
    TupsAt (upd (upd H p (.tup (row.map V.int))) r (.lst l')) (ps ++ [p]) (rows ++ [row]) := by
  have npr : p ≠ r := (ne_of_none hr hp).symm
  refine paired_snoc ?_ (h.mono fun q w e => ?_)
  · rw [upd_ne npr, upd_same]
  · rw [upd_ne (ne_of e hr (by intro z; cases z)), upd_ne (ne_of_none e hp)]
    exact e
/-- an item of such a list, at a loop's turn -/
theorem TupsAt.item {H : Hp} {ps : List Addr} {rows : List (List Int)} {i : Nat} {x : V} (h : TupsAt H ps rows) (e : (ps.map V.ref)[i]? = some x) : ∃ p row, x = .ref p ∧ rows[i]? = some row ∧ H p = some (.tup (row.map V.int)) := by
  rw [List.getElem?_map] at e
  cases q : ps[i]? with
  | none => rw [q] at e; cases e
  | some p =>
    rw [q] at e
    obtain ⟨row, h1, h2⟩ := paired_get h q
    exact ⟨p, row, (Option.some.inj e).symm, h1, h2⟩
/-! ### promises of defs over ints -/
def sp1 (f : Int → V) : Sp := fun vs H Q _ => ∃ a : Int, vs = [.int a] ∧ Q (f a) H
def sp2 (pre : Int → Int → Prop) (f : Int → Int → V) : Sp := fun vs H Q _ => ∃ a b : Int, vs = [.int a, .int b] ∧ pre a b ∧ Q (f a b) H
def sp3 (pre : Int → Int → Int → Prop) (f : Int → Int → Int → V) : Sp := fun vs H Q _ => ∃ a b c : Int, vs = [.int a, .int b, .int c] ∧ pre a b c ∧ Q (f a b c) H
def sp4 (pre : Int → Int → Int → Int → Prop) (f : Int → Int → Int → Int → V) : Sp := fun vs H Q _ => ∃ a b c d : Int, vs = [.int a, .int b, .int c, .int d] ∧ pre a b c d ∧ Q (f a b c d) H
def spLaw (K : PySem.W.Frag) : Sp := fun vs H Q _ => ∃ (a : Addr) (ns : List Int), vs = [.ref a] ∧ SqL K H a (ns.map V.int) ∧ ns.length ≤ 63 ∧ ∀ H', Q (.bl true) H'
/-- the reader with a default -/
def spAt (K : PySem.W.Frag) : Sp := fun vs H Q _ => ∃ (a : Addr) (ns : List Int) (k : Nat), vs = [.ref a, .int k] ∧ SqL K H a (ns.map V.int) ∧ Q (.int (ns.getD k 0)) H
def optV : Option Int → V
  | some i => .int i
  | none => .non
def lastV (c : Int) : V := optV (lastO c)
def partV (c d t : Int) : V := optV (partM c d t)
theorem lastV_eq {c t : Int} : V.int t = lastV c ↔ lastO c = some t := by
  unfold lastV
  cases lastO c with
  | none => simp [optV]
  | some l =>
    simp only [optV, V.int.injEq, Option.some.injEq]
    exact ⟨fun h => h.symm, fun h => h.symm⟩
theorem scal_opt (i : Int) (o : Option Int) : scal (.int i) (optV o) = true := by cases o <;> rfl
end GR
/-! ### list comprehensions with one name -/
namespace GR
open PySem PySem.Spec PyProof.Rows L2
abbrev St := L2.St
/-- the context of a comprehension's block -/
def lcx (X : Cx) (scope : Scope) (N : List Str) (cl : List (Str × Addr)) (C : Addr) (s : Shared) (H : Hp) (ex : List Addr) : Cx where
  prog := X.prog
  w := X.w
  K := X.K
  mg := X.mg
  base := X.base
  A := X.A
  N := N
  s₀ := s
  H₀ := H
  env := compEnvC scope cl C X.env
  outer := X.stack
  stack := X.stack
  ex := ex
  fn := fun _ => false
  calm := true
  pn := []
  xe := fun _ _ => False
/-- the tests of a comprehension -/
def PTs (Y : Cx) (ifs : List Expr) (t : TT) : Prop :=
  ∀ (pins : List (Addr × Obj)) (s : Shared) (σ : St) (H : Hp) (Q : Bool → Hp → Prop), Inv Y pins σ H s → t σ H Q →
    wpAny (model Y.prog Y.w) Y.A (forIn ifs true fun c r => if r = true then do let ok ← isTrue c Y.env (eval c Y.env); pure (ForInStep.yield ok) else pure (ForInStep.yield r)) (TP Y pins σ Q) Y.xe s
def tYes : TT := fun _ H Q => Q true H
theorem pts_nil {Y : Cx} : PTs Y [] tYes := fun _ _ _ H _ I h => wpAny_tests_nil ⟨H, I, h⟩
theorem pts_one {Y : Cx} {c : Expr} {t : TT} (h : PT Y c t) : PTs Y [c] t := fun pins s σ H Q I q => wpAny_tests_one (h pins s σ H Q I q)
def frees (σ : St) (fr : List (Str × Nat)) : St := fr.map fun p => (σ[p.2]?).join
def tLc (wi : TI) (fr : List (Str × Nat)) (tt : TT) (te : TE) : TE := fun σ H Q => wi σ H fun J H1 => ∃ W : Nat → Nat → List V → Hp → Prop, (∃ m, W 0 m [] H1) ∧ ∀ i m acc H, W i m acc H →
  (J.stop i H ∧ ∀ p, H p = none → Q (.ref p) (upd H p (.lst acc))) ∨
  (J.go i H ∧ ∀ x H', J.yld i H x H' → tt (some x :: frees σ fr) H' fun b H2 => if b = true then te (some x :: frees σ fr) H2 fun y H3 => acc.length < sizeLine ∧ ∃ m', m' < m ∧ W (i + 1) m' (acc ++ [y]) H3
    else ∃ m', m' < m ∧ W (i + 1) m' acc H2)
/-- the names from around -/
def FrOk (X : Cx) (scope : Scope) (cl : List (Str × Addr)) : List (Str × Nat) → Prop
  | [] => True
  | (y, j) :: r => (X.N[j]? = some y ∧ X.env.kindOf y = some .cell ∧ (relabel scope X.env).names.lookup y = some .cell ∧ ∃ c, cl.lookup y = some c) ∧ FrOk X scope cl r
theorem FrOk.get {X : Cx} {scope : Scope} {cl : List (Str × Addr)} : ∀ {fr : List (Str × Nat)} {i : Nat} {p : Str × Nat}, FrOk X scope cl fr → fr[i]? = some p →
    X.N[p.2]? = some p.1 ∧ X.env.kindOf p.1 = some .cell ∧ (relabel scope X.env).names.lookup p.1 = some .cell ∧ ∃ c, cl.lookup p.1 = some c
  | [], _, _, _, e => by simp at e
  | (y, j) :: r, 0, p, h, e => by
    have e' : (y, j) = p := Option.some.inj e
    subst e'
    exact h.1
  | (y, j) :: r, i + 1, p, h, e => FrOk.get (fr := r) (i := i) h.2 (by simpa using e)
theorem relabel_free {scope : Scope} {env : Env} : ∀ {names : List (Str × NameKind)} {y : Str} {k : NameKind}, (∀ p ∈ names, p.2 ≠ .cell) →
    (names.map fun (n, k) => if (k == NameKind.free && env.scope.kind == .function && env.kindOf n == some .cell) then (n, NameKind.cell) else (n, k)).lookup y = some k → k = .cell ∨ k = .free → (y, NameKind.free) ∈ names
  | [], _, _, _, h, _ => by simp at h
  | (n, k0) :: r, y, k, hc, h, hk => by
    have ih := @relabel_free scope env r y k (fun p hp => hc p (List.mem_cons_of_mem _ hp))
    rw [List.map_cons] at h
    by_cases hx : (y == n) = true
    · have e : y = n := by simpa using hx
      subst e
      by_cases hq : (k0 == NameKind.free && env.scope.kind == .function && env.kindOf y == some .cell) = true
      · have z : k0 = .free := by
          simp only [Bool.and_eq_true, beq_iff_eq] at hq
          exact hq.1.1
        rw [z]
        exact List.mem_cons_self
      · simp only [hq, Bool.false_eq_true, if_false, List.lookup_cons, hx] at h
        have z : k0 = k := Option.some.inj h
        rcases hk with hk | hk
        · exact absurd (z.trans hk) (hc (y, k0) List.mem_cons_self)
        · rw [z, hk]
          exact List.mem_cons_self
    · have hx' : (y == n) = false := by simpa using hx
      refine List.mem_cons_of_mem _ (ih ?_ hk)
      by_cases hq : (k0 == NameKind.free && env.scope.kind == .function && env.kindOf n == some .cell) = true
      · simp only [hq, if_true, List.lookup_cons, hx'] at h
        exact h
      · simp only [hq, Bool.false_eq_true, if_false, List.lookup_cons, hx'] at h
        exact h
section
variable {prog : Program} {w : World} {A : Around} {R : Result → Shared → Prop} {s : Shared}
/-- a turn of the block, with the step ahead of the store -/
theorem compLoop_by {elt target iter : Expr} {ifs : List Expr} {scope : Scope} {pos : Pos} {it acc : Value} {env : Env} (I : Nat → Shared → Prop)
    (turn : ∀ n s, I n s → wpAny (model prog w) A (pyNext it) (fun r s₁ => match r with
      | none => R (.ok .next) s₁
      | some v => wpAny (model prog w) A (letOwnedTupleGo target it v) (fun _ s₁' => wpAny (model prog w) A (assign target env v) (fun _ s₂ =>
          wpAny (model prog w) A (forIn ifs true fun c r => if r = true then do let ok ← isTrue c env (eval c env); pure (ForInStep.yield ok) else pure (ForInStep.yield r)) (fun ok s₃ =>
            if ok = true then wpAny (model prog w) A (eval elt env) (fun x s₄ =>
              wpAny (model prog w) A (call (.builtin "list.append") [acc, x]) (fun _ s₅ => ∃ m, m < n ∧ I m s₅) (notedBy (model prog w) A env fun e s' => R (.error e) s') s₄) (notedBy (model prog w) A env fun e s' => R (.error e) s') s₃
            else ∃ m, m < n ∧ I m s₃) (notedBy (model prog w) A env fun e s' => R (.error e) s') s₂) (notedBy (model prog w) A env fun e s' => R (.error e) s') s₁') (notedBy (model prog w) A env fun e s' => R (.error e) s') s₁) (notedBy (model prog w) A env fun e s' => R (.error e) s') s)
    (n : Nat) (h : I n s) : codeAny (model prog w) A (.compLoop (.ListComp elt [⟨target, iter, ifs, 0⟩] scope pos) 0 it acc env) R s := by
  refine codeAny_loop rfl I (fun n s hI => ?_) n h
  show wpAny _ A ((compTurn (.ListComp elt [⟨target, iter, ifs, 0⟩] scope pos) 0 it acc env).onRaise (fun x => do noteFrame x env; theTreesLotGoes x)) _ _ s
  refine wpAny_noted ?_
  rw [compTurn_list]
  refine wpAny_bind (wpAny_standAt (wpAny_bind (wpAny_mono (turn n s hI) (fun r s₁ h₁ => ?_) fun _ _ h' => h')))
  cases r with
  | none => exact wpAny_pure h₁
  | some v =>
    refine wpAny_bind (wpAny_mono h₁ (fun _ s₁' h₁' => ?_) fun _ _ h' => h')
    refine wpAny_bind (wpAny_mono h₁' (fun _ s₂ h₂ => wpAny_bind (wpAny_mono h₂ (fun ok s₃ h₃ => ?_) fun _ _ h' => h')) fun _ _ h' => h')
    cases ok with
    | false => exact wpAny_pure ⟨rfl, h₃⟩
    | true =>
      exact wpAny_bind (wpAny_bind (wpAny_mono h₃ (fun x s₄ h₄ => wpAny_bind (wpAny_mono h₄ (fun _ s₅ h₅ => wpAny_pure (wpAny_pure ⟨rfl, h₅⟩)) fun _ _ h' => h')) fun _ _ h' => h'))
end
section
variable {X : Cx} {elt iter : Expr} {x : Str} {px pos : Pos} {ifs : List Expr} {scope : Scope} {cl : List (Str × Addr)} {fr : List (Str × Nat)} {wi : TI} {tt : TT} {te : TE}
/-- what a comprehension's scope must be -/
structure LcOk (X : Cx) (scope : Scope) (cl : List (Str × Addr)) (x : Str) (fr : List (Str × Nat)) : Prop where
  kind : scope.kind = .function
  nocell : ∀ p ∈ scope.names, p.2 ≠ .cell
  names : ∀ p ∈ scope.names, p.2 = .local → scope.names.lookup p.1 = some .local
  var : scope.names.lookup x = some .local
  clos : closureFor scope X.env = pure cl
  sub : ∀ y c, cl.lookup y = some c → X.env.cells.lookup y = some c
  has : ∀ y, (y, NameKind.free) ∈ scope.names → ∃ c, cl.lookup y = some c
  frok : FrOk X scope cl fr
  nd : (x :: fr.map (·.1)).Nodup
theorem lc_block (L : LcOk X scope cl x fr) (hc : X.calm = true) (he : ∀ C s H ex, PE (lcx X scope (x :: fr.map (·.1)) cl C s H ex) elt te) (ht : ∀ C s H ex, PTs (lcx X scope (x :: fr.map (·.1)) cl C s H ex) ifs tt)
    {pins : List (Addr × Obj)} {σ : St} {H2 : Hp} {s2 : Shared} {it : Addr} {fp : List Addr} {tn : Nat → Heap → Prop} {J : It} {E : Value → Shared → Prop} {RR : Value → Addr → Result → Shared → Prop}
    (I2 : Inv X pins σ H2 s2) (T : Turn X.prog X.w X.K (.Name x px) J fp it tn) (st2 : tn 0 s2.heap) (f2 : ∀ b ∈ fp, FpOk X pins H2 b) {Fin : List V → Hp → Prop}
    (W : Nat → Nat → List V → Hp → Prop) (w0 : ∃ m, W 0 m [] H2) (turn : ∀ i m acc H, W i m acc H → (J.stop i H ∧ Fin acc H) ∨
      (J.go i H ∧ ∀ x H', J.yld i H x H' → tt (some x :: frees σ fr) H' fun b H2 => if b = true then te (some x :: frees σ fr) H2 fun y H3 => acc.length < sizeLine ∧ ∃ m', m' < m ∧ W (i + 1) m' (acc ++ [y]) H3
        else ∃ m', m' < m ∧ W (i + 1) m' acc H2))
    (hRR : ∀ (D C : Addr) (s' : Shared) (acc : List V) (H' : Hp) (m' : Str → Option Value), D ≠ C → s2.heap.objs.size ≤ C → s'.heap.Ns C m' → H2 C = none → H' C = none → D ≠ X.env.locals → C ≠ X.env.locals → (∀ y c, X.env.cells.lookup y = some c → c ≠ C) → (∀ p ∈ X.pn ++ pins, p.1 ≠ C) → H' D = none →
      Inv X pins σ (upd H' D (.lst acc)) s' → Fin acc H' → RR (.ref D) C (.ok .next) s') :
    wpAny (model X.prog X.w) X.A (newList []) (fun acc s₃ => wpAny (model X.prog X.w) X.A (newFunctionEnv scope X.env.globals cl [] X.env.qual none .none (some X.env)) (fun cenv s₄ =>
      codeAny (model X.prog X.w) X.A (.compStart (.ListComp elt [⟨.Name x px, iter, ifs, 0⟩] scope pos) 0 (.ref it) acc { cenv with scope := relabel scope X.env }) (RR acc cenv.locals) s₄) E s₃) E s2 := by
  obtain ⟨m0, w0⟩ := w0
  refine wpAny_newObj_type (wpAny_newFunctionEnv L.nocell (by intro y hy; simp at hy) (fun h₁ hns₁ hsb₁ => ?_) L.kind)
  dsimp only at hns₁ hsb₁ ⊢
  generalize hHH : s2.heap.push { cls := .type "list", dict := none, data := .seq ([] : List Value).toArray } = HH at hns₁ hsb₁ ⊢
  have hC : HH.objs.size = s2.heap.objs.size + 1 := by rw [← hHH, Heap.size_push]
  have hDC : s2.heap.objs.size ≠ HH.objs.size := by rw [hC]; exact Nat.ne_of_lt (Nat.lt_succ_self _)
  have old : ∀ b o, s2.heap.get? b = some o → h₁.get? b = some o := fun b o e => hsb₁.extBut b o (by rw [hC]; exact Nat.ne_of_lt (Nat.lt_succ_of_lt (Heap.lt_size e))) (Heap.get?_push_of_some _ (hHH ▸ Heap.get?_push_of_some _ e))
  have hacc : h₁.get? s2.heap.objs.size = some { cls := .type "list", data := .seq ([] : List Value).toArray } := hsb₁.extBut _ _ hDC (Heap.get?_push_of_some _ (hHH ▸ Heap.get?_push_size _ rfl))
  generalize hCC : HH.objs.size = C at *
  generalize hDD : s2.heap.objs.size = D at *
  have D0 : s2.heap.objs.size ≤ D := Nat.le_of_eq hDD
  have C0 : s2.heap.objs.size ≤ C := by rw [hC]; exact Nat.le_succ_of_le D0
  have fD : ∀ {H' : Hp}, H' D = none → FpOk X pins H' D := fun h => I2.fpOk D0 h
  have fC : ∀ {H' : Hp}, H' C = none → FpOk X pins H' C := fun h => I2.fpOk C0 h
  have hD2 : H2 D = none := I2.hok.fresh D0
  have hC2 : H2 C = none := I2.hok.fresh C0
  have ltfp : ∀ b ∈ fp, b < s2.heap.objs.size := fun b hb => by
    obtain ⟨o, e, _⟩ := T.obj _ _ st2 b hb
    exact Heap.lt_size e
  have stkD : D ∉ frs X.stack := fun z => by
    rcases List.mem_cons.mp (I2.stkSub _ z) with e | e
    · exact (fD hD2).2.1 e
    · exact (fD hD2).2.2.1 e
  have stkC : C ∉ frs X.stack := fun z => by
    rcases List.mem_cons.mp (I2.stkSub _ z) with e | e
    · exact (fC hC2).2.1 e
    · exact (fC hC2).2.2.1 e
  have cellC : ∀ y c, cl.lookup y = some c → c < s2.heap.objs.size := fun y c e => by
    obtain ⟨v, q⟩ := I2.cell y c (L.sub y c e)
    exact q.lt
  -- the block's context
  have ok : (lcx X scope (x :: fr.map (·.1)) cl C s2 H2 fp).Ok :=
    { mod := I2.ok.mod
      kind := L.kind
      glob := I2.ok.glob
      blt := I2.ok.blt
      above := C0
      inj := fun y z c h1 h2 => I2.ok.inj y z c (L.sub y c h1) (L.sub z c h2)
      has := fun y hy => by
        refine L.has y (relabel_free (scope := scope) (env := X.env) (names := scope.names) (k := ((relabel scope X.env).names.lookup y).getD .cell) L.nocell ?_ ?_)
        · rcases hy with hy | hy
          · have hy' : (relabel scope X.env).names.lookup y = some .cell := hy
            rw [hy']; exact hy'
          · have hy' : (relabel scope X.env).names.lookup y = some .free := hy
            rw [hy']; exact hy'
        · rcases hy with hy | hy
          · have hy' : (relabel scope X.env).names.lookup y = some .cell := hy
            rw [hy']; exact .inl rfl
          · have hy' : (relabel scope X.env).names.lookup y = some .free := hy
            rw [hy']; exact .inr rfl
      cab := fun y c h => nomatch h
      hd := fun _ => I2.ok.hd hc
      frames := I2.ok.frames
      stk := .inl rfl
      exf := fun b hb => ⟨Nat.ne_of_lt (Nat.lt_of_lt_of_le (ltfp b hb) C0), fun y c e => (f2 b hb).2.2.2.2.1 y c (L.sub y c e)⟩
      bs := I2.bs
      bsz := Nat.le_trans I2.ok.bsz I2.sz
      noex := fun b o e hb => by
        rcases (f2 b hb).2.2.2.1 with z | z
        · exact I2.ok.noex b o e z
        · exact absurd (Nat.lt_of_lt_of_le (Heap.lt_size (I2.ok.bs b o e).1) z) (Nat.lt_irrefl _)
      exfs := fun b hb z => by
        rcases List.mem_cons.mp (I2.stkSub _ z) with e | e
        · exact (f2 b hb).2.1 e
        · exact (f2 b hb).2.2.1 e
      funs := I2.stack
      frf := I2.stkFree }
  have hlenF : (frees σ fr).length = fr.length := by unfold frees; rw [List.length_map]
  -- the start
  have I3 : Inv (lcx X scope (x :: fr.map (·.1)) cl C s2 H2 fp) [] (none :: frees σ fr) H2 { s2 with heap := h₁, toks := s2.toks + ([] : List (Str × Value)).length } := by
    refine ⟨ok, rfl, I2.bare, Un.kept old, ⟨_, hns₁, fun i y v h1 h2 h3 => ?_⟩, fun y c e => ?_, hC2, fun y c e => I2.freeC y c (L.sub y c e), fun p hp => ?_, I2.hok.kept old, ?_⟩
    · cases i with
      | zero => cases h2
      | succ i =>
        have h1' : (fr.map (·.1))[i]? = some y := h1
        have h2' : (frees σ fr)[i]? = some (some v) := h2
        unfold frees at h2'
        rw [List.getElem?_map] at h1' h2'
        cases ep : fr[i]? with
        | none => rw [ep] at h1'; cases h1'
        | some p =>
          rw [ep] at h1' h2'
          have e1 : p.1 = y := Option.some.inj h1'
          have e2 : (σ[p.2]?).join = some v := Option.some.inj h2'
          have e3 : σ[p.2]? = some (some v) := by
            cases q : σ[p.2]? with
            | none => rw [q] at e2; cases e2
            | some z => rw [q] at e2; exact congrArg some e2
          obtain ⟨g1, g2, g3, c, g4⟩ := L.frok.get ep
          subst e1
          obtain ⟨m, _, hl⟩ := I2.loc
          obtain ⟨u, ru, lk⟩ := hl p.2 p.1 v g1 e3 (.inr (.inl g2))
          refine ⟨u, ru, .inr ⟨.inl g3, c, g4, ?_⟩⟩
          rcases lk with ⟨k, _⟩ | ⟨_, c', ec, z⟩
          · rw [g2] at k; cases k
          · rw [L.sub _ _ g4] at ec
            cases ec
            obtain ⟨o, ho, hd⟩ := z
            exact ⟨o, old _ _ ho, hd⟩
    · obtain ⟨v, o, ho, hd⟩ := I2.cell y c (L.sub y c e)
      exact ⟨v, o, old _ _ ho, hd⟩
    · exact absurd (show p ∈ ([] : List (Addr × Obj)) from hp) (by simp)
    · show (none :: frees σ fr).length = (x :: fr.map (·.1)).length
      rw [List.length_cons, List.length_cons, hlenF, List.length_map]
  have statY : ∀ {H' : Hp} {pn : List (Addr × Obj)}, (∀ p ∈ pn, p.1 ∉ fp) → (∀ b ∈ fp, H' b = none) → ∀ b ∈ fp, FpOk (lcx X scope (x :: fr.map (·.1)) cl C s2 H2 fp) pn H' b := fun hpn hn b hb =>
    ⟨hn b hb, Nat.ne_of_lt (Nat.lt_of_lt_of_le (ltfp b hb) C0), ok.exfs b hb, .inl hb, (ok.exf b hb).2, fun p hp z => hpn p hp (by rw [z]; exact hb)⟩
  have Dfp : D ∉ fp := fun z => absurd (ltfp D z) (Nat.not_lt.mpr D0)
  have loop : ∀ s₃ : Shared, s₃ = { s2 with heap := h₁, toks := s2.toks + ([] : List (Str × Value)).length } →
      codeAny (model X.prog X.w) X.A (.compLoop (.ListComp elt [⟨.Name x px, iter, ifs, 0⟩] scope pos) 0 (.ref it) (.ref D) (compEnvC scope cl C X.env)) (RR (.ref D) C) s₃ := by
    rintro s₃ rfl
    refine compLoop_by (fun n s' => ∃ (i : Nat) (v0 : Option V) (acc : List V) (H' : Hp) (its : List Value) (k : Nat), Inv (lcx X scope (x :: fr.map (·.1)) cl C s2 H2 fp) [] (v0 :: frees σ fr) H' s' ∧ tn i s'.heap ∧ (∀ b ∈ fp, H' b = none) ∧
      s'.heap.get? D = some { cls := .type "list", data := .seq its.toArray k } ∧ Vals acc its ∧ acc.length ≤ sizeLine ∧ H' D = none ∧ W i n acc H') ?_ m0 ⟨0, none, [], H2, [], 0, I3, T.keep _ _ _ st2 (fun b hb o e => old b o e), fun b hb => (f2 b hb).1, hacc, .nil, Nat.zero_le _, hD2, w0⟩
    rintro n s3 ⟨i, v0, acc, H3, its, k, J3, st3, fr3, ho3, r3, z3, d3, w3⟩
    have pinD : ∀ {v : Option V} {H' : Hp} {s' : Shared} {its' : List Value} {k' : Nat}, Inv (lcx X scope (x :: fr.map (·.1)) cl C s2 H2 fp) [] (v :: frees σ fr) H' s' → s'.heap.get? D = some { cls := .type "list", data := .seq its'.toArray k' } → H' D = none →
        Inv (lcx X scope (x :: fr.map (·.1)) cl C s2 H2 fp) [(D, { cls := .type "list", data := .seq its'.toArray k' })] (v :: frees σ fr) H' s' := fun JJ ho hd => JJ.pins_of fun p hp => by
      obtain rfl := List.mem_singleton.mp hp
      exact ⟨ho, hd, hDC, stkD, fun v z => by cases z⟩
    have J3' := pinD J3 ho3 d3
    have hpn : ∀ p ∈ [((D, { cls := .type "list", data := .seq its.toArray k }) : Addr × Obj)], p.1 ∉ fp := fun p hp => by
      obtain rfl := List.mem_singleton.mp hp
      exact Dfp
    rcases turn i n acc H3 w3 with ⟨stop, fin⟩ | ⟨go, step⟩
    · refine thn (T.done (lcx X scope (x :: fr.map (·.1)) cl C s2 H2 fp) rfl rfl rfl rfl i _ s3 _ H3 _ J3' (statY hpn fr3) st3 stop) fun r s4 ⟨hr, J4⟩ => ?_
      subst hr
      obtain ⟨e4, d4, _⟩ := J4.pin (D, _) (List.mem_append_right _ (List.mem_singleton.mpr rfl))
      obtain ⟨m4, n4, _⟩ := J4.loc
      have q : Inv X pins σ (upd H3 D (.lst acc)) s4 := by
        refine I2.call' (ch := fp) J4.os ?_ ?_ J4.bare fun b hb => ⟨(f2 b hb).2.2.2.1, (f2 b hb).2.1, (f2 b hb).2.2.2.2.1, (f2 b hb).2.2.2.2.2⟩
        · have U := J4.base
          have neD : ∀ b o, s2.heap.get? b = some o → b ≠ D := fun b o e z => absurd (Heap.lt_size e) (by rw [z]; exact Nat.not_lt.mpr D0)
          exact ⟨U.keep, U.slot, fun b o e n hb => by rw [upd_ne (neD b o e)]; exact U.free b o e n hb, U.there, fun b xs e => by rw [upd_ne (ne_of_none (U.tups b xs e) d4)]; exact U.tups b xs e,
            fun b o u e => by rw [upd_ne (ne_of_none (U.frzs b o u e) d4)]; exact U.frzs b o u e, fun b ps e => by
              obtain ⟨more, q⟩ := U.tbls b ps e
              exact ⟨more, by rw [upd_ne (ne_of_none q d4)]; exact q⟩⟩
        · intro a o e
          by_cases z : a = D
          · subst z
            rw [upd_same] at e
            cases e
            exact ⟨z3, its, k, r3, e4⟩
          · rw [upd_ne z] at e
            refine (J4.hok a o e).stay (fun _ _ _ q => q) (fun b q => ?_) fun b xs q => ?_
            · rw [upd_ne (ne_of_none q d4)]; exact q
            · rw [upd_ne (ne_of_none q d4)]; exact q
      exact hRR D C s4 acc H3 m4 hDC (by rw [hDD] at C0; exact C0) n4 hC2 J4.free (fD hD2).2.1 (fC hC2).2.1 (fC hC2).2.2.2.2.1 (fC hC2).2.2.2.2.2 d4 q fin
    · refine wpAny_mono (T.item (lcx X scope (x :: fr.map (·.1)) cl C s2 H2 fp) rfl rfl rfl rfl i _ s3 _ H3 (fun _ _ => False) J3' (statY hpn fr3) st3 go) (fun r s4 ⟨u, hr, h4⟩ => ?_) fun _ _ z => z.elim
      subst hr
      refine wpAny_mono h4 (fun _ s5 ⟨xv, H5, J5, r5, y5, st5, fr5⟩ => ?_) fun _ _ z => z.elim
      have J5' := J5.pinned (statY hpn fr5) (T.obj _ _ st5)
      refine wpAny_mono (wpAny_assign_Name (store_ok (i := 0) (v := xv) (Q := fun _ s' => L2.Inv (lcx X scope (x :: fr.map (·.1)) cl C s2 H2 fp) ([(D, { cls := .type "list", data := .seq its.toArray k })] ++ pinsAt fp s5.heap) (some xv :: frees σ fr) H5 s') J5' L.nd rfl (.inl (lookup_relabel_local L.var)) r5 (E := fun _ _ => False) (fun s' h => h) (.inr (lookup_relabel_local L.var)))) (fun _ s6 J6 => ?_) fun _ _ z => z.elim
      have st6 := step xv H5 y5
      refine wpAny_mono (ht C s2 H2 fp _ s6 _ H5 _ J6 st6) (fun ok s7 ⟨H7, J7, q7⟩ => ?_) fun _ _ z => z.elim
      have again : ∀ {s' : Shared} {H' : Hp} {v : Option V}, Inv (lcx X scope (x :: fr.map (·.1)) cl C s2 H2 fp) ([(D, { cls := .type "list", data := .seq its.toArray k })] ++ pinsAt fp s5.heap) (v :: frees σ fr) H' s' →
          tn (i + 1) s'.heap ∧ (∀ b ∈ fp, H' b = none) ∧ s'.heap.get? D = some { cls := .type "list", data := .seq its.toArray k } ∧ H' D = none := fun {s' H' v} JJ => by
        refine ⟨T.keep _ _ _ st5 fun b hb o e => (JJ.pin (b, o) (List.mem_append_right _ (List.mem_append_right _ (mem_pinsAt hb e)))).1, fun b hb => ?_, ?_, ?_⟩
        · obtain ⟨o, e, d⟩ := T.obj _ _ st5 b hb
          exact (JJ.pin (b, o) (List.mem_append_right _ (List.mem_append_right _ (mem_pinsAt hb e)))).2.1
        · exact (JJ.pin (D, _) (List.mem_append_right _ (List.mem_append_left _ (List.mem_singleton.mpr rfl)))).1
        · exact (JJ.pin (D, _) (List.mem_append_right _ (List.mem_append_left _ (List.mem_singleton.mpr rfl)))).2.1
      cases ok with
      | false =>
        have q7' : ∃ m', m' < n ∧ W (i + 1) m' acc H7 := q7
        obtain ⟨m', hm, w7⟩ := q7'
        obtain ⟨a1, a2, a3, a4⟩ := again J7
        exact ⟨m', hm, i + 1, some xv, acc, H7, its, k, J7.pins_of (fun p hp => absurd hp (by simp)), a1, a2, a3, r3, z3, a4, w7⟩
      | true =>
        refine wpAny_mono (he C s2 H2 fp _ s7 _ H7 _ J7 q7) (fun yv s8 ⟨y, H8, J8, r8, zl, m', hm, w8⟩ => ?_) fun _ _ z => z.elim
        obtain ⟨a1, a2, a3, a4⟩ := again J8
        refine append_at a3 (fun h9 hs9 hD9 => ?_) (by rw [List.size_toArray, ← r3.length]; exact z3)
        have hpush : (its.toArray.push yv) = (its ++ [yv]).toArray := by simp
        rw [hpush] at hD9
        have J8' := J8.pins_of (pins' := []) (fun p hp => absurd hp (by simp))
        have J9 : Inv (lcx X scope (x :: fr.map (·.1)) cl C s2 H2 fp) [] (some xv :: frees σ fr) H8 { s8 with heap := h9, toks := s8.toks } :=
          J8'.turned (it := D) (fun b o hb e => hs9.extBut b o hb e) a4 hDC (.inr D0) (fun y c e z => absurd (cellC y c e) (by rw [z]; exact Nat.not_lt.mpr D0)) (fun p hp => absurd (show p ∈ ([] : List (Addr × Obj)) from hp) (by simp))
        exact ⟨m', hm, i + 1, some xv, acc ++ [y], H8, its ++ [yv], k + 1, J9, T.keep _ _ _ a1 fun b hb o e => hs9.extBut b o (fun z => Dfp (by rw [← z]; exact hb)) e, a2, hD9, r3.append (.cons r8 .nil), by rw [List.length_append, List.length_singleton]; omega, a4, w8⟩
  exact codeAny_compStart_list (loop _ rfl) (T.self _ 0 _ _ _ (T.keep _ _ _ st2 (fun b hb o e => old b o e)) (loop _ rfl))
/-- [elt for x in iter if ..] as a value -/
theorem pe_lc (L : LcOk X scope cl x fr) (hc : X.calm = true) (hi : PI X (.Name x px) iter wi) (he : ∀ C s H ex, PE (lcx X scope (x :: fr.map (·.1)) cl C s H ex) elt te) (ht : ∀ C s H ex, PTs (lcx X scope (x :: fr.map (·.1)) cl C s H ex) ifs tt)
    (hs : ∀ x, foldedSetIterable iter X.env x = pure x := by intro _; rfl) : PE X (.ListComp elt [⟨.Name x px, iter, ifs, 0⟩] scope pos) (tLc wi fr tt te) := by
  intro pins s σ H Q I h
  rw [eval_ListComp]
  refine wpAny_comprehension_free (use := none) rfl hs L.clos L.kind L.names (thn (hi pins s σ H _ I h) fun xv s1 h1 => thn h1 fun itv s2 h2 => ?_)
  obtain ⟨it, fp, tn, J, H2, e, I2, T, st2, f2, W, w0, turn⟩ := h2
  subst e
  refine lc_block (RR := fun acc C => compPost (model X.prog X.w) X.A X.xe none (EP X pins σ Q) acc C) L hc he ht I2 T st2 f2 W w0 turn ?_
  intro D C s' acc H' m' hDC C0 hn hC2 hC hDL hCL hcC hpC hD J4 fin
  refine ⟨m', hn, fun h'' hs'' => ⟨.ref D, _, ?_, rfl, fin D hD⟩⟩
  exact J4.turned (it := C) (t' := s'.toks) (fun b o hb e => hs''.extBut b o hb e) (by rw [upd_ne (Ne.symm hDC)]; exact hC) hCL (.inr (Nat.le_trans I2.sz C0)) hcC hpC
/-- y = [elt for x in iter if ..] -/
theorem ps_setlc {i : Nat} {y : Str} {py spos : Pos} (L : LcOk X scope cl x fr) (hc : X.calm = true) (hN : X.N.Nodup) (hyi : X.N[i]? = some y) (hy : X.env.scope.names.lookup y = some .local) (hi : PI X (.Name x px) iter wi) (he : ∀ C s H ex, PE (lcx X scope (x :: fr.map (·.1)) cl C s H ex) elt te) (ht : ∀ C s H ex, PTs (lcx X scope (x :: fr.map (·.1)) cl C s H ex) ifs tt)
    (hsw : swapsWith (.ListComp elt [⟨.Name x px, iter, ifs, 0⟩] scope pos) (some (.Name y py)) spos.line X.env = pure true)
    (hs : ∀ x, foldedSetIterable iter X.env x = pure x := by intro _; rfl) : PS X (.Assign [.Name y py] (.ListComp elt [⟨.Name x px, iter, ifs, 0⟩] scope pos) spos) (tAsg (tLc wi fr tt te) (gName i)) := by
  intro pins s σ H Dn I h
  rw [exec_Assign_Name_used _ _ _ _ hsw]
  refine wpAny_bind (wpAny_standAt (wpAny_bind ?_))
  show wpAny _ X.A (do let _ ← comprehension (.ListComp elt [⟨.Name x px, iter, ifs, 0⟩] scope pos) scope X.env _ (newList []) false (eval iter X.env) (some (assign (.Name y py) X.env))) _ _ s
  refine wpAny_bind (wpAny_mono (wpAny_comprehension_free (use := some (assign (.Name y py) X.env)) (Q := fun _ s' => SP X pins Dn .next s') rfl hs L.clos L.kind L.names
    (thn (hi pins s σ H _ I h) fun xv s1 h1 => thn h1 fun itv s2 h2 => ?_)) (fun _ s' hq => wpAny_pure (wpAny_pure hq)) fun _ _ e => e)
  obtain ⟨it, fp, tn, J, H2, e, I2, T, st2, f2, W, w0, turn⟩ := h2
  subst e
  refine lc_block (RR := fun acc C => compPost (model X.prog X.w) X.A X.xe (some (assign (.Name y py) X.env)) (fun _ s' => SP X pins Dn .next s') acc C) L hc he ht I2 T st2 f2 W w0 turn ?_
  intro D C s' acc H' m' hDC C0 hn hC2 hC hDL hCL hcC hpC hD J4 fin
  show wpAny _ X.A (assign (.Name y py) X.env (.ref D)) _ _ _
  refine wpAny_assign_Name (store_ok2 (i := i) (v := .ref D) J4 hN hyi (.inl hy) rfl (fun s5 J5 sb => ?_) (.inr hy))
  obtain ⟨a, sb, ha⟩ := sb
  have hCa : C ≠ a := by
    rcases ha with ha | ha
    · rw [ha]; exact hCL
    · exact fun z => hcC y a ha z.symm
  refine ⟨m', hn.sameBut sb hCa, fun h'' hs'' => ⟨_, _, ?_, fin D hD⟩⟩
  exact J5.turned (it := C) (t' := s5.toks) (fun b o hb e => hs''.extBut b o hb e) (by rw [upd_ne (Ne.symm hDC)]; exact hC) hCL (.inr (Nat.le_trans I2.sz C0)) hcC hpC
end
/-! ### the forms one uses -/
theorem lc_list {K : PySem.W.Frag} {a : Addr} {xs : List V} {fr : List (Str × Nat)} {tt : TT} {te : TE} {σ : St} {H : Hp} {Fin : List V → Hp → Prop} (Pv : Nat → List V → Hp → Prop) (h0 : Pv 0 [] H) (hl : ∀ i acc H, i ≤ xs.length → Pv i acc H → SqL K H a xs)
    (hs : ∀ i x acc H, xs[i]? = some x → Pv i acc H → tt (some x :: frees σ fr) H fun b H2 => if b = true then te (some x :: frees σ fr) H2 fun y H3 => acc.length < sizeLine ∧ Pv (i + 1) (acc ++ [y]) H3 else Pv (i + 1) acc H2)
    (mt : ∀ σ H Q Q', (∀ b H1, Q b H1 → Q' b H1) → tt σ H Q → tt σ H Q') (me : ∀ σ H Q Q', (∀ b H1, Q b H1 → Q' b H1) → te σ H Q → te σ H Q')
    (hd : ∀ acc H, Pv xs.length acc H → Fin acc H) :
    ∃ W : Nat → Nat → List V → Hp → Prop, (∃ m, W 0 m [] H) ∧ ∀ i m acc H, W i m acc H →
      ((Itl K a).stop i H ∧ Fin acc H) ∨
      ((Itl K a).go i H ∧ ∀ x H', (Itl K a).yld i H x H' → tt (some x :: frees σ fr) H' fun b H2 => if b = true then te (some x :: frees σ fr) H2 fun y H3 => acc.length < sizeLine ∧ ∃ m', m' < m ∧ W (i + 1) m' (acc ++ [y]) H3
        else ∃ m', m' < m ∧ W (i + 1) m' acc H2) := by
  refine ⟨fun i m acc H => Pv i acc H ∧ i ≤ xs.length ∧ m = xs.length - i, ⟨_, h0, Nat.zero_le _, rfl⟩, fun i m acc H ⟨p, hi, hm⟩ => ?_⟩
  have l := hl i acc H hi p
  by_cases e : i = xs.length
  · subst e
    exact .inl ⟨⟨xs, l, Nat.le_refl _⟩, hd acc H p⟩
  · have hlt : i < xs.length := by omega
    refine .inr ⟨⟨xs, xs[i], l, List.getElem?_eq_getElem hlt⟩, fun x H' ⟨e', hx⟩ => ?_⟩
    subst e'
    refine mt _ _ _ _ (fun b H1 q => ?_) (hs i x acc _ (hx xs l) p)
    cases b with
    | false => exact ⟨m - 1, by omega, q, by omega, by omega⟩
    | true => exact me _ _ _ _ (fun y H3 z => ⟨z.1, m - 1, by omega, z.2, by omega, by omega⟩) q
theorem lc_range {lo : Int} {n : Nat} {fr : List (Str × Nat)} {tt : TT} {te : TE} {σ : St} {H : Hp} {Fin : List V → Hp → Prop} (Pv : Nat → List V → Hp → Prop) (h0 : Pv 0 [] H)
    (hs : ∀ i acc H, i < n → Pv i acc H → tt (some (.int (lo + i)) :: frees σ fr) H fun b H2 => if b = true then te (some (.int (lo + i)) :: frees σ fr) H2 fun y H3 => acc.length < sizeLine ∧ Pv (i + 1) (acc ++ [y]) H3 else Pv (i + 1) acc H2)
    (mt : ∀ σ H Q Q', (∀ b H1, Q b H1 → Q' b H1) → tt σ H Q → tt σ H Q') (me : ∀ σ H Q Q', (∀ b H1, Q b H1 → Q' b H1) → te σ H Q → te σ H Q')
    (hd : ∀ acc H, Pv n acc H → Fin acc H) :
    ∃ W : Nat → Nat → List V → Hp → Prop, (∃ m, W 0 m [] H) ∧ ∀ i m acc H, W i m acc H →
      ((Itr lo n).stop i H ∧ Fin acc H) ∨
      ((Itr lo n).go i H ∧ ∀ x H', (Itr lo n).yld i H x H' → tt (some x :: frees σ fr) H' fun b H2 => if b = true then te (some x :: frees σ fr) H2 fun y H3 => acc.length < sizeLine ∧ ∃ m', m' < m ∧ W (i + 1) m' (acc ++ [y]) H3
        else ∃ m', m' < m ∧ W (i + 1) m' acc H2) := by
  refine ⟨fun i m acc H => Pv i acc H ∧ i ≤ n ∧ m = n - i, ⟨_, h0, Nat.zero_le _, rfl⟩, fun i m acc H ⟨p, hi, hm⟩ => ?_⟩
  by_cases e : i = n
  · subst e
    exact .inl ⟨Nat.le_refl _, hd acc H p⟩
  · have hlt : i < n := by omega
    refine .inr ⟨hlt, fun x H' ⟨e', hx⟩ => ?_⟩
    subst e'
    subst hx
    refine mt _ _ _ _ (fun b H1 q => ?_) (hs i acc _ hlt p)
    cases b with
    | false => exact ⟨m - 1, by omega, q, by omega, by omega⟩
    | true => exact me _ _ _ _ (fun y H3 z => ⟨z.1, m - 1, by omega, z.2, by omega, by omega⟩) q
end GR
namespace GR
open PySem L2
/-! ### tuples of ints: ==, in, count -/
theorem rows_eq : ∀ r1 r2 : List Int, ((List.range (min r1.length r2.length)).all (fun j => r1.getD j 0 == r2.getD j 0) && r1.length == r2.length) = decide (r1 = r2) := by
  intro r1 r2
  by_cases e : r1 = r2
  · subst e
    simp
  · rw [decide_eq_false e]
    cases h : ((List.range (min r1.length r2.length)).all (fun j => r1.getD j 0 == r2.getD j 0) && r1.length == r2.length) with
    | false => rfl
    | true =>
      exfalso
      rw [Bool.and_eq_true, List.all_eq_true] at h
      obtain ⟨h1, h2⟩ := h
      have h2 : r1.length = r2.length := by simpa using h2
      refine e (List.ext_getElem h2 fun j a b => ?_)
      have q := h1 j (List.mem_range.mpr (by omega))
      have q : r1.getD j 0 = r2.getD j 0 := by simpa using q
      rw [List.getD_eq_getElem?_getD, List.getD_eq_getElem?_getD, List.getElem?_eq_getElem a, List.getElem?_eq_getElem b] at q
      exact q
theorem int_at {r : List Int} {its : List Value} (h : Vals (r.map V.int) its) {j : Nat} (hj : j < its.length) : ∃ t, its[j] = .int (r.getD j 0) t := by
  have hl : r.length = its.length := by rw [← h.length, List.length_map]
  have hj' : j < r.length := by omega
  obtain ⟨u, e, ru⟩ := h.get (i := j) (x := .int (r.getD j 0)) (by rw [List.getElem?_map, List.getD_eq_getElem?_getD, List.getElem?_eq_getElem hj']; rfl)
  obtain ⟨t, rfl⟩ := ru
  rw [List.getElem?_eq_getElem hj] at e
  exact ⟨t, Option.some.inj e⟩
section
variable {X : Cx} {pins : List (Addr × Obj)} {σ : L2.St} {H : Hp} {s : Shared}
theorem row_el {r1 r2 : List Int} {i1 i2 : List Value} (h1 : Vals (r1.map V.int) i1) (h2 : Vals (r2.map V.int) i2) {A : Around} (j : Nat) (a : j < i1.toArray.size) (b : j < i2.toArray.size) :
    SeqAt.EqAt A s i1.toArray[j] i2.toArray[j] (r1.getD j 0 == r2.getD j 0) := by
  obtain ⟨t, e1⟩ := int_at h1 (j := j) (by simpa using a)
  obtain ⟨u, e2⟩ := int_at h2 (j := j) (by simpa using b)
  have e1' : i1.toArray[j] = .int (r1.getD j 0) t := by simpa using e1
  have e2' : i2.toArray[j] = .int (r2.getD j 0) u := by simpa using e2
  rw [e1', e2']
  exact SeqAt.EqAt.int_int _ _ _ _
theorem row_rc (I : L2.Inv X pins σ H s) {A : Around} (hu : A.units < cLine) {p q : Addr} {r1 r2 : List Int} (h1 : SqT X.K H p (r1.map V.int)) (h2 : SqT X.K H q (r2.map V.int)) : SeqAt.RcAt A s (.ref p) (.ref q) (decide (r1 = r2)) := by
  obtain ⟨i1, v1, t1, z1⟩ := I.tuple h1
  obtain ⟨i2, v2, t2, z2⟩ := I.tuple h2
  have l1 : r1.length = i1.toArray.size := by rw [List.size_toArray, ← v1.length, List.length_map]
  have l2 : r2.length = i2.toArray.size := by rw [List.size_toArray, ← v2.length, List.length_map]
  have q := SeqAt.RcAt.tuples (A := A) (s := s) (e := fun j => r1.getD j 0 == r2.getD j 0) t1 t2 hu (fun j a b => row_el v1 v2 j a b)
  rw [← l1, ← l2, rows_eq] at q
  exact q
theorem row_rcne (I : L2.Inv X pins σ H s) {A : Around} (hu : A.units < cLine) {p q : Addr} {r1 r2 : List Int} (h1 : SqT X.K H p (r1.map V.int)) (h2 : SqT X.K H q (r2.map V.int)) : SeqAt.RcNeAt A s (.ref p) (.ref q) (!decide (r1 = r2)) := by
  obtain ⟨i1, v1, t1, z1⟩ := I.tuple h1
  obtain ⟨i2, v2, t2, z2⟩ := I.tuple h2
  have l1 : r1.length = i1.toArray.size := by rw [List.size_toArray, ← v1.length, List.length_map]
  have l2 : r2.length = i2.toArray.size := by rw [List.size_toArray, ← v2.length, List.length_map]
  have q := SeqAt.RcNeAt.tuples (A := A) (s := s) (e := fun j => r1.getD j 0 == r2.getD j 0) t1 t2 hu (fun j a b => row_el v1 v2 j a b)
  rw [← l1, ← l2, rows_eq] at q
  exact q
theorem ints_inj : ∀ {r1 r2 : List Int}, r1.map V.int = r2.map V.int → r1 = r2
  | [], [], _ => rfl
  | [], _ :: _, h => by cases h
  | _ :: _, [], h => by cases h
  | a :: r, b :: t, h => by
    rw [List.map_cons, List.map_cons] at h
    injection h with h1 h2
    injection h1 with h1
    rw [h1, ints_inj h2]
theorem row_eqAt (I : L2.Inv X pins σ H s) {A : Around} (hu : A.units < cLine) {p q : Addr} {r1 r2 : List Int} (h1 : SqT X.K H p (r1.map V.int)) (h2 : SqT X.K H q (r2.map V.int)) : SeqAt.EqAt A s (.ref p) (.ref q) (decide (r1 = r2)) := by
  by_cases e : p = q
  · subst e
    have e2 : r1 = r2 := ints_inj (I.tuple_inj h1 h2)
    rw [decide_eq_true e2]
    exact SeqAt.EqAt.same _
  · exact SeqAt.EqAt.of_refs e (row_rc I hu h1 h2)
end
section
variable {X : Cx}
def rEqT (K : PySem.W.Frag) (neg : Bool) : R2 := fun x y H Q => ∃ (p q : Addr) (r1 r2 : List Int), x = .ref p ∧ y = .ref q ∧ SqT K H p (r1.map V.int) ∧ SqT K H q (r2.map V.int) ∧ Q (.bl (if neg then !decide (r1 = r2) else decide (r1 = r2))) H
theorem op_eqT (hu : X.A.units < cLine) : OpR X (compareOp .Eq) (rEqT X.K false) := by
  intro pins s σ H x y v u Q I rx ry h
  obtain ⟨p, q, r1, r2, rfl, rfl, h1, h2, k⟩ := h
  cases rx
  cases ry
  exact row_rc I hu h1 h2 _ _ _ _ ⟨.bl _, H, I, rfl, k⟩
theorem op_neT (hu : X.A.units < cLine) : OpR X (compareOp .NotEq) (rEqT X.K true) := by
  intro pins s σ H x y v u Q I rx ry h
  obtain ⟨p, q, r1, r2, rfl, rfl, h1, h2, k⟩ := h
  cases rx
  cases ry
  exact row_rcne I hu h1 h2 _ _ _ _ ⟨.bl _, H, I, rfl, k⟩
/-- the answers over a list of tuples, by the items' addresses -/
def rowOf (ps : List Addr) (rows : List (List Int)) (u : Value) : List Int := match u with
  | .ref p => ((ps.zip rows).lookup p).getD []
  | _ => []
theorem row_of_mem {H : Hp} : ∀ {ps : List Addr} {rows : List (List Int)} {p : Addr} {row : List Int}, TupsAt H ps rows → H p = some (.tup (row.map V.int)) → p ∈ ps → ((ps.zip rows).lookup p).getD [] = row
  | [], _, _, _, _, _, m => by cases m
  | q :: ps, r :: rows, p, row, .cons a t, h, m => by
    rw [List.zip_cons_cons, List.lookup_cons]
    by_cases e : p = q
    · subst e
      rw [h] at a
      have e2 : row = r := ints_inj (by injection (Option.some.inj a))
      simp [e2]
    · have e' : (p == q) = false := by simpa using e
      rw [e']
      exact row_of_mem t h ((List.mem_cons.mp m).resolve_left e)
theorem tups_vals {H : Hp} {ps : List Addr} : ∀ {us : List Value}, Vals (ps.map V.ref) us → us = ps.map Value.ref := by
  induction ps with
  | nil => intro us h; cases h; rfl
  | cons p r ih =>
    intro us h
    cases h with
    | cons a t => rw [ih t, List.map_cons, show _ = Value.ref p from a]
theorem tups_eqAt {pins : List (Addr × Obj)} {σ : L2.St} {H : Hp} {s : Shared} (I : L2.Inv X pins σ H s) {A : Around} (hu : A.units < cLine) {ps : List Addr} {rows : List (List Int)} {p : Addr} {row : List Int} (ht : TupsAt H ps rows) (hp : SqT X.K H p (row.map V.int)) :
    ∀ y, y ∈ (ps.map Value.ref) → SeqAt.EqAt A s y (.ref p) (decide (rowOf ps rows y = row)) := by
  intro y hy
  obtain ⟨q, hq, rfl⟩ := List.mem_map.mp hy
  obtain ⟨i, hi⟩ := List.getElem?_of_mem hq
  obtain ⟨r, _, h2⟩ := paired_get ht hi
  have e : rowOf ps rows (.ref q) = r := row_of_mem ht h2 hq
  rw [e]
  exact row_eqAt I hu (SqT.of h2) hp
theorem rowsOf_map {H : Hp} : ∀ {ps : List Addr} {rows : List (List Int)}, TupsAt H ps rows → (ps.map Value.ref).map (rowOf ps rows) = rows := by
  intro ps rows h
  have key : ∀ (qs : List Addr) (rs : List (List Int)), TupsAt H qs rs → (∀ q ∈ qs, q ∈ ps) → (qs.map Value.ref).map (rowOf ps rows) = rs := by
    intro qs
    induction qs with
    | nil => intro rs hq _; cases hq; rfl
    | cons q qs ih =>
      intro rs hq hm
      cases hq with
      | cons a t =>
        rw [List.map_cons, List.map_cons, ih _ t fun z hz => hm z (List.mem_cons_of_mem _ hz)]
        congr 1
        exact row_of_mem h a (hm q List.mem_cons_self)
  exact key ps rows h fun _ h => h
theorem any_rows {H : Hp} {ps : List Addr} {rows : List (List Int)} (h : TupsAt H ps rows) (row : List Int) : (ps.map Value.ref).any (fun y => decide (rowOf ps rows y = row)) = decide (row ∈ rows) := by
  rw [Bool.eq_iff_iff, List.any_eq_true, decide_eq_true_eq]
  have e := rowsOf_map h
  constructor
  · rintro ⟨y, hy, he⟩
    rw [← e]
    exact List.mem_map.mpr ⟨y, hy, of_decide_eq_true he⟩
  · intro m
    rw [← e] at m
    obtain ⟨y, hy, he⟩ := List.mem_map.mp m
    exact ⟨y, hy, decide_eq_true he⟩
def rInT (K : PySem.W.Frag) (neg : Bool) : R2 := fun x y H Q => ∃ (p r : Addr) (row : List Int) (rows : List (List Int)), x = .ref p ∧ y = .ref r ∧ SqT K H p (row.map V.int) ∧ Tups H r rows ∧ Q (.bl (if neg then !decide (row ∈ rows) else decide (row ∈ rows))) H
theorem op_inT (hu : X.A.units + 1 < cLine) : OpR X (compareOp .In) (rInT X.K false) := by
  intro pins s σ H x y v u Q I rx ry h
  obtain ⟨p, r, row, rows, rfl, rfl, hp, ⟨ps, hr, ht⟩, k⟩ := h
  cases rx
  cases ry
  obtain ⟨its, vs, pl, hz⟩ := I.list (SqL.of hr)
  obtain rfl := tups_vals (H := H) vs
  refine SeqAt.in_listAt (fun y => decide (rowOf ps rows y = row)) pl.isList (fun y hy => tups_eqAt I (by show X.A.units + 1 < cLine; exact hu) ht hp y (by simpa using hy)) ⟨.bl _, H, I, rfl, ?_⟩
  rw [show (ps.map Value.ref).toArray.any (fun y => decide (rowOf ps rows y = row)) = (ps.map Value.ref).any (fun y => decide (rowOf ps rows y = row)) by simp, any_rows ht]
  exact k
theorem op_notInT (hu : X.A.units + 1 < cLine) : OpR X (compareOp .NotIn) (rInT X.K true) := by
  intro pins s σ H x y v u Q I rx ry h
  obtain ⟨p, r, row, rows, rfl, rfl, hp, ⟨ps, hr, ht⟩, k⟩ := h
  cases rx
  cases ry
  obtain ⟨its, vs, pl, hz⟩ := I.list (SqL.of hr)
  obtain rfl := tups_vals (H := H) vs
  refine SeqAt.notIn_listAt (fun y => decide (rowOf ps rows y = row)) pl.isList (fun y hy => tups_eqAt I (by show X.A.units + 1 < cLine; exact hu) ht hp y (by simpa using hy)) ⟨.bl _, H, I, rfl, ?_⟩
  rw [show (ps.map Value.ref).toArray.any (fun y => decide (rowOf ps rows y = row)) = (ps.map Value.ref).any (fun y => decide (rowOf ps rows y = row)) by simp, any_rows ht]
  exact k
def rCountT (K : PySem.W.Frag) : V → List V → Hp → VK → Prop := fun x vs H Q => ∃ (l p : Addr) (row : List Int) (rows : List (List Int)), x = .ref l ∧ vs = [.ref p] ∧ SqT K H p (row.map V.int) ∧ Tups H l rows ∧ Q (.int ((rows.count row : Nat) : Int)) H
theorem mt_countT (hu : X.A.units + 1 < cLine) : MtR X "list.count" (rCountT X.K) := by
  intro pins s σ H x vs v us Q I rx rv h
  obtain ⟨l, p, row, rows, rfl, rfl, hp, ⟨ps, hr, ht⟩, k⟩ := h
  cases rx
  obtain ⟨u, rfl, ru⟩ := rv.one
  cases ru
  obtain ⟨its, vv, pl, hz⟩ := I.list (SqL.of hr)
  obtain rfl := tups_vals (H := H) vv
  obtain ⟨⟨cls, dd, data, sl⟩, ho, hc, n, hd⟩ := id pl.isList
  simp only at hc hd
  subst hc hd
  refine call_meets PySem.F.slot_list_count ⟨_, ho, rfl⟩ PySem.F.entry_list_count (PySem.F.args_list_count_2 _ _) (SeqAt.list_countAt l (ps.map Value.ref).toArray n dd sl (.ref p) (fun y => decide (rowOf ps rows y = row))) ⟨ho, fun y hy => tups_eqAt I (by show X.A.units + 1 < cLine; exact hu) ht hp y (by simpa using hy), ?_⟩
  refine ⟨.int _, H, I.tok _, ⟨_, rfl⟩, ?_⟩
  have e : (ps.map Value.ref).countP (fun y => decide (rowOf ps rows y = row)) = rows.count row := by
    have e2 := rowsOf_map ht
    have e3 : (List.map (rowOf ps rows) (ps.map Value.ref)).count row = (ps.map Value.ref).countP (fun y => decide (rowOf ps rows y = row)) := by
      rw [List.count, List.countP_map]
      refine List.countP_congr fun y _ => ?_
      simp
    rw [← e3, e2]
  rw [e]
  exact k
/-! ### lists of tuples of ints: ==, != -/
def rEqL (neg : Bool) : R2 := fun x y H Q => ∃ (a b : Addr) (rows1 rows2 : List (List Int)), x = .ref a ∧ y = .ref b ∧ Tups H a rows1 ∧ Tups H b rows2 ∧ Q (.bl (if neg then !decide (rows1 = rows2) else decide (rows1 = rows2))) H
theorem rowsL_eq : ∀ r1 r2 : List (List Int), r1.length = r2.length → (List.range r1.length).all (fun j => decide (r1.getD j [] = r2.getD j [])) = decide (r1 = r2) := by
  intro r1 r2 hl
  by_cases e : r1 = r2
  · subst e
    simp
  · rw [decide_eq_false e]
    cases h : (List.range r1.length).all (fun j => decide (r1.getD j [] = r2.getD j [])) with
    | false => rfl
    | true =>
      exfalso
      rw [List.all_eq_true] at h
      refine e (List.ext_getElem hl fun j a b => ?_)
      have q := of_decide_eq_true (h j (List.mem_range.mpr a))
      rw [List.getD_eq_getElem?_getD, List.getD_eq_getElem?_getD, List.getElem?_eq_getElem a, List.getElem?_eq_getElem b] at q
      exact q
theorem listsL {pins : List (Addr × Obj)} {σ : L2.St} {H : Hp} {s : Shared} (I : L2.Inv X pins σ H s) {A : Around} (hu : A.units < cLine) {p1 p2 : List Addr} {r1 r2 : List (List Int)} (h1 : TupsAt H p1 r1) (h2 : TupsAt H p2 r2) (j : Nat)
    (a : j < (p1.map Value.ref).toArray.size) (b : j < (p2.map Value.ref).toArray.size) : SeqAt.EqAt A s (p1.map Value.ref).toArray[j] (p2.map Value.ref).toArray[j] (decide (r1.getD j [] = r2.getD j [])) := by
  have a' : j < p1.length := by simpa using a
  have b' : j < p2.length := by simpa using b
  obtain ⟨x1, e1, f1⟩ := paired_get h1 (List.getElem?_eq_getElem a')
  obtain ⟨x2, e2, f2⟩ := paired_get h2 (List.getElem?_eq_getElem b')
  have g1 : r1.getD j [] = x1 := by rw [List.getD_eq_getElem?_getD, e1]; rfl
  have g2 : r2.getD j [] = x2 := by rw [List.getD_eq_getElem?_getD, e2]; rfl
  rw [g1, g2]
  have k1 : (p1.map Value.ref).toArray[j] = .ref p1[j] := by simp
  have k2 : (p2.map Value.ref).toArray[j] = .ref p2[j] := by simp
  rw [k1, k2]
  exact row_eqAt I hu (SqT.of f1) (SqT.of f2)
theorem op_eqL (hu : X.A.units + 1 < cLine) : OpR X (compareOp .Eq) (rEqL false) := by
  intro pins s σ H x y v u Q I rx ry h
  obtain ⟨a, b, r1, r2, rfl, rfl, ⟨p1, h1, t1⟩, ⟨p2, h2, t2⟩, k⟩ := h
  cases rx
  cases ry
  obtain ⟨i1, v1, l1, z1⟩ := I.list (SqL.of h1)
  obtain ⟨i2, v2, l2, z2⟩ := I.list (SqL.of h2)
  obtain rfl := tups_vals (H := H) v1
  obtain rfl := tups_vals (H := H) v2
  have n1 := t1.len
  have n2 := t2.len
  by_cases e : r1.length = r2.length
  · refine SeqAt.eq_listAt (e := fun j => decide (r1.getD j [] = r2.getD j [])) l1.isList l2.isList (by simp; omega) (by omega) (fun j a b => listsL I (by show X.A.units + 1 < cLine; exact hu) t1 t2 j a b) ⟨.bl _, H, I, rfl, ?_⟩
    rw [show (p1.map Value.ref).toArray.size = r1.length by simp; omega, rowsL_eq _ _ e]
    exact k
  · refine SeqAt.eq_list_lengthsAt l1.isList l2.isList (by simp; omega) (by omega) ⟨.bl _, H, I, rfl, ?_⟩
    have ne : ¬ r1 = r2 := fun q => e (by rw [q])
    simp only [Bool.false_eq_true, if_false] at k
    rw [decide_eq_false ne] at k
    exact k
theorem op_neL (hu : X.A.units + 1 < cLine) : OpR X (compareOp .NotEq) (rEqL true) := by
  intro pins s σ H x y v u Q I rx ry h
  obtain ⟨a, b, r1, r2, rfl, rfl, ⟨p1, h1, t1⟩, ⟨p2, h2, t2⟩, k⟩ := h
  cases rx
  cases ry
  obtain ⟨i1, v1, l1, z1⟩ := I.list (SqL.of h1)
  obtain ⟨i2, v2, l2, z2⟩ := I.list (SqL.of h2)
  obtain rfl := tups_vals (H := H) v1
  obtain rfl := tups_vals (H := H) v2
  have n1 := t1.len
  have n2 := t2.len
  by_cases e : r1.length = r2.length
  · refine SeqAt.RcNeAt.lists (e := fun j => decide (r1.getD j [] = r2.getD j [])) l1.isList l2.isList (by simp; omega) (by omega) (fun j a b => listsL I (by show X.A.units + 1 < cLine; exact hu) t1 t2 j a b) _ _ _ _ ⟨.bl _, H, I, rfl, ?_⟩
    rw [show (p1.map Value.ref).toArray.size = r1.length by simp; omega, rowsL_eq _ _ e]
    exact k
  · refine SeqAt.RcNeAt.lists_lengths l1.isList l2.isList (by simp; omega) (by omega) _ _ _ _ ⟨.bl _, H, I, rfl, ?_⟩
    have ne : ¬ r1 = r2 := fun q => e (by rw [q])
    simp only [if_true] at k
    rw [decide_eq_false ne] at k
    exact k
end
/-! ### what a comprehension's names are -/
theorem sub_nil {cells : List (Str × Addr)} : ∀ (y : Str) (c : Addr), ([] : List (Str × Addr)).lookup y = some c → cells.lookup y = some c := fun _ _ h => by cases h
theorem sub_cons {cells cl : List (Str × Addr)} {y0 : Str} {c0 : Addr} (h : cells.lookup y0 = some c0) (r : ∀ (y : Str) (c : Addr), cl.lookup y = some c → cells.lookup y = some c) :
    ∀ (y : Str) (c : Addr), ((y0, c0) :: cl).lookup y = some c → cells.lookup y = some c := fun y c q => by
  rw [List.lookup_cons] at q
  by_cases e : (y == y0) = true
  · rw [e] at q
    have e' : y = y0 := by simpa using e
    subst e'
    have : c0 = c := Option.some.inj q
    rw [h, this]
  · have e' : (y == y0) = false := by simpa using e
    rw [e'] at q
    exact r y c q
def AllSome (cl : List (Str × Addr)) : List Str → Prop
  | [] => True
  | y :: r => (∃ c, cl.lookup y = some c) ∧ AllSome cl r
theorem has_of {names : List (Str × NameKind)} {cl : List (Str × Addr)} : ∀ {ys : List Str}, (∀ p ∈ names, p.2 = .free → p.1 ∈ ys) → AllSome cl ys → ∀ y, (y, NameKind.free) ∈ names → ∃ c, cl.lookup y = some c := by
  intro ys h g y m
  have key : ∀ ys : List Str, AllSome cl ys → y ∈ ys → ∃ c, cl.lookup y = some c := by
    intro ys
    induction ys with
    | nil => intro _ m; cases m
    | cons z r ih =>
      intro g m
      rcases List.mem_cons.mp m with e | e
      · rw [e]; exact g.1
      · exact ih g.2 e
  exact key ys g (h _ m rfl)
theorem yes_ite {σ : L2.St} {H : Hp} {A B : Hp → Prop} (h : A H) : tYes σ H (fun b H2 => if b = true then A H2 else B H2) := by
  show if true = true then A H else B H
  rw [if_pos rfl]
  exact h
end GR
namespace GR
open PySem PySem.Spec PyProof.Rows L2
/-! ### enumerate over a list -/
def Ite (K : PySem.W.Frag) (a : Addr) : It :=
  ⟨fun i H => ∃ xs x, SqL K H a xs ∧ xs[i]? = some x, fun i H x H' => ∃ p y, H p = none ∧ x = .ref p ∧ H' = upd H p (.tup [.int (i : Int), y]) ∧ ∀ xs, SqL K H a xs → xs[i]? = some y, fun i H => ∃ xs, SqL K H a xs ∧ xs.length ≤ i⟩
theorem turn_enum {P : Program} {w : World} {K : PySem.W.Frag} {es : List Expr} {x1 : Nat} {tp : Pos} (a e it : Addr) (hne : e ≠ it) :
    Turn P w K (.Tuple es x1 tp) (Ite K a) [e, it] e (fun i h => (∃ old, IsEnum h e it (i : Int) old) ∧ h.IsListIter it a i) where
  mem := by simp
  obj := fun i h st b hb => by
    rcases List.mem_cons.mp hb with z | z
    · subst z
      obtain ⟨old, he⟩ := st.1
      exact ⟨_, he, fun v z => by cases z⟩
    · have z := List.mem_singleton.mp z
      subst z
      obtain ⟨o, e, c, d⟩ := st.2
      exact ⟨o, e, fun v z => by rw [d] at z; cases z⟩
  keep := fun i h h' st k => ⟨by obtain ⟨old, he⟩ := st.1; exact ⟨old, k e (by simp) _ he⟩, st.2.at fun o e => k it (by simp) o e⟩
  item := by
    intro X hP hw hK hc i pins s σ H E I hf st hg
    subst hP hw hK
    obtain ⟨xs, x, hq, hx⟩ := hg
    obtain ⟨its, rv, p, hz⟩ := I.list hq
    obtain ⟨u, hu, ru⟩ := rv.get hx
    obtain ⟨⟨old, he⟩, hit⟩ := st
    have fe := hf e (by simp)
    have fi := hf it (by simp)
    refine wpAny_pyNext_enum_item he hit p.isList (x := u) (by simpa using hu) hne fun h' he' hit' ht hsz hk => ?_
    refine ⟨.ref s.heap.objs.size, rfl, wpAny_letOwnedTupleGo_enum he' fun h'' he'' sb => ?_⟩
    have hfr : H s.heap.objs.size = none := I.hok.fresh (Nat.le_refl _)
    have nes : ∀ b o, s.heap.get? b = some o → b ≠ s.heap.objs.size := fun b o q => Nat.ne_of_lt (Heap.lt_size q)
    have lte : e < s.heap.objs.size := Heap.lt_size he
    have kk : ∀ b o, b ≠ e → b ≠ it → s.heap.get? b = some o → h''.get? b = some o := fun b o h1 h2 q => sb.extBut b o h1 (hk b o h1 h2 q)
    have ht'' : h''.get? s.heap.objs.size = some { cls := .type "tuple", data := .seq #[.int (i : Int) s.toks, u] } := sb.extBut _ _ (Nat.ne_of_gt lte) ht
    have nch : ∀ b, b ∉ [e, it] → b ≠ e ∧ b ≠ it := fun b hb => ⟨fun z => hb (by simp [z]), fun z => hb (by simp [z])⟩
    have U : Un (frs X.stack) [e, it] H (upd H s.heap.objs.size (.tup [.int (i : Int), x])) s.heap h'' := by
      refine ⟨fun b o q n _ hb => kk b o (nch b hb).1 (nch b hb).2 q, fun b o q n _ hb => ⟨o.slots, kk b o (nch b hb).1 (nch b hb).2 q⟩, fun b o q n _ => by rw [upd_ne (nes b o q)]; exact n, fun b o q hb => ⟨o, kk b o (nch b hb).1 (nch b hb).2 q⟩,
        fun b ys q => by rw [upd_ne (ne_of_none q hfr)]; exact q, fun b o v q => by rw [upd_ne (ne_of_none q hfr)]; exact q, fun b ps q => ⟨#[], by rw [upd_ne (ne_of_none q hfr), q]; simp⟩⟩
    have hok : HOk X.prog X.w (upd H s.heap.objs.size (.tup [.int (i : Int), x])) h'' := by
      intro b o q
      by_cases z : b = s.heap.objs.size
      · subst z
        rw [upd_same] at q
        cases q
        exact ⟨by show 2 ≤ sizeLine; decide, [.int (i : Int) s.toks, u], .cons ⟨_, rfl⟩ (.cons ru .nil), ⟨_, ht'', rfl, _, rfl⟩⟩
      · rw [upd_ne z] at q
        refine (I.hok b o q).stay (fun c v hc qq => ?_) (fun c qq => by rw [upd_ne (ne_of_none qq hfr)]; exact qq) fun c ys qq => by rw [upd_ne (ne_of_none qq hfr)]; exact qq
        have hcn : H c ≠ none := by
          rcases hc with hc | hc
          · rw [hc, q]; simp
          · rw [hc]; simp
        exact kk c v (fun z => hcn (by rw [z]; exact fe.1)) (fun z => hcn (by rw [z]; exact fi.1)) qq
    have hch : ∀ b ∈ [e, it], (b ∈ X.ex ∨ X.s₀.heap.objs.size ≤ b) ∧ b ≠ X.env.locals ∧ (∀ x c, X.env.cells.lookup x = some c → c ≠ b) ∧ ∀ p ∈ X.pn ++ pins, p.1 ≠ b := fun b hb => by
      obtain ⟨_, f1, _, f3, f4, f5⟩ := hf b hb
      exact ⟨f3, f1, f4, f5⟩
    have I' : L2.Inv X pins σ (upd H s.heap.objs.size (.tup [.int (i : Int), x])) { s with heap := h'', toks := s.toks + 1 } := I.call (g' := s.gens) (d' := s.drawn) (t' := s.toks + 1) (ch := [e, it]) U hok I.bare hch
    refine ⟨.ref s.heap.objs.size, _, I', rfl, ⟨_, x, hfr, rfl, rfl, fun ys hy => by rw [I.list_inj hy hq]; exact hx⟩, ⟨⟨u, ?_⟩, hit'.at fun o q => sb.extBut _ _ (Ne.symm hne) q⟩, fun b hb => ?_⟩
    · exact he''
    · rw [upd_ne]
      · exact (hf b hb).1
      · obtain ⟨o, q, _⟩ : ∃ o, s.heap.get? b = some o ∧ True := by
          rcases List.mem_cons.mp hb with z | z
          · rw [z]; exact ⟨_, he, trivial⟩
          · rw [List.mem_singleton.mp z]
            obtain ⟨o, q, _⟩ := hit
            exact ⟨o, q, trivial⟩
        exact nes b o q
  done := by
    intro X hP hw hK hc i pins s σ H E I hf st hg
    subst hP hw hK
    obtain ⟨xs, hq, hx⟩ := hg
    obtain ⟨its, rv, p, hz⟩ := I.list hq
    obtain ⟨⟨old, he⟩, hit⟩ := st
    obtain ⟨f0, f1, f2, f3, f4, f5⟩ := hf it (by simp)
    have hl := rv.length
    exact wpAny_pyNext_enum_end (I.ok.hd hc) he hit p.isList (by simp; omega) fun h' eb => ⟨rfl, I.turned (t' := s.toks) (fun b o hb e => eb b o hb e) f0 f1 f3 f4 f5⟩
  self := fun _ _ _ _ _ st h => by
    obtain ⟨old, he⟩ := st.1
    exact wpAny_pyIter_enum he h
section
variable {X : Cx}
def iEnum (K : PySem.W.Frag) (ta : TA) : TI := fun σ H R => ta σ H fun vs H1 => ∃ a, vs = [.ref a] ∧ (∃ xs, SqL K H1 a xs) ∧ R (Ite K a) H1
theorem pi_enum {l : Expr} {ta : TA} {es : List Expr} {x1 : Nat} {tp p pos : Pos} (hg : Gl X "enumerate") (hm : X.mg "enumerate" = none) (ha : PA X [l] ta) (hs : starEach [l] X.env = [(false, eval l X.env)] := by rfl) :
    PI X (.Tuple es x1 tp) (.Call (.Name "enumerate" p) [l] [] pos) (iEnum X.K ta) := by
  intro pins s σ H R I h
  refine Call_ (ld_blt I hg hm boot_enumerate (PyProof.Rows.callWith_type1 (thn (ha pos pins s σ H _ I h) fun us s1 ⟨vs, H1, I1, r1, q1⟩ => ?_) hs rfl))
  obtain ⟨a, e, ⟨xs, hq⟩, q⟩ := q1
  subst e
  obtain ⟨u, rfl, ru⟩ := vals1 r1
  cases ru
  obtain ⟨its, rv, pl, hz⟩ := I1.list hq
  refine call_enumerate_list pl.isList fun h' he hit hsz hk => ?_
  refine wpAny_pyIter_enum he ?_
  refine ⟨s1.heap.objs.size + 1, [s1.heap.objs.size + 1, s1.heap.objs.size], _, _, H1, rfl, I1.kept (t' := s1.toks) hk, turn_enum a _ _ (Nat.succ_ne_self _), ⟨⟨_, he⟩, hit⟩, fun b hb => ?_, q⟩
  have hb' : s1.heap.objs.size ≤ b := by
    rcases List.mem_cons.mp hb with z | z
    · rw [z]; exact Nat.le_succ _
    · rw [List.mem_singleton.mp z]; exact Nat.le_refl _
  exact I1.fpOk hb' (I1.hok.fresh hb')
def rGetL (K : PySem.W.Frag) : V → V → Hp → VK → Prop := fun o i H Q => ∃ p xs k v, o = .ref p ∧ i = .int k ∧ 0 ≤ k ∧ SqL K H p xs ∧ atI xs k = some v ∧ Q v H
theorem get_list : PGet X (rGetL X.K) := by
  intro pins s σ H o i ov iv Q I ro ri h
  obtain ⟨p, xs, k, v, rfl, rfl, h0, hq, hat, q⟩ := h
  cases ro
  obtain ⟨t, rfl⟩ := ri
  obtain ⟨its, r, pl, hz⟩ := I.list hq
  obtain ⟨j, hj, hv, h1, h2, h3⟩ := atI_get hat
  obtain ⟨u, hu, ru⟩ := r.get hv
  have hl := r.length
  have hn := line63
  have hk : k.toNat = j := by
    rw [seqIndex_of h0 h3] at hj
    exact Option.some.inj hj
  exact wpAny_getItem_list pl.isList h0 (by omega) (by rw [hk]; simpa using hu) ⟨v, H, I, ru, q⟩
end
theorem for_enum {K : PySem.W.Frag} {a : Addr} {xs : List V} {g : TG} {tb : TS} {D : Ends} {σ : L2.St} {H : Hp} (Pv : Nat → L2.St → Hp → Prop) (h0 : Pv 0 σ H) (hl : ∀ i σ H, i ≤ xs.length → Pv i σ H → SqL K H a xs)
    (hs : ∀ i x σ H p, xs[i]? = some x → Pv i σ H → H p = none → g (.ref p) σ (upd H p (.tup [.int (i : Int), x])) fun σ2 H2 => tb { D with nx := Pv (i + 1), ct := Pv (i + 1), bk := D.nx } σ2 H2) (hd : ∀ σ H, Pv xs.length σ H → D.nx σ H) :
    ∃ W : Nat → Nat → L2.St → Hp → Prop, (∃ m, W 0 m σ H) ∧ ∀ i m σ H, W i m σ H →
      ((Ite K a).stop i H ∧ D.nx σ H) ∨ ((Ite K a).go i H ∧ ∃ N : L2.St → Hp → Prop, (∀ σ' H', N σ' H' → ∃ m', m' < m ∧ W (i + 1) m' σ' H') ∧ ∀ x H', (Ite K a).yld i H x H' → g x σ H' fun σ2 H2 => tb { D with nx := N, ct := N, bk := D.nx } σ2 H2) := by
  refine ⟨fun i m σ H => Pv i σ H ∧ i ≤ xs.length ∧ m = xs.length - i, ⟨_, h0, Nat.zero_le _, rfl⟩, fun i m σ H ⟨p, hi, hm⟩ => ?_⟩
  have l := hl i σ H hi p
  by_cases e : i = xs.length
  · subst e
    exact .inl ⟨⟨xs, l, Nat.le_refl _⟩, hd σ H p⟩
  · have hlt : i < xs.length := by omega
    refine .inr ⟨⟨xs, xs[i], l, List.getElem?_eq_getElem hlt⟩, Pv (i + 1), fun σ' H' q => ⟨m - 1, by omega, q, by omega, by omega⟩, fun x H' ⟨pp, y, hp, ex, eH, hy⟩ => ?_⟩
    subst ex
    subst eH
    exact hs i y σ H pp (hy xs l) p hp
end GR
namespace GR
open PySem PyProof.Rows L2 HT
def lexGt : List Int → List Int → Bool
  | [], [] => false
  | [], _ :: _ => false
  | _ :: _, [] => true
  | x :: xs, y :: ys => if x = y then lexGt xs ys else decide (y < x)
theorem lexGt_cons (x y : Int) (xs ys : List Int) : lexGt (x :: xs) (y :: ys) = if x = y then lexGt xs ys else decide (y < x) := rfl
theorem lexGt_nil_nil : lexGt [] [] = false := rfl
theorem lexGt_nil_cons (y : Int) (ys : List Int) : lexGt [] (y :: ys) = false := rfl
theorem lexGt_cons_nil (x : Int) (xs : List Int) : lexGt (x :: xs) [] = true := rfl
theorem rcGt_int (A : Around) (s : Shared) (a : Int) (t : Tok) (c : Int) (u : Tok) (prog : Program) (w : World) (E : Value → Shared → Prop) (Q : Value → Shared → Prop) (h : Q (.bool (decide (c < a))) s) :
    wpAny (model prog w) A (richCompare .Gt (.int a t) (.int c u)) Q E s :=
  (PyProof.Rows.gt_int h : wpAny (model prog w) A (compareOp .Gt (.int a t) (.int c u)) Q E s)
section
open PySem.SeqAt
open PySem.AutoSeq1 (wpAny_loadPart')
open PySem.MeetsSeq PySem.MeetsSeq2 PySem.MeetsSeq3
theorem tuple_gt_ints (l b : Addr) (items items2 : Array Value) (n n2 : Nat) (dd dd2 : Option Addr) (sl sl2 : Array (Option Value)) (ns ms : List Int) (hi : IntsAre items.toList ns) (hj : IntsAre items2.toList ms) :
    Meets (Builtin.«tuple.__gt__» ⟨[.ref l, .ref b], []⟩)
      (fun _ R s => s.heap.get? l = some { cls := .type "tuple", dict := dd, data := .seq items n, slots := sl } ∧ s.heap.get? b = some { cls := .type "tuple", dict := dd2, data := .seq items2 n2, slots := sl2 } ∧
        R (.ok (.ret (.bool (lexGt ns ms)))) s) :=
  .of_wp fun prog w A R s h => by
    obtain ⟨hp, g, d, tk, os⟩ := s; obtain ⟨hl, hb, h⟩ := h
    have f2 := AutoSeq1.sub_tuple_tuple
    have z1 : items.size = ns.length := by rw [← hi.length]; simp
    have z2 : items2.size = ms.length := by rw [← hj.length]; simp
    wp_walk using wpAny_loadPart' hl, wpAny_loadPart' hb, wpAny_forIn_list _ (fun rest b s' => b.1 = none ∧ s' = ⟨hp, g, d, tk, os⟩ ∧ ∃ (vs ws : List Value) (ns' ms' : List Int), rest = vs.zip ws ∧
      IntsAre vs ns' ∧ IntsAre ws ms' ∧ ns'.length + items2.size = ms'.length + items.size ∧ R (.ok (.ret (.bool (lexGt ns' ms')))) ⟨hp, g, d, tk, os⟩) _
    case turn =>
      rintro ⟨y, x⟩ rest b s' ⟨hb', rfl, vs, ws, ns', ms', hz, hvi, hwi, hlen, hR⟩
      cases hvi with
      | nil => rw [List.zip_nil_left] at hz; cases hz
      | cons a t hvi' =>
        cases hwi with
        | nil => rw [List.zip_nil_right] at hz; cases hz
        | cons c u hwi' =>
          rw [List.zip_cons_cons] at hz
          injection hz with hyx hrest
          injection hyx with hy hx
          subst hy hx
          rw [lexGt_cons] at hR
          simp only [List.length_cons] at hlen
          obtain ⟨e, he, hiff⟩ := eqAt_int A.in1 ⟨hp, g, d, tk, os⟩ a t c u
          refine wpAny_bind (he prog w _ _ ?_)
          cases e with
          | true =>
            rw [if_pos (hiff.mp rfl)] at hR
            wp_walk
            exact ⟨rfl, rfl, _, _, _, _, hrest, hvi', hwi', by omega, hR⟩
          | false =>
            rw [if_neg (fun q => absurd (hiff.mpr q) Bool.false_ne_true)] at hR
            have hri := rcGt_int A.in1 ⟨hp, g, d, tk, os⟩ a t c u prog w
            wp_walk using hri
            exact ⟨_, rfl, by simpa using hR⟩
    case fin =>
      rintro ⟨b1, b2⟩ s' ⟨hb', rfl, vs, ws, ns', ms', hz, hvi, hwi, hlen, hR⟩
      simp only at hb'
      subst hb'
      have hv : lexGt ns' ms' = decide (items.size > items2.size) := by
        cases hvi with
        | nil =>
          cases hwi with
          | nil =>
            simp only [List.length_nil] at hlen
            rw [lexGt_nil_nil]
            exact (decide_eq_false (by omega)).symm
          | cons c u hw =>
            simp only [List.length_nil, List.length_cons] at hlen
            rw [lexGt_nil_cons]
            exact (decide_eq_false (by omega)).symm
        | cons a t hv =>
          cases hwi with
          | nil =>
            simp only [List.length_nil, List.length_cons] at hlen
            rw [lexGt_cons_nil]
            exact (decide_eq_true (by omega)).symm
          | cons c u hw =>
            rw [List.zip_cons_cons] at hz
            cases hz
      rw [hv] at hR
      wp_walk
      exact ⟨_, rfl, by simpa [Builtin.Tuple.tupleCompareSizes] using hR⟩
    case h =>
      exact ⟨rfl, rfl, items.toList, items2.toList, ns, ms, rfl, hi, hj, by omega, h⟩
end
section
variable {prog : Program} {w : World} {A : Around} {E : Value → Shared → Prop} {s : Shared}
theorem gt_tupInts {l b : Addr} {items items2 : Array Value} {ns ms : List Int} {Q : Value → Shared → Prop} (hl : IsTup s.heap l items) (hb : IsTup s.heap b items2) (hi : IntsAre items.toList ns) (hj : IntsAre items2.toList ms)
    (hu : A.units < cLine) (h : Q (.bool (lexGt ns ms)) s) : wpAny (model prog w) A (compareOp .Gt (.ref l) (.ref b)) Q E s := by
  obtain ⟨⟨cls, dd, data, sl⟩, ho, hc, n, hd⟩ := id hl
  obtain ⟨⟨cls2, dd2, data2, sl2⟩, ho2, hc2, n2, hd2⟩ := id hb
  simp only at hc hd hc2 hd2
  subst hc hd hc2 hd2
  exact richCompare_meets_room (op := .Gt) ⟨_, ho, rfl⟩ ⟨_, ho2, rfl⟩ PySem.F.slot_tuple_gt PySem.F.entry_tuple_gt (PySem.F.args_tuple_gt_2 _ _) (tuple_gt_ints l b items items2 n n2 dd dd2 sl sl2 ns ms hi hj)
    ⟨ho, ho2, show Value.bool (lexGt ns ms) ≠ Value.notImplemented ∧ Q (.bool (lexGt ns ms)) s from ⟨(fun x => nomatch x), h⟩⟩ hu
end
section
variable {X : Cx}
def rGtT (K : PySem.W.Frag) : R2 := fun x y H Q => ∃ (a b : Addr) (ns ms : List Int), x = .ref a ∧ y = .ref b ∧ SqT K H a (ns.map V.int) ∧ SqT K H b (ms.map V.int) ∧ Q (.bl (lexGt ns ms)) H
theorem op_gtT (hu : X.A.units < cLine) : OpR X (compareOp .Gt) (rGtT X.K) := by
  intro pins s σ H x y v u Q I rx ry h
  obtain ⟨a, b, ns, ms, rfl, rfl, ha, hb, q⟩ := h
  cases rx
  cases ry
  obtain ⟨i1, v1, t1, z1⟩ := I.tuple ha
  obtain ⟨i2, v2, t2, z2⟩ := I.tuple hb
  exact gt_tupInts t1 t2 (by simpa using intsAre_of v1) (by simpa using intsAre_of v2) hu ⟨.bl _, H, I, rfl, q⟩
end
end GR
/-! ### the sort's tree of questions, under a strict order -/
namespace GR
open PySem PySem.W PyProof.Rows
def runT {α : Type} (lt : Nat → Nat → Bool) : KasT α → α
  | .ret a => a
  | .ask i j k => runT lt (k (lt i j))
theorem runT_bind {α β : Type} (lt : Nat → Nat → Bool) (f : α → KasT β) : ∀ t : KasT α, runT lt (t.bind f) = runT lt (f (runT lt t))
  | .ret _ => rfl
  | .ask i j k => runT_bind lt f (k (lt i j))
/-- only places below n are asked on the way -/
def Asks {α : Type} (lt : Nat → Nat → Bool) (n : Nat) : KasT α → Prop
  | .ret _ => True
  | .ask i j k => i < n ∧ j < n ∧ Asks lt n (k (lt i j))
theorem Asks.bind {α β : Type} {lt : Nat → Nat → Bool} {n : Nat} {f : α → KasT β} : ∀ {t : KasT α}, Asks lt n t → Asks lt n (f (runT lt t)) → Asks lt n (t.bind f)
  | .ret _, _, hf => hf
  | .ask _ _ _, h, hf => ⟨h.1, h.2.1, Asks.bind h.2.2 hf⟩
theorem Asks.run {α : Type} {n : Nat} {lt : Nat → Nat → Bool} {cmp : Nat → Nat → (Bool → Shared → Prop) → Shared → Prop} {s : Shared} {Q : α → Shared → Prop} (hc : ∀ i j C, i < n → j < n → C (lt i j) s → cmp i j C s) :
    ∀ {t : KasT α}, Asks lt n t → Q (runT lt t) s → t.kasWp cmp Q s
  | .ret _, _, q => q
  | .ask i j k, h, q => hc i j _ h.1 h.2.1 (Asks.run hc h.2.2 q)
def Below (n : Nat) (p : Array Nat) : Prop := ∀ k, p.getD k 0 < n
theorem below_perm {n : Nat} {p q : Array Nat} (hn : 0 < n) (h : q.Perm p) (b : Below n p) : Below n q := by
  intro k
  by_cases hk : k < q.size
  · have e : q.getD k 0 = q[k] := by simp [Array.getD, hk]
    rw [e]
    have m : q[k] ∈ p := h.mem_iff.mp (Array.getElem_mem hk)
    obtain ⟨i, hi, e2⟩ := Array.mem_iff_getElem.mp m
    have := b i
    rw [show p.getD i 0 = p[i] by simp [Array.getD, hi], e2] at this
    exact this
  · have e : q.getD k 0 = 0 := by simp [Array.getD, hk]
    rw [e]
    exact hn
theorem asks_asc {lt : Nat → Nat → Bool} {n : Nat} {p : Array Nat} (b : Below n p) : ∀ f m, Asks lt n (kas_asc p f m)
  | 0, _ => trivial
  | f + 1, m => by
    refine ⟨b _, b _, ?_⟩
    show Asks lt n (if lt (p.getD m 0) (p.getD (m - 1) 0) = true then KasT.ret m else kas_asc p f (m + 1))
    split
    · exact trivial
    · exact asks_asc b f (m + 1)
theorem asks_place {lt : Nat → Nat → Bool} {n : Nat} {p : Array Nat} (b : Below n p) (k : Nat) : ∀ f l r, Asks lt n (kas_place p k f l r)
  | 0, _, _ => trivial
  | f + 1, l, r => by
    unfold kas_place
    split
    · exact trivial
    · refine ⟨b _, b _, ?_⟩
      show Asks lt n (if lt (p.getD k 0) (p.getD ((l + r) / 2) 0) = true then kas_place p k f l ((l + r) / 2) else kas_place p k f ((l + r) / 2 + 1) r)
      split
      · exact asks_place b k f _ _
      · exact asks_place b k f _ _
/-- the order among the n places -/
structure LtOk (n : Nat) (lt : Nat → Nat → Bool) : Prop where
  irr : ∀ i, lt i i = false
  tr : ∀ i j k, lt i j = true → lt j k = true → lt i k = true
  tot : ∀ i j, i < n → j < n → i ≠ j → lt i j = true ∨ lt j i = true
theorem LtOk.asym {n : Nat} {lt : Nat → Nat → Bool} (o : LtOk n lt) {i j : Nat} (h : lt i j = true) : lt j i = false := by
  cases e : lt j i with
  | false => rfl
  | true =>
    have := o.tr i j i h e
    rw [o.irr] at this
    cases this
/-- a permutation of the places -/
structure PermOk (n : Nat) (p : Array Nat) : Prop where
  pm : p.Perm (List.toArray (List.range n))
theorem PermOk.size {n : Nat} {p : Array Nat} (h : PermOk n p) : p.size = n := by rw [h.pm.size_eq]; simp
theorem PermOk.below {n : Nat} {p : Array Nat} (hn : 0 < n) (h : PermOk n p) : Below n p := by
  refine below_perm hn h.pm fun k => ?_
  by_cases hk : k < n
  · simp [Array.getD, hk]
  · simp [Array.getD, hk, hn]
theorem PermOk.inj {n : Nat} {p : Array Nat} (h : PermOk n p) {i j : Nat} (hi : i < n) (hj : j < n) (ne : i ≠ j) : p.getD i 0 ≠ p.getD j 0 := by
  have hs := h.size
  have nd : p.toList.Nodup := (Array.perm_iff_toList_perm.mp h.pm).nodup_iff.mpr (by simpa using List.nodup_range)
  have e1 : p.getD i 0 = p.toList[i]'(by simp; omega) := by simp [Array.getD, show i < p.size by omega]
  have e2 : p.getD j 0 = p.toList[j]'(by simp; omega) := by simp [Array.getD, show j < p.size by omega]
  rw [e1, e2]
  intro e
  exact ne ((List.getElem_inj nd).mp e)
def SortedP (lt : Nat → Nat → Bool) (p : Array Nat) (m : Nat) : Prop := ∀ i j, i < j → j < m → lt (p.getD i 0) (p.getD j 0) = true
section
variable {n : Nat} {lt : Nat → Nat → Bool} (o : LtOk n lt)
include o
theorem asc_ok {p : Array Nat} (hp : PermOk n p) (hn : 0 < n) : ∀ f m, 1 ≤ m → m + f ≤ n → SortedP lt p m → m ≤ runT lt (kas_asc p f m) ∧ runT lt (kas_asc p f m) ≤ m + f ∧ SortedP lt p (runT lt (kas_asc p f m)) ∧
    (f ≠ 0 → runT lt (kas_asc p f m) = m → lt (p.getD m 0) (p.getD (m - 1) 0) = true)
  | 0, m, h1, h2, hs => ⟨Nat.le_refl _, Nat.le_refl _, hs, fun z => absurd rfl z⟩
  | f + 1, m, h1, h2, hs => by
    have e : runT lt (kas_asc p (f + 1) m) = runT lt (if lt (p.getD m 0) (p.getD (m - 1) 0) = true then .ret m else kas_asc p f (m + 1)) := rfl
    cases c : lt (p.getD m 0) (p.getD (m - 1) 0) with
    | true =>
      rw [c, if_pos rfl] at e
      have e' : runT lt (kas_asc p (f + 1) m) = m := e
      rw [e']
      exact ⟨Nat.le_refl _, by omega, hs, fun _ _ => rfl⟩
    | false =>
      rw [c, if_neg (by simp)] at e
      have lt1 : lt (p.getD (m - 1) 0) (p.getD m 0) = true := by
        rcases o.tot (p.getD m 0) (p.getD (m - 1) 0) (hp.below hn _) (hp.below hn _) (hp.inj (by omega) (by omega) (by omega)) with z | z
        · rw [c] at z; cases z
        · exact z
      have hs' : SortedP lt p (m + 1) := by
        intro i j hij hj
        by_cases e2 : j = m
        · subst e2
          by_cases e3 : i = j - 1
          · rw [e3]; exact lt1
          · exact o.tr _ _ _ (hs i (j - 1) (by omega) (by omega)) lt1
        · exact hs i j hij (by omega)
      obtain ⟨a, b, d, _⟩ := asc_ok hp hn f (m + 1) (by omega) (by omega) hs'
      rw [e]
      exact ⟨by omega, by omega, d, fun _ z => by omega⟩
theorem desc_ok {p : Array Nat} (hp : PermOk n p) (hn : 0 < n) : ∀ f m, 1 ≤ m → m + f ≤ n → (∀ i j, i < j → j < m → lt (p.getD j 0) (p.getD i 0) = true) →
    ∃ m', runT lt (kas_desc f p m 0) = (p, m', 0) ∧ Asks lt n (kas_desc f p m 0) ∧ m ≤ m' ∧ m' ≤ m + f ∧ ∀ i j, i < j → j < m' → lt (p.getD j 0) (p.getD i 0) = true
  | 0, m, h1, h2, hs => ⟨m, rfl, trivial, Nat.le_refl _, Nat.le_refl _, hs⟩
  | f + 1, m, h1, h2, hs => by
    cases c : lt (p.getD m 0) (p.getD (m - 1) 0) with
    | true =>
      have e : runT lt (kas_desc (f + 1) p m 0) = runT lt (kas_desc f p (m + 1) 0) := by
        show runT lt (if lt (p.getD m 0) (p.getD (m - 1) 0) = true then (if 0 > 0 then kas_desc f (kas_rev p (m - (0 + 1)) m) (m + 1) 0 else kas_desc f p (m + 1) 0) else _) = _
        rw [c, if_pos rfl, if_neg (by omega)]
      have hs' : ∀ i j, i < j → j < m + 1 → lt (p.getD j 0) (p.getD i 0) = true := by
        intro i j hij hj
        by_cases e2 : j = m
        · subst e2
          by_cases e3 : i = j - 1
          · rw [e3]; exact c
          · exact o.tr _ _ _ c (hs i (j - 1) (by omega) (by omega))
        · exact hs i j hij (by omega)
      obtain ⟨m', a, ak, b, d, q⟩ := desc_ok hp hn f (m + 1) (by omega) (by omega) hs'
      refine ⟨m', by rw [e]; exact a, ⟨hp.below hn _, hp.below hn _, ?_⟩, by omega, by omega, q⟩
      show Asks lt n (if lt (p.getD m 0) (p.getD (m - 1) 0) = true then (if 0 > 0 then kas_desc f (kas_rev p (m - (0 + 1)) m) (m + 1) 0 else kas_desc f p (m + 1) 0) else _)
      rw [c, if_pos rfl, if_neg (by omega)]
      exact ak
    | false =>
      have lt1 : lt (p.getD (m - 1) 0) (p.getD m 0) = true := by
        rcases o.tot (p.getD m 0) (p.getD (m - 1) 0) (hp.below hn _) (hp.below hn _) (hp.inj (by omega) (by omega) (by omega)) with z | z
        · rw [c] at z; cases z
        · exact z
      refine ⟨m, ?_, ?_, Nat.le_refl _, by omega, hs⟩
      rotate_left
      · refine ⟨hp.below hn _, hp.below hn _, ?_⟩
        show Asks lt n (if lt (p.getD m 0) (p.getD (m - 1) 0) = true then _ else KasT.ask (p.getD (m - 1) 0) (p.getD m 0) fun d => if d = true then .ret (p, m, 0) else kas_desc f p (m + 1) (0 + 1))
        rw [c, if_neg (by simp)]
        refine ⟨hp.below hn _, hp.below hn _, ?_⟩
        show Asks lt n (if lt (p.getD (m - 1) 0) (p.getD m 0) = true then .ret (p, m, 0) else _)
        rw [lt1, if_pos rfl]
        exact trivial
      show runT lt (if lt (p.getD m 0) (p.getD (m - 1) 0) = true then _ else KasT.ask (p.getD (m - 1) 0) (p.getD m 0) fun d => if d = true then .ret (p, m, 0) else kas_desc f p (m + 1) (0 + 1)) = _
      rw [c, if_neg (by simp)]
      show runT lt (if lt (p.getD (m - 1) 0) (p.getD m 0) = true then .ret (p, m, 0) else _) = _
      rw [lt1, if_pos rfl]
      rfl
omit o in
theorem getD_rev {p : Array Nat} {m : Nat} (hm : m ≤ p.size) (k : Nat) : (kas_rev p 0 m).getD k 0 = if k < m then p.getD (m - 1 - k) 0 else p.getD k 0 := by
  have q := getElem?_mirror_all (xs := p) (i := 0) hm k
  have e1 : (kas_rev p 0 m).getD k 0 = ((kas_rev p 0 m)[k]?).getD 0 := by simp
  unfold kas_rev at e1 ⊢
  rw [e1, q]
  by_cases h : k < m
  · rw [if_pos ⟨Nat.zero_le _, h⟩, if_pos h, show 0 + m - 1 - k = m - 1 - k by omega]
    simp
  · rw [if_neg (fun z => h z.2), if_neg h]
    simp
theorem count_ok {p : Array Nat} (hp : PermOk n p) (hn : 2 ≤ n) : ∃ m q, runT lt (kas_count n p) = (m, q) ∧ PermOk n q ∧ 1 ≤ m ∧ m ≤ n ∧ SortedP lt q m ∧ Asks lt n (kas_count n p) := by
  have b := hp.below (by omega : 0 < n)
  have hs := hp.size
  obtain ⟨h1, h2, h3, h4⟩ := asc_ok o hp (by omega) (n - 1) 1 (Nat.le_refl _) (by omega) (fun i j a b => by omega)
  generalize hm : runT lt (kas_asc p (n - 1) 1) = m at h1 h2 h3 h4
  have eb : ∀ f : Nat → KasT (Nat × Array Nat), runT lt ((kas_asc p (n - 1) 1).bind f) = runT lt (f m) := fun f => by rw [runT_bind, hm]
  have ea : ∀ f : Nat → KasT (Nat × Array Nat), Asks lt n (f m) → Asks lt n ((kas_asc p (n - 1) 1).bind f) := fun f h => Asks.bind (asks_asc b _ _) (by rw [hm]; exact h)
  unfold kas_count
  rw [eb]
  by_cases e1 : (m == n) = true
  · refine ⟨m, p, by simp only [e1, if_true]; rfl, hp, h1, by omega, h3, ea _ (by simp only [e1, if_true]; exact trivial)⟩
  · have e1' : (m == n) = false := by simpa using e1
    by_cases e2 : m > 1
    · have c : lt (p.getD 0 0) (p.getD (m - 1) 0) = true := h3 0 (m - 1) (by omega) (by omega)
      refine ⟨m, p, ?_, hp, h1, by omega, h3, ea _ ?_⟩
      · simp only [e1', Bool.false_eq_true, if_false, e2, if_true]
        show runT lt (if lt (p.getD 0 0) (p.getD (m - 1) 0) = true then .ret (m, p) else _) = _
        rw [c, if_pos rfl]
        rfl
      · simp only [e1', Bool.false_eq_true, if_false, e2, if_true]
        refine ⟨b _, b _, ?_⟩
        show Asks lt n (if lt (p.getD 0 0) (p.getD (m - 1) 0) = true then .ret (m, p) else _)
        rw [c, if_pos rfl]
        exact trivial
    · have em : m = 1 := by omega
      subst em
      have c := h4 (by omega) rfl
      obtain ⟨m', r1, r2, r3, r4, r5⟩ := desc_ok o hp (by omega) (n - (1 + 1)) (1 + 1) (by omega) (by omega) (fun i j hij hj => by
        have : i = 0 := by omega
        have : j = 1 := by omega
        subst_vars
        exact c)
      have hq : PermOk n (kas_rev p 0 m') := ⟨(mirror_perm _ _ _ _).trans hp.pm⟩
      have sq : SortedP lt (kas_rev p 0 m') m' := by
        intro i j hij hj
        rw [getD_rev (by omega), getD_rev (by omega), if_pos (by omega), if_pos hj]
        exact r5 _ _ (by omega) (by omega)
      obtain ⟨g1, g2, g3, _⟩ := asc_ok o hq (by omega) (n - m') m' (by omega) (by omega) sq
      have ed : kas_descPart 1 n p = (kas_desc (n - (1 + 1)) p (1 + 1) 0).bind fun r => if r.2.2 > 0 then kas_tail3 r.2.1 n (kas_rev r.1 (r.2.1 - (r.2.2 + 1)) r.2.1) else kas_tail3 r.2.1 n r.1 := rfl
      refine ⟨runT lt (kas_asc (kas_rev p 0 m') (n - m') m'), kas_rev p 0 m', ?_, hq, by omega, by omega, g3, ea _ ?_⟩
      · simp only [e1', Bool.false_eq_true, if_false, e2]
        rw [ed, runT_bind, r1]
        show runT lt (kas_tail3 m' n p) = _
        unfold kas_tail3
        rw [runT_bind]
        rfl
      · simp only [e1', Bool.false_eq_true, if_false, e2]
        rw [ed]
        refine Asks.bind r2 ?_
        rw [r1]
        show Asks lt n (kas_tail3 m' n p)
        exact Asks.bind (asks_asc (hq.below (by omega)) _ _) trivial
theorem place_ok {p : Array Nat} (hp : PermOk n p) (hn : 0 < n) {k : Nat} (hk : k < n) (hs : SortedP lt p k) : ∀ f l r, l ≤ r → r ≤ k → r - l ≤ f → (∀ i, i < l → lt (p.getD i 0) (p.getD k 0) = true) → (∀ i, r ≤ i → i < k → lt (p.getD k 0) (p.getD i 0) = true) →
    runT lt (kas_place p k f l r) ≤ k ∧ (∀ i, i < runT lt (kas_place p k f l r) → lt (p.getD i 0) (p.getD k 0) = true) ∧ (∀ i, runT lt (kas_place p k f l r) ≤ i → i < k → lt (p.getD k 0) (p.getD i 0) = true)
  | 0, l, r, h1, h2, h3, a, b => ⟨by show l ≤ k; omega, a, fun i hi hik => b i (by have : l ≤ i := hi; omega) hik⟩
  | f + 1, l, r, h1, h2, h3, a, b => by
    by_cases e : l ≥ r
    · have e' : runT lt (kas_place p k (f + 1) l r) = l := by unfold kas_place; rw [if_pos e]; rfl
      rw [e']
      exact ⟨by omega, a, fun i hi hik => b i (by omega) hik⟩
    · have hm : (l + r) / 2 < k := by omega
      cases c : lt (p.getD k 0) (p.getD ((l + r) / 2) 0) with
      | true =>
        have e' : runT lt (kas_place p k (f + 1) l r) = runT lt (kas_place p k f l ((l + r) / 2)) := by
          rw [kas_place, if_neg e]
          show runT lt (if lt (p.getD k 0) (p.getD ((l + r) / 2) 0) = true then _ else _) = _
          rw [c, if_pos rfl]
        rw [e']
        refine place_ok hp hn hk hs f l ((l + r) / 2) (by omega) (by omega) (by omega) a fun i hi hik => ?_
        by_cases z : i = (l + r) / 2
        · rw [z]; exact c
        · exact o.tr _ _ _ c (hs _ _ (by omega) hik)
      | false =>
        have e' : runT lt (kas_place p k (f + 1) l r) = runT lt (kas_place p k f ((l + r) / 2 + 1) r) := by
          rw [kas_place, if_neg e]
          show runT lt (if lt (p.getD k 0) (p.getD ((l + r) / 2) 0) = true then _ else _) = _
          rw [c, if_neg (by simp)]
        rw [e']
        have c' : lt (p.getD ((l + r) / 2) 0) (p.getD k 0) = true := by
          rcases o.tot (p.getD k 0) (p.getD ((l + r) / 2) 0) (hp.below hn _) (hp.below hn _) (hp.inj hk (by omega) (by omega)) with z | z
          · rw [c] at z; cases z
          · exact z
        refine place_ok hp hn hk hs f ((l + r) / 2 + 1) r (by omega) h2 (by omega) (fun i hi => ?_) b
        by_cases z : i = (l + r) / 2
        · rw [z]; exact c'
        · exact o.tr _ _ _ (hs i ((l + r) / 2) (by omega) hm) c'
omit o in
theorem getD_bubble {p : Array Nat} {k d : Nat} (hk : k < p.size) (hd : d ≤ k) (i : Nat) : (bubble p k d).getD i 0 = if i = k - d then p.getD k 0 else if k - d < i ∧ i ≤ k then p.getD (i - 1) 0 else p.getD i 0 := by
  have q := getElem?_bubble hk d hd i
  have e1 : (bubble p k d).getD i 0 = ((bubble p k d)[i]?).getD 0 := by simp
  have e0 : ∀ x, (p[x]?).getD 0 = p.getD x 0 := fun x => by simp
  rw [e1, q]
  by_cases a : i = k - d
  · rw [if_pos a, if_pos a]; exact e0 _
  · rw [if_neg a, if_neg a]
    by_cases b : k - d < i ∧ i ≤ k
    · rw [if_pos b, if_pos b]; exact e0 _
    · rw [if_neg b, if_neg b]; exact e0 _
theorem bin_ok (hn : 0 < n) : ∀ f {p : Array Nat} {k : Nat}, PermOk n p → k + f = n → SortedP lt p k → PermOk n (runT lt (kas_bin f p k)) ∧ SortedP lt (runT lt (kas_bin f p k)) n ∧ Asks lt n (kas_bin f p k)
  | 0, p, k, hp, hk, hs => by
    have e : n = k := by omega
    exact ⟨hp, by rw [e]; exact hs, trivial⟩
  | f + 1, p, k, hp, hk, hs => by
    have hsz := hp.size
    obtain ⟨q1, q2, q3⟩ := place_ok o hp hn (k := k) (by omega) hs k 0 k (Nat.zero_le _) (Nat.le_refl _) (by omega) (fun i h => by omega) (fun i h1 h2 => by omega)
    have e : runT lt (kas_bin (f + 1) p k) = runT lt (kas_bin f (bubble p k (k - runT lt (kas_place p k k 0 k))) (k + 1)) := by rw [kas_bin, runT_bind]
    generalize hl : runT lt (kas_place p k k 0 k) = l at q1 q2 q3 e
    have hp' : PermOk n (bubble p k (k - l)) := ⟨(bubble_perm _ _ _).trans hp.pm⟩
    have hs' : SortedP lt (bubble p k (k - l)) (k + 1) := by
      intro i j hij hj
      have hkl : k - (k - l) = l := by omega
      rw [getD_bubble (by omega) (by omega), getD_bubble (by omega) (by omega), hkl]
      by_cases a1 : i = l
      · rw [if_pos a1, if_neg (by omega), if_pos (by omega)]
        exact q3 _ (by omega) (by omega)
      · rw [if_neg a1]
        by_cases a2 : l < i ∧ i ≤ k
        · rw [if_pos a2, if_neg (by omega), if_pos (by omega)]
          exact hs _ _ (by omega) (by omega)
        · rw [if_neg a2]
          by_cases a3 : j = l
          · rw [if_pos a3]
            exact q2 _ (by omega)
          · rw [if_neg a3]
            by_cases a4 : l < j ∧ j ≤ k
            · rw [if_pos a4]
              exact hs _ _ (by omega) (by omega)
            · rw [if_neg a4]
              exact hs _ _ hij (by omega)
    obtain ⟨r1, r2, r3⟩ := bin_ok hn f hp' (by omega) hs'
    rw [e]
    refine ⟨r1, r2, ?_⟩
    rw [kas_bin]
    refine Asks.bind (asks_place (hp.below hn) _ _ _ _) ?_
    rw [hl]
    exact r3
theorem sort_ok (hn : 2 ≤ n) : PermOk n (runT lt (kas_sort n)) ∧ SortedP lt (runT lt (kas_sort n)) n ∧ Asks lt n (kas_sort n) := by
  have h0 : PermOk n (List.toArray (List.range n)) := ⟨Array.Perm.refl _⟩
  obtain ⟨m, q, e, hq, m1, m2, hs, hA⟩ := count_ok o h0 hn
  have e2 : runT lt (kas_sort n) = runT lt (if m < n then kas_bin (n - max m 1) q (max m 1) else .ret q) := by
    unfold kas_sort
    rw [runT_bind, e]
  have e3 : Asks lt n (if m < n then kas_bin (n - max m 1) q (max m 1) else .ret q) → Asks lt n (kas_sort n) := fun h => Asks.bind hA (by rw [e]; exact h)
  have hmax : max m 1 = m := by omega
  by_cases l : m < n
  · rw [if_pos l, hmax] at e2 e3
    obtain ⟨r1, r2, r3⟩ := bin_ok o (by omega) (n - m) hq (by omega) hs
    rw [e2]
    exact ⟨r1, r2, e3 r3⟩
  · rw [if_neg l] at e2 e3
    have : m = n := by omega
    subst this
    have e2' : runT lt (kas_sort m) = q := e2
    rw [e2']
    exact ⟨hq, hs, e3 trivial⟩
end
end GR
namespace GR
open PySem PySem.W PyProof.Rows L2
def ltR (rows : List (List Int)) (i j : Nat) : Bool := HT.lexLt (rows.getD i []) (rows.getD j [])
def sortI (rows : List (List Int)) : List Nat := (runT (ltR rows) (kas_sort rows.length)).toList
def sortR (rows : List (List Int)) : List (List Int) := (sortI rows).map fun i => rows.getD i []
section
variable {prog : Program} {w : World} {A : Around} {s : Shared}
theorem lex_ints (b fin : Bool) {Q : Bool → Shared → Prop} : ∀ {vs ws : List Value} {ns ms : List Int} (i : Nat), IntsAre vs ns → IntsAre ws ms → ns.length = ms.length → fin = false → Q (HT.lexLt ns ms) s → KatLex prog w A b fin Q (vs.zip ws) i s
  | _, _, _, _, i, .nil, .nil, _, hf, h => by subst hf; exact kat_nil h
  | _, _, _, _, i, .cons a t hv, .cons c u hw, hl, hf, h => by
    rw [List.zip_cons_cons]
    refine kat_cons (SeqAt.EqAt.int_int a t c u _ _ _ _ ?_)
    rw [HT.lexLt_cons] at h
    by_cases e : a = c
    · subst e
      rw [if_pos rfl] at h
      rw [beq_self_eq_true]
      exact kat_yes (lex_ints b fin (i + 1) hv hw (by simpa using hl) hf h)
    · rw [if_neg e] at h
      have e' : (a == c) = false := by simpa using e
      rw [e']
      refine kat_no ?_
      cases (b && i == 0) with
      | true => exact oneLt_int h
      | false => exact kat_one _ _ (PyProof.Rows.lt_int h)
  | _, _, _, _, _, .nil, .cons _ _ _, hl, _, _ => by simp at hl
  | _, _, _, _, _, .cons _ _ _, .nil, hl, _, _ => by simp at hl
end
theorem there_of {P : Program} {w : World} {H : Hp} {h : Heap} {a : Addr} {o : HO} (x : ObjOk P w H h a o) : ∃ ob, h.get? a = some ob := by
  cases o with
  | lst xs => obtain ⟨_, its, n, _, e⟩ := x; exact ⟨_, e⟩
  | tup xs => obtain ⟨_, its, _, o, e, _⟩ := x; exact ⟨_, e⟩
  | dK kvs => obtain ⟨_, _, _, _, o, _, _, e, _⟩ := x; exact ⟨_, e⟩
  | dT kvs => obtain ⟨_, _, xs, _, o, es, ep, e, _⟩ := x; exact ⟨_, e⟩
  | set S n => obtain ⟨o, _, _, _, e, _⟩ := x; exact ⟨_, e⟩
  | ins C dx fs => obtain ⟨_, _, _, e, _⟩ := x; exact ⟨_, e⟩
  | own y => exact x
  | xd fs => obtain ⟨_, ⟨_, _, _, e, _⟩, _⟩ := x; exact ⟨_, e⟩
  | met f y => exact ⟨_, x⟩
  | rng lo hi => obtain ⟨t, u, v, e⟩ := x; exact ⟨_, e⟩
  | frz ob u => exact ⟨_, x.1⟩
  | tbl ps => exact ⟨_, x⟩
  | ext φ => exact x.2.1
section
variable {X : Cx}
theorem kat_tups {H : Hp} {h : Heap} (hk : ∀ (p : Addr) (row : List Int), H p = some (.tup (row.map V.int)) → ∃ its, Vals (row.map V.int) its ∧ IsTup h p its.toArray) : ∀ {ps : List Addr} {rows : List (List Int)}, TupsAt H ps rows → (∀ row ∈ rows, row ≠ []) →
    ∃ fs, KatTups h (ps.map Value.ref) fs ∧ fs.length = ps.length ∧ ∀ v ∈ fs, ∃ i t, v = Value.int i t
  | _, _, .nil, _ => ⟨[], trivial, rfl, fun v hv => by cases hv⟩
  | p :: ps, row :: rows, .cons a t, hne => by
    obtain ⟨fs, k1, k2, k3⟩ := kat_tups hk t fun r hr => hne r (List.mem_cons_of_mem _ hr)
    obtain ⟨its, v, o, ho, hc, n, hd⟩ := hk p row a
    have hr := hne row List.mem_cons_self
    cases row with
    | nil => exact absurd rfl hr
    | cons x rest =>
      cases v with
      | cons rx rr =>
        obtain ⟨tk, rfl⟩ := rx
        refine ⟨.int x tk :: fs, KatTups.cons ho hc hd (by simp) k1, by rw [List.length_cons, k2]; rfl, fun v hv => ?_⟩
        rcases List.mem_cons.mp hv with e | e
        · exact ⟨x, tk, e⟩
        · exact k3 v e
def rSorted : List V → Hp → VK → Prop := fun xs H Q => ∃ (l : Addr) (rows : List (List Int)) (k : Nat), xs = [.ref l] ∧ Tups H l rows ∧ 2 ≤ rows.length ∧ rows.length < 64 ∧ (∀ row ∈ rows, row.length = k + 1) ∧ LtOk rows.length (ltR rows) ∧
  ∀ D H', H D = none → Same H H' → Tups H' D (sortR rows) → Q (.ref D) H'
theorem call_sorted : CallR X (.builtin "sorted") rSorted := by
  intro pins s σ H xs us Q I r h
  obtain ⟨l, rows, k, rfl, ⟨ps, hl, ht⟩, n2, n64, hk, ok, q⟩ := h
  obtain ⟨u, rfl, ru⟩ := vals1 r
  cases ru
  obtain ⟨its, vs, pl, hz⟩ := I.list (SqL.of hl)
  obtain rfl := tups_vals (H := H) vs
  have tl := ht.len
  obtain ⟨m, F⟩ := I.fr
  have N : News X.base X.env.locals s.heap (allNews X.base s.heap X.env.locals) := news_all
  refine kat_sorted F N pl.isList (by rw [List.length_map]; omega) (by rw [List.length_map]; omega) fun D e1 h' F' N' hD => ?_
  have keepN : ∀ (h2 : Heap) (m2 : Str → Option Value), Fr X.base X.env.locals h2 m2 → News X.base X.env.locals h2 (allNews X.base s.heap X.env.locals) → ∀ b o, b ≠ X.env.locals → s.heap.get? b = some o → h2.get? b = some o := fun h2 m2 F2 N2 b o hb e => by
    cases qq : X.base.get? b with
    | some v =>
      have := I.bk b v qq
      rw [e] at this
      cases this
      exact F2.keep b _ qq
    | none => exact (N2 (b, o) (mem_allNews hb qq e)).1
  have tN : ∀ {h2 : Heap} {x : Addr × Obj}, News X.base X.env.locals h2 (x :: allNews X.base s.heap X.env.locals) → News X.base X.env.locals h2 (allNews X.base s.heap X.env.locals) := fun z p hp => z p (List.mem_cons_of_mem _ hp)
  have nL : ∀ p o, H p = some o → p ≠ X.env.locals := fun p o e z => by rw [z, I.free] at e; cases e
  have tupK : ∀ (p : Addr) (row : List Int), H p = some (.tup (row.map V.int)) → ∃ its, Vals (row.map V.int) its ∧ IsTup h' p its.toArray := fun p row e => by
    obtain ⟨_, its, v, o, ho, rest⟩ := I.hok p _ e
    exact ⟨its, v, o, keepN h' m F' (tN N') p o (nL p _ e) ho, rest⟩
  obtain ⟨fs, k1, k2, k3⟩ := kat_tups tupK ht (fun row hr z => by have := hk row hr; rw [z] at this; cases this)
  refine kat_kind (fs := fs) (T := .type "int") k1 (by omega) (fun v hv => ?_) (by decide) ?_
  · obtain ⟨i, t, rfl⟩ := k3 v hv
    exact Looks.of_pure rfl
  have enl : (ps.map Value.ref).length = rows.length := by rw [List.length_map, tl]
  rw [enl]
  obtain ⟨pm, srt, asks⟩ := sort_ok ok n2
  refine Asks.run (lt := ltR rows) (fun i j C hi hj hC => ?_) asks ?_
  · have hi' : i < ps.length := by omega
    have hj' : j < ps.length := by omega
    have ei : (ps.map Value.ref).getD i Value.none = .ref ps[i] := by simp [hi']
    have ej : (ps.map Value.ref).getD j Value.none = .ref ps[j] := by simp [hj']
    obtain ⟨ri, e1, f1⟩ := paired_get ht (List.getElem?_eq_getElem hi')
    obtain ⟨rj, e2, f2⟩ := paired_get ht (List.getElem?_eq_getElem hj')
    obtain ⟨ii, vi, oi, hoi, _, ni, hdi⟩ := tupK _ _ f1
    obtain ⟨ij, vj, oj, hoj, _, nj, hdj⟩ := tupK _ _ f2
    unfold kas_ask
    rw [ei, ej]
    have g1 : rows.getD i [] = ri := by rw [List.getD_eq_getElem?_getD, e1]; rfl
    have g2 : rows.getD j [] = rj := by rw [List.getD_eq_getElem?_getD, e2]; rfl
    have l1 := hk ri (List.mem_of_getElem? e1)
    have l2 := hk rj (List.mem_of_getElem? e2)
    have z1 : ii.length = ri.length := by rw [← vi.length, List.length_map]
    have z2 : ij.length = rj.length := by rw [← vj.length, List.length_map]
    unfold ltR at hC
    rw [g1, g2] at hC
    refine kat_lt hoi hdi hoj hdj ?_
    exact lex_ints _ _ 0 (by simpa using intsAre_of vi) (by simpa using intsAre_of vj) (by omega) (by simp; omega) hC
  · refine KasFin.intro F' N' (g := fun o => (D, o) :: allNews X.base s.heap X.env.locals) ?_ fun h2 c F2 N2 => ?_
    · exact UpdF.head fun p hp => Nat.ne_of_lt (hD p hp)
    have eo : ((runT (ltR rows) (kas_sort rows.length)).toList.map fun i => (ps.map Value.ref).getD i Value.none) = (sortI rows).map fun i => Value.ref (ps.getD i 0) := by
      refine List.map_congr_left fun i hi => ?_
      have : i < rows.length := by
        have b := pm.pm
        have := (Array.perm_iff_toList_perm.mp b).mem_iff.mp hi
        simpa using this
      have hi' : i < ps.length := by omega
      simp [hi']
    rw [eo] at N2
    have inR : ∀ i ∈ sortI rows, i < rows.length := fun i hi => by
      have := (Array.perm_iff_toList_perm.mp pm.pm).mem_iff.mp hi
      simpa using this
    have lenI : (sortI rows).length = rows.length := by
      have := pm.size
      unfold sortI
      rw [Array.length_toList]
      exact this
    obtain ⟨hD2, hDL, hDb⟩ := N2 (D, _) List.mem_cons_self
    have sD : s.heap.get? D = none := by
      cases e : s.heap.get? D with
      | none => rfl
      | some o => exact absurd (hD (D, o) (mem_allNews hDL hDb e)) (Nat.lt_irrefl _)
    have HD : H D = none := by
      cases e : H D with
      | none => rfl
      | some o =>
        obtain ⟨ob, z⟩ := there_of (I.hok D o e)
        rw [sD] at z
        cases z
    have kk := keepN h2 m F2 (tN N2)
    have neD : ∀ b o, s.heap.get? b = some o → b ≠ D := fun b o e z => by rw [z, sD] at e; cases e
    have hok : HOk X.prog X.w (upd H D (.lst ((sortI rows).map fun i => V.ref (ps.getD i 0)))) h2 := by
      intro b o e
      by_cases z : b = D
      · subst z
        rw [upd_same] at e
        cases e
        refine ⟨by rw [List.length_map, lenI]; exact size_le (by omega), _, c, ?_, hD2⟩
        clear eo N2 hD2
        induction sortI rows with
        | nil => exact .nil
        | cons i r ih => exact .cons rfl ih
      · rw [upd_ne z] at e
        refine (I.hok b o e).stay (fun c v hc qq => kk c v ?_ qq) (fun c qq => by rw [upd_ne (ne_of_none qq HD)]; exact qq) fun c ys qq => by rw [upd_ne (ne_of_none qq HD)]; exact qq
        rcases hc with hc | hc
        · rw [hc]; exact nL b _ e
        · exact nL c _ hc
    have I' : L2.Inv X pins σ (upd H D (.lst ((sortI rows).map fun i => V.ref (ps.getD i 0)))) { s with heap := h2, toks := s.toks } :=
      I.step (g' := s.gens) (d' := s.drawn) (ch := []) (fun _ z => nomatch z) (fun b o hb _ _ e _ => kk b o hb e) (fun b o hb _ _ e _ => ⟨o.slots, kk b o hb e⟩) (fun b o _ e n => by rw [upd_ne (neD b o e)]; exact n)
        (fun b o _ e => by
          by_cases z : b = X.env.locals
          · obtain ⟨o', _, _, ho', _⟩ := F2.ns
            rw [z]; exact ⟨o', ho'⟩
          · exact ⟨o, kk b o z e⟩) (fun b ys e => by rw [upd_ne (ne_of_none e HD)]; exact e) (fun b o v e => by rw [upd_ne (ne_of_none e HD)]; exact e) (fun b ps e => ⟨#[], by rw [upd_ne (ne_of_none e HD), e]; simp⟩)
        (fun m1 hm1 => by
          have e1 := hm1.eq_nsMap
          have e2 := F.ns.eq_nsMap
          rw [e1, ← e2]
          exact F2.ns) hok I.bare
    refine ⟨.ref D, _, I', rfl, q D _ HD (same_new HD _) ⟨(sortI rows).map fun i => ps.getD i 0, ?_, ?_⟩⟩
    · rw [upd_same, List.map_map]
      rfl
    · unfold sortR
      have key : ∀ L : List Nat, (∀ i ∈ L, i < rows.length) → TupsAt (upd H D (.lst ((sortI rows).map fun i => V.ref (ps.getD i 0)))) (L.map fun i => ps.getD i 0) (L.map fun i => rows.getD i []) := by
        intro L
        induction L with
        | nil => intro _; exact .nil
        | cons i r ih =>
          intro hL
          refine .cons ?_ (ih fun j hj => hL j (List.mem_cons_of_mem _ hj))
          have hi := hL i List.mem_cons_self
          have hi' : i < ps.length := by omega
          obtain ⟨row, e1, f1⟩ := paired_get ht (List.getElem?_eq_getElem hi')
          have g1 : ps.getD i 0 = ps[i] := by simp [hi']
          have g2 : rows.getD i [] = row := by rw [List.getD_eq_getElem?_getD, e1]; rfl
          show upd H D _ (ps.getD i 0) = some (.tup ((rows.getD i []).map V.int))
          rw [g1, g2, upd_ne (ne_of_none f1 HD)]
          exact f1
      exact key _ inR
end
end GR
namespace GR
open PySem PySem.W PyProof.Rows
/-! ### the table in order -/
theorem lexL_len {t : Int} {res : List Rs} : (markM res t).length = 3 := rfl
def betterN (marks : List (List Int)) (own : List Int) : Nat := (marks.filter fun m => lexL own m).length
theorem better_lt {marks : List (List Int)} {a b : List Int} (hb : b ∈ marks) (h : lexL a b = true) : betterN marks b < betterN marks a := by
  unfold betterN
  have sub : ∀ m, lexL b m = true → lexL a m = true := fun m q => lexL_tr a b m h q
  have nb : lexL b b = false := lexL_irr b
  clear nb
  induction marks with
  | nil => cases hb
  | cons m r ih =>
    have le : ∀ l : List (List Int), (l.filter fun m => lexL b m).length ≤ (l.filter fun m => lexL a m).length := by
      intro l
      induction l with
      | nil => exact Nat.le_refl _
      | cons x l ih2 =>
        rw [List.filter_cons, List.filter_cons]
        by_cases e : lexL b x = true
        · rw [if_pos e, if_pos (sub x e), List.length_cons, List.length_cons]
          omega
        · rw [if_neg e]
          split
          · rw [List.length_cons]; omega
          · exact ih2
    rw [List.filter_cons, List.filter_cons]
    rcases List.mem_cons.mp hb with e | e
    · subst e
      rw [if_neg (by rw [lexL_irr]; simp), if_pos h, List.length_cons]
      have := le r
      omega
    · have q := ih e
      by_cases e2 : lexL b m = true
      · rw [if_pos e2, if_pos (sub m e2), List.length_cons, List.length_cons]
        omega
      · rw [if_neg e2]
        split
        · rw [List.length_cons]; omega
        · exact q
/-- the table's rows by their teams -/
structure TabOk (c : Int) (res : List Rs) (T : List (List Int)) (tm : Nat → Int) : Prop where
  len : T.length = c.toNat
  get : ∀ k, k < c.toNat → T[k]? = some (rowM c res (tm k)) ∧ 0 ≤ tm k ∧ tm k < c
  inj : ∀ i j, i < c.toNat → j < c.toNat → tm i = tm j → i = j
  pm : ((List.range c.toNat).map tm).Perm ((List.range c.toNat).map fun t : Nat => (t : Int))
  fst : betterM (marksM c res) (markM res (tm 0)) = 0
  low : ∀ k, 0 < k → k < c.toNat → lexL (markM res (tm k)) (markM res (tm (k - 1))) = true → betterM (marksM c res) (markM res (tm k)) = k
  eqv : ∀ k, 0 < k → k < c.toNat → lexL (markM res (tm k)) (markM res (tm (k - 1))) = false → markM res (tm k) = markM res (tm (k - 1)) ∧ tm (k - 1) < tm k
theorem filter_take {α : Type} (p : α → Bool) : ∀ (l : List α) (k : Nat), k ≤ l.length → (∀ j (h : j < l.length), j < k → p l[j] = true) → (∀ j (h : j < l.length), k ≤ j → p l[j] = false) → (l.filter p).length = k
  | [], k, hk, _, _ => by simp at hk; simp [hk]
  | x :: l, 0, _, _, h2 => by
    have e : p x = false := h2 0 (by simp) (Nat.le_refl _)
    rw [List.filter_cons, if_neg (by simp [e])]
    exact filter_take p l 0 (Nat.zero_le _) (fun j h hj => by omega) fun j h _ => h2 (j + 1) (by simpa using h) (Nat.zero_le _)
  | x :: l, k + 1, hk, h1, h2 => by
    have e : p x = true := h1 0 (by simp) (by omega)
    rw [List.filter_cons, if_pos e, List.length_cons]
    congr 1
    exact filter_take p l k (by simpa using hk) (fun j h hj => h1 (j + 1) (by simpa using h) (by omega)) fun j h hj => h2 (j + 1) (by simpa using h) (by omega)
theorem tab_ok {c : Int} (res : List Rs) (c2 : 2 ≤ c) (lt : LtOk (rowsM c res).length (ltR (rowsM c res))) (lexe : ∀ a b, HT.lexLt a b = lexL a b) : ∃ tm, TabOk c res (sortR (rowsM c res)) tm := by
  have hl : (rowsM c res).length = c.toNat := by unfold rowsM; rw [List.length_map, List.length_range]
  have hg : ∀ i, i < c.toNat → (rowsM c res).getD i [] = rowM c res (i : Int) := fun i hi => by
    unfold rowsM
    rw [List.getD_eq_getElem?_getD, List.getElem?_map, List.getElem?_range hi]
    rfl
  obtain ⟨pm, srt, _⟩ := sort_ok lt (by omega)
  generalize hp : runT (ltR (rowsM c res)) (kas_sort (rowsM c res).length) = p at pm srt
  rw [hl] at pm srt
  have ps := pm.size
  have pb := pm.below (by omega : 0 < c.toNat)
  have eS : sortI (rowsM c res) = p.toList := by unfold sortI; rw [hp]
  have pl : p.toList.length = c.toNat := by rw [Array.length_toList, ps]
  have tget : ∀ k, k < c.toNat → (sortR (rowsM c res))[k]? = some (rowM c res ((p.getD k 0 : Nat) : Int)) := fun k hk => by
    unfold sortR
    rw [eS, List.getElem?_map, List.getElem?_eq_getElem (by omega)]
    have e : p.toList[k]'(by omega) = p.getD k 0 := by simp [Array.getD, show k < p.size by omega]
    show some ((rowsM c res).getD (p.toList[k]'(by omega)) []) = _
    rw [e, hg _ (pb k)]
  let tm : Nat → Int := fun k => ((p.getD k 0 : Nat) : Int)
  have tin : ∀ k, 0 ≤ tm k ∧ tm k < c := fun k => by
    have := pb k
    show 0 ≤ ((p.getD k 0 : Nat) : Int) ∧ ((p.getD k 0 : Nat) : Int) < c
    omega
  have ord : ∀ i j, i < j → j < c.toNat → lexL (rowM c res (tm i)) (rowM c res (tm j)) = true := fun i j hij hj => by
    have q := srt i j hij hj
    unfold ltR at q
    rw [lexe, hg _ (pb i), hg _ (pb j)] at q
    exact q
  have memM : ∀ k, markM res (tm k) ∈ marksM c res := fun k => by
    have := tin k
    unfold marksM
    refine List.mem_map.mpr ⟨(tm k).toNat, List.mem_range.mpr (by omega), ?_⟩
    rw [show (((tm k).toNat : Nat) : Int) = tm k by omega]
  have pr : ((List.range c.toNat).map fun j => p.getD j 0).Perm (List.range c.toNat) := by
    have e : ((List.range c.toNat).map fun j => p.getD j 0) = p.toList := by
      refine List.ext_getElem (by rw [List.length_map, List.length_range, pl]) fun i h1 h2 => ?_
      simp only [List.getElem_map, List.getElem_range]
      have : i < p.size := by rw [List.length_map, List.length_range] at h1; omega
      simp [Array.getD, this]
    rw [e]
    simpa using Array.perm_iff_toList_perm.mp pm.pm
  -- how many are better, by the table's own places
  have cnt : ∀ own, betterN (marksM c res) own = ((List.range c.toNat).filter fun j => lexL own (markM res (tm j))).length := by
    intro own
    have pr2 := (pr.map fun t : Nat => markM res (t : Int)).filter (fun m => lexL own m)
    have e2 := pr2.length_eq
    unfold betterN marksM
    rw [← e2, List.map_map, List.filter_map, List.length_map]
    rfl
  have place : ∀ i j, i < j → j < c.toNat → betterN (marksM c res) (markM res (tm i)) ≤ betterN (marksM c res) (markM res (tm j)) := fun i j hij hj => by
    have q := ord i j hij hj
    unfold rowM at q
    rw [lexL] at q
    by_cases e : betterM (marksM c res) (markM res (tm i)) + 1 = betterM (marksM c res) (markM res (tm j)) + 1
    · unfold betterM at e
      unfold betterN
      omega
    · rw [if_neg e] at q
      have := of_decide_eq_true q
      unfold betterM at this
      unfold betterN
      omega
  have nobetter : ∀ i j, i ≤ j → j < c.toNat → lexL (markM res (tm i)) (markM res (tm j)) = false := fun i j hij hj => by
    cases e : lexL (markM res (tm i)) (markM res (tm j)) with
    | false => rfl
    | true =>
      have q := better_lt (memM j) e
      by_cases z : i = j
      · subst z; rw [lexL_irr] at e; cases e
      · have := place i j (by omega) hj
        omega
  refine ⟨tm, by unfold sortR; rw [List.length_map, eS, pl], fun k hk => ⟨tget k hk, tin k⟩, fun i j hi hj e => ?_, (by have z := pr.map (fun t : Nat => (t : Int)); rw [List.map_map] at z; exact z), ?_, fun k k0 hk h => ?_, fun k k0 hk h => ?_⟩
  · by_cases z : i = j
    · exact z
    · exact absurd (by have : ((p.getD i 0 : Nat) : Int) = ((p.getD j 0 : Nat) : Int) := e; omega : p.getD i 0 = p.getD j 0) (pm.inj hi hj z)
  · have q := cnt (markM res (tm 0))
    rw [filter_take _ _ 0 (Nat.zero_le _) (fun j h hj => by omega) (fun j h _ => by
      simp only [List.getElem_range]
      rw [List.length_range] at h
      exact nobetter 0 j (Nat.zero_le _) h)] at q
    unfold betterN at q
    unfold betterM
    rw [q]
    rfl
  · have q := cnt (markM res (tm k))
    rw [filter_take _ _ k (by rw [List.length_range]; omega) (fun j h' hj => by
      simp only [List.getElem_range]
      by_cases z : j = k - 1
      · rw [z]; exact h
      · have nb := nobetter j (k - 1) (by omega) (by omega)
        by_cases eq : markM res (tm j) = markM res (tm (k - 1))
        · rw [eq]; exact h
        · rcases lexL_tot (markM res (tm j)) (markM res (tm (k - 1))) (by rfl) eq with y | y
          · rw [nb] at y; cases y
          · exact lexL_tr _ _ _ h y) (fun j h' hj => by
      simp only [List.getElem_range]
      rw [List.length_range] at h'
      exact nobetter k j hj h')] at q
    unfold betterN at q
    unfold betterM
    rw [q]
  · have nb := nobetter (k - 1) k (by omega) hk
    have eq : markM res (tm k) = markM res (tm (k - 1)) := by
      by_cases eq : markM res (tm k) = markM res (tm (k - 1))
      · exact eq
      · rcases lexL_tot (markM res (tm k)) (markM res (tm (k - 1))) (by rfl) eq with y | y
        · rw [h] at y; cases y
        · rw [nb] at y; cases y
    refine ⟨eq, ?_⟩
    have q := ord (k - 1) k (by omega) hk
    unfold rowM at q
    rw [eq, lexL, if_pos rfl, lexL] at q
    by_cases e : tm (k - 1) = tm k
    · rw [if_pos e] at q
      rw [e] at q
      rw [lexL_irr] at q
      cases q
    · rw [if_neg e] at q
      exact of_decide_eq_true q
end GR
namespace GR
open PySem PySem.Spec PyProof.Rows L2
/-! ### an exception in flight -/
theorem objOk_there {P : Program} {w : World} {H : Hp} {h : Heap} {a : Addr} {o : HO} (x : ObjOk P w H h a o) : ∃ u, h.get? a = some u := by
  induction o with
  | lst xs => obtain ⟨_, _, _, _, e⟩ := x; exact ⟨_, e⟩
  | tup xs => obtain ⟨_, _, _, o, e, _⟩ := x; exact ⟨_, e⟩
  | dK kvs => obtain ⟨_, _, _, _, o, _, _, e, _⟩ := x; exact ⟨_, e⟩
  | dT kvs => obtain ⟨_, _, _, _, o, _, _, e, _⟩ := x; exact ⟨_, e⟩
  | set S n => obtain ⟨o, _, _, _, e, _⟩ := x; exact ⟨_, e⟩
  | ins C dx fs => obtain ⟨_, _, _, e, _⟩ := x; exact ⟨_, e⟩
  | own y => exact x
  | xd fs => obtain ⟨_, ⟨o, _, _, e, _⟩, _⟩ := x; exact ⟨_, e⟩
  | rng lo hi => obtain ⟨_, _, _, e⟩ := x; exact ⟨_, e⟩
  | frz o u ih => exact ⟨_, x.1⟩
  | tbl ps => exact ⟨_, x⟩
  | met f y => exact ⟨_, x⟩
  | ext φ => exact x.2.1
structure Land (P : Program) (w : World) (fs : List Addr) (H H' : Hp) (g h B : Heap) : Prop where
  un : Un fs [] H H' g h
  hok : HOk P w H' h
  c1 : ∀ b, H' b ≠ none → ∃ o, B.get? b = some o
  c2 : ∀ b o, g.get? b = some o → H b = none → b ∉ fs → B.get? b = some o
  c3 : ∀ b o, g.get? b = some o → b ∉ fs → ∃ o', B.get? b = some o'
theorem Land.move {P : Program} {w : World} {fs : List Addr} {H H' : Hp} {g h h' B : Heap} (l : Land P w fs H H' g h B) (st0 : B.StaysIn h) (st : B.StaysIn h') (up : h.UpToSlots h')
    (fr : ∀ b ∈ fs, ∃ o, h.get? b = some o ∧ ∀ vs, o.data ≠ .fields vs) : Land P w fs H H' g h' B where
  un :=
    { keep := fun b o e n hf _ => st _ _ (l.c2 b o e n hf)
      slot := fun b o e n hf hx => by
        obtain ⟨sl, q⟩ := l.un.slot b o e n hf hx
        obtain ⟨o', q', nf⟩ := fr b hf
        rw [q] at q'
        cases q'
        obtain ⟨sl2, q2⟩ := up _ _ q nf
        exact ⟨sl2, q2⟩
      free := fun b o e n hx => l.un.free b o e n hx
      there := fun b o e hx => by
        by_cases hf : b ∈ fs
        · obtain ⟨o', q', nf⟩ := fr b hf
          obtain ⟨sl2, q2⟩ := up _ _ q' nf
          exact ⟨_, q2⟩
        · obtain ⟨o', q⟩ := l.c3 b o e hf
          exact ⟨o', st _ _ q⟩
      tups := l.un.tups
      frzs := l.un.frzs
      tbls := l.un.tbls }
  hok := fun a o e => (l.hok a o e).stay (fun b u hb q => by
    have nb : H' b ≠ none := by
      rcases hb with rfl | hb
      · rw [e]; simp
      · rw [hb]; simp
    obtain ⟨o', q'⟩ := l.c1 b nb
    have z := st0 _ _ q'
    rw [q] at z
    cases z
    exact st _ _ q') (fun _ q => q) fun _ _ q => q
  c1 := l.c1
  c2 := l.c2
  c3 := l.c3
/-- what a raising call leaves -/
def CX1 (P : Program) (w : World) : CXT := fun outer H s E e s' => ∃ (x : Addr) (cls a0 : Value) (H' : Hp) (B : Heap), e = .ref x ∧ s'.os = s.os ∧ AllBare s'.gens ∧
  Land P w (frs outer) H H' s.heap s'.heap B ∧ Heap.FlyingW B outer x cls a0 s'.heap ∧ E cls none H'
/-- a def's own context -/
structure Own (X : Cx) : Prop where
  st : X.stack = X.env :: X.outer
  fr : X.env.frame = some X.env.locals
  ex : X.ex = []
section
variable {X : Cx} {pins : List (Addr × Obj)} {σ : L2.St} {H : Hp} {s s' : Shared}
abbrev hid (X : Cx) (h : Heap) : Heap := PySem.W.hideAll h (frs X.stack)
theorem hid_stays (X : Cx) (h : Heap) : (hid X h).StaysIn h := fun _ _ q => PySem.W.of_hideAll _ q
theorem hid_frames (I : L2.Inv X pins σ H s) : s.heap.FunFrames (hid X s.heap) X.stack :=
  PySem.W.funFrames_hide I.stack fun env he b hb => List.mem_filterMap.mpr ⟨env, he, hb⟩
theorem fs_frames (I : L2.Inv X pins σ H s) : ∀ b ∈ frs X.stack, ∃ o, s.heap.get? b = some o ∧ ∀ vs, o.data ≠ .fields vs := fun _ hb => (I.stack.mem hb).2
theorem frs_of (O : Own X) {b : Addr} (hb : b ∈ frs X.stack) : b = X.env.locals ∨ b ∈ X.fs := by
  have e : frs X.stack = X.env.locals :: X.fs := by
    rw [O.st]
    unfold frs
    rw [List.filterMap_cons, O.fr]
    rfl
  rw [e] at hb
  exact List.mem_cons.mp hb
theorem frs_sub (O : Own X) {b : Addr} (hb : b ∈ X.fs) : b ∈ frs X.stack := by
  rw [O.st]
  show b ∈ (X.env :: X.outer).filterMap (·.frame)
  rw [List.filterMap_cons, O.fr]
  exact List.mem_cons_of_mem _ hb
theorem not_locals (I : L2.Inv X pins σ H s) {b : Addr} {o : Obj} (e : X.s₀.heap.get? b = some o) : b ≠ X.env.locals := fun q => by
  have := Nat.lt_of_lt_of_le (Heap.lt_size e) I.ok.above
  rw [q] at this
  exact Nat.lt_irrefl _ this
theorem base_un (O : Own X) (I : L2.Inv X pins σ H s) : Un X.fs [] X.H₀ H X.s₀.heap s.heap := by
  have z := I.base
  rw [O.ex] at z
  exact z
theorem land_here (O : Own X) (I : L2.Inv X pins σ H s) : Land X.prog X.w X.fs X.H₀ H X.s₀.heap s.heap (hid X s.heap) where
  un := base_un O I
  hok := I.hok
  c1 := fun b nb => by
    cases q : H b with
    | none => exact absurd q nb
    | some u =>
      obtain ⟨o, e⟩ := objOk_there (I.hok b u q)
      exact ⟨o, PySem.W.hideAll_get _ e fun hb => nb (I.stkFree b hb)⟩
  c2 := fun b o e n hf => PySem.W.hideAll_get _ ((base_un O I).keep b o e n hf (by simp)) fun hb => (frs_of O hb).elim (not_locals I e) hf
  c3 := fun b o e hf => by
    obtain ⟨o', q⟩ := (base_un O I).there b o e (by simp)
    exact ⟨o', PySem.W.hideAll_get _ q fun hb => (frs_of O hb).elim (not_locals I e) hf⟩
variable {M : Model} {F : Value → Shared → Prop} {E : XK} {x : Addr} {cls a0 : Value} {vs : List Value}
theorem made_leaves (O : Own X) (I : L2.Inv X pins σ H s) (hx : Heap.MadeExcOf s.heap s'.heap x cls vs) (os : s'.os = s.os) (gs : s'.gens = s.gens) (q : E cls none H) :
    wpAny M X.A (leaving X.env (.ref x)) (fun _ s'' => CX1 X.prog X.w X.outer X.H₀ X.s₀ E (.ref x) s'') F s' := by
  have hfr : X.A.frames = some (X.env :: X.outer) := by rw [I.ok.frames, O.st]
  have fr := hid_frames I
  rw [O.st] at fr
  refine wpAny_leaves_madeW (base := hid X s.heap) hfr O.fr (hid_stays X _) fr hx fun h' t fl _ _ up => ?_
  refine ⟨x, cls, .ref t, H, hid X s.heap, rfl, os.trans I.os, by show AllBare s'.gens; rw [gs]; exact I.bare, ?_, fl, q⟩
  exact (land_here O I).move (hid_stays X _) fl.1 ((Heap.UpToSlots.of_keeps hx.keeps).trans up) fun b hb => fs_frames I b (frs_sub O hb)
theorem held_leaves (O : Own X) (I : L2.Inv X pins σ H s) (hx : Heap.HeldW (hid X s.heap) X.stack x cls a0 X.env.locals s'.heap) (up0 : s.heap.UpToSlots s'.heap) (os : s'.os = s.os) (gs : s'.gens = s.gens) (q : E cls none H) :
    wpAny M X.A (leaving X.env (.ref x)) (fun _ s'' => CX1 X.prog X.w X.outer X.H₀ X.s₀ E (.ref x) s'') F s' := by
  unfold leaving
  refine wpAny_bind (wpAny_noteFrame_againW O.fr hx.2.2.2 ?_)
  refine wpAny_landsW hx fun h' hfl up => ?_
  rw [O.st] at hfl
  obtain ⟨k1, k2, ⟨_, _, k3⟩, k4⟩ := hfl
  refine ⟨x, cls, a0, H, hid X s.heap, rfl, os.trans I.os, by show AllBare s'.gens; rw [gs]; exact I.bare, ?_, ⟨k1, k2, k3, k4⟩, q⟩
  exact (land_here O I).move (hid_stays X _) k1 (up0.trans up) fun b hb => fs_frames I b (frs_sub O hb)
/-- a callee's exception goes on through this def -/
theorem call_leaves (O : Own X) (I : L2.Inv X pins σ H s) {e : Value} (hx : CX1 X.prog X.w X.stack H s E e s') :
    wpAny M X.A (leaving X.env e) (fun _ s'' => CX1 X.prog X.w X.outer X.H₀ X.s₀ E e s'') F s' := by
  obtain ⟨x, cls, a0, H', B, rfl, os, bare, ld, fl, q⟩ := hx
  have hfr : X.A.frames = some (X.env :: X.outer) := by rw [I.ok.frames, O.st]
  have I' : L2.Inv X pins σ H' s' := I.call' (ch := []) os ld.un ld.hok bare fun b z => absurd z (by simp)
  have nl : ∀ b o, X.s₀.heap.get? b = some o → b ∉ X.fs → b ∉ frs X.stack := fun b o e hf hb => (frs_of O hb).elim (not_locals I e) hf
  have ld2 : Land X.prog X.w X.fs X.H₀ H' X.s₀.heap s'.heap B := by
    refine ⟨base_un O I', ld.hok, ld.c1, fun b o e n hf => ?_, fun b o e hf => ?_⟩
    · exact ld.c2 b o ((base_un O I).keep b o e n hf (by simp)) ((base_un O I).free b o e n (by simp)) (nl b o e hf)
    · obtain ⟨o', e'⟩ := (base_un O I).there b o e (by simp)
      exact ld.c3 b o' e' (nl b o e hf)
  have fl2 := fl
  rw [O.st] at fl
  refine wpAny_leaves_onW hfr O.fr fl fun h' fl' up => ?_
  refine ⟨x, cls, a0, H', B, rfl, os.trans I.os, bare, ?_, fl', q⟩
  exact ld2.move fl2.1 fl'.1 up fun b hb => fs_frames I' b (frs_sub O hb)
/-! ### raised here, inside loops too -/
def XR (X : Cx) (E : XK) : Value → Shared → Prop := fun e s' => ∃ (x : Addr) (cls : Value) (pins : List (Addr × Obj)) (σ : L2.St) (H : Hp) (s : Shared), e = .ref x ∧ L2.Inv X pins σ H s ∧ s'.os = s.os ∧ s'.gens = s.gens ∧ E cls none H ∧
  ((∃ vs, Heap.MadeExcOf s.heap s'.heap x cls vs) ∨ (∃ a0, Heap.HeldW (hid X s.heap) X.stack x cls a0 X.env.locals s'.heap ∧ s.heap.UpToSlots s'.heap))
theorem xr_leaves (O : Own X) {e : Value} (h : XR X E e s') : wpAny M X.A (leaving X.env e) (fun _ s'' => CX1 X.prog X.w X.outer X.H₀ X.s₀ E e s'') F s' := by
  obtain ⟨x, cls, pins, σ, H, s, rfl, I, os, gs, q, ⟨vs, hx⟩ | ⟨a0, hx, up⟩⟩ := h
  · exact made_leaves O I hx os gs q
  · exact held_leaves O I hx up os gs q
theorem set_flight {A : Around} {L : Addr} {B : Heap} {l : List Env} {Q : Unit → Shared → Prop} (hx : Heap.HeldW B l x cls a0 L s.heap)
    (h : ∀ h', Heap.HeldW B l x cls a0 L h' → s.heap.UpToSlots h' → Q () { s with heap := h' }) : wpAny M A (setFlight (.ref x) (some L)) Q F s := by
  obtain ⟨k1, k2, k3, oe, vs, T, oT, ts, he, hcls, hd, h1, hnT, hTe, hT, hdT, h3⟩ := hx
  have hsz3 : 3 < ts.size := (Array.getElem?_eq_some_iff.mp h3).1
  have other : ∀ b, b ≠ T → (s.heap.update T (Obj.mapFields (·.setIfInBounds 3 ((some L : Option Addr).elim Value.none fun f => rawInt f)))).get? b = s.heap.get? b :=
    fun b hb => Heap.get?_update_other _ _ (Ne.symm hb)
  have noRecord : ∀ b o, s.heap.get? b = some o → (∀ vs, o.data ≠ .fields vs) → b ≠ T := fun b o hb hnf q => by
    rw [q, hT] at hb; injection hb with hb; subst hb; exact hnf ts hdT
  unfold setFlight
  refine wpAny_bind (wpAny_field he hd h1 ?_)
  rw [if_pos (show (Value.ref T != Value.none) = true from by simp)]
  refine wpAny_setField hT hdT hsz3 (h _ ⟨fun b o hbo => (other b fun q => by rw [q, hnT] at hbo; cases hbo).trans (k1 b o hbo), k2,
    k3.of_keeps fun b o hb hnf => ⟨o, (other b (noRecord b o hb hnf)).trans hb, rfl⟩, ?_⟩ fun b o hb hnf => ⟨o.slots, (other b (noRecord b o hb hnf)).trans hb⟩)
  exact ⟨oe, vs, T, _, _, (other x (Ne.symm hTe)).trans he, hcls, hd, h1, hnT, hTe, Heap.get?_update_self _ hT (Obj.isFreed_of_fields (Obj.data_mapFields hdT _)), Obj.data_mapFields hdT _, by simp [hsz3]⟩
theorem xr_own (O : Own X) : PassesOwn M X.A X.env (XR X E) := by
  intro e s' h
  obtain ⟨x, cls, pins, σ, H, s, rfl, I, os, gs, q, hx⟩ := h
  have hfr : X.A.frames = some (X.env :: X.outer) := by rw [I.ok.frames, O.st]
  have back : ∀ (s2 : Shared) (a0 : Value), s2.os = s.os → s2.gens = s.gens → Heap.HeldW (hid X s.heap) X.stack x cls a0 X.env.locals s2.heap → s.heap.UpToSlots s2.heap → cameBackBy M X.A X.env (XR X E) (.ref x) s2 := by
    intro s2 a0 os2 gs2 hh up
    have hh' := hh
    obtain ⟨k1, k2, k3, oe, vs, T, oT, ts, he, hcls, hd, h1, hnT, hTe, hT, hdT, h3⟩ := hh'
    unfold cameBackBy
    refine wpAny_bind (wpAny_field he hd h1 ?_)
    rw [if_neg (show ¬ ((Value.ref T == Value.none) = true) from by simp)]
    show wpAny M X.A (setFlight (.ref x) X.env.frame) _ _ s2
    rw [O.fr]
    exact set_flight hh fun h' hh2 up2 => ⟨x, cls, pins, σ, H, s, rfl, I, os2, gs2, q, .inr ⟨a0, hh2, up.trans up2⟩⟩
  unfold notedBy
  rcases hx with ⟨vs, hx⟩ | ⟨a0, hx, up⟩
  · obtain ⟨t, he, htn, ht⟩ := hx.there
    have hen : (hid X s.heap).get? x = none := by
      cases z : (hid X s.heap).get? x with
      | none => rfl
      | some o => have := hid_stays X _ _ _ z; rw [hx.new] at this; cases this
    have fr := hid_frames I
    rw [O.st] at fr
    unfold noteFrame
    simp only [O.fr]
    refine wpAny_bind (wpAny_field he rfl (x := .none) rfl ?_)
    rw [if_neg (by decide)]
    refine wpAny_entryW hfr (fr.of_keeps fun b o hb _ => ⟨o, hx.keeps b o hb, rfl⟩) O.fr he (fun b o hb => hx.keeps b o (hid_stays X _ b o hb)) hen rfl (by show 1 < 6; decide) (a0 := .ref t) rfl fun h' hN => ?_
    obtain ⟨n1, n2, n3, n4⟩ := hN
    refine back _ (.ref t) os gs ⟨n1, hen, ?_, n3⟩ ((Heap.UpToSlots.of_keeps hx.keeps).trans n4)
    rw [O.st]
    exact n2
  · exact wpAny_noteFrame_againW O.fr hx.2.2.2 (back s' a0 os gs hx up)
end
end GR
namespace GR
open PySem PySem.Spec PyProof.Rows L2
/-! ### an own class of errors, out of the written part -/
theorem exc_obj {K : PySem.W.Frag} {g : Heap} {C : Addr} {bt : List Value} {nid : String} (hK : K.In g) (hq : PySem.W.excIn K C bt nid = true) :
    ∃ bm N nm qn bs hdct sn sub ab col dd k0 k1 k2 k3 k5 mN, g.get? C = some (excClassObj nm qn C N bs bm hdct sn sub ab col dd k0 k1 k2 k3 k5 nid) ∧ g.Ns N mN ∧ mN "__init__" = none ∧ OwnTail g bt bm := by
  unfold PySem.W.excIn at hq
  split at hq
  case h_2 => cases hq
  case h_1 dct cdat slo hlook =>
    split at hq
    case h_2 => cases hq
    case h_1 C2 mr a0 a1 a2 a3 nn a5 hmro hslo =>
      have hq := hq
      rw [Bool.and_eq_true, Bool.and_eq_true, Bool.and_eq_true, Bool.and_eq_true, Bool.and_eq_true] at hq
      obtain ⟨⟨⟨⟨⟨w1, w2⟩, w3⟩, w4⟩, w5⟩, w6⟩ := hq
      have e1 : C2 = C := beq_iff_eq.mp w1
      have e2 : nn = nid := beq_iff_eq.mp w2
      subst e1 e2
      obtain ⟨c1, c2, c3, c4, c5, c6, c7, c8, c9, c10, c11⟩ := cdat
      have e3 : c11 = false := by cases c11 <;> first | rfl | cases w3
      have e4 : c3 = .ref C2 :: mr := hmro
      subst e3 e4
      have e5 : slo = #[a0, a1, a2, a3, some (.builtin nn), a5] := by
        cases slo
        exact congrArg Array.mk hslo
      subst e5
      exact ⟨_, _, _, _, _, _, _, _, _, _, _, _, _, _, _, _, _, hK _ _ hlook, .of_isNs (PySem.W.isNs_of_in hK w5), PySem.W.nsMap_none_of_in hK w5 (beq_iff_eq.mp w6), PySem.W.tail_of_in hK w4⟩
section
variable {X : Cx}
def tRaise (te : TA) (cls : Value) (E : XK) : TS := fun _ σ H => te σ H fun vs H1 => vs.length = 1 ∧ E cls none H1
theorem ps_raise {E : XK} {c : Str} {C : Addr} {np cpos pos : Pos} {a : Expr} {ta : TA} (hm : X.mg c = some (.ref C)) (hq : PySem.W.excIn X.K C [.type "ValueError", .type "Exception", .type "BaseException", .type "object"] "ValueError.__new__" = true)
    (hc : X.calm = true) (hg : Gl X c) (ha : PA (X.wish (XR X E)) [a] ta) (hd : (c == ("__debug__" : Str)) = false := by decide)
    (he : starEach [a] X.env = [(false, eval a X.env)] := by rfl) : PS (X.wish (XR X E)) (.Raise (some (.Call (.Name c np) [a] [] cpos)) none pos) (tRaise ta (.ref C) E) := by
  intro pins s σ H D I h
  obtain ⟨bm, N, nm, qn, bs, hdct, sn, sub, ab, col, dd, k0, k1, k2, k3, k5, mN, hC, hN, hni, T⟩ := exc_obj I.mod.kin hq
  refine wpAny_Raise_call_subT (C := C) (nm := nm) (q := qn) (N := N) (bs := bs) (bm := bm) (hdct := hdct) (sn := sn) (sub := sub) (ab := ab) (col := col) (dd := dd) (k0 := k0) (k1 := k1) (k2 := k2) (k3 := k3) (k5 := k5)
    PySem.F.excBase_ValueError (mN := mN) (T.hasType PySem.F.excBase_ValueError.hasBase) (I.ok.hd hc) (by rw [he]; rfl) hni (ld_glob I hg hm ⟨rfl, ?_⟩ hd)
  have h2 := ha cpos pins s σ H _ I h
  rw [he] at h2 ⊢
  refine Calls.evalArgs_plain (wpAny_mono h2 (fun us s2 hh => ?_) fun _ _ y => y)
  obtain ⟨vs, H1, I1, r1, l1, q1⟩ := hh
  have kp : ∀ b o, X.base.get? b = some o → s2.heap.get? b = some o := I1.bk
  refine ⟨rfl, by show us.length ≤ sizeLine; rw [← r1.length, l1]; decide, kp _ _ hC, hN.keeps kp, T.keeps kp, fun h' e hm => ?_⟩
  exact ⟨e, .ref C, pins, σ, H1, s2, rfl, I1.unwish, rfl, rfl, q1, .inl ⟨us, hm⟩⟩
/-! ### f'..{i}..' -/
def tFStr (i : Nat) : TE := fun σ H Q => ∃ n : Int, σ[i]? = some (some (.int n)) ∧ 0 ≤ n ∧ n < 64 ∧ ∀ x, Q (.str x) H
theorem text_len : ∀ n : Nat, n < 64 → (Str.ofString (toString (n : Int))).length ≤ 1000 := by decide +kernel
theorem pe_fstr {i : Nat} {a b : Str} {y : Str} {k1 k2 : Nat} {p1 p2 p3 p4 pos : Pos} (hi : X.N[i]? = some y) (hv : Vis X.env.scope y) (la : a.length ≤ 1000) (lb : b.length ≤ 1000)
    (hd : (y == ("__debug__" : Str)) = false := by decide) (hcd : (y == ("__classdict__" : Str)) = false := by decide) :
    PE X (.JoinedStr [.Constant (.str a) k1 p1, .FormattedValue (.Name y p2) (-1) none p3, .Constant (.str b) k2 p4] pos) (tFStr i) := by
  intro pins s σ H Q I h
  obtain ⟨n, e, n0, n1, q⟩ := h
  obtain ⟨m, rfl⟩ : ∃ m : Nat, n = (m : Int) := ⟨n.toNat, by omega⟩
  have tl := text_len m (by omega)
  have zl : ∀ k : Nat, k ≤ 3000 → k ≤ sizeLine := fun k hk => Nat.le_trans hk (by decide)
  have l1 : (Str.empty ++ a).length ≤ 1000 := by rw [strLen_append]; show 0 + a.length ≤ 1000; omega
  have l2 : (Str.empty ++ a ++ Str.ofString (toString (m : Int))).length ≤ 2000 := by rw [strLen_append]; omega
  have l3 : (Str.empty ++ a ++ Str.ofString (toString (m : Int)) ++ b).length ≤ 3000 := by rw [strLen_append]; omega
  refine wpAny_JoinedStr (Calls.Constant_str ⟨a, _, rfl, zl _ (by omega), ?_⟩)
  refine wpAny_FormattedValue_plain (thn (pe_var hi hv hd hcd pins _ σ H (fun v H' => v = .int m ∧ H' = H) (I.tok _) ⟨.int m, e, rfl, rfl⟩) fun u s2 ⟨v, H', I2, r, ev, eH⟩ => ?_)
  subst ev eH
  obtain ⟨t, rfl⟩ := r
  refine formatField_int_small ?_ ⟨_, _, rfl, zl _ (by omega), ?_⟩
  · have : ((m : Int)).natAbs = m := by omega
    rw [this]
    exact Nat.lt_of_le_of_lt (Nat.log2_le_self m) (by omega)
  refine Calls.Constant_str ⟨b, _, rfl, zl _ (by omega), zl _ (by omega), ?_⟩
  exact ⟨.str _, H', (I2.tok _).tok _, ⟨_, rfl⟩, q _⟩
end
end GR
namespace GR
open PySem PySem.Spec PyProof.Rows L2
/-! ### defs that may raise -/
structure Def1 (P : Program) (w : World) (K : PySem.W.Frag) (mg : Str → Option Value) (base : Heap) (k : Nat) (x : Str) (ps : List Str) (sp : Sp) : Prop where
  ex : ∃ (f : Addr) (fd : FuncData), FnOk P w K mg base (CX1 P w) k f fd ps sp ∧ mg x = some (.ref f) ∧ PySem.W.keepIn K (.ref f) = true ∧ Binds K fd ps []
section
variable {P : Program} {w : World} {K : PySem.W.Frag} {mg : Str → Option Value} {base : Heap} {CX : CXT} {N : List Str} {q : Str} {sc : Scope} {f : Addr} {cd : Value} {A : Around} {outer : List Env} {s : Shared} {H : Hp} {E : XK}
theorem own_of : Own (cxOf CX P w K mg base N q sc f cd A outer s H E) := ⟨rfl, rfl, rfl⟩
theorem xr1 {e : Value} {s' : Shared} (h : XR (cxOf (CX1 P w) P w K mg base N q sc f cd A outer s H E) E e s') : (cxOf (CX1 P w) P w K mg base N q sc f cd A outer s H E).xe e s' := xr_leaves own_of h
theorem pass1 : Passes (CX1 P w) (cxOf (CX1 P w) P w K mg base N q sc f cd A outer s H E) E := fun _ _ _ _ _ _ I h => call_leaves own_of I h
theorem PSs.ofXR {st : List Stmt} {t : TS} (h : PSs ((cxOf (CX1 P w) P w K mg base N q sc f cd A outer s H E).wish (XR (cxOf (CX1 P w) P w K mg base N q sc f cd A outer s H E) E)) st t) :
    PSs (cxOf (CX1 P w) P w K mg base N q sc f cd A outer s H E) st t := fun pins s σ H D I hw =>
  wpAny_mono (h pins s σ H D (I.wish _) hw) (fun _ _ z => z.unwish) fun _ _ z => xr1 z
theorem def_of1 {x : Str} {st : Stmt} {N ps : List Str} {k : Nat} {sp : Sp} (M : Mo K mg) (T : DefTxt K x st) (S : FnScope N ps (defScope st))
    (hb : ∀ (kV doc pm : Value) (an : Option Addr) (cdv ct : Value) (us : List Value), us.length = ps.length → bindArgs (PySem.W.fnOf x x (defArgs st) (defBody st) (defScope st) .none kV doc pm an cdv ct) ⟨us, []⟩ = pure (ps.zip us))
    (len : ∀ vs H Q E, sp vs H Q E → vs.length = ps.length)
    (hbody : ∀ (f : Addr) (cdv : Value) (A : Around) (outer : List Env) (s : Shared) (H : Hp) (vs : List V) (Q : VK) (E : XK), Room k (A.deeper (PyProof.Rows.envOfC x (defScope st) s.heap.objs.size f cdv)) → sp vs H Q E →
      ∃ t, PSs (cxOf (CX1 P w) P w K mg base N x (defScope st) f cdv A outer s H E) (defBody st) t ∧ t { nx := fun _ H' => Q .non H', rt := Q } (start N vs) H) : Def1 P w K mg base (k + 1) x ps sp := by
  obtain ⟨f, fd, a, F⟩ := T.ex
  refine ⟨f, fd, ?_, M.at_ _ _ a, F.kp, F.binds hb⟩
  obtain ⟨oc, od, kV, doc, pm, an, cdv, ct, osl, rfl, lk, hcd⟩ := F.ex
  exact fn_of lk hcd S len fun A outer s H vs Q E hr hsp => hbody f cdv A outer s H vs Q E hr hsp
end
section
variable {X : Cx} {j k : Nat} {x : Str} {ps : List Str} {sp : Sp} {p pos : Pos} {e : Expr} {es : List Expr} {t : TA} {E : XK}
theorem pe_def1 (D : Def1 X.prog X.w X.K X.mg X.base k x ps sp) (hr : Room j X.A) (hx : Passes (CX1 X.prog X.w) X E) (ha : PA X (e :: es) t) (hk : k ≤ j := by decide) (hg : Gl X x := by rfl) (hdb : (x == ("__debug__" : Str)) = false := by decide)
    (he : starEach (e :: es) X.env = (false, eval e X.env) :: starEach es X.env := by rfl) (hpl : (backTo pos (starEach es X.env)).any (·.1) = false := by rfl) : PE X (.Call (.Name x p) (e :: es) [] pos) (tCall sp [] E t) := by
  obtain ⟨f, fd, F, m, kp, b⟩ := D.ex
  exact pe_call F (hr.mono hk) hg m kp b .nil hx ha hdb he hpl
end
/-! ### an exception that has landed in a try -/
structure Fly (X : Cx) (pins : List (Addr × Obj)) (σ : L2.St) (H : Hp) (s : Shared) (x : Addr) (cls : Value) : Prop where
  ex : ∃ (H1 : Hp) (s1 : Shared) (B : Heap) (a0 : Value), L2.Inv X pins σ H1 s1 ∧ s.os = s1.os ∧ AllBare s.gens ∧ Land X.prog X.w (frs X.stack) H1 H s1.heap s.heap B ∧ Heap.FlyingW B X.stack x cls a0 s.heap
/-- within an except suite -/
abbrev mkd (X : Cx) (x : Addr) (o : Obj) : Cx := { X with A := X.A.mark (some (.ref x)), calm := false, pn := (x, o) :: X.pn, xe := fun _ _ => False }
section
variable {X : Cx} {pins : List (Addr × Obj)} {σ : L2.St} {H : Hp} {s s' : Shared} {x : Addr} {cls : Value} {M : Model}
theorem Fly.inv (f : Fly X pins σ H s x cls) : L2.Inv X pins σ H s := by
  obtain ⟨H1, s1, B, a0, I, os, ba, ld, fl⟩ := f.ex
  exact I.call' (ch := []) os ld.un ld.hok ba fun b z => absurd z (by simp)
theorem Fly.obj (f : Fly X pins σ H s x cls) : ∃ (o : Obj) (vs : Array Value), s.heap.get? x = some o ∧ o.cls = cls ∧ o.data = .fields vs ∧ H x = none := by
  obtain ⟨H1, s1, B, a0, I, os, ba, ld, fl⟩ := f.ex
  obtain ⟨oe, vs, h1, h2, h3, _⟩ := fl.first
  refine ⟨oe, vs, h1, h2, h3, ?_⟩
  cases e : H x with
  | none => rfl
  | some u =>
    obtain ⟨o', z⟩ := ld.c1 x (by rw [e]; simp)
    rw [fl.2.1] at z
    cases z
theorem ok_mkd {o : Obj} (ok : X.Ok) : (mkd X x o).Ok :=
  ⟨ok.mod, ok.kind, ok.glob, ok.blt, ok.above, ok.inj, ok.has, ok.cab, fun z => (Bool.noConfusion z), ok.frames, ok.stk, ok.exf, ok.bs, ok.bsz, ok.noex, ok.exfs, ok.funs, ok.frf⟩
theorem Fly.mkd (f : Fly X pins σ H s x cls) : ∃ (o : Obj) (vs : Array Value), s.heap.get? x = some o ∧ o.cls = cls ∧ o.data = .fields vs ∧ L2.Inv (mkd X x o) pins σ H s := by
  obtain ⟨o, vs, h1, h2, h3, h4⟩ := f.obj
  have I := f.inv
  refine ⟨o, vs, h1, h2, h3, ok_mkd I.ok, I.os, I.bare, I.base, I.loc, I.cell, I.free, I.freeC, fun p hp => ?_, I.hok, I.len⟩
  have hp : p = (x, o) ∨ p ∈ X.pn ++ pins := by
    have hp : p ∈ (x, o) :: (X.pn ++ pins) := hp
    exact List.mem_cons.mp hp
  rcases hp with rfl | hp
  · refine ⟨h1, h4, fun q => ?_, fun q => ?_, fun v => ?_⟩
    · obtain ⟨m, ⟨o', es, ep, ho, hd, _⟩, _⟩ := I.loc
      have q : x = X.env.locals := q
      rw [← q, h1] at ho
      cases ho
      rw [h3] at hd
      cases hd
    · have q : x ∈ X.fs := q
      obtain ⟨o', ho, hn⟩ := (I.funs.mem q).2
      rw [h1] at ho
      cases ho
      exact hn vs h3
    · show o.data ≠ _
      rw [h3]
      intro z
      cases z
  · exact I.pin p hp
theorem inv_unmkd {o : Obj} (ok : X.Ok) (I : L2.Inv (GR.mkd X x o) pins σ H s) : L2.Inv X pins σ H s :=
  ⟨ok, I.os, I.bare, I.base, I.loc, I.cell, I.free, I.freeC, fun p hp => I.pin p (List.mem_cons_of_mem _ hp), I.hok, I.len⟩
theorem sp_unmkd {o : Obj} {D : Ends} {f : Flow} (ok : X.Ok) (h : SP (GR.mkd X x o) pins D f s') : SP X pins D f s' := by
  cases f with
  | next => obtain ⟨σ', H', J, q⟩ := h; exact ⟨σ', H', inv_unmkd ok J, q⟩
  | brk => obtain ⟨σ', H', J, q⟩ := h; exact ⟨σ', H', inv_unmkd ok J, q⟩
  | cont => obtain ⟨σ', H', J, q⟩ := h; exact ⟨σ', H', inv_unmkd ok J, q⟩
  | ret u => obtain ⟨v, σ', H', J, r, q⟩ := h; exact ⟨v, σ', H', inv_unmkd ok J, r, q⟩
/-- the flight's mark is taken off -/
theorem Fly.lands {A : Around} {F : Value → Shared → Prop} {Q : Unit → Shared → Prop} (f : Fly X pins σ H s x cls) (h : ∀ s2, Fly X pins σ H s2 x cls → Q () s2) : wpAny M A (setFlight (.ref x) none) Q F s := by
  have J := f.inv
  obtain ⟨H1, s1, B, a0, I, os, ba, ld, fl⟩ := f.ex
  refine lands_againW fl fun h' fl' up => h _ ⟨H1, s1, B, a0, I, os, ba, ?_, fl'⟩
  exact ld.move fl.1 fl'.1 up fun b hb => fs_frames J b hb
/-- a callee's exception is looked at -/
theorem fly_of (O : Own X) {E : XK} {F F2 : Value → Shared → Prop} {e : Value} {R : Value → Shared → Prop} (I : L2.Inv X pins σ H s) (hx : CX1 X.prog X.w X.stack H s E e s')
    (h : ∀ x cls H' s2, e = .ref x → E cls none H' → Fly X pins σ H' s2 x cls → R (.ref x) s2) :
    wpAny M X.A (noteFrame e X.env) (fun _ s2 => wpAny M X.A (setFlight e none) (fun _ s3 => R e s3) F s2) F2 s' := by
  obtain ⟨x, cls, a0, H', B, rfl, os, ba, ld, fl⟩ := hx
  obtain ⟨fl, q⟩ := fl
  have hfr : X.A.frames = some (X.env :: X.outer) := by rw [I.ok.frames, O.st]
  have J : L2.Inv X pins σ H' s' := I.call' (ch := []) os ld.un ld.hok ba fun b z => absurd z (by simp)
  have fl0 := fl.1
  have fl2 := fl
  rw [O.st] at fl2
  refine wpAny_looks_onW hfr O.fr fl2 fun h1 hh up1 => ?_
  refine wpAny_landsW hh fun h2 fl3 up2 => ?_
  refine h x cls H' _ rfl q ⟨H, s, B, a0, I, os, ba, ?_, by rw [O.st]; exact fl3⟩
  exact ld.move fl0 fl3.1 (up1.trans up2) fun b hb => fs_frames J b hb
end
/-! ### handlers -/
def PH (X : Cx) (hs : List ExceptHandler) (cls : Value) (t : TS) : Prop :=
  ∀ (pins : List (Addr × Obj)) (s : Shared) (σ : L2.St) (H : Hp) (D : Ends) (x : Addr), Fly X pins σ H s x cls → t D σ H → wpAny (model X.prog X.w) X.A (handleBy (.ref x) X.env hs) (SP X pins D) X.xe s
theorem looks_cls {Mo : Model} {h : Heap} {x : Addr} {o : Obj} {cls : Value} (e : h.get? x = some o) (c : o.cls = cls) : PySem.W.Looks Mo h (typeOf (.ref x)) cls := by
  rw [← c]
  exact (PySem.W.Looks.ld e).andThen .now
section
variable {X : Cx} {c : Str} {C : Addr} {cls : Value} {np pos : Pos} {name : Option Str} {b0 : Stmt} {body : List Stmt} {rest : List ExceptHandler} {t : TS}
theorem ph_no (hm : X.mg c = some (.ref C)) (hx : PySem.W.exmOne X.K cls (.ref C) = some false) (hr : PH X rest cls t) (hg : Gl X c := by rfl) (hd : (c == ("__debug__" : Str)) = false := by decide) :
    PH X (.ExceptHandler (some (.Name c np)) name body pos :: rest) cls t := by
  intro pins s σ H D x fl h
  obtain ⟨o, vs, e1, e2, e3, Im⟩ := fl.mkd
  refine wpAny_handleBy_cons (codeAny_handlers_test (ld_glob (X := GR.mkd X x o) Im hg hm ((PySem.W.exm_one Im.kIn (looks_cls e1 e2) hx).here ?_) hd)) (by intro q; cases q)
  exact hr pins s σ H D x fl h
theorem ph_yes (hm : X.mg c = some (.ref C)) (hx : PySem.W.exmOne X.K cls (.ref C) = some true) (hb : ∀ x o, PSs (mkd X x o) (b0 :: body) t) (hg : Gl X c := by rfl) (hd : (c == ("__debug__" : Str)) = false := by decide) :
    PH X (.ExceptHandler (some (.Name c np)) none (b0 :: body) pos :: rest) cls t := by
  intro pins s σ H D x fl h
  obtain ⟨o, vs, e1, e2, e3, Im⟩ := fl.mkd
  have ok := fl.inv.ok
  refine wpAny_handleBy_cons (codeAny_handlers_test (ld_glob (X := GR.mkd X x o) Im hg hm ((PySem.W.exm_one Im.kIn (looks_cls e1 e2) hx).here ?_) hd)) (by intro q; cases q)
  refine codeAny_handlers_suite (fl.lands fun s2 fl2 => ?_)
  obtain ⟨o2, vs2, f1, f2, f3, Im2⟩ := fl2.mkd
  exact wpAny_mono (hb x o2 pins s2 σ H D Im2 h) (fun f s3 z => sp_unmkd ok z) fun _ _ z => z.elim
/-- the name behind `as` goes -/
theorem name_goes {pins : List (Addr × Obj)} {σ : L2.St} {H : Hp} {s : Shared} {M : Model} {A : Around} {F : Value → Shared → Prop} {Q : Unit → Shared → Prop} {n : Str} {i : Nat} (I : L2.Inv X pins σ H s) (hN : X.N.Nodup) (hi : X.N[i]? = some n)
    (hl : X.env.scope.names.lookup n = some .local) (h : ∀ s2, L2.Inv X pins (σ.set i none) H s2 → Q () s2) : wpAny M A (do bindName X.env n .none; unbindBehindTheSuite X.env n pos) Q F s := by
  obtain ⟨m, hn, hv⟩ := id I.loc
  refine wpAny_nameGoes_keeps hl hn (by rw [I.ok.kind]; rfl) fun h' v hn' hs => h _ ?_
  obtain ⟨oL, _, _, hoL, _⟩ := id hn
  have low : ∀ b o, X.s₀.heap.get? b = some o → b ≠ X.env.locals := fun b o e => not_locals I e
  refine ⟨I.ok, I.os, I.bare, ⟨fun b o e n hb hx => (hs.2 b (low b o e)).trans (I.base.keep b o e n hb hx), fun b o e n hb hx => ?_, I.base.free, fun b o e hx => ?_, I.base.tups, I.base.frzs, I.base.tbls⟩, ⟨_, hn', fun k y v' e1 e2 e3 => ?_⟩, fun y c e => ?_, I.free, I.freeC, fun p hp => ?_, fun b ob e => ?_, by simpa using I.len⟩
  · obtain ⟨sl, z⟩ := I.base.slot b o e n hb hx
    exact ⟨sl, (hs.2 b (low b o e)).trans z⟩
  · obtain ⟨o', z⟩ := I.base.there b o e hx
    exact ⟨o', (hs.2 b (low b o e)).trans z⟩
  · have hk : k ≠ i := fun q => by
      subst q
      rw [List.getElem?_set] at e2
      simp at e2
    rw [List.getElem?_set_ne (Ne.symm hk)] at e2
    obtain ⟨u', r', q⟩ := hv k y v' e1 e2 e3
    refine ⟨u', r', ?_⟩
    rcases q with ⟨kk, e⟩ | ⟨kk, c, e, z⟩
    · have ny : y ≠ n := fun q => hk (nodup_ix hN e1 (q ▸ hi))
      exact .inl ⟨kk, by simp [ny, e]⟩
    · exact .inr ⟨kk, c, e, z.sameBut hs (I.cne y c e)⟩
  · obtain ⟨w', z⟩ := I.cell y c e
    exact ⟨w', z.sameBut hs (I.cne y c e)⟩
  · obtain ⟨e, n, ne, nf, d⟩ := I.pin p hp
    exact ⟨(hs.2 p.1 ne).trans e, n, ne, nf, d⟩
  · refine (I.hok b ob e).stay (fun c w' hc q => (hs.2 c ?_).trans q) (fun _ q => q) fun _ _ q => q
    intro z
    subst z
    rcases hc with z | z
    · rw [← z, I.free] at e; cases e
    · rw [I.free] at z; cases z
def dAs (D : Ends) (i : Nat) : Ends := { nx := fun σ H => D.nx (σ.set i none) H, rt := D.rt, bk := fun σ H => D.bk (σ.set i none) H, ct := fun σ H => D.ct (σ.set i none) H }
def tAs (i : Nat) (t : Addr → TS) : TS := fun D σ H => ∀ x, H x = none → t x (dAs D i) (σ.set i (some (.ref x))) H
theorem ph_as {n : Str} {i : Nat} {t : Addr → TS} (hm : X.mg c = some (.ref C)) (hx : PySem.W.exmOne X.K cls (.ref C) = some true) (hN : X.N.Nodup) (hi : X.N[i]? = some n) (hl : X.env.scope.names.lookup n = some .local)
    (hb : ∀ x o, o.cls = cls → (∃ vs, o.data = .fields vs) → PSs (mkd X x o) (b0 :: body) (t x)) (hg : Gl X c := by rfl) (hd : (c == ("__debug__" : Str)) = false := by decide) :
    PH X (.ExceptHandler (some (.Name c np)) (some n) (b0 :: body) pos :: rest) cls (tAs i t) := by
  intro pins s σ H D x fl h
  obtain ⟨o, vs, e1, e2, e3, Im⟩ := fl.mkd
  have ok := fl.inv.ok
  refine wpAny_handleBy_cons (codeAny_handlers_test (ld_glob (X := GR.mkd X x o) Im hg hm ((PySem.W.exm_one Im.kIn (looks_cls e1 e2) hx).here ?_) hd)) (by intro q; cases q)
  refine codeAny_handlers_suite_as (fl.lands fun s2 fl2 => ?_)
  obtain ⟨o2, vs2, f1, f2, f3, Im2⟩ := fl2.mkd
  obtain ⟨_, _, _, _, _, hfree⟩ := fl2.obj
  refine store_ok (X := GR.mkd X x o2) (v := .ref x) Im2 hN hi (.inl hl) rfl (fun s3 I3 => ?_) (.inr hl)
  refine wpAny_mono (hb x o2 f2 ⟨vs2, f3⟩ pins s3 _ H (dAs D i) I3 (h x hfree)) (fun f s4 z => ?_) fun _ _ z => z.elim
  have z := sp_unmkd ok z
  cases f with
  | next => obtain ⟨σ', H', J, q⟩ := z; exact name_goes J hN hi hl fun s5 J5 => ⟨_, H', J5, q⟩
  | brk => obtain ⟨σ', H', J, q⟩ := z; exact name_goes J hN hi hl fun s5 J5 => ⟨_, H', J5, q⟩
  | cont => obtain ⟨σ', H', J, q⟩ := z; exact name_goes J hN hi hl fun s5 J5 => ⟨_, H', J5, q⟩
  | ret u => obtain ⟨v, σ', H', J, r, q⟩ := z; exact name_goes J hN hi hl fun s5 J5 => ⟨v, _, H', J5, r, q⟩
end
/-- a cut: what holds behind a statement is named at the reading -/
def tCut (t : TS) : TS := fun D σ H => ∃ J : L2.St → Hp → Prop, t { D with nx := J } σ H ∧ ∀ σ' H', J σ' H' → D.nx σ' H'
theorem ps_cut {X : Cx} {st : Stmt} {t : TS} (h : PS X st t) : PS X st (tCut t) := by
  intro pins s σ H D I ⟨J, h1, h2⟩
  refine thn (h pins s σ H { D with nx := J } I h1) fun f s1 q => ?_
  cases f with
  | next => obtain ⟨σ', H', J', q⟩ := q; exact ⟨σ', H', J', h2 _ _ q⟩
  | ret v => exact q
  | brk => exact q
  | cont => exact q
def tTwo (t1 t2 : TS) : Bool → TS := fun b => match b with
  | false => t1
  | true => t2
theorem ph_two {X : Cx} {hs : List ExceptHandler} {kc : Bool → Value} {t1 t2 : TS} (h1 : PH X hs (kc false) t1) (h2 : PH X hs (kc true) t2) : ∀ b, PH X hs (kc b) (tTwo t1 t2 b)
  | false => h1
  | true => h2
section
variable {X : Cx} {j k : Nat} {x : Str} {ps : List Str} {sp : Sp} {p pos pos1 pos2 : Pos} {e : Expr} {es : List Expr} {t : TA} {h0 : ExceptHandler} {hs : List ExceptHandler} {kc : Bool → Value} {th : Bool → TS}
def tTry (sp : Sp) (kc : Bool → Value) (t : TA) (th : Bool → TS) : TS := fun D σ H => t σ H fun vs H1 => sp (vs ++ []) H1 (fun _ H2 => D.nx σ H2) fun cls _ H2 => ∃ b, cls = kc b ∧ th b D σ H2
theorem ps_try (O : Own X) (hn : ∀ e s, ¬ X.xe e s) (D : Def1 X.prog X.w X.K X.mg X.base k x ps sp) (hr : Room j X.A) (ha : PA X (e :: es) t) (hh : ∀ b, PH X (h0 :: hs) (kc b) (th b)) (hk : k ≤ j := by decide) (hg : Gl X x := by rfl) (hdb : (x == ("__debug__" : Str)) = false := by decide)
    (he : starEach (e :: es) X.env = (false, eval e X.env) :: starEach es X.env := by rfl) (hpl : (backTo pos (starEach es X.env)).any (·.1) = false := by rfl) (hsw : swapsWith (.Call (.Name x p) (e :: es) [] pos) none pos1.line X.env = pure false := by rfl) :
    PS X (.Try [.Expr (.Call (.Name x p) (e :: es) [] pos) pos1] (h0 :: hs) [] [] pos2) (tTry sp kc t th) := by
  intro pins s σ H D' I h
  obtain ⟨f, fd, F, m, kp, b⟩ := D.ex
  refine wpAny_Try_except (wpAny_execs_cons (wpAny_Expr_any ?_ I.quiet hsw))
  refine wpAny_Call_Name_kw (ld_glob I hg m ?_ hdb)
  refine PySem.W.callWith_K (h₀ := X.base) I.ok.mod.kin kp (wpAny_mono (ha pos pins s σ H _ I h) (fun us s1 ⟨vs, H1, I1, r, q⟩ => ⟨I1.kIn, ?_⟩) fun e s z => (hn e s z).elim) he hpl
  have r2 : Vals (vs ++ []) (us ++ []) := r.append .nil
  have hl : (us ++ []).length = ps.length := by rw [← r2.length]; exact F.len _ _ _ _ q
  refine wpAny_call (codeAny_mono (F.run X.A X.stack s1 H1 ⟨us, []⟩ (us ++ []) (vs ++ []) _ _ (hr.mono hk) I1.env0 (b s1 us I1.kIn hl) r2 q) fun r s' hq => ?_)
  cases r with
  | error e =>
    have hq : CX1 X.prog X.w X.stack H1 s1 (fun cls _ H2 => ∃ b, cls = kc b ∧ th b D' σ H2) e s' := hq
    refine fly_of (R := fun e s3 => wpAny (model X.prog X.w) X.A (handleBy e X.env (h0 :: hs)) (SP X pins D') X.xe s3) O I1 hq fun x cls H' s2 _ hE fl => ?_
    obtain ⟨b, hc, q⟩ := hE
    exact hh b pins s2 σ H' D' x (hc ▸ fl) q
  | ok fl =>
    cases fl with
    | ret u =>
      obtain ⟨v, H', J, r, q⟩ := I1.after hq
      exact wpAny_execs_nil (wpAny_execs_nil ⟨σ, H', J, q⟩)
    | next => exact False.elim hq
    | brk => exact False.elim hq
    | cont => exact False.elim hq
end
/-! ### isinstance of a caught exception of an own class -/
structure ExcOk (K : PySem.W.Frag) (C : Addr) : Prop where
  ga : PySem.W.findIn K (.ref C) "__getattribute__" = some (some (.builtin "BaseException.__getattribute__"))
  no : PySem.W.findIn K (.ref C) "__getattr__" = some none
  cl : PySem.W.findIn K (.ref C) "__class__" = some (some (.builtin "object.__class__"))
  mr : PySem.W.mroIn K C (.type "object") = some true
  su : PySem.W.subIn K (.ref C) (.type "BaseException") = some true
  ic : PySem.W.isClsIn K C = true
section
variable {prog : Program} {w : World} {A : Around} {K : PySem.W.Frag} {C a : Addr} {o : Obj} {s : Shared} {tk : Tok}
open Builtin Builtin.ObjectAttr Builtin.Getset_descriptor in
theorem exc_get {R : Result → Shared → Prop} {tp : Value} (X : K.In s.heap) (ok : ExcOk K C) (e : s.heap.get? a = some o) (c : o.cls = .ref C) (h : R (.ok (.ret (.ref C))) s) :
    codeAny (model prog w) A (.call (.builtin "getset_descriptor.__get__") ⟨[.builtin "object.__class__", .ref a, tp], []⟩) R s := by
  obtain ⟨hh, g, dr, t, os⟩ := s
  have T0 := looks_cls (Mo := model prog w) e c
  have T1 := PySem.W.looks_mroIn (M := model prog w) X ok.mr
  refine codeAny_call_builtin PySem.W.KF.slot_gs.plain PySem.W.KF.entry_gs (PySem.W.KF.slot_gs.check _ _ _ _ _ _ _ _ PySem.W.KF.type_class (PySem.W.KF.args_gs _ _ _) ?_)
  unfold Builtin.«getset_descriptor.__get__» descrGet; rw [PySem.W.dga_obj]
  refine wpAny_bind (wpAny_pure ?_); unfold descrGetter descrCheckInstance descrNameAndClass isInstance
  simp only [PySem.W.KF.owner_class]; repeat lk
  refine ⟨Code.quiet_builtin _ (by decide +kernel), codeAny_builtin PySem.W.KF.entry_class ?_⟩; unfold Builtin.«object.__class__» shownTypeOf
  repeat lk
  exact h
variable {Er : Value → Shared → Prop}
theorem exc_entry {Q : Fin → Shared → Prop} (X : K.In s.heap) (ok : ExcOk K C) (e : s.heap.get? a = some o) (c : o.cls = .ref C) (h : Q (.done (.ret (.ref C))) s) :
    wpAny (model prog w) A (Builtin.«object.__getattribute__» ⟨[.ref a, .str "__class__" tk], []⟩) Q Er s := by
  obtain ⟨hh, g, dr, t, os⟩ := s
  have T0 := looks_cls (Mo := model prog w) e c
  have T1 := PySem.W.looks_findIn (M := model prog w) X ok.cl
  have f5 := PySem.F.typeOf_object_class
  have f6 := PySem.F.slot_gs_get.lookup
  have f7 := PySem.F.slot_gs_set.lookup
  have hT5 : (⟨hh, g, dr, t, os⟩ : Shared).TypeIs (.builtin "object.__class__") "getset_descriptor" := f5
  repeat (any_goals (first | assumption | with_reducible refine PySem.W.Looks.at T0 ?_ | with_reducible refine PySem.W.Looks.at T1 ?_ | wp_step))
  refine exc_get X ok e c ?_
  repeat (any_goals (first | assumption | wp_step))
theorem exc_check {M : Model} {Q : Unit → Shared → Prop} {nameV : Value} (X : K.In s.heap) (ok : ExcOk K C) (e : s.heap.get? a = some o) (c : o.cls = .ref C) (h : Q () s) :
    wpAny M A (checkBuiltinCall "BaseException.__getattribute__" ⟨[.ref a, nameV], []⟩) Q Er s := by
  obtain ⟨hh, g, dr, t, os⟩ := s
  have T0 := looks_cls (Mo := M) e c
  have T1 := PySem.W.looks_subIn (M := M) X ok.su
  have k1 : builtinKind "BaseException.__getattribute__" = some .slot := by decide +kernel
  have k2 : splitId "BaseException.__getattribute__" = some ("BaseException", "__getattribute__") := by decide +kernel
  have k3 := PySem.F.args_bexc_ga (.ref a) nameV
  simp only [checkBuiltinCall, k1, k2]
  refine wpAny_bind ((T0.andThen T1).at ?_)
  repeat (first | assumption | wp_step)
theorem exc_call {R : Result → Shared → Prop} (X : K.In s.heap) (ok : ExcOk K C) (e : s.heap.get? a = some o) (c : o.cls = .ref C) (h : R (.ok (.ret (.ref C))) s) :
    codeAny (model prog w) A (.call (.builtin "BaseException.__getattribute__") ⟨[.ref a, .str "__class__" tk], []⟩) R s :=
  codeAny_call_builtin PySem.F.excAttr_ValueError.ga.plain PySem.F.entry_bexc_ga (exc_check X ok e c (exc_entry X ok e c h))
theorem exc_by {Q : Value → Shared → Prop} (X : K.In s.heap) (ok : ExcOk K C) (e : s.heap.get? a = some o) (c : o.cls = .ref C) (h : Q (.ref C) s) :
    wpAny (model prog w) A (getAttrBy (.ref a) (.str "__class__" tk) false) Q Er s := by
  obtain ⟨hh, g, dr, t, os⟩ := s
  have T0 := looks_cls (Mo := model prog w) e c
  have T1 := PySem.W.looks_findIn (M := model prog w) X ok.ga
  have T2 := PySem.W.looks_findIn (M := model prog w) X ok.no
  have f3 := PySem.F.excAttr_ValueError.ga.bind (.ref a)
  have x2 : (Value.builtin "BaseException.__getattribute__" == Value.builtin "object.__getattribute__") = false := by decide +kernel
  have x1 : (onTheHeap (Value.ref C) && Value.builtin "BaseException.__getattribute__" == Value.builtin "object.__getattribute__") = false := by rw [x2]; rfl
  repeat (any_goals (first | assumption | with_reducible refine PySem.W.Looks.at T0 ?_ | with_reducible refine PySem.W.Looks.at T1 ?_ | with_reducible refine PySem.W.Looks.at T2 ?_ | wp_step))
  refine exc_call X ok e c ?_
  repeat (any_goals (first | assumption | wp_step))
theorem exc_attr {Q : Option Value → Shared → Prop} (X : K.In s.heap) (ok : ExcOk K C) (e : s.heap.get? a = some o) (c : o.cls = .ref C) (h : Q (some (.ref C)) { s with toks := s.toks + 1 }) :
    wpAny (model prog w) A (getAttr? (.ref a) "__class__") Q Er s := by
  unfold getAttr? getAttrBy?
  refine wpAny_bind (wpAny_mkText (wpAny_bind (wpAny_attempt (exc_by (s := { s with toks := s.toks + 1 }) X ok e c ?_))))
  exact wpAny_pure h
theorem kitx_exc (ok : ExcOk K C) (c : o.cls = .ref C) : PySem.W.KitX K (.ref a) (.ref C) (fun h => h.get? a = some o) where
  ty := fun _ _ _ e => looks_cls e c
  it := fun _ _ X _ => by
    obtain ⟨cd, hc⟩ := Option.isSome_iff_exists.mp ok.ic
    unfold PySem.W.clsIn at hc
    split at hc
    · rename_i ho
      intro A' Q' E' s' k q
      unfold isType loadHead; exact wpAny_bind (wpAny_loadPart (k _ _ (X _ _ ho)) (wpAny_pure q))
    · cases hc
  ne := fun h tp dd its n sl X htp => by
    obtain ⟨cd, hc⟩ := Option.isSome_iff_exists.mp ok.ic
    refine Bool.eq_false_iff.mpr fun q => ?_
    have e := Value.ref.inj (beq_iff_eq.mp q)
    subst e
    unfold PySem.W.clsIn at hc
    split at hc
    · rename_i ho
      have z := (X _ _ ho).symm.trans htp; cases z
    · cases hc
  ca := fun X e k => exc_attr X ok e c k
end
theorem call_isx {X : Cx} {x C : Addr} {o : Obj} (ok : ExcOk X.K C) (c : o.cls = .ref C) : CallR (mkd X x o) (.builtin "isinstance") (fun xs H Q => ∃ (v : V) (b : Bool), xs = [.ref x, v] ∧ ((∃ T, v = .ty T ∧ PySem.W.kitOne X.K (.ref C) (.type T) = some b) ∨ (∃ D, v = .ref D ∧ PySem.W.kitOne X.K (.ref C) (.ref D) = some b)) ∧ Q (.bl b) H) := by
  intro pins s σ H xs us Q I r h
  obtain ⟨v, b, rfl, hv, q⟩ := h
  obtain ⟨u, w', rfl, ru, rw'⟩ := vals2 r
  cases (show u = Value.ref x from ru)
  have hx : s.heap.get? x = some o := (I.pin (x, o) (List.mem_cons_self)).1
  rcases hv with ⟨T, rfl, e⟩ | ⟨D, rfl, e⟩
  · cases (show w' = Value.type T from rw')
    exact PySem.W.kia_one (kitx_exc ok c) I.kIn hx e (fun z => nomatch z) fun tk => ⟨.bl b, H, I.tok tk, rfl, q⟩
  · cases (show w' = Value.ref D from rw')
    exact PySem.W.kia_one (kitx_exc ok c) I.kIn hx e (fun z => nomatch z) fun tk => ⟨.bl b, H, I.tok tk, rfl, q⟩
end GR
namespace GR
open PySem L2
def top (i : Nat) : Stmt := PySem.Challenge.pw_gameround_k06_results_refused.main.body.getD i (.Pass ⟨0, 0, 0, 0⟩)
abbrev s_SeasonError : Stmt := top 1
abbrev s_NoGame : Stmt := top 2
abbrev s_ToldTwice : Stmt := top 3
abbrev s_last_team : Stmt := top 5
abbrev s_at_home : Stmt := top 6
abbrev s_is_there : Stmt := top 8
abbrev s_has_game : Stmt := top 9
abbrev s_refuse_wrong : Stmt := top 10
abbrev s_points_for : Stmt := top 11
abbrev s_marks_of : Stmt := top 12
abbrev s_table : Stmt := top 13
abbrev s__law_at : Stmt := top 15
abbrev s__law_results_of : Stmt := top 16
abbrev s__law_season_of : Stmt := top 17
abbrev s_law : Stmt := top 18
end GR
/-! ### the plan's defs -/
namespace GR
open PySem L2
section
variable {P : Program} {w : World} {K : PySem.W.Frag} {mg : Str → Option Value} {base : Heap}
theorem ok_last (M : Mo K mg) (T : DefTxt K "last_team" s_last_team) : Def P w K mg base 1 "last_team" ["count"] (sp1 lastV) := by
  refine def_of M T (N := ["count"]) ⟨rfl, rfl, rfl, by decide +kernel, rfl, by decide +kernel, by decide +kernel⟩ (fun _ _ _ _ _ _ us hl => match us, hl with | [_], _ => rfl) ?_ ?_
  · rintro vs H Q E ⟨c, rfl, _⟩
    rfl
  · rintro f cdv A outer s H vs Q E hr ⟨c, rfl, q⟩
    refine ⟨_, pss_one (ps_ret (pe_ifExp (pt_cmpR op_eq (pe_op op_mod (pv 0) pe_int) pe_int (nomark _)) (pe_op op_sub (pv 0) pe_int) pe_non)), ?_⟩
    refine ⟨_, rfl, _, _, rfl, rfl, (by show (0 : Int) < 2; decide), rfl, _, rfl, ?_⟩
    refine iteI (fun h => ?_) (fun h => ?_)
    · refine ⟨_, rfl, _, _, rfl, rfl, ?_⟩
      have e : lastV c = .int (c - 1) := by unfold lastV lastO; rw [if_pos h]; rfl
      rw [e] at q
      exact q
    · have e : lastV c = .non := by unfold lastV lastO; rw [if_neg h]; rfl
      rw [e] at q
      exact q
theorem ok_home (M : Mo K mg) (T : DefTxt K "at_home" s_at_home) (zmin : mg "min" = none) (zmax : mg "max" = none) (D2 : Def P w K mg base 1 "last_team" ["count"] (sp1 lastV)) :
    Def P w K mg base 2 "at_home" ["count", "one", "other"] (sp3 (fun _ _ _ => True) fun c a b => .int (atHomeM c a b)) := by
  refine def_of M T (N := ["count", "one", "other", "lower", "higher"]) ⟨rfl, rfl, rfl, by decide +kernel, rfl, by decide +kernel, by decide +kernel⟩ (fun _ _ _ _ _ _ us hl => match us, hl with | [_, _, _], _ => rfl) ?_ ?_
  · rintro vs H Q E ⟨c, a, b, rfl, _⟩
    rfl
  · rintro f cdv A outer s H vs Q E hr ⟨c, a, b, rfl, -, q⟩
    have q : Q (.int (atHomeM c a b)) H := q
    have nd : (["count", "one", "other", "lower", "higher"] : List Str).Nodup := by decide +kernel
    refine ⟨_, pss_cons (ps_set (i := 3) nd rfl (Or.inl rfl) (pe_callB (call_min2 rfl) rfl zmin PyProof.Rows.boot_min (pa_cons (pv 1) (pa_cons (pv 2) pa_nil))))
      (pss_cons (ps_set (i := 4) nd rfl (Or.inl rfl) (pe_callB (call_max2 rfl) rfl zmax PyProof.Rows.boot_max (pa_cons (pv 1) (pa_cons (pv 2) pa_nil))))
      (pss_cons (ps_if (pt_cmpR op_eq (pv 4) (pe_def D2 hr (pa_cons (pv 0) pa_nil)) (nomark _))
        (pss_one (ps_ret (pe_ifExp (pt_cmpR op_eq (pe_op op_mod (pv 3) pe_int) pe_int (nomark _)) (pv 3) (pv 4)))) pss_nil)
      (pss_one (ps_ret (pe_ifExp (pt_cmpR op_eq (pe_op op_mod (pe_op op_sub (pv 4) (pv 3)) pe_int) pe_int (nomark _)) (pv 3) (pv 4)))))), ?_⟩
    refine ⟨_, rfl, _, rfl, a, b, rfl, ?_⟩
    refine ⟨_, rfl, _, rfl, a, b, rfl, ?_⟩
    refine ⟨_, rfl, _, rfl, c, rfl, scal_opt _ _, _, rfl, ?_⟩
    unfold atHomeM homeM at q
    generalize (if b < a then b else a) = lo at q ⊢
    generalize (if b > a then b else a) = hi at q ⊢
    refine iteD (fun h => ?_) (fun h => ?_)
    · rw [if_pos (lastV_eq.mp h)] at q
      refine ⟨_, rfl, _, _, rfl, rfl, (by show (0 : Int) < 2; decide), rfl, _, rfl, ?_⟩
      refine iteI (fun g => ?_) (fun g => ?_)
      · rw [if_pos g] at q
        exact ⟨_, rfl, q⟩
      · rw [if_neg g] at q
        exact ⟨_, rfl, q⟩
    · have h' : ¬ lastO c = some hi := fun z => h (lastV_eq.mpr z)
      rw [if_neg h'] at q
      refine ⟨_, rfl, _, rfl, _, _, rfl, rfl, _, _, rfl, rfl, (by show (0 : Int) < 2; decide), rfl, _, rfl, ?_⟩
      refine iteI (fun g => ?_) (fun g => ?_)
      · rw [if_pos g] at q
        exact ⟨_, rfl, q⟩
      · rw [if_neg g] at q
        exact ⟨_, rfl, q⟩
end
end GR
/-! ### the law's small defs -/
namespace GR
open PySem L2
section
variable {P : Program} {w : World} {K : PySem.W.Frag} {mg : Str → Option Value} {base : Heap}
theorem ok_at (M : Mo K mg) (T : DefTxt K "_law_at" s__law_at) (zlen : mg "len" = none) : Def P w K mg base 1 "_law_at" ["_law_script", "_law_k"] (spAt K) := by
  refine def_of M T (N := ["_law_script", "_law_k"]) ⟨rfl, rfl, rfl, by decide +kernel, rfl, by decide +kernel, by decide +kernel⟩ (fun _ _ _ _ _ _ us hl => match us, hl with | [_, _], _ => rfl) ?_ ?_
  · rintro vs H Q E ⟨a, ns, k, rfl, _⟩
    rfl
  · rintro f cdv A outer s H vs Q E hr ⟨a, ns, k, rfl, hS, q⟩
    refine ⟨_, pss_cons (ps_if (pt_cmpR op_lt (pv 1) (pe_callB call_len_seq rfl zlen PySem.boot_len (pa_cons (pv 0) pa_nil)) (nomark _)) (pss_one (ps_ret (pe_ix ix_list (pv 0) (pv 1) (fun _ _ => rfl)))) pss_nil) (pss_one (ps_ret pe_int)), ?_⟩
    refine ⟨_, rfl, _, rfl, a, _, rfl, .inl hS, _, _, rfl, rfl, _, rfl, ?_⟩
    refine iteD (fun h => ?_) (fun h => ?_)
    · rw [List.length_map] at h
      have hk : k < ns.length := by omega
      refine ⟨_, rfl, _, rfl, a, _, _, .int (ns.getD k 0), rfl, rfl, hS, atI_nat ?_, q⟩
      rw [List.getElem?_map, List.getElem?_eq_getElem hk, List.getD_eq_getElem?_getD, List.getElem?_eq_getElem hk]
      rfl
    · rw [List.length_map] at h
      have e : ns.getD k 0 = 0 := by
        rw [List.getD_eq_getElem?_getD, List.getElem?_eq_none (by omega)]
        rfl
      rw [e] at q
      exact q
end
end GR
namespace GR
open PySem L2
theorem lexLt_eq : ∀ a b, HT.lexLt a b = lexL a b
  | [], [] => rfl
  | [], _ :: _ => rfl
  | _ :: _, [] => rfl
  | x :: a, y :: b => by
    rw [HT.lexLt_cons, lexL, lexLt_eq a b]
theorem lexGt_eq : ∀ a b, lexGt a b = lexL b a
  | [], [] => rfl
  | [], _ :: _ => rfl
  | _ :: _, [] => rfl
  | x :: a, y :: b => by
    rw [lexGt_cons, lexL, lexGt_eq a b]
    by_cases e : x = y
    · rw [if_pos e, if_pos e.symm]
    · rw [if_neg e, if_neg (fun q => e q.symm)]
theorem rows_lt (c : Int) (res : List Rs) : LtOk (rowsM c res).length (ltR (rowsM c res)) := by
  have hl : (rowsM c res).length = c.toNat := by unfold rowsM; rw [List.length_map, List.length_range]
  have hg : ∀ i, i < c.toNat → (rowsM c res).getD i [] = rowM c res (i : Int) := fun i hi => by
    unfold rowsM
    rw [List.getD_eq_getElem?_getD, List.getElem?_map, List.getElem?_range hi]
    rfl
  refine ⟨fun i => ?_, fun i j k => ?_, fun i j hi hj ne => ?_⟩
  · unfold ltR; rw [lexLt_eq]; exact lexL_irr _
  · unfold ltR; rw [lexLt_eq, lexLt_eq, lexLt_eq]; exact lexL_tr _ _ _
  · unfold ltR
    rw [lexLt_eq, lexLt_eq, hg i (by omega), hg j (by omega)]
    refine lexL_tot _ _ rfl fun q => ne ?_
    unfold rowM at q
    injection q with _ q
    injection q with q _
    omega
section
variable {P : Program} {w : World} {K : PySem.W.Frag} {mg : Str → Option Value} {base : Heap}
theorem ok_there (M : Mo K mg) (T : DefTxt K "is_there" s_is_there) : Def P w K mg base 1 "is_there" ["count", "team"] (sp2 (fun _ _ => True) fun c t => .bl (decide (0 ≤ t ∧ t < c))) := by
  refine def_of M T (N := ["count", "team"]) ⟨rfl, rfl, rfl, by decide +kernel, rfl, by decide +kernel, by decide +kernel⟩ (fun _ _ _ _ _ _ us hl => match us, hl with | [_, _], _ => rfl) ?_ ?_
  · rintro vs H Q E ⟨a, b, rfl, _⟩
    rfl
  · rintro f cdv A outer s H vs Q E hr ⟨c, t, rfl, -, q⟩
    have q : Q (.bl (decide (0 ≤ t ∧ t < c))) H := q
    refine ⟨_, (pss_one (ps_ret (pe_chain op_le op_lt pe_int (pv 1) (pv 0)))), ?_⟩
    refine ⟨_, rfl, _, _, rfl, rfl, _, rfl, ?_⟩
    refine iteD (fun g => ?_) (fun g => ?_)
    · refine ⟨_, rfl, _, _, rfl, rfl, ?_⟩
      have e : decide (0 ≤ t ∧ t < c) = decide (t < c) := by
        by_cases z : t < c
        · rw [decide_eq_true z, decide_eq_true ⟨g, z⟩]
        · rw [decide_eq_false z, decide_eq_false (fun y => z y.2)]
      rw [e] at q
      exact q
    · rw [decide_eq_false (fun y => g y.1)] at q
      exact q
theorem ok_has (M : Mo K mg) (T : DefTxt K "has_game" s_has_game) (D_is_there : Def P w K mg base 1 "is_there" ["count", "team"] (sp2 (fun _ _ => True) fun c t => .bl (decide (0 ≤ t ∧ t < c))))
    (D_at_home : Def P w K mg base 2 "at_home" ["count", "one", "other"] (sp3 (fun _ _ _ => True) fun c a b => .int (atHomeM c a b))) :
    Def P w K mg base 3 "has_game" ["count", "legs", "home", "away"] (sp4 (fun _ _ _ _ => True) fun c l h a => .bl (hasM c l h a)) := by
  refine def_of M T (N := ["count", "legs", "home", "away", "leg"]) ⟨rfl, rfl, rfl, by decide +kernel, rfl, by decide +kernel, by decide +kernel⟩ (fun _ _ _ _ _ _ us hl => match us, hl with | [_, _, _, _], _ => rfl) ?_ ?_
  · rintro vs H Q E ⟨a, b, c, d, rfl, _⟩
    rfl
  · rintro f cdv A outer s H vs Q E hr ⟨c, l, h, a, rfl, -, q⟩
    have q : Q (.bl (hasM c l h a)) H := q
    have nd : (["count", "legs", "home", "away", "leg"] : List Str).Nodup := by decide +kernel
    refine ⟨_, (pss_cons (ps_if (PW.pt (pw_or (pt_cmpR op_eq (pv 2) (pv 3) (nomark _)) (pw_or (pt_not (pt_val (pe_def D_is_there hr (pa_cons (pv 0) (pa_cons (pv 2) pa_nil))))) (pw_or1 (pt_not (pt_val (pe_def D_is_there hr (pa_cons (pv 0) (pa_cons (pv 3) pa_nil))))))))) (pss_one (ps_ret pe_bl)) pss_nil)
      (pss_cons (ps_set (i := 4) nd rfl (Or.inl rfl) (pe_ifExp (pt_cmpR op_eq (pe_def D_at_home hr (pa_cons (pv 0) (pa_cons (pv 2) (pa_cons (pv 3) pa_nil)))) (pv 2) (nomark _)) pe_int pe_int))
      (pss_one (ps_ret (pe_cmpR op_le (pv 4) (pv 1) (nomark _)))))), ?_⟩
    refine ⟨_, rfl, _, rfl, rfl, _, rfl, ?_⟩
    unfold hasM at q
    refine iteI (fun g => ?_) (fun g => ?_)
    · rw [if_pos g] at q
      refine iteT ?_
      exact q
    rw [if_neg g] at q
    refine ⟨_, rfl, _, rfl, c, h, rfl, trivial, _, rfl, ?_⟩
    by_cases b1 : 0 ≤ h ∧ h < c
    · rw [if_neg (not_not_intro b1)] at q
      refine iteb_f (by rw [decide_eq_true b1]; rfl) ?_
      refine ⟨_, rfl, _, rfl, c, a, rfl, trivial, _, rfl, ?_⟩
      by_cases b2 : 0 ≤ a ∧ a < c
      · rw [if_neg (not_not_intro b2)] at q
        refine iteb_f (by rw [decide_eq_true b2]; rfl) ?_
        refine ⟨_, rfl, _, rfl, _, rfl, c, h, a, rfl, trivial, _, rfl, rfl, _, rfl, ?_⟩
        refine iteI (fun g2 => ?_) (fun g2 => ?_)
        · rw [if_pos g2] at q
          exact ⟨_, rfl, _, rfl, _, _, rfl, rfl, q⟩
        · rw [if_neg g2] at q
          exact ⟨_, rfl, _, rfl, _, _, rfl, rfl, q⟩
      · rw [if_pos b2] at q
        refine iteb_t (by rw [decide_eq_false b2]; rfl) ?_
        exact q
    · rw [if_pos b1] at q
      refine iteb_t (by rw [decide_eq_false b1]; rfl) ?_
      refine iteT ?_
      exact q
theorem ok_points (M : Mo K mg) (T : DefTxt K "points_for" s_points_for) : Def P w K mg base 1 "points_for" ["own", "others"] (sp2 (fun _ _ => True) fun a b => .int (pf a b)) := by
  refine def_of M T (N := ["own", "others"]) ⟨rfl, rfl, rfl, by decide +kernel, rfl, by decide +kernel, by decide +kernel⟩ (fun _ _ _ _ _ _ us hl => match us, hl with | [_, _], _ => rfl) ?_ ?_
  · rintro vs H Q E ⟨a, b, rfl, _⟩
    rfl
  · rintro f cdv A outer s H vs Q E hr ⟨a, b, rfl, -, q⟩
    have q : Q (.int (pf a b)) H := q
    unfold pf at q
    refine ⟨_, (pss_cons (ps_if (pt_cmpR op_gt (pv 0) (pv 1) (nomark _)) (pss_one (ps_ret pe_int)) pss_nil)
      (pss_one (ps_ret (pe_ifExp (pt_cmpR op_eq (pv 0) (pv 1) (nomark _)) pe_int pe_int)))), ?_⟩
    refine ⟨_, rfl, _, rfl, _, _, rfl, rfl, _, rfl, ?_⟩
    refine iteD (fun g => ?_) (fun g => ?_)
    · rw [if_pos g] at q
      exact q
    rw [if_neg g] at q
    refine ⟨_, rfl, _, rfl, rfl, _, rfl, ?_⟩
    refine iteI (fun g2 => ?_) (fun g2 => ?_)
    · rw [if_pos g2] at q
      exact q
    · rw [if_neg g2] at q
      exact q
def keyR (r : Rs) : List Key := [Sum.inl r.1, Sum.inl r.2.1]
theorem keyR_inj {r t : Rs} (h : keyR r = keyR t) : (r.1, r.2.1) = (t.1, t.2.1) := by
  unfold keyR at h
  injection h with h1 h2
  injection h2 with h2 _
  injection h1 with h1
  injection h2 with h2
  rw [h1, h2]
theorem TupsAt.res {H : Hp} {ps : List Addr} {res : List Rs} {i : Nat} {x : V} (h : TupsAt H ps (rRows res)) (e : (ps.map V.ref)[i]? = some x) : ∃ p r, x = .ref p ∧ res[i]? = some r ∧ H p = some (.tup ((rRow r).map V.int)) := by
  obtain ⟨p, row, rfl, hrow, hp⟩ := h.item e
  unfold rRows at hrow
  rw [List.getElem?_map] at hrow
  cases eg : res[i]? with
  | none => rw [eg] at hrow; cases hrow
  | some g =>
    rw [eg] at hrow
    cases hrow
    exact ⟨p, g, rfl, rfl, hp⟩
theorem take_get {α : Type} {l : List α} {i : Nat} {x : α} (h : l[i]? = some x) : l.take (i + 1) = l.take i ++ [x] := by
  rw [List.take_add_one, h]
  rfl
def spRefuse : Sp := fun vs H Q _ => ∃ (c l : Int) (r : Addr) (res : List Rs), vs = [.int c, .int l, .ref r] ∧ Tups H r (rRows res) ∧ ValidRes c l res ∧ res.length ≤ 1000 ∧ ∀ H', Same H H' → Q .non H'
theorem ok_refuse (M : Mo K mg) (T : DefTxt K "refuse_wrong" s_refuse_wrong) (z_enumerate : mg "enumerate" = none) (D_has_game : Def P w K mg base 3 "has_game" ["count", "legs", "home", "away"] (sp4 (fun _ _ _ _ => True) fun c l h a => .bl (hasM c l h a))) :
    Def P w K mg base 4 "refuse_wrong" ["count", "legs", "results"] spRefuse := by
  refine def_of M T (N := ["count", "legs", "results", "told", "index", "result", "home", "away"]) ⟨rfl, rfl, rfl, by decide +kernel, rfl, by decide +kernel, by decide +kernel⟩ (fun _ _ _ _ _ _ us hl => match us, hl with | [_, _, _], _ => rfl) ?_ ?_
  · rintro vs H Q E ⟨c, l, r, res, rfl, _⟩
    rfl
  · rintro f cdv A outer s H vs Q E hr ⟨c, l, r, res, rfl, ⟨ps, hrl, ht⟩, va, hlen, q⟩
    have nd : (["count", "legs", "results", "told", "index", "result", "home", "away"] : List Str).Nodup := by decide +kernel
    have hu := hu_of hr
    have tl := ht.len
    unfold rRows at tl
    rw [List.length_map] at tl
    refine ⟨_, (pss_cons (ps_set (i := 3) nd rfl (Or.inl rfl) pe_dnewT)
      (pss_one (ps_for PassesOwn.never rfl (pi_enum rfl z_enumerate (pa_cons (pv 2) pa_nil)) (pg_tup rfl (pgs_cons (pg_name (i := 4) nd rfl (Or.inl rfl)) (pgs_cons (pg_name (i := 5) nd rfl (Or.inl rfl)) pgs_nil))) (pss_cons (ps_set (i := 6) nd rfl (Or.inl rfl) (pe_ix ix_tup (pv 5) pe_int (fun _ _ => rfl)))
      (pss_cons (ps_set (i := 7) nd rfl (Or.inl rfl) (pe_ix ix_tup (pv 5) pe_int (fun _ _ => rfl)))
      (pss_cons (ps_if (pt_not (pt_val (pe_def D_has_game hr (pa_cons (pv 0) (pa_cons (pv 1) (pa_cons (pv 6) (pa_cons (pv 7) pa_nil))))))) pss_never pss_nil)
      (pss_cons (ps_if (pt_cmp (pc_din hu (pe_tup (pa_cons (pv 6) (pa_cons (pv 7) pa_nil))) (pv 3))) pss_never pss_nil)
      (pss_one (ps_dput hu (pv 3) (pe_tup (pa_cons (pv 6) (pa_cons (pv 7) pa_nil))) pe_bl rfl))))))))), ?_⟩
    intro td htd
    refine ⟨_, rfl, r, rfl, ⟨_, SqL.of (same_new htd _ _ _ hrl)⟩, for_enum (K := K) (a := r) (xs := ps.map V.ref)
      (fun i σ H2 => ∃ (v1 v2 v3 v4 : Option V) (kvs : List (List Key × V)), σ = [some (.int c), some (.int l), some (.ref r), some (.ref td), v1, v2, v3, v4] ∧ Same H H2 ∧ H2 td = some (.dT kvs) ∧ kvs.map (·.1) = (res.take i).map keyR ∧ kvs.length ≤ i)
      ⟨none, none, none, none, [], rfl, same_new htd _, upd_same, rfl, Nat.le_refl _⟩ (fun i σ H2 _ ⟨_, _, _, _, _, _, s2, _⟩ => SqL.of (s2 _ _ hrl)) ?_ ?_⟩
    · rintro i x σ H2 p hx ⟨v1, v2, v3, v4, kvs, rfl, s2, hd2, hkeys, hkl⟩ hp0
      obtain ⟨rp, rr, rfl, er, hrp⟩ := ht.res hx
      have hi : i < res.length := (List.getElem?_eq_some_iff.mp er).1
      have s3 : Same H2 (upd H2 p (.tup [.int (i : Int), .ref rp])) := same_new hp0 _
      refine ⟨p, _, rfl, SqT.of upd_same, rfl, _, _, rfl, _, _, rfl, rfl, ?_⟩
      have hrp3 : SqT K (upd H2 p (.tup [.int (i : Int), .ref rp])) rp ((rRow rr).map V.int) := SqT.of (s3 _ _ (s2 _ _ hrp))
      refine ⟨_, rfl, rp, _, _, _, rfl, rfl, hrp3, rfl, ?_⟩
      refine ⟨_, rfl, rp, _, _, _, rfl, rfl, hrp3, rfl, ?_⟩
      refine ⟨_, rfl, _, rfl, _, rfl, _, rfl, c, l, rr.1, rr.2.1, rfl, trivial, _, rfl, ?_⟩
      refine iteb_f (by rw [va.has rr (List.mem_of_getElem? er)]; rfl) ?_
      -- not told yet
      refine ⟨_, rfl, _, rfl, (by show 2 ≤ sizeLine; decide), fun k hk => ?_⟩
      have s4 : Same H2 (upd (upd H2 p (.tup [.int (i : Int), .ref rp])) k (.tup [.int rr.1, .int rr.2.1])) := s3.trans (same_new hk _)
      have vn : valV kvs (keyR rr) = none := by
        cases e : valV kvs (keyR rr) with
        | none => rfl
        | some v =>
          exfalso
          have m := valV_in e
          rw [hkeys] at m
          obtain ⟨t, htm, et⟩ := List.mem_map.mp m
          have nd2 := va.nd
          obtain ⟨j, hj, ej⟩ := List.mem_take_iff_getElem.mp htm
          have hj2 : j < i ∧ j < res.length := by omega
          have e1 : (res.map fun r => (r.1, r.2.1))[j]'(by rw [List.length_map]; omega) = (res.map fun r => (r.1, r.2.1))[i]'(by rw [List.length_map]; omega) := by
            simp only [List.getElem_map]
            rw [ej, (List.getElem?_eq_some_iff.mp er).2]
            exact keyR_inj et
          have := (List.getElem_inj nd2).mp e1
          omega
      refine ⟨_, rfl, td, _, rfl, DGet.t (k := keyR rr) (s4 _ _ hd2) upd_same, _, rfl, ?_⟩
      rw [vn]
      refine iteF ?_
      refine ⟨_, rfl, _, rfl, _, rfl, (by show 2 ≤ sizeLine; decide), fun k2 hk2 => ?_⟩
      have s5 : Same H2 (upd (upd (upd H2 p (.tup [.int (i : Int), .ref rp])) k (.tup [.int rr.1, .int rr.2.1])) k2 (.tup [.int rr.1, .int rr.2.1])) := s4.trans (same_new hk2 _)
      refine ⟨td, _, rfl, DPut.t (k := keyR rr) (s5 _ _ hd2) upd_same (size_lt (by omega)), ?_⟩
      refine ⟨_, _, _, _, putK kvs (keyR rr) (.bl true), rfl, fun b o eb => ?_, upd_same, ?_, ?_⟩
      · rw [upd_ne (ne_of_none eb htd)]
        exact s5 _ _ (s2 _ _ eb)
      · rw [putK_new _ vn, List.map_append, take_get er, List.map_append, hkeys]
        rfl
      · rw [putK_new _ vn, List.length_append]
        show kvs.length + 1 ≤ i + 1
        omega
    · rintro σ H2 ⟨v1, v2, v3, v4, kvs, rfl, s2, _⟩
      exact q H2 s2
def spMarks : Sp := fun vs H Q _ => ∃ (c : Int) (r : Addr) (res : List Rs), vs = [.int c, .ref r] ∧ Tups H r (rRows res) ∧ 0 ≤ c ∧ c ≤ 1000 ∧ (∀ x ∈ res, 0 ≤ x.1 ∧ x.1 < c ∧ 0 ≤ x.2.1 ∧ x.2.1 < c) ∧ ∀ t H', Same H H' → H t = none → Tups H' t (marksM c res) → Q (.ref t) H'
theorem rep_zero (k : Nat) : (List.replicate k [V.int 0]).flatten = (List.replicate k (0 : Int)).map V.int := by
  induction k with
  | zero => rfl
  | succ k ih => rw [List.replicate_succ, List.flatten_cons, ih, List.replicate_succ]; rfl
theorem listI_zero (f : Rs → Int → Int) (c : Int) : List.replicate c.toNat (0 : Int) = listI c (sumR f []) := by
  unfold listI sumR
  rw [show (fun u : Nat => (List.map (fun r => f r (u : Int)) ([] : List Rs)).sum) = fun _ => (0 : Int) from rfl, List.map_const', List.length_range]
theorem at_listI {c t : Int} (f : Int → Int) (h0 : 0 ≤ t) (h1 : t < c) : atI ((listI c f).map V.int) t = some (.int (f t)) := by
  have z := atI_nat (xs := (listI c f).map V.int) (j := t.toNat) (v := .int (f t)) (by rw [List.getElem?_map, listI_get f h0 h1]; rfl)
  rwa [show ((t.toNat : Nat) : Int) = t by omega] at z
theorem ix_listI {c t : Int} (f : Int → Int) (h0 : 0 ≤ t) (h1 : t < c) : ixN ((listI c f).map V.int).length t = some t.toNat := by
  unfold ixN
  rw [List.length_map, listI_len, if_pos h0, if_pos (by omega)]
theorem set_listI {c t : Int} (f : Int → Int) (v : Int) (h0 : 0 ≤ t) (h1 : t < c) : ((listI c f).map V.int).set t.toNat (.int (f t + v)) = (listI c (addAt t v f)).map V.int := by
  rw [← List.map_set, listI_set f v h0 h1]
/-- the three lists of marks at three places of their own -/
structure Three (H : Hp) (c : Int) (a b d : Addr) (f g h : Int → Int) : Prop where
  p : H a = some (.lst ((listI c f).map V.int))
  l : H b = some (.lst ((listI c g).map V.int))
  g : H d = some (.lst ((listI c h).map V.int))
theorem ok_marks (M : Mo K mg) (T : DefTxt K "marks_of" s_marks_of) (z_range : mg "range" = none) (D_points_for : Def P w K mg base 1 "points_for" ["own", "others"] (sp2 (fun _ _ => True) fun a b => .int (pf a b))) :
    Def P w K mg base 2 "marks_of" ["count", "results"] spMarks := by
  refine def_of M T (N := ["count", "results", "points", "leads", "goals", "home", "away", "left", "right", "team", "own", "others"]) ⟨rfl, rfl, rfl, by decide +kernel, rfl, by decide +kernel, by decide +kernel⟩ (fun _ _ _ _ _ _ us hl => match us, hl with | [_, _], _ => rfl) ?_ ?_
  · rintro vs H Q E ⟨c, r, res, rfl, _⟩
    rfl
  · rintro f cdv A outer s H vs Q E hr ⟨c, r, res, rfl, ⟨ps, hrl, ht⟩, c0, c1000, hin, q⟩
    have nd : (["count", "results", "points", "leads", "goals", "home", "away", "left", "right", "team", "own", "others"] : List Str).Nodup := by decide +kernel
    refine ⟨_, (pss_cons (ps_set (i := 2) nd rfl (Or.inr rfl) (pe_op op_rep (pe_lst (pa_cons pe_int pa_nil)) (pv 0)))
      (pss_cons (ps_set (i := 3) nd rfl (Or.inr rfl) (pe_op op_rep (pe_lst (pa_cons pe_int pa_nil)) (pv 0)))
      (pss_cons (ps_set (i := 4) nd rfl (Or.inr rfl) (pe_op op_rep (pe_lst (pa_cons pe_int pa_nil)) (pv 0)))
      (pss_cons (ps_for PassesOwn.never rfl (pi_list (pv 1)) (pg_tup rfl (pgs_cons (pg_name (i := 5) nd rfl (Or.inl rfl)) (pgs_cons (pg_name (i := 6) nd rfl (Or.inl rfl)) (pgs_cons (pg_name (i := 7) nd rfl (Or.inl rfl)) (pgs_cons (pg_name (i := 8) nd rfl (Or.inl rfl)) pgs_nil))))) (pss_one (ps_for PassesOwn.never rfl (pi_tup (pe_tup (pa_cons (pe_tup (pa_cons (pv 5) (pa_cons (pv 7) (pa_cons (pv 8) pa_nil)))) (pa_cons (pe_tup (pa_cons (pv 6) (pa_cons (pv 8) (pa_cons (pv 7) pa_nil)))) pa_nil)))) (pg_tup rfl (pgs_cons (pg_name (i := 9) nd rfl (Or.inl rfl)) (pgs_cons (pg_name (i := 10) nd rfl (Or.inl rfl)) (pgs_cons (pg_name (i := 11) nd rfl (Or.inl rfl)) pgs_nil)))) (pss_cons (ps_augS (pv 2) (pv 9) get_list (pe_def D_points_for hr (pa_cons (pv 10) (pa_cons (pv 11) pa_nil))) ip_add set_list)
      (pss_cons (ps_augS (pv 3) (pv 9) get_list (pe_op op_sub (pv 10) (pv 11)) ip_add set_list)
      (pss_one (ps_augS (pv 4) (pv 9) get_list (pv 10) ip_add set_list)))))))
      (pss_one (ps_ret (pe_lc (fr := [("points", 2), ("leads", 3), ("goals", 4)]) ⟨rfl, by decide +kernel, by decide +kernel, rfl, rfl, (sub_cons rfl (sub_cons rfl (sub_cons rfl sub_nil))), has_of (ys := ["points", "leads", "goals"]) (by decide +kernel) ⟨⟨_, rfl⟩, ⟨_, rfl⟩, ⟨_, rfl⟩, trivial⟩, ⟨⟨rfl, rfl, rfl, _, rfl⟩, ⟨rfl, rfl, rfl, _, rfl⟩, ⟨rfl, rfl, rfl, _, rfl⟩, trivial⟩, by decide +kernel⟩ rfl (pi_range1 rfl z_range (pa_cons (pv 0) pa_nil)) (fun _ _ _ _ => (pe_tup (pa_cons (pe_ix (r := rIxL K) ix_list (pv 1) (pv 0) (fun _ _ => rfl)) (pa_cons (pe_ix (r := rIxL K) ix_list (pv 2) (pv 0) (fun _ _ => rfl)) (pa_cons (pe_ix (r := rIxL K) ix_list (pv 3) (pv 0) (fun _ _ => rfl)) pa_nil))))) (fun _ _ _ _ => pts_nil)))))))), ?_⟩
    refine ⟨(by show 1 ≤ sizeLine; decide), fun l0 hl0 => ?_⟩
    refine ⟨_, rfl, l0, c, _, rfl, rfl, upd_same, by omega, by omega, size_le (by show 1 * c.toNat ≤ 1000000; omega), fun pa hpa => ?_⟩
    rw [rep_zero, listI_zero ptsR]
    refine ⟨(by show 1 ≤ sizeLine; decide), fun l1 hl1 => ?_⟩
    refine ⟨_, rfl, l1, c, _, rfl, rfl, upd_same, by omega, by omega, size_le (by show 1 * c.toNat ≤ 1000000; omega), fun la hla => ?_⟩
    rw [rep_zero, listI_zero leadR]
    refine ⟨(by show 1 ≤ sizeLine; decide), fun l2 hl2 => ?_⟩
    refine ⟨_, rfl, l2, c, _, rfl, rfl, upd_same, by omega, by omega, size_le (by show 1 * c.toNat ≤ 1000000; omega), fun ga hga => ?_⟩
    rw [rep_zero, listI_zero goalR]
    dsimp only
    generalize hH0 : upd (upd (upd (upd (upd (upd H l0 (.lst [.int 0])) pa (.lst ((listI c (sumR ptsR [])).map V.int))) l1 (.lst [.int 0])) la (.lst ((listI c (sumR leadR [])).map V.int))) l2 (.lst [.int 0])) ga (.lst ((listI c (sumR goalR [])).map V.int)) = H0
    have ss : ∀ {Ha : Hp} {p : Addr} {o : HO}, Ha p = none → Same Ha (upd Ha p o) := fun h => same_new h _
    have hpl : la ≠ pa := fun z => by rw [z, upd_ne (fun y => by rw [y, upd_same] at hl1; cases hl1), upd_same] at hla; cases hla
    have s01 : Same H (upd H l0 (.lst [.int 0])) := ss hl0
    have s02 := ss (o := .lst ((listI c (sumR ptsR [])).map V.int)) hpa
    have s03 := ss (o := .lst [.int 0]) hl1
    have s04 := ss (o := .lst ((listI c (sumR leadR [])).map V.int)) hla
    have s05 := ss (o := .lst [.int 0]) hl2
    have s06 := ss (o := .lst ((listI c (sumR goalR [])).map V.int)) hga
    have S06 : Same H H0 := by rw [← hH0]; exact s01.trans (s02.trans (s03.trans (s04.trans (s05.trans s06))))
    have npa : H pa = none := s01.free hpa
    have nla : H la = none := (s01.trans (s02.trans s03)).free hla
    have nga : H ga = none := (s01.trans (s02.trans (s03.trans (s04.trans s05)))).free hga
    have epa : H0 pa = some (.lst ((listI c (sumR ptsR [])).map V.int)) := by rw [← hH0]; exact (s03.trans (s04.trans (s05.trans s06))) _ _ upd_same
    have ela : H0 la = some (.lst ((listI c (sumR leadR [])).map V.int)) := by rw [← hH0]; exact (s05.trans s06) _ _ upd_same
    have ega : H0 ga = some (.lst ((listI c (sumR goalR [])).map V.int)) := by rw [← hH0]; exact upd_same
    have n1 : pa ≠ la := fun z => hpl z.symm
    have n2 : pa ≠ ga := ne_of_none ((s03.trans (s04.trans s05)) _ _ upd_same) hga
    have n3 : la ≠ ga := ne_of_none (s05 _ _ upd_same) hga
    clear hH0 s01 s02 s03 s04 s05 s06 ss hpa hla hga hl0 hl1 hl2
    -- the results
    refine ⟨_, rfl, r, rfl, ⟨_, SqL.of (S06 _ _ hrl)⟩, for_list (K := K) (a := r) (xs := ps.map V.ref)
      (fun i σ H2 => ∃ (v1 v2 v3 v4 v5 v6 v7 : Option V), σ = [some (.int c), some (.ref r), some (.ref pa), some (.ref la), some (.ref ga), v1, v2, v3, v4, v5, v6, v7] ∧ Same H H2 ∧ Three H2 c pa la ga (sumR ptsR (res.take i)) (sumR leadR (res.take i)) (sumR goalR (res.take i)))
      ⟨none, none, none, none, none, none, none, rfl, S06, ⟨epa, ela, ega⟩⟩ (fun i σ H2 _ ⟨_, _, _, _, _, _, _, _, s2, _⟩ => SqL.of (s2 _ _ hrl)) ?_ ?_⟩
    · rintro i x σ H2 hx ⟨v1, v2, v3, v4, v5, v6, v7, rfl, s2, th⟩
      obtain ⟨rp, rr, rfl, er, hrp⟩ := ht.res hx
      obtain ⟨b1, b2, b3, b4⟩ := hin rr (List.mem_of_getElem? er)
      refine ⟨rp, _, rfl, SqT.of (s2 _ _ hrp), rfl, _, _, rfl, _, _, rfl, _, _, rfl, _, _, rfl, rfl, ?_⟩
      refine ⟨_, rfl, _, rfl, _, rfl, (by show 3 ≤ sizeLine; decide), fun q1 hq1 => ?_⟩
      refine ⟨_, rfl, _, rfl, _, rfl, (by show 3 ≤ sizeLine; decide), fun q2 hq2 => ⟨(by show 2 ≤ sizeLine; decide), fun q3 hq3 => ?_⟩⟩
      have t1 := same_new hq1 (.tup [.int rr.1, .int rr.2.2.1, .int rr.2.2.2])
      have t2 := same_new hq2 (.tup [.int rr.2.1, .int rr.2.2.2, .int rr.2.2.1])
      have t3 := same_new hq3 (.tup [.ref q1, .ref q2])
      refine ⟨q3, rfl, ⟨_, SqT.of upd_same⟩, ?_⟩
      generalize hH3 : upd (upd (upd H2 q1 (.tup [.int rr.1, .int rr.2.2.1, .int rr.2.2.2])) q2 (.tup [.int rr.2.1, .int rr.2.2.2, .int rr.2.2.1])) q3 (.tup [.ref q1, .ref q2]) = H3
      have s3 : Same H2 H3 := by rw [← hH3]; exact t1.trans (t2.trans t3)
      have e1 : H3 q1 = some (.tup [.int rr.1, .int rr.2.2.1, .int rr.2.2.2]) := by rw [← hH3]; exact (t2.trans t3) _ _ upd_same
      have e2 : H3 q2 = some (.tup [.int rr.2.1, .int rr.2.2.2, .int rr.2.2.1]) := by rw [← hH3]; exact t3 _ _ upd_same
      have e3 : H3 q3 = some (.tup [.ref q1, .ref q2]) := by rw [← hH3]; exact upd_same
      clear hH3 t1 t2 t3
      let F0 := sumR ptsR (res.take i)
      let G0 := sumR leadR (res.take i)
      let K0 := sumR goalR (res.take i)
      let Fs : Nat → Int → Int := fun j => match j with | 0 => F0 | 1 => addAt rr.1 (pf rr.2.2.1 rr.2.2.2) F0 | _ => addAt rr.2.1 (pf rr.2.2.2 rr.2.2.1) (addAt rr.1 (pf rr.2.2.1 rr.2.2.2) F0)
      let Gs : Nat → Int → Int := fun j => match j with | 0 => G0 | 1 => addAt rr.1 (rr.2.2.1 - rr.2.2.2) G0 | _ => addAt rr.2.1 (rr.2.2.2 - rr.2.2.1) (addAt rr.1 (rr.2.2.1 - rr.2.2.2) G0)
      let Ks : Nat → Int → Int := fun j => match j with | 0 => K0 | 1 => addAt rr.1 rr.2.2.1 K0 | _ => addAt rr.2.1 rr.2.2.2 (addAt rr.1 rr.2.2.1 K0)
      refine for_tup (K := K) (a := q3) (xs := [.ref q1, .ref q2])
        (fun j σ H4 => ∃ (w1 w2 w3 : Option V), σ = [some (.int c), some (.ref r), some (.ref pa), some (.ref la), some (.ref ga), some (.int rr.1), some (.int rr.2.1), some (.int rr.2.2.1), some (.int rr.2.2.2), w1, w2, w3] ∧
          (∀ b o, H3 b = some o → b ≠ pa → b ≠ la → b ≠ ga → H4 b = some o) ∧ Three H4 c pa la ga (Fs j) (Gs j) (Ks j))
        ⟨_, _, _, rfl, fun b o e _ _ _ => e, ⟨s3 _ _ th.p, s3 _ _ th.l, s3 _ _ th.g⟩⟩ ?_ ?_ ?_
      · rintro j σ H4 _ ⟨_, _, _, _, k4, _⟩
        exact SqT.of (k4 _ _ e3 (ne_of e3 (s3 _ _ th.p) (by intro z; cases z)) (ne_of e3 (s3 _ _ th.l) (by intro z; cases z)) (ne_of e3 (s3 _ _ th.g) (by intro z; cases z)))
      · rintro j x σ H4 hx4 ⟨w1, w2, w3, rfl, k4, th4⟩
        obtain ⟨qq, tm, ow, ot, rfl, hq4, z0, z1, fj⟩ : ∃ (qq : Addr) (tm ow ot : Int), x = .ref qq ∧ H3 qq = some (.tup [.int tm, .int ow, .int ot]) ∧ 0 ≤ tm ∧ tm < c ∧ (Fs (j + 1) = addAt tm (pf ow ot) (Fs j) ∧ Gs (j + 1) = addAt tm (ow - ot) (Gs j) ∧ Ks (j + 1) = addAt tm ow (Ks j)) := by
          have hj : j < 2 := (List.getElem?_eq_some_iff.mp hx4).1
          have hj' : j = 0 ∨ j = 1 := by omega
          rcases hj' with rfl | rfl
          · exact ⟨q1, _, _, _, (Option.some.inj hx4).symm, e1, b1, b2, rfl, rfl, rfl⟩
          · exact ⟨q2, _, _, _, (Option.some.inj hx4).symm, e2, b3, b4, rfl, rfl, rfl⟩
        have hqq : SqT K H4 qq [.int tm, .int ow, .int ot] := SqT.of (k4 _ _ hq4 (ne_of hq4 (s3 _ _ th.p) (by intro z; cases z)) (ne_of hq4 (s3 _ _ th.l) (by intro z; cases z)) (ne_of hq4 (s3 _ _ th.g) (by intro z; cases z)))
        refine ⟨qq, _, rfl, hqq, rfl, _, _, rfl, _, _, rfl, _, _, rfl, rfl, ?_⟩
        refine ⟨_, rfl, _, rfl, pa, _, tm, _, rfl, rfl, z0, SqL.of th4.p, at_listI _ z0 z1, _, rfl, _, rfl, ow, ot, rfl, trivial, _, _, rfl, rfl, pa, _, tm, tm.toNat, rfl, rfl, th4.p, ix_listI _ z0 z1, ?_⟩
        rw [set_listI _ _ z0 z1]
        refine ⟨_, rfl, _, rfl, la, _, tm, _, rfl, rfl, z0, SqL.of (by rw [upd_ne n1.symm]; exact th4.l), at_listI _ z0 z1, _, rfl, _, rfl, _, _, rfl, rfl, _, _, rfl, rfl, la, _, tm, tm.toNat, rfl, rfl, (by rw [upd_ne n1.symm]; exact th4.l), ix_listI _ z0 z1, ?_⟩
        rw [set_listI _ _ z0 z1]
        refine ⟨_, rfl, _, rfl, ga, _, tm, _, rfl, rfl, z0, SqL.of (by rw [upd_ne n3.symm, upd_ne n2.symm]; exact th4.g), at_listI _ z0 z1, _, rfl, _, _, rfl, rfl, ga, _, tm, tm.toNat, rfl, rfl, (by rw [upd_ne n3.symm, upd_ne n2.symm]; exact th4.g), ix_listI _ z0 z1, ?_⟩
        rw [set_listI _ _ z0 z1]
        refine ⟨_, _, _, rfl, fun b o e h1 h2 h3 => ?_, ⟨?_, ?_, ?_⟩⟩
        · rw [upd_ne h3, upd_ne h2, upd_ne h1]
          exact k4 b o e h1 h2 h3
        · rw [upd_ne n2, upd_ne n1, upd_same, fj.1]
        · rw [upd_ne n3, upd_same, fj.2.1]
        · rw [upd_same, fj.2.2]
      · rintro σ H4 ⟨w1, w2, w3, rfl, k4, th4⟩
        refine ⟨_, _, _, _, _, _, _, rfl, fun b o e => k4 b o (s3 _ _ (s2 _ _ e)) (ne_of_none e npa) (ne_of_none e nla) (ne_of_none e nga), ?_⟩
        have eT := take_get er
        refine ⟨?_, ?_, ?_⟩
        · rw [eT, ← two_adds ptsR (res.take i) rr rr.1 rr.2.1 (pf rr.2.2.1 rr.2.2.2) (pf rr.2.2.2 rr.2.2.1) fun t => rfl]
          exact th4.p
        · rw [eT, ← two_adds leadR (res.take i) rr rr.1 rr.2.1 (rr.2.2.1 - rr.2.2.2) (rr.2.2.2 - rr.2.2.1) fun t => rfl]
          exact th4.l
        · rw [eT, ← two_adds goalR (res.take i) rr rr.1 rr.2.1 rr.2.2.1 rr.2.2.2 fun t => rfl]
          exact th4.g
    · rintro σ H2 ⟨v1, v2, v3, v4, v5, v6, v7, rfl, s2, th⟩
      have tl := ht.len
      unfold rRows at tl
      rw [List.length_map] at tl
      have eall : res.take (ps.map V.ref).length = res := by rw [List.length_map, tl, List.take_length]
      rw [eall] at th
      refine ⟨_, rfl, c, rfl, by omega, by omega, ?_⟩
      dsimp only
      refine lc_range (lo := 0) (n := c.toNat) (fun i acc H3 => ∃ ts : List Addr, acc = ts.map V.ref ∧ ts.length = i ∧ Same H2 H3 ∧ TupsAt H3 ts ((List.range i).map fun t : Nat => markM res (t : Int)))
        ⟨[], rfl, rfl, Same.refl _, .nil⟩ ?_ (fun _ _ _ _ h z => h _ _ z) ?_ ?_
      · rintro i acc H3 hi ⟨ts, rfl, htl, s3, htt⟩
        refine yes_ite ?_
        rw [Int.zero_add]
        refine ⟨_, rfl, _, rfl, pa, _, _, _, rfl, rfl, SqL.of (s3 _ _ th.p), at_listI _ (by omega) (by omega), _, rfl, _, rfl, la, _, _, _, rfl, rfl, SqL.of (s3 _ _ th.l), at_listI _ (by omega) (by omega), _, rfl, _, rfl, ga, _, _, _, rfl, rfl, SqL.of (s3 _ _ th.g), at_listI _ (by omega) (by omega), (by show 3 ≤ sizeLine; decide), fun t ht0 => ⟨by rw [List.length_map]; exact size_lt (by omega), ts ++ [t], ?_, ?_, s3.trans (same_new ht0 _), ?_⟩⟩
        · rw [List.map_append]; rfl
        · rw [List.length_append, htl]; rfl
        · rw [List.range_succ, List.map_append]
          exact paired_snoc (F := fun (p : Addr) (row : List Int) => upd H3 t (.tup ((markM res (i : Int)).map V.int)) p = some (.tup (row.map V.int))) upd_same (TupsAt.same (same_new ht0 _) htt)
      · rintro σ' H' Q1 Q2 h ⟨a1, a2, a3, a4, a5, a6, a7, a8, a9, a10, a11, a12, d1, d2, d3, d4, d5, d6, d7, d8, d9, d10, d11, d12, f1, f2, f3, f4, f5, f6, f7, f8, f9, f10, f11, f12, sz, k⟩
        exact ⟨a1, a2, a3, a4, a5, a6, a7, a8, a9, a10, a11, a12, d1, d2, d3, d4, d5, d6, d7, d8, d9, d10, d11, d12, f1, f2, f3, f4, f5, f6, f7, f8, f9, f10, f11, f12, sz, fun p hp => h _ _ (k p hp)⟩
      · rintro acc H3 ⟨ts, rfl, htl, s3, htt⟩ p hp
        exact q p _ (s2.trans (s3.trans (same_new hp _))) ((s2.trans s3).free hp) ⟨ts, upd_same, htt.same (same_new hp _)⟩
def tableM (c : Int) (res : List Rs) : List (List Int) := sortR (rowsM c res)
def spTable : Sp := fun vs H Q _ => ∃ (c l : Int) (r : Addr) (res : List Rs), vs = [.int c, .int l, .ref r] ∧ Tups H r (rRows res) ∧ ValidRes c l res ∧ res.length ≤ 1000 ∧ 2 ≤ c ∧ c < 64 ∧ ∀ t H', Same H H' → H t = none → Tups H' t (tableM c res) → Q (.ref t) H'
theorem ok_table (M : Mo K mg) (T : DefTxt K "table" s_table) (z_len : mg "len" = none) (z_enumerate : mg "enumerate" = none) (z_sorted : mg "sorted" = none)
    (D_refuse_wrong : Def P w K mg base 4 "refuse_wrong" ["count", "legs", "results"] spRefuse) (D_marks_of : Def P w K mg base 2 "marks_of" ["count", "results"] spMarks) : Def P w K mg base 5 "table" ["count", "legs", "results"] spTable := by
  refine def_of M T (N := ["count", "legs", "results", "marks", "rows", "team", "own", "better"]) ⟨rfl, rfl, rfl, by decide +kernel, rfl, by decide +kernel, by decide +kernel⟩ (fun _ _ _ _ _ _ us hl => match us, hl with | [_, _, _], _ => rfl) ?_ ?_
  · rintro vs H Q E ⟨c, l, r, res, rfl, _⟩
    rfl
  · rintro f cdv A outer s H vs Q E hr ⟨c, l, r, res, rfl, htr, va, hlen, c2, c64, q⟩
    have nd : (["count", "legs", "results", "marks", "rows", "team", "own", "better"] : List Str).Nodup := by decide +kernel
    have hu := hu_of hr
    refine ⟨_, (pss_cons (ps_expr (pe_def D_refuse_wrong hr (pa_cons (pv 0) (pa_cons (pv 1) (pa_cons (pv 2) pa_nil)))))
      (pss_cons (ps_set (i := 3) nd rfl (Or.inl rfl) (pe_def D_marks_of hr (pa_cons (pv 0) (pa_cons (pv 2) pa_nil))))
      (pss_cons (ps_set (i := 4) nd rfl (Or.inl rfl) (pe_lst pa_nil))
      (pss_cons (ps_for PassesOwn.never rfl (pi_enum rfl z_enumerate (pa_cons (pv 3) pa_nil)) (pg_tup rfl (pgs_cons (pg_name (i := 5) nd rfl (Or.inl rfl)) (pgs_cons (pg_name (i := 6) nd rfl (Or.inr rfl)) pgs_nil))) (pss_cons (ps_setlc (i := 7) (fr := [("own", 6)]) ⟨rfl, by decide +kernel, by decide +kernel, rfl, rfl, (sub_cons rfl sub_nil), has_of (ys := ["own"]) (by decide +kernel) ⟨⟨_, rfl⟩, trivial⟩, ⟨⟨rfl, rfl, rfl, _, rfl⟩, trivial⟩, by decide +kernel⟩ rfl nd rfl rfl (pi_list (pv 3)) (fun _ _ _ _ => (pv 0)) (fun _ _ _ _ => (pts_one (pt_cmpR (r := rGtT K) (op_gtT (Nat.lt_of_succ_lt hu)) (pv 0) (pv 1) (nomark _)))) rfl)
      (pss_one (ps_expr (pe_bm PySem.F.plainAttrs_list PySem.F.slot_list_append PySem.F.type_list_append mt_append (pv 4) (pa_cons (pe_tup (pa_cons (pe_op op_add (pe_callB call_len_seq rfl z_len PySem.boot_len (pa_cons (pv 7) pa_nil)) pe_int) (pa_cons (pv 5) (pa_cons (pe_ix ix_tup (pv 6) pe_int (fun _ _ => rfl)) (pa_cons (pe_ix ix_tup (pv 6) pe_int (fun _ _ => rfl)) (pa_cons (pe_ix ix_tup (pv 6) pe_int (fun _ _ => rfl)) pa_nil)))))) pa_nil))))))
      (pss_one (ps_ret (pe_callB call_sorted rfl z_sorted PyProof.Rows.boot_sorted (pa_cons (pv 4) pa_nil)))))))), ?_⟩
    refine ⟨_, rfl, _, rfl, _, rfl, c, l, r, res, rfl, htr, va, hlen, fun H1 s1 => ?_⟩
    refine ⟨_, rfl, _, rfl, c, r, res, rfl, htr.same s1, by omega, by omega, fun x hx => ?_, fun ma H2 s2 hma ⟨ms, hml, hmt⟩ => ?_⟩
    · have z := has_in (va.has x hx)
      exact ⟨z.1, z.2.1, z.2.2.1, z.2.2.2.1⟩
    have ml := hmt.len
    have mlc : (marksM c res).length = c.toNat := by unfold marksM; rw [List.length_map, List.length_range]
    have mget : ∀ i, i < c.toNat → (marksM c res)[i]? = some (markM res (i : Int)) := fun i hi => by unfold marksM; rw [List.getElem?_map, List.getElem?_range hi]; rfl
    refine ⟨(by show 0 ≤ sizeLine; decide), fun ra hra => ?_⟩
    have s3 : Same H2 (upd H2 ra (.lst [])) := same_new hra _
    refine ⟨_, rfl, ma, rfl, ⟨_, SqL.of (s3 _ _ hml)⟩, for_enum (K := K) (a := ma) (xs := ms.map V.ref)
      (fun i σ H3 => ∃ (v1 v2 v3 : Option V) (ps : List Addr), σ = [some (.int c), some (.int l), some (.ref r), some (.ref ma), some (.ref ra), v1, v2, v3] ∧ Same H2 H3 ∧ H3 ra = some (.lst (ps.map V.ref)) ∧ TupsAt H3 ps ((List.range i).map fun t : Nat => rowM c res (t : Int)) ∧ ps.length = i)
      ⟨none, none, none, [], rfl, s3, upd_same, .nil, rfl⟩ (fun i σ H3 _ ⟨_, _, _, _, _, s, _⟩ => SqL.of (s _ _ hml)) ?_ ?_⟩
    · rintro i x σ H3 p hx ⟨v1, v2, v3, ps, rfl, s4, hr3, htp, hpl⟩ hp0
      obtain ⟨mp, row, rfl, hrow, hmp⟩ := hmt.item hx
      have hi : i < c.toNat := by
        have := (List.getElem?_eq_some_iff.mp hrow).1
        omega
      rw [mget i hi] at hrow
      have erow : markM res (i : Int) = row := Option.some.inj hrow
      subst erow
      have s5 : Same H3 (upd H3 p (.tup [.int (i : Int), .ref mp])) := same_new hp0 _
      refine ⟨p, _, rfl, SqT.of upd_same, rfl, _, _, rfl, _, _, rfl, rfl, ?_⟩
      have s25 : Same H2 (upd H3 p (.tup [.int (i : Int), .ref mp])) := s4.trans s5
      generalize hH5 : upd H3 p (.tup [.int (i : Int), .ref mp]) = H5 at s5 s25
      refine ⟨_, rfl, ma, rfl, ⟨_, SqL.of (s25 _ _ hml)⟩, ?_⟩
      dsimp only
      refine lc_list (K := K) (a := ma) (xs := ms.map V.ref) (fun k acc H6 => H6 = H5 ∧ acc.length = (((marksM c res).take k).filter fun m => lexL (markM res (i : Int)) m).length ∧ acc.length ≤ k)
        ⟨rfl, rfl, Nat.le_refl _⟩ (fun k acc H6 _ z => by rw [z.1]; exact SqL.of (s25 _ _ hml)) ?_ ?_ ?_ ?_
      · rintro k x acc H6 hx6 ⟨rfl, hacc, hak⟩
        obtain ⟨mp2, row2, rfl, hrow2, hmp2⟩ := hmt.item hx6
        have hk : k < ms.length := by
          have := (List.getElem?_eq_some_iff.mp hx6).1
          rw [List.length_map] at this
          exact this
        have eT : ((marksM c res).take (k + 1)).filter (fun m => lexL (markM res (i : Int)) m) = ((marksM c res).take k).filter (fun m => lexL (markM res (i : Int)) m) ++ [row2].filter (fun m => lexL (markM res (i : Int)) m) := by
          rw [take_get hrow2, List.filter_append]
        refine ⟨_, rfl, _, rfl, mp2, mp, row2, markM res (i : Int), rfl, rfl, SqT.of (s25 _ _ hmp2), SqT.of (s25 _ _ hmp), _, rfl, ?_⟩
        rw [lexGt_eq]
        refine iteb (fun e => ?_) (fun e => ?_)
        · refine ⟨_, rfl, size_lt (by omega), rfl, ?_, ?_⟩
          · rw [eT, List.length_append, List.length_append, hacc, List.filter_cons, if_pos e]
            rfl
          · rw [List.length_append]
            show acc.length + 1 ≤ k + 1
            omega
        · refine ⟨rfl, ?_, by omega⟩
          rw [eT, List.length_append, hacc, List.filter_cons, if_neg (by rw [e]; simp)]
          rfl
      · rintro σ' H' Q1 Q2 h ⟨a1, a2, a3, a4, a5, a6, a7, a8, a9, a10, a11, a12, b1, b2, k⟩
        exact ⟨a1, a2, a3, a4, a5, a6, a7, a8, a9, a10, a11, a12, b1, b2, h _ _ k⟩
      · rintro σ' H' Q1 Q2 h ⟨w1, e1, k⟩
        exact ⟨w1, e1, h _ _ k⟩
      · rintro acc H6 ⟨rfl, hacc, _⟩ be hbe
        have eM : (marksM c res).take (ms.map V.ref).length = marksM c res := by rw [List.length_map, ml, List.take_length]
        rw [eM] at hacc
        have s7 : Same H3 (upd H6 be (.lst acc)) := s5.trans (same_new hbe _)
        have hmo : SqT K (upd H6 be (.lst acc)) mp ((markM res (i : Int)).map V.int) := SqT.of (s7 _ _ (s4 _ _ hmp))
        refine ⟨_, rfl, .inl ⟨rfl, _, SqL.of (s7 _ _ hr3)⟩, _, rfl, be, _, rfl, .inl (SqL.of upd_same), _, _, rfl, rfl, _, rfl, _, rfl, mp, _, _, _, rfl, rfl, hmo, rfl, _, rfl, mp, _, _, _, rfl, rfl, hmo, rfl, _, rfl, mp, _, _, _, rfl, rfl, hmo, rfl, (by show 5 ≤ sizeLine; decide), fun tp htp0 => ?_⟩
        have ebe : ((acc.length : Nat) : Int) + 1 = betterM (marksM c res) (markM res (i : Int)) + 1 := by rw [hacc]; rfl
        have nrt : ra ≠ tp := ne_of_none (s7 _ _ hr3) htp0
        refine ⟨ra, ps.map V.ref, _, rfl, rfl, (by rw [upd_ne nrt]; exact s7 _ _ hr3), (by rw [List.length_map]; exact size_lt (by omega)), ?_⟩
        refine ⟨_, _, _, ps ++ [tp], rfl, fun b o eb => ?_, ?_, ?_, ?_⟩
        · have z := s7 _ _ (s4 _ _ eb)
          rw [upd_ne (ne_of_none eb hra), upd_ne (ne_of_none z htp0)]
          exact z
        · rw [upd_same, List.map_append]
          rfl
        · rw [List.range_succ, List.map_append]
          have z := TupsAt.snoc (row := rowM c res (i : Int)) (l' := ps.map V.ref ++ [.ref tp]) (s7 _ _ hr3) (htp.same s7) htp0
          have er : (rowM c res (i : Int)).map V.int = [V.int (((acc.length : Nat) : Int) + 1), .int (i : Int), .int (sumR ptsR res (i : Int)), .int (sumR leadR res (i : Int)), .int (sumR goalR res (i : Int))] := by
            rw [ebe]
            rfl
          rw [er] at z
          exact z
        · rw [List.length_append, hpl]
          rfl
    · rintro σ H3 ⟨v1, v2, v3, ps, rfl, s4, hr3, htp, hpl⟩
      have en : (ms.map V.ref).length = c.toNat := by rw [List.length_map, ml, mlc]
      rw [en] at htp
      have hl : (rowsM c res).length = c.toNat := by unfold rowsM; rw [List.length_map, List.length_range]
      refine ⟨_, rfl, ra, rowsM c res, 4, rfl, ⟨ps, hr3, htp⟩, by omega, by omega, fun row hrow => ?_, rows_lt c res, fun D H4 hD s5 ht4 => ?_⟩
      · unfold rowsM at hrow
        obtain ⟨t, _, rfl⟩ := List.mem_map.mp hrow
        rfl
      · have S : Same H H4 := s1.trans (s2.trans (s4.trans s5))
        exact q D H4 S ((s1.trans (s2.trans s4)).free hD) ht4
end
end GR
namespace GR
open PySem L2
section
variable {P : Program} {w : World} {K : PySem.W.Frag} {mg : Str → Option Value} {base : Heap}
def spSeason : Sp := fun vs H Q _ => ∃ c l : Int, vs = [.int c, .int l] ∧ 2 ≤ c ∧ c ≤ 100 ∧ ∀ r H', Same H H' → H r = none → Tups H' r (gRows (seasonS c l c.toNat)) → Q (.ref r) H'
theorem Tups.push {H : Hp} {r p : Addr} {ps : List Addr} {gs : List (Int × Int)} {g : Int × Int} (hr : H r = some (.lst (ps.map V.ref))) (h : TupsAt H ps (gRows gs)) (hp : H p = none) :
    TupsAt (upd (upd H p (.tup [.int g.1, .int g.2])) r (.lst ((ps ++ [p]).map V.ref))) (ps ++ [p]) (gRows (gs ++ [g])) := by
  have e : gRows (gs ++ [g]) = gRows gs ++ [gRow g] := by
    unfold gRows
    rw [List.map_append]
    rfl
  rw [e]
  exact TupsAt.snoc (row := gRow g) hr h hp
theorem ok_season (M : Mo K mg) (T : DefTxt K "_law_season_of" s__law_season_of) (z_range : mg "range" = none) : Def P w K mg base 1 "_law_season_of" ["_law_count", "_law_legs"] spSeason := by
  refine def_of M T (N := ["_law_count", "_law_legs", "_law_days", "_law_games", "_law_low", "_law_high", "_law_first"]) ⟨rfl, rfl, rfl, by decide +kernel, rfl, by decide +kernel, by decide +kernel⟩ (fun _ _ _ _ _ _ us hl => match us, hl with | [_, _], _ => rfl) ?_ ?_
  · rintro vs H Q E ⟨c, l, rfl, _⟩
    rfl
  · rintro f cdv A outer s H vs Q E hr ⟨c, l, rfl, c2, c100, q⟩
    have nd : (["_law_count", "_law_legs", "_law_days", "_law_games", "_law_low", "_law_high", "_law_first"] : List Str).Nodup := by decide +kernel
    refine ⟨_, (pss_cons (ps_set (i := 2) nd rfl (Or.inl rfl) (pe_op op_add (pe_op op_sub (pv 0) pe_int) (pe_op op_mod (pv 0) pe_int)))
      (pss_cons (ps_set (i := 3) nd rfl (Or.inl rfl) (pe_lst pa_nil))
      (pss_cons (ps_for PassesOwn.never rfl (pi_range1 rfl z_range (pa_cons (pv 0) pa_nil)) (pg_name (i := 4) nd rfl (Or.inl rfl)) (pss_one (ps_for PassesOwn.never rfl (pi_range2 rfl z_range (pa_cons (pe_op op_add (pv 4) pe_int) (pa_cons (pv 0) pa_nil))) (pg_name (i := 5) nd rfl (Or.inl rfl)) (pss_cons (ps_set (i := 6) nd rfl (Or.inl rfl) (pe_cmpR op_eq (pe_op op_mod (pe_op op_sub (pv 5) (pv 4)) pe_int) pe_int (nomark _)))
      (pss_cons (ps_if (pt_cmpR op_eq (pv 5) (pv 2) (nomark _)) (pss_one (ps_set (i := 6) nd rfl (Or.inl rfl) (pe_cmpR op_eq (pe_op op_mod (pv 4) pe_int) pe_int (nomark _)))) pss_nil)
      (pss_cons (ps_if (PW.pt (pw_or (pt_val (pv 6)) (pw_or1 (pt_cmpR op_eq (pv 1) pe_int (nomark _))))) (pss_one (ps_expr (pe_bm PySem.F.plainAttrs_list PySem.F.slot_list_append PySem.F.type_list_append mt_append (pv 3) (pa_cons (pe_tup (pa_cons (pv 4) (pa_cons (pv 5) pa_nil))) pa_nil)))) pss_nil)
      (pss_one (ps_if (PW.pt (pw_or (pt_not (pt_val (pv 6))) (pw_or1 (pt_cmpR op_eq (pv 1) pe_int (nomark _))))) (pss_one (ps_expr (pe_bm PySem.F.plainAttrs_list PySem.F.slot_list_append PySem.F.type_list_append mt_append (pv 3) (pa_cons (pe_tup (pa_cons (pv 5) (pa_cons (pv 4) pa_nil))) pa_nil)))) pss_nil))))))))
      (pss_one (ps_ret (pv 3)))))), ?_⟩
    refine ⟨_, rfl, _, _, rfl, rfl, _, rfl, _, _, rfl, rfl, (by show (0 : Int) < 2; decide), _, _, rfl, rfl, ?_⟩
    refine ⟨(by show 0 ≤ sizeLine; decide), fun ga hga => ?_⟩
    refine ⟨_, rfl, c, rfl, by omega, by omega, for_range (lo := 0) (n := c.toNat) (fun i σ H2 => ∃ (v1 v2 v3 : Option V) (ps : List Addr), σ = [some (.int c), some (.int l), some (.int (c - 1 + c % 2)), some (.ref ga), v1, v2, v3] ∧ Same H H2 ∧ H2 ga = some (.lst (ps.map V.ref)) ∧ TupsAt H2 ps (gRows (seasonS c l i)))
      ⟨none, none, none, [], rfl, same_new hga _, upd_same, .nil⟩ ?_ ?_⟩
    · rintro i σ H2 hi ⟨v1, v2, v3, ps, rfl, s2, hg2, ht⟩
      rw [Int.zero_add]
      have gl0 := seasonS_len (c := c) (l := l) c100 i
      refine ⟨_, rfl, _, _, rfl, rfl, _, rfl, (i : Int) + 1, c, rfl, ⟨by omega, by omega, by omega, by omega⟩, ?_⟩
      refine for_range (lo := (i : Int) + 1) (n := (c - ((i : Int) + 1)).toNat) (fun j σ H3 => ∃ (v2 v3 : Option V) (ps : List Addr), σ = [some (.int c), some (.int l), some (.int (c - 1 + c % 2)), some (.ref ga), some (.int (i : Int)), v2, v3] ∧ Same H H3 ∧ H3 ga = some (.lst (ps.map V.ref)) ∧ TupsAt H3 ps (gRows (seasonS c l i ++ rowS c l i j)))
        ⟨_, _, ps, rfl, s2, hg2, by rw [show rowS c l i 0 = [] from rfl, List.append_nil]; exact ht⟩ ?_ ?_
      · rintro j σ H3 hj ⟨v2, v3, ps, rfl, s3, hg3, ht3⟩
        have rl := rowS_len c l i j
        have pl : ps.length ≤ 40000 := by
          have z := ht3.len
          unfold gRows at z
          rw [List.length_map, List.length_append] at z
          omega
        have hrow : rowS c l i (j + 1) = rowS c l i j ++ pairS c l (i : Int) ((i : Int) + 1 + (j : Int)) := by
          unfold rowS
          rw [List.range_succ, List.flatMap_append]
          simp only [List.flatMap_cons, List.flatMap_nil, List.append_nil]
        have tailR : ∀ b : Bool, b = firstS c (i : Int) ((i : Int) + 1 + (j : Int)) → ∀ (bk : L2.St → Hp → Prop),
            tSeq (tIfS (tOr (tB (tVar 6)) (tTest (tOp rEq (tVar 1) (tC (.int 2))))) (tDrop (tBM K "list" rAppend (tVar 3) (tCons (tTup (tCons (tVar 4) (tCons (tVar 5) tNil))) tNil))) tNext)
              (tIfS (tOr (tNot (tB (tVar 6))) (tTest (tOp rEq (tVar 1) (tC (.int 2))))) (tDrop (tBM K "list" rAppend (tVar 3) (tCons (tTup (tCons (tVar 5) (tCons (tVar 4) tNil))) tNil))) tNext)
              { nx := fun σ H3 => ∃ (v2 v3 : Option V) (ps : List Addr), σ = [some (.int c), some (.int l), some (.int (c - 1 + c % 2)), some (.ref ga), some (.int (i : Int)), v2, v3] ∧ Same H H3 ∧ H3 ga = some (.lst (ps.map V.ref)) ∧ TupsAt H3 ps (gRows (seasonS c l i ++ rowS c l i (j + 1))), rt := Q, bk := bk,
                ct := fun σ H3 => ∃ (v2 v3 : Option V) (ps : List Addr), σ = [some (.int c), some (.int l), some (.int (c - 1 + c % 2)), some (.ref ga), some (.int (i : Int)), v2, v3] ∧ Same H H3 ∧ H3 ga = some (.lst (ps.map V.ref)) ∧ TupsAt H3 ps (gRows (seasonS c l i ++ rowS c l i (j + 1))) }
              [some (.int c), some (.int l), some (.int (c - 1 + c % 2)), some (.ref ga), some (.int (i : Int)), some (.int ((i : Int) + 1 + (j : Int))), some (.bl b)] H3 := by
          intro b hb bk
          have add : ∀ (cond : Prop) [Decidable cond] (H4 : Hp) (ps4 : List Addr) (gs4 : List (Int × Int)) (g : Int × Int), Same H H4 → H4 ga = some (.lst (ps4.map V.ref)) → TupsAt H4 ps4 (gRows gs4) → ¬ cond → TupsAt H4 ps4 (gRows (gs4 ++ if cond then [g] else [])) := by
            intro cond _ H4 ps4 gs4 g _ _ h4 hc
            rw [if_neg hc, List.append_nil]
            exact h4
          -- the second game, behind whatever the first was
          have second : ∀ (H4 : Hp) (ps4 : List Addr), ps4.length ≤ 40001 → Same H H4 → H4 ga = some (.lst (ps4.map V.ref)) → TupsAt H4 ps4 (gRows ((seasonS c l i ++ rowS c l i j) ++ (if firstS c (i : Int) ((i : Int) + 1 + (j : Int)) = true ∨ l = 2 then [((i : Int), (i : Int) + 1 + (j : Int))] else []))) →
              tIfS (tOr (tNot (tB (tVar 6))) (tTest (tOp rEq (tVar 1) (tC (.int 2))))) (tDrop (tBM K "list" rAppend (tVar 3) (tCons (tTup (tCons (tVar 5) (tCons (tVar 4) tNil))) tNil))) tNext
              { nx := fun σ H3 => ∃ (v2 v3 : Option V) (ps : List Addr), σ = [some (.int c), some (.int l), some (.int (c - 1 + c % 2)), some (.ref ga), some (.int (i : Int)), v2, v3] ∧ Same H H3 ∧ H3 ga = some (.lst (ps.map V.ref)) ∧ TupsAt H3 ps (gRows (seasonS c l i ++ rowS c l i (j + 1))), rt := Q, bk := bk,
                ct := fun σ H3 => ∃ (v2 v3 : Option V) (ps : List Addr), σ = [some (.int c), some (.int l), some (.int (c - 1 + c % 2)), some (.ref ga), some (.int (i : Int)), v2, v3] ∧ Same H H3 ∧ H3 ga = some (.lst (ps.map V.ref)) ∧ TupsAt H3 ps (gRows (seasonS c l i ++ rowS c l i (j + 1))) }
              [some (.int c), some (.int l), some (.int (c - 1 + c % 2)), some (.ref ga), some (.int (i : Int)), some (.int ((i : Int) + 1 + (j : Int))), some (.bl b)] H4 := by
            intro H4 ps4 pl4 s4 hg4 ht4
            have fin : ∀ (H5 : Hp) (ps5 : List Addr), Same H H5 → H5 ga = some (.lst (ps5.map V.ref)) → TupsAt H5 ps5 (gRows (((seasonS c l i ++ rowS c l i j) ++ (if firstS c (i : Int) ((i : Int) + 1 + (j : Int)) = true ∨ l = 2 then [((i : Int), (i : Int) + 1 + (j : Int))] else [])) ++ (if firstS c (i : Int) ((i : Int) + 1 + (j : Int)) = false ∨ l = 2 then [((i : Int) + 1 + (j : Int), (i : Int))] else []))) →
                ∃ (v2 v3 : Option V) (ps : List Addr), [some (V.int c), some (.int l), some (.int (c - 1 + c % 2)), some (.ref ga), some (.int (i : Int)), some (.int ((i : Int) + 1 + (j : Int))), some (.bl b)] = [some (.int c), some (.int l), some (.int (c - 1 + c % 2)), some (.ref ga), some (.int (i : Int)), v2, v3] ∧ Same H H5 ∧ H5 ga = some (.lst (ps.map V.ref)) ∧ TupsAt H5 ps (gRows (seasonS c l i ++ rowS c l i (j + 1))) := by
              intro H5 ps5 s5 hg5 ht5
              refine ⟨_, _, ps5, rfl, s5, hg5, ?_⟩
              rw [hrow]
              unfold pairS
              rw [← List.append_assoc, ← List.append_assoc]
              exact ht5
            have yes : (firstS c (i : Int) ((i : Int) + 1 + (j : Int)) = false ∨ l = 2) → tDrop (tBM K "list" rAppend (tVar 3) (tCons (tTup (tCons (tVar 5) (tCons (tVar 4) tNil))) tNil))
                { nx := fun σ H3 => ∃ (v2 v3 : Option V) (ps : List Addr), σ = [some (.int c), some (.int l), some (.int (c - 1 + c % 2)), some (.ref ga), some (.int (i : Int)), v2, v3] ∧ Same H H3 ∧ H3 ga = some (.lst (ps.map V.ref)) ∧ TupsAt H3 ps (gRows (seasonS c l i ++ rowS c l i (j + 1))), rt := Q }
                [some (.int c), some (.int l), some (.int (c - 1 + c % 2)), some (.ref ga), some (.int (i : Int)), some (.int ((i : Int) + 1 + (j : Int))), some (.bl b)] H4 := by
              intro hy
              refine ⟨_, rfl, .inl ⟨rfl, _, SqL.of hg4⟩, _, rfl, _, rfl, (by show 2 ≤ sizeLine; decide), fun p hp => ?_⟩
              have npr : ga ≠ p := ne_of_none hg4 hp
              refine ⟨ga, ps4.map V.ref, _, rfl, rfl, (by rw [upd_ne npr]; exact hg4), (by rw [List.length_map]; exact size_lt (by omega)), ?_⟩
              have z := Tups.push (g := ((i : Int) + 1 + (j : Int), (i : Int))) hg4 ht4 hp
              rw [List.map_append] at z
              refine fin _ (ps4 ++ [p]) (fun b' o eb => ?_) (by rw [upd_same, List.map_append]; rfl) ?_
              · have y := s4 _ _ eb
                rw [upd_ne (ne_of_none eb hga), upd_ne (ne_of_none y hp)]
                exact y
              · rw [if_pos hy]
                exact z
            refine ⟨_, rfl, _, rfl, ?_⟩
            cases b with
            | false => exact iteT (iteT (yes (.inl hb.symm)))
            | true =>
              refine iteF ⟨_, rfl, rfl, _, rfl, ?_⟩
              refine iteI (fun e => yes (.inr e)) (fun e => fin H4 ps4 s4 hg4 ?_)
              rw [if_neg (c := firstS c (i : Int) ((i : Int) + 1 + (j : Int)) = false ∨ l = 2) (fun z => z.elim (fun y => by rw [← hb] at y; cases y) e), List.append_nil]
              exact ht4
          have yes : (firstS c (i : Int) ((i : Int) + 1 + (j : Int)) = true ∨ l = 2) → ∀ D : Ends, (∀ (H4 : Hp) (ps4 : List Addr), ps4.length ≤ 40001 → Same H H4 → H4 ga = some (.lst (ps4.map V.ref)) → TupsAt H4 ps4 (gRows ((seasonS c l i ++ rowS c l i j) ++ (if firstS c (i : Int) ((i : Int) + 1 + (j : Int)) = true ∨ l = 2 then [((i : Int), (i : Int) + 1 + (j : Int))] else []))) →
              D.nx [some (.int c), some (.int l), some (.int (c - 1 + c % 2)), some (.ref ga), some (.int (i : Int)), some (.int ((i : Int) + 1 + (j : Int))), some (.bl b)] H4) → tDrop (tBM K "list" rAppend (tVar 3) (tCons (tTup (tCons (tVar 4) (tCons (tVar 5) tNil))) tNil)) D
              [some (.int c), some (.int l), some (.int (c - 1 + c % 2)), some (.ref ga), some (.int (i : Int)), some (.int ((i : Int) + 1 + (j : Int))), some (.bl b)] H3 := by
            intro hy D k
            refine ⟨_, rfl, .inl ⟨rfl, _, SqL.of hg3⟩, _, rfl, _, rfl, (by show 2 ≤ sizeLine; decide), fun p hp => ?_⟩
            have npr : ga ≠ p := ne_of_none hg3 hp
            refine ⟨ga, ps.map V.ref, _, rfl, rfl, (by rw [upd_ne npr]; exact hg3), (by rw [List.length_map]; exact size_lt (by omega)), ?_⟩
            have z := Tups.push (g := ((i : Int), (i : Int) + 1 + (j : Int))) hg3 ht3 hp
            rw [List.map_append] at z
            refine k _ (ps ++ [p]) (by rw [List.length_append]; show ps.length + 1 ≤ 40001; omega) (fun b' o eb => ?_) (by rw [upd_same, List.map_append]; rfl) ?_
            · have y := s3 _ _ eb
              rw [upd_ne (ne_of_none eb hga), upd_ne (ne_of_none y hp)]
              exact y
            · rw [if_pos hy]
              exact z
          refine ⟨_, rfl, _, rfl, ?_⟩
          cases b with
          | true => exact iteT (iteT (yes (.inl hb.symm) _ second))
          | false =>
            refine iteF ⟨_, rfl, rfl, _, rfl, ?_⟩
            refine iteI (fun e => yes (.inr e) _ second) (fun e => second H3 ps (by omega) s3 hg3 ?_)
            rw [if_neg (c := firstS c (i : Int) ((i : Int) + 1 + (j : Int)) = true ∨ l = 2) (fun z => z.elim (fun y => by rw [← hb] at y; cases y) e), List.append_nil]
            exact ht3
        refine ⟨_, rfl, _, rfl, _, _, rfl, rfl, _, _, rfl, rfl, (by show (0 : Int) < 2; decide), rfl, ?_⟩
        refine ⟨_, rfl, _, rfl, rfl, _, rfl, ?_⟩
        refine iteI (fun e => ?_) (fun e => ?_)
        · refine ⟨_, rfl, _, _, rfl, rfl, (by show (0 : Int) < 2; decide), rfl, ?_⟩
          exact tailR _ (by unfold firstS; rw [if_pos e]; simp) _
        · exact tailR _ (by unfold firstS; rw [if_neg e]; simp) _
      · rintro σ H3 ⟨v2, v3, ps, rfl, s3, hg3, ht3⟩
        refine ⟨_, _, _, ps, rfl, s3, hg3, ?_⟩
        have e : seasonS c l (i + 1) = seasonS c l i ++ rowS c l i (c - ((i : Int) + 1)).toNat := by
          unfold seasonS
          rw [List.range_succ, List.flatMap_append]
          simp only [List.flatMap_cons, List.flatMap_nil, List.append_nil]
        rw [e]
        exact ht3
    · rintro σ H2 ⟨v1, v2, v3, ps, rfl, s2, hg2, ht⟩
      exact ⟨_, rfl, q ga H2 s2 hga ⟨ps, hg2, ht⟩⟩
end
end GR
namespace GR
open PySem L2
/-- the own classes of errors -/
structure ExcK (K : PySem.W.Frag) (cN cT cS : Addr) : Prop where
  nN : PySem.W.nsIn K mainGlobals "NoGame" = some (some (.ref cN))
  nT : PySem.W.nsIn K mainGlobals "ToldTwice" = some (some (.ref cT))
  nS : PySem.W.nsIn K mainGlobals "SeasonError" = some (some (.ref cS))
  qN : PySem.W.excIn K cN [.type "ValueError", .type "Exception", .type "BaseException", .type "object"] "ValueError.__new__" = true
  qT : PySem.W.excIn K cT [.type "ValueError", .type "Exception", .type "BaseException", .type "object"] "ValueError.__new__" = true
  xNN : PySem.W.exmOne K (.ref cN) (.ref cN) = some true
  xTN : PySem.W.exmOne K (.ref cT) (.ref cN) = some false
  xTT : PySem.W.exmOne K (.ref cT) (.ref cT) = some true
  xNS : PySem.W.exmOne K (.ref cN) (.ref cS) = some true
  xTS : PySem.W.exmOne K (.ref cT) (.ref cS) = some true
  kNV : PySem.W.kitOne K (.ref cN) (.type "ValueError") = some true
  kTV : PySem.W.kitOne K (.ref cT) (.type "ValueError") = some true
  kNN : PySem.W.kitOne K (.ref cN) (.ref cN) = some true
  kNT : PySem.W.kitOne K (.ref cN) (.ref cT) = some false
  kTN : PySem.W.kitOne K (.ref cT) (.ref cN) = some false
  kTT : PySem.W.kitOne K (.ref cT) (.ref cT) = some true
  oN : ExcOk K cN
  oT : ExcOk K cT
def kcE (cN cT : Addr) (b : Bool) : Value := .ref (cond b cT cN)
section
variable {P : Program} {w : World} {K : PySem.W.Frag} {mg : Str → Option Value} {base : Heap} {cN cT cS : Addr}
def endD (cN cT : Addr) (Q : Prop) (E : XK) (H : Hp) : Option Bool → Prop
  | none => Q
  | some k => E (kcE cN cT k) none H
def spRefuse1 (cN cT : Addr) : Sp := fun vs H Q E => ∃ (c l : Int) (r : Addr) (res : List Rs), vs = [.int c, .int l, .ref r] ∧ Tups H r (rRows res) ∧ res.length ≤ 63 ∧ ∀ H', Same H H' → endD cN cT (Q .non H') E H' (dueN c l res res.length)
theorem ok_refuse1 (M : Mo K mg) (EF : ExcK K cN cT cS) (T : DefTxt K "refuse_wrong" s_refuse_wrong) (z_enumerate : mg "enumerate" = none) (D_has_game : Def P w K mg base 3 "has_game" ["count", "legs", "home", "away"] (sp4 (fun _ _ _ _ => True) fun c l h a => .bl (hasM c l h a))) :
    Def1 P w K mg base 4 "refuse_wrong" ["count", "legs", "results"] (spRefuse1 cN cT) := by
  refine def_of1 M T (N := ["count", "legs", "results", "told", "index", "result", "home", "away"]) ⟨rfl, rfl, rfl, by decide +kernel, rfl, by decide +kernel, by decide +kernel⟩ (fun _ _ _ _ _ _ us hl => match us, hl with | [_, _, _], _ => rfl) ?_ ?_
  · rintro vs H Q E ⟨c, l, r, res, rfl, _⟩
    rfl
  · rintro f cdv A outer s H vs Q E hr ⟨c, l, r, res, rfl, ⟨ps, hrl, ht⟩, hlen, q⟩
    have nd : (["count", "legs", "results", "told", "index", "result", "home", "away"] : List Str).Nodup := by decide +kernel
    have hu := hu_of hr
    have tl := ht.len
    unfold rRows at tl
    rw [List.length_map] at tl
    have m_NoGame := M.at_ _ _ EF.nN
    have m_ToldTwice := M.at_ _ _ EF.nT
    have q_NoGame := EF.qN
    have q_ToldTwice := EF.qT
    refine ⟨_, PSs.ofXR (pss_cons (ps_set (i := 3) nd rfl (Or.inl rfl) pe_dnewT)
      (pss_one (ps_for (xr_own own_of) rfl (pi_enum rfl z_enumerate (pa_cons (pv 2) pa_nil)) (pg_tup rfl (pgs_cons (pg_name (i := 4) nd rfl (Or.inl rfl)) (pgs_cons (pg_name (i := 5) nd rfl (Or.inl rfl)) pgs_nil))) (pss_cons (ps_set (i := 6) nd rfl (Or.inl rfl) (pe_ix ix_tup (pv 5) pe_int (fun _ _ => rfl)))
      (pss_cons (ps_set (i := 7) nd rfl (Or.inl rfl) (pe_ix ix_tup (pv 5) pe_int (fun _ _ => rfl)))
      (pss_cons (ps_if (pt_not (pt_val (pe_def D_has_game hr (pa_cons (pv 0) (pa_cons (pv 1) (pa_cons (pv 6) (pa_cons (pv 7) pa_nil))))))) (pss_one (ps_raise m_NoGame q_NoGame rfl rfl (pa_cons (pe_fstr (i := 4) rfl (Or.inl rfl) (by decide) (by decide)) pa_nil))) pss_nil)
      (pss_cons (ps_if (pt_cmp (pc_din hu (pe_tup (pa_cons (pv 6) (pa_cons (pv 7) pa_nil))) (pv 3))) (pss_one (ps_raise m_ToldTwice q_ToldTwice rfl rfl (pa_cons (pe_fstr (i := 4) rfl (Or.inl rfl) (by decide) (by decide)) pa_nil))) pss_nil)
      (pss_one (ps_dput hu (pv 3) (pe_tup (pa_cons (pv 6) (pa_cons (pv 7) pa_nil))) pe_bl rfl))))))))), ?_⟩
    intro td htd
    refine ⟨_, rfl, r, rfl, ⟨_, SqL.of (same_new htd _ _ _ hrl)⟩, for_enum (K := K) (a := r) (xs := ps.map V.ref)
      (fun i σ H2 => ∃ (v1 v2 v3 v4 : Option V) (kvs : List (List Key × V)), σ = [some (.int c), some (.int l), some (.ref r), some (.ref td), v1, v2, v3, v4] ∧ Same H H2 ∧ H2 td = some (.dT kvs) ∧ kvs.map (·.1) = (res.take i).map keyR ∧ kvs.length ≤ i ∧ dueN c l res i = none)
      ⟨none, none, none, none, [], rfl, same_new htd _, upd_same, rfl, Nat.le_refl _, rfl⟩ (fun i σ H2 _ ⟨_, _, _, _, _, _, s2, _⟩ => SqL.of (s2 _ _ hrl)) ?_ ?_⟩
    · rintro i x σ H2 p hx ⟨v1, v2, v3, v4, kvs, rfl, s2, hd2, hkeys, hkl, hdue⟩ hp0
      obtain ⟨rp, rr, rfl, er, hrp⟩ := ht.res hx
      have hi : i < res.length := (List.getElem?_eq_some_iff.mp er).1
      have s3 : Same H2 (upd H2 p (.tup [.int (i : Int), .ref rp])) := same_new hp0 _
      refine ⟨p, _, rfl, SqT.of upd_same, rfl, _, _, rfl, _, _, rfl, rfl, ?_⟩
      have hrp3 : SqT K (upd H2 p (.tup [.int (i : Int), .ref rp])) rp ((rRow rr).map V.int) := SqT.of (s3 _ _ (s2 _ _ hrp))
      refine ⟨_, rfl, rp, _, _, _, rfl, rfl, hrp3, rfl, ?_⟩
      refine ⟨_, rfl, rp, _, _, _, rfl, rfl, hrp3, rfl, ?_⟩
      refine ⟨_, rfl, _, rfl, _, rfl, _, rfl, c, l, rr.1, rr.2.1, rfl, trivial, _, rfl, ?_⟩
      cases hh : hasM c l rr.1 rr.2.1 with
      | false =>
        refine iteT ?_
        refine ⟨(i : Int), rfl, by omega, by omega, fun tx => ⟨rfl, ?_⟩⟩
        have z := q _ (s2.trans s3)
        rw [due_all (due_no hdue er hh) (by omega)] at z
        exact z
      | true =>
        refine iteF ?_
        -- told already?
        refine ⟨_, rfl, _, rfl, (by show 2 ≤ sizeLine; decide), fun k hk => ?_⟩
        have s4 : Same H2 (upd (upd H2 p (.tup [.int (i : Int), .ref rp])) k (.tup [.int rr.1, .int rr.2.1])) := s3.trans (same_new hk _)
        refine ⟨_, rfl, td, _, rfl, DGet.t (k := keyR rr) (s4 _ _ hd2) upd_same, _, rfl, ?_⟩
        cases vn : valV kvs (keyR rr) with
        | some v =>
          refine iteT ?_
          refine ⟨(i : Int), rfl, by omega, by omega, fun tx => ⟨rfl, ?_⟩⟩
          have m := valV_in vn
          rw [hkeys] at m
          obtain ⟨t, htm, et⟩ := List.mem_map.mp m
          have z := q _ (s2.trans s4)
          rw [due_all (due_tw hdue er hh (List.mem_map.mpr ⟨t, htm, keyR_inj et⟩)) (by omega)] at z
          exact z
        | none =>
          refine iteF ?_
          refine ⟨_, rfl, _, rfl, _, rfl, (by show 2 ≤ sizeLine; decide), fun k2 hk2 => ?_⟩
          have s5 : Same H2 (upd (upd (upd H2 p (.tup [.int (i : Int), .ref rp])) k (.tup [.int rr.1, .int rr.2.1])) k2 (.tup [.int rr.1, .int rr.2.1])) := s4.trans (same_new hk2 _)
          refine ⟨td, _, rfl, DPut.t (k := keyR rr) (s5 _ _ hd2) upd_same (size_lt (by omega)), ?_⟩
          refine ⟨_, _, _, _, putK kvs (keyR rr) (.bl true), rfl, fun b o eb => ?_, upd_same, ?_, ?_, ?_⟩
          · rw [upd_ne (ne_of_none eb htd)]
            exact s5 _ _ (s2 _ _ eb)
          · rw [putK_new _ vn, List.map_append, take_get er, List.map_append, hkeys]
            rfl
          · rw [putK_new _ vn, List.length_append]
            show kvs.length + 1 ≤ i + 1
            omega
          · refine due_ok hdue er hh fun m => ?_
            obtain ⟨t, htm, et⟩ := List.mem_map.mp m
            have mk : keyR rr ∈ kvs.map (·.1) := by
              rw [hkeys]
              refine List.mem_map.mpr ⟨t, htm, ?_⟩
              have et : (t.1, t.2.1) = (rr.1, rr.2.1) := et
              injection et with e1 e2
              unfold keyR
              rw [e1, e2]
            exact valV_not vn mk
    · rintro σ H2 ⟨v1, v2, v3, v4, kvs, rfl, s2, _, _, _, hdue⟩
      have z := q H2 s2
      rw [List.length_map, tl] at hdue
      rw [hdue] at z
      exact z
def spTable1 (cN cT : Addr) : Sp := fun vs H Q E => ∃ (c l : Int) (r : Addr) (res : List Rs), vs = [.int c, .int l, .ref r] ∧ Tups H r (rRows res) ∧ res.length ≤ 63 ∧ 2 ≤ c ∧ c < 64 ∧ ∀ H', Same H H' → endD cN cT (∀ v, Q v H') E H' (dueN c l res res.length)
theorem endD_none {Q : Prop} {E : XK} {H : Hp} (h : Q) : endD cN cT Q E H none := h
theorem ok_table1 (M : Mo K mg) (T : DefTxt K "table" s_table) (z_len : mg "len" = none) (z_enumerate : mg "enumerate" = none) (z_sorted : mg "sorted" = none)
    (D_refuse_wrong : Def1 P w K mg base 4 "refuse_wrong" ["count", "legs", "results"] (spRefuse1 cN cT)) (D_marks_of : Def P w K mg base 2 "marks_of" ["count", "results"] spMarks) : Def1 P w K mg base 5 "table" ["count", "legs", "results"] (spTable1 cN cT) := by
  refine def_of1 M T (N := ["count", "legs", "results", "marks", "rows", "team", "own", "better"]) ⟨rfl, rfl, rfl, by decide +kernel, rfl, by decide +kernel, by decide +kernel⟩ (fun _ _ _ _ _ _ us hl => match us, hl with | [_, _, _], _ => rfl) ?_ ?_
  · rintro vs H Q E ⟨c, l, r, res, rfl, _⟩
    rfl
  · rintro f cdv A outer s H vs Q E hr ⟨c, l, r, res, rfl, htr, hlen, c2, c64, q⟩
    have nd : (["count", "legs", "results", "marks", "rows", "team", "own", "better"] : List Str).Nodup := by decide +kernel
    have hu := hu_of hr
    refine ⟨_, pss_cons (ps_expr (pe_def1 D_refuse_wrong hr pass1 (pa_cons (pv 0) (pa_cons (pv 1) (pa_cons (pv 2) pa_nil))))) (PSs.nox (pss_cons (ps_set (i := 3) nd rfl (Or.inl rfl) (pe_def D_marks_of hr (pa_cons (pv 0) (pa_cons (pv 2) pa_nil))))
      (pss_cons (ps_set (i := 4) nd rfl (Or.inl rfl) (pe_lst pa_nil))
      (pss_cons (ps_for PassesOwn.never rfl (pi_enum rfl z_enumerate (pa_cons (pv 3) pa_nil)) (pg_tup rfl (pgs_cons (pg_name (i := 5) nd rfl (Or.inl rfl)) (pgs_cons (pg_name (i := 6) nd rfl (Or.inr rfl)) pgs_nil))) (pss_cons (ps_setlc (i := 7) (fr := [("own", 6)]) ⟨rfl, by decide +kernel, by decide +kernel, rfl, rfl, (sub_cons rfl sub_nil), has_of (ys := ["own"]) (by decide +kernel) ⟨⟨_, rfl⟩, trivial⟩, ⟨⟨rfl, rfl, rfl, _, rfl⟩, trivial⟩, by decide +kernel⟩ rfl nd rfl rfl (pi_list (pv 3)) (fun _ _ _ _ => (pv 0)) (fun _ _ _ _ => (pts_one (pt_cmpR (r := rGtT K) (op_gtT (Nat.lt_of_succ_lt hu)) (pv 0) (pv 1) (nomark _)))) rfl)
      (pss_one (ps_expr (pe_bm PySem.F.plainAttrs_list PySem.F.slot_list_append PySem.F.type_list_append mt_append (pv 4) (pa_cons (pe_tup (pa_cons (pe_op op_add (pe_callB call_len_seq rfl z_len PySem.boot_len (pa_cons (pv 7) pa_nil)) pe_int) (pa_cons (pv 5) (pa_cons (pe_ix ix_tup (pv 6) pe_int (fun _ _ => rfl)) (pa_cons (pe_ix ix_tup (pv 6) pe_int (fun _ _ => rfl)) (pa_cons (pe_ix ix_tup (pv 6) pe_int (fun _ _ => rfl)) pa_nil)))))) pa_nil))))))
      (pss_one (ps_ret (pe_callB call_sorted rfl z_sorted PyProof.Rows.boot_sorted (pa_cons (pv 4) pa_nil)))))))), ?_⟩
    refine ⟨_, rfl, _, rfl, _, rfl, c, l, r, res, rfl, htr, hlen, fun H1 s1 => ?_⟩
    cases hd : dueN c l res res.length with
    | some k =>
      have z := q H1 s1
      rw [hd] at z
      exact z
    | none =>
      have va := due_table hd
      have q : ∀ H', Same H H' → ∀ v, Q v H' := fun H' s' => by
        have z := q H' s'
        rw [hd] at z
        exact z
      refine endD_none ?_
      refine ⟨_, rfl, _, rfl, c, r, res, rfl, htr.same s1, by omega, by omega, fun x hx => ?_, fun ma H2 s2 hma ⟨ms, hml, hmt⟩ => ?_⟩
      · have z := has_in (va.has x hx)
        exact ⟨z.1, z.2.1, z.2.2.1, z.2.2.2.1⟩
      have ml := hmt.len
      have mlc : (marksM c res).length = c.toNat := by unfold marksM; rw [List.length_map, List.length_range]
      have mget : ∀ i, i < c.toNat → (marksM c res)[i]? = some (markM res (i : Int)) := fun i hi => by unfold marksM; rw [List.getElem?_map, List.getElem?_range hi]; rfl
      refine ⟨(by show 0 ≤ sizeLine; decide), fun ra hra => ?_⟩
      have s3 : Same H2 (upd H2 ra (.lst [])) := same_new hra _
      refine ⟨_, rfl, ma, rfl, ⟨_, SqL.of (s3 _ _ hml)⟩, for_enum (K := K) (a := ma) (xs := ms.map V.ref)
        (fun i σ H3 => ∃ (v1 v2 v3 : Option V) (ps : List Addr), σ = [some (.int c), some (.int l), some (.ref r), some (.ref ma), some (.ref ra), v1, v2, v3] ∧ Same H2 H3 ∧ H3 ra = some (.lst (ps.map V.ref)) ∧ TupsAt H3 ps ((List.range i).map fun t : Nat => rowM c res (t : Int)) ∧ ps.length = i)
        ⟨none, none, none, [], rfl, s3, upd_same, .nil, rfl⟩ (fun i σ H3 _ ⟨_, _, _, _, _, s, _⟩ => SqL.of (s _ _ hml)) ?_ ?_⟩
      · rintro i x σ H3 p hx ⟨v1, v2, v3, ps, rfl, s4, hr3, htp, hpl⟩ hp0
        obtain ⟨mp, row, rfl, hrow, hmp⟩ := hmt.item hx
        have hi : i < c.toNat := by
          have := (List.getElem?_eq_some_iff.mp hrow).1
          omega
        rw [mget i hi] at hrow
        have erow : markM res (i : Int) = row := Option.some.inj hrow
        subst erow
        have s5 : Same H3 (upd H3 p (.tup [.int (i : Int), .ref mp])) := same_new hp0 _
        refine ⟨p, _, rfl, SqT.of upd_same, rfl, _, _, rfl, _, _, rfl, rfl, ?_⟩
        have s25 : Same H2 (upd H3 p (.tup [.int (i : Int), .ref mp])) := s4.trans s5
        generalize hH5 : upd H3 p (.tup [.int (i : Int), .ref mp]) = H5 at s5 s25
        refine ⟨_, rfl, ma, rfl, ⟨_, SqL.of (s25 _ _ hml)⟩, ?_⟩
        dsimp only
        refine lc_list (K := K) (a := ma) (xs := ms.map V.ref) (fun k acc H6 => H6 = H5 ∧ acc.length = (((marksM c res).take k).filter fun m => lexL (markM res (i : Int)) m).length ∧ acc.length ≤ k)
          ⟨rfl, rfl, Nat.le_refl _⟩ (fun k acc H6 _ z => by rw [z.1]; exact SqL.of (s25 _ _ hml)) ?_ ?_ ?_ ?_
        · rintro k x acc H6 hx6 ⟨rfl, hacc, hak⟩
          obtain ⟨mp2, row2, rfl, hrow2, hmp2⟩ := hmt.item hx6
          have hk : k < ms.length := by
            have := (List.getElem?_eq_some_iff.mp hx6).1
            rw [List.length_map] at this
            exact this
          have eT : ((marksM c res).take (k + 1)).filter (fun m => lexL (markM res (i : Int)) m) = ((marksM c res).take k).filter (fun m => lexL (markM res (i : Int)) m) ++ [row2].filter (fun m => lexL (markM res (i : Int)) m) := by
            rw [take_get hrow2, List.filter_append]
          refine ⟨_, rfl, _, rfl, mp2, mp, row2, markM res (i : Int), rfl, rfl, SqT.of (s25 _ _ hmp2), SqT.of (s25 _ _ hmp), _, rfl, ?_⟩
          rw [lexGt_eq]
          refine iteb (fun e => ?_) (fun e => ?_)
          · refine ⟨_, rfl, size_lt (by omega), rfl, ?_, ?_⟩
            · rw [eT, List.length_append, List.length_append, hacc, List.filter_cons, if_pos e]
              rfl
            · rw [List.length_append]
              show acc.length + 1 ≤ k + 1
              omega
          · refine ⟨rfl, ?_, by omega⟩
            rw [eT, List.length_append, hacc, List.filter_cons, if_neg (by rw [e]; simp)]
            rfl
        · rintro σ' H' Q1 Q2 h ⟨a1, a2, a3, a4, a5, a6, a7, a8, a9, a10, a11, a12, b1, b2, k⟩
          exact ⟨a1, a2, a3, a4, a5, a6, a7, a8, a9, a10, a11, a12, b1, b2, h _ _ k⟩
        · rintro σ' H' Q1 Q2 h ⟨w1, e1, k⟩
          exact ⟨w1, e1, h _ _ k⟩
        · rintro acc H6 ⟨rfl, hacc, _⟩ be hbe
          have eM : (marksM c res).take (ms.map V.ref).length = marksM c res := by rw [List.length_map, ml, List.take_length]
          rw [eM] at hacc
          have s7 : Same H3 (upd H6 be (.lst acc)) := s5.trans (same_new hbe _)
          have hmo : SqT K (upd H6 be (.lst acc)) mp ((markM res (i : Int)).map V.int) := SqT.of (s7 _ _ (s4 _ _ hmp))
          refine ⟨_, rfl, .inl ⟨rfl, _, SqL.of (s7 _ _ hr3)⟩, _, rfl, be, _, rfl, .inl (SqL.of upd_same), _, _, rfl, rfl, _, rfl, _, rfl, mp, _, _, _, rfl, rfl, hmo, rfl, _, rfl, mp, _, _, _, rfl, rfl, hmo, rfl, _, rfl, mp, _, _, _, rfl, rfl, hmo, rfl, (by show 5 ≤ sizeLine; decide), fun tp htp0 => ?_⟩
          have ebe : ((acc.length : Nat) : Int) + 1 = betterM (marksM c res) (markM res (i : Int)) + 1 := by rw [hacc]; rfl
          have nrt : ra ≠ tp := ne_of_none (s7 _ _ hr3) htp0
          refine ⟨ra, ps.map V.ref, _, rfl, rfl, (by rw [upd_ne nrt]; exact s7 _ _ hr3), (by rw [List.length_map]; exact size_lt (by omega)), ?_⟩
          refine ⟨_, _, _, ps ++ [tp], rfl, fun b o eb => ?_, ?_, ?_, ?_⟩
          · have z := s7 _ _ (s4 _ _ eb)
            rw [upd_ne (ne_of_none eb hra), upd_ne (ne_of_none z htp0)]
            exact z
          · rw [upd_same, List.map_append]
            rfl
          · rw [List.range_succ, List.map_append]
            have z := TupsAt.snoc (row := rowM c res (i : Int)) (l' := ps.map V.ref ++ [.ref tp]) (s7 _ _ hr3) (htp.same s7) htp0
            have er : (rowM c res (i : Int)).map V.int = [V.int (((acc.length : Nat) : Int) + 1), .int (i : Int), .int (sumR ptsR res (i : Int)), .int (sumR leadR res (i : Int)), .int (sumR goalR res (i : Int))] := by
              rw [ebe]
              rfl
            rw [er] at z
            exact z
          · rw [List.length_append, hpl]
            rfl
      · rintro σ H3 ⟨v1, v2, v3, ps, rfl, s4, hr3, htp, hpl⟩
        have en : (ms.map V.ref).length = c.toNat := by rw [List.length_map, ml, mlc]
        rw [en] at htp
        have hl : (rowsM c res).length = c.toNat := by unfold rowsM; rw [List.length_map, List.length_range]
        refine ⟨_, rfl, ra, rowsM c res, 4, rfl, ⟨ps, hr3, htp⟩, by omega, by omega, fun row hrow => ?_, rows_lt c res, fun D H4 hD s5 ht4 => ?_⟩
        · unfold rowsM at hrow
          obtain ⟨t, _, rfl⟩ := List.mem_map.mp hrow
          rfl
        · have S : Same H H4 := s1.trans (s2.trans (s4.trans s5))
          exact q H4 S _
end
end GR
namespace GR
open PySem L2
section
variable {P : Program} {w : World} {K : PySem.W.Frag} {mg : Str → Option Value} {base : Heap}
theorem menu_int {l : List Int} {i : Int} (h0 : 0 ≤ i) (h1 : i < (l.length : Int)) : ∃ x, atI (l.map V.int) i = some (.int x) := by
  have hi : i.toNat < l.length := by omega
  refine ⟨l[i.toNat], ?_⟩
  have z := atI_nat (xs := l.map V.int) (j := i.toNat) (v := .int l[i.toNat]) (by rw [List.getElem?_map, List.getElem?_eq_getElem hi]; rfl)
  rwa [show ((i.toNat : Nat) : Int) = i by omega] at z
def pRow (r : Rs) : List Int := [r.1, r.2.1]
def spRes6 : Sp := fun vs H Q _ => ∃ (cs ga : Addr) (ns : List Int) (gs : List (Int × Int)) (c : Int), vs = [.ref cs, .ref ga, .int c] ∧ H cs = some (.lst (ns.map V.int)) ∧ ns.length ≤ 63 ∧ Tups H ga (gRows gs) ∧ 0 < gs.length ∧ 2 ≤ c ∧
  ∀ r H' res, H r = none → Same H H' → Tups H' r (rRows res) → res.length ≤ 63 → Q (.ref r) H'
def oddL (c : Int) : List Int := [c, -1, -2, 0 - c, 100000000000000000000, 0 - 100000000000000000000]
def JG (H2 : Hp) (cs ga ra od : Addr) (c i ce : Int) (v4 : Option V) : L2.St → Hp → Prop := fun σ H3 => ∃ (g : Addr) (a b : Int),
  σ = [some (.ref cs), some (.ref ga), some (.int c), some (.ref ra), some (.int 100000000000000000000), some (.ref od), some (.int i), some (.int ce), some (.ref g), v4] ∧ Same H2 H3 ∧ H3 g = some (.tup [.int a, .int b])
theorem ok_results6 (M : Mo K mg) (T : DefTxt K "_law_results_of" s__law_results_of) (z_range : mg "range" = none) (z_len : mg "len" = none) : Def P w K mg base 1 "_law_results_of" ["_law_cells", "_law_games", "_law_count"] spRes6 := by
  refine def_of M T (N := ["_law_cells", "_law_games", "_law_count", "_law_results", "_law_large", "_law_odd", "_law_k", "_law_cell", "_law_game", "_law_old"]) ⟨rfl, rfl, rfl, by decide +kernel, rfl, by decide +kernel, by decide +kernel⟩ (fun _ _ _ _ _ _ us hl => match us, hl with | [_, _, _], _ => rfl) ?_ ?_
  · rintro vs H Q E ⟨cs, ga, ns, gs, c, rfl, _⟩
    rfl
  · rintro f cdv A outer s H vs Q E hr ⟨cs, ga, ns, gs, c, rfl, hcs, h63, ⟨gps, hgl, hgt⟩, gpos, c2, q⟩
    have nd : (["_law_cells", "_law_games", "_law_count", "_law_results", "_law_large", "_law_odd", "_law_k", "_law_cell", "_law_game", "_law_old"] : List Str).Nodup := by decide +kernel
    have hu := hu_of hr
    have gl := hgt.len
    unfold gRows at gl
    rw [List.length_map] at gl
    refine ⟨_, (pss_cons (ps_set (i := 3) nd rfl (Or.inl rfl) (pe_lst pa_nil))
      (pss_cons (ps_set (i := 4) nd rfl (Or.inl rfl) pe_int)
      (pss_cons (ps_set (i := 5) nd rfl (Or.inl rfl) (pe_lst (pa_cons (pv 2) (pa_cons (pe_un un_neg pe_int) (pa_cons (pe_un un_neg pe_int) (pa_cons (pe_op op_sub pe_int (pv 2)) (pa_cons (pv 4) (pa_cons (pe_op op_sub pe_int (pv 4)) pa_nil))))))))
      (pss_cons (ps_for PassesOwn.never rfl (pi_range1 rfl z_range (pa_cons (pe_callB call_len_seq rfl z_len PySem.boot_len (pa_cons (pv 0) pa_nil)) pa_nil)) (pg_name (i := 6) nd rfl (Or.inl rfl)) (pss_cons (ps_set (i := 7) nd rfl (Or.inl rfl) (pe_ix ix_list (pv 0) (pv 6) (fun _ _ => rfl)))
      (pss_cons (ps_set (i := 8) nd rfl (Or.inl rfl) (pe_ix ix_list (pv 1) (pe_op op_mod (pe_op op_mod (pe_op op_mul (pe_op op_add (pv 7) (pe_op op_mul pe_int (pv 6))) pe_int) pe_int) (pe_callB call_len_seq rfl z_len PySem.boot_len (pa_cons (pv 1) pa_nil))) (fun _ _ => rfl)))
      (pss_cons (ps_cut (ps_if (pt_cmpR op_eq (pe_op op_mod (pe_op op_mod (pe_op op_mul (pv 7) pe_int) pe_int) pe_int) pe_int (nomark _)) (pss_one (ps_set (i := 8) nd rfl (Or.inl rfl) (pe_tup (pa_cons (pe_op op_mod (pe_op op_mod (pe_op op_mul (pv 7) pe_int) pe_int) (pv 2)) (pa_cons (pe_op op_mod (pe_op op_mod (pe_op op_mul (pv 7) pe_int) pe_int) (pv 2)) pa_nil))))) pss_nil))
      (pss_cons (ps_cut (ps_if (pt_cmpR op_eq (pe_op op_mod (pe_op op_mod (pe_op op_mul (pv 7) pe_int) pe_int) pe_int) pe_int (nomark _)) (pss_one (ps_set (i := 8) nd rfl (Or.inl rfl) (pe_tup (pa_cons (pe_ix ix_tup (pv 8) pe_int (fun _ _ => rfl)) (pa_cons (pe_ix ix_list (pv 5) (pe_op op_mod (pv 6) pe_int) (fun _ _ => rfl)) pa_nil))))) pss_nil))
      (pss_cons (ps_cut (ps_if (pt_cmpR op_eq (pe_op op_mod (pe_op op_mod (pe_op op_mul (pv 7) pe_int) pe_int) pe_int) pe_int (nomark _)) (pss_one (ps_set (i := 8) nd rfl (Or.inl rfl) (pe_tup (pa_cons (pe_ix ix_tup (pv 8) pe_int (fun _ _ => rfl)) (pa_cons (pe_ix ix_tup (pv 8) pe_int (fun _ _ => rfl)) pa_nil))))) pss_nil))
      (pss_cons (ps_cut (ps_if (pt_cmpR op_eq (pe_op op_mod (pe_op op_mod (pe_op op_mul (pv 7) pe_int) pe_int) pe_int) pe_int (nomark _)) (pss_one (ps_set (i := 8) nd rfl (Or.inl rfl) (pe_tup (pa_cons (pe_ix ix_list (pv 5) (pe_op op_mod (pv 6) pe_int) (fun _ _ => rfl)) (pa_cons (pe_ix ix_tup (pv 8) pe_int (fun _ _ => rfl)) pa_nil))))) pss_nil))
      (pss_cons (ps_setlc (i := 9) (fr := []) ⟨rfl, by decide +kernel, by decide +kernel, rfl, rfl, sub_nil, has_of (ys := []) (by decide +kernel) trivial, trivial, by decide +kernel⟩ rfl nd rfl rfl (pi_list (pv 3)) (fun _ _ _ _ => (pe_tup (pa_cons (pe_ix (r := rIxT K) ix_tup (pv 0) pe_int (fun _ _ => rfl)) (pa_cons (pe_ix (r := rIxT K) ix_tup (pv 0) pe_int (fun _ _ => rfl)) pa_nil)))) (fun _ _ _ _ => pts_nil) rfl)
      (pss_one (ps_if (PW.pt (pw_or (pt_cmpR op_in_seq (pe_op op_mod (pe_op op_mod (pe_op op_mul (pv 7) pe_int) pe_int) pe_int) (pe_lst (pa_cons pe_int (pa_cons pe_int (pa_cons pe_int (pa_cons pe_int (pa_cons pe_int pa_nil)))))) (by with_unfolding_all rfl)) (pw_or1 (pt_cmpR (op_notInT hu) (pv 8) (pv 9) (by with_unfolding_all rfl))))) (pss_one (ps_expr (pe_bm PySem.F.plainAttrs_list PySem.F.slot_list_append PySem.F.type_list_append mt_append (pv 3) (pa_cons (pe_tup (pa_cons (pe_ix ix_tup (pv 8) pe_int (fun _ _ => rfl)) (pa_cons (pe_ix ix_tup (pv 8) pe_int (fun _ _ => rfl)) (pa_cons (pe_op op_mod (pe_op op_mod (pe_op op_mul (pv 7) pe_int) pe_int) pe_int) (pa_cons (pe_op op_mod (pv 6) pe_int) pa_nil))))) pa_nil)))) pss_nil))))))))))
      (pss_one (ps_ret (pv 3))))))), ?_⟩
    refine ⟨(by show 0 ≤ sizeLine; decide), fun ra hra => ?_⟩
    have s1 := same_new hra (.lst [])
    refine ⟨_, rfl, _, rfl, _, rfl, _, rfl, _, _, rfl, rfl, _, rfl, _, rfl, _, _, rfl, rfl, (by show 6 ≤ sizeLine; decide), fun od hod => ?_⟩
    have s2 : Same (upd H ra (.lst [])) (upd (upd H ra (.lst [])) od (.lst ((oddL c).map V.int))) := same_new hod _
    have nro : ra ≠ od := ne_of_none upd_same hod
    refine ⟨_, rfl, cs, _, rfl, .inl (SqL.of (s2 _ _ (s1 _ _ hcs))), _, rfl, by rw [List.length_map]; omega, by rw [List.length_map]; omega, ?_⟩
    have en : (((ns.map V.int).length : Nat) : Int).toNat = ns.length := by rw [List.length_map]; omega
    rw [en]
    refine for_range (lo := 0) (n := ns.length) (fun i σ H2 => ∃ (v1 v2 v3 v4 : Option V) (res : List Rs) (ps : List Addr), σ = [some (.ref cs), some (.ref ga), some (.int c), some (.ref ra), some (.int 100000000000000000000), some (.ref od), v1, v2, v3, v4] ∧
      Same H H2 ∧ H2 od = some (.lst ((oddL c).map V.int)) ∧ H2 ra = some (.lst (ps.map V.ref)) ∧ TupsAt H2 ps (rRows res) ∧ res.length ≤ i)
      ⟨none, none, none, none, [], [], rfl, s1.trans s2, upd_same, s2 _ _ upd_same, .nil, Nat.le_refl _⟩ ?_ ?_
    · rintro i σ H2 hi ⟨v1, v2, v3, v4, res, ps, rfl, k2, ho2, hr2, htr, hrl⟩
      rw [Int.zero_add]
      have rl := htr.len
      unfold rRows at rl
      rw [List.length_map] at rl
      have hcs2 := k2 _ _ hcs
      have hg2 := k2 _ _ hgl
      have hat : atI (ns.map V.int) (i : Int) = some (.int ns[i]) := atI_nat (by rw [List.getElem?_map, List.getElem?_eq_getElem hi]; rfl)
      generalize hce : ns[i] = ce at hat
      refine ⟨_, rfl, _, rfl, cs, _, _, _, rfl, rfl, SqL.of hcs2, hat, ?_⟩
      -- the game
      have g0 : 0 < (gps.length : Int) := by omega
      have i0 : 0 ≤ (ce + 3 * (i : Int)) * 48271 % 1009 % (((gps.map V.ref).length : Nat) : Int) := Int.emod_nonneg _ (by rw [List.length_map]; omega)
      have i1 : (ce + 3 * (i : Int)) * 48271 % 1009 % (((gps.map V.ref).length : Nat) : Int) < (gps.length : Int) := by
        rw [List.length_map]
        exact Int.emod_lt_of_pos _ g0
      refine ⟨_, rfl, _, rfl, _, rfl, _, _, rfl, rfl, .inl ⟨by decide, by decide⟩, _, _, rfl, rfl, _, _, rfl, rfl, .inr ⟨by decide, by decide⟩, _, _, rfl, rfl, (by show (0 : Int) < 1009; decide), _, rfl, ga, _, rfl, .inl (SqL.of hg2), _, _, rfl, rfl, (by rw [List.length_map]; exact g0), ?_⟩
      dsimp only
      generalize (ce + 3 * (i : Int)) * 48271 % 1009 % (((gps.map V.ref).length : Nat) : Int) = ix at i0 i1 ⊢
      have hj : ix.toNat < gps.length := by omega
      obtain ⟨gm, eg, hgm⟩ := paired_get (show Paired _ gps (gRows gs) from hgt) (List.getElem?_eq_getElem hj)
      unfold gRows at eg
      rw [List.getElem?_map, List.getElem?_eq_getElem (show ix.toNat < gs.length by omega)] at eg
      have eg' : gRow gs[ix.toNat] = gm := Option.some.inj eg
      subst eg'
      have hatg : atI (gps.map V.ref) ix = some (.ref gps[ix.toNat]) := by
        have z := atI_nat (xs := gps.map V.ref) (j := ix.toNat) (v := .ref gps[ix.toNat]) (by rw [List.getElem?_map, List.getElem?_eq_getElem hj]; rfl)
        rwa [show ((ix.toNat : Nat) : Int) = ix by omega] at z
      refine ⟨ga, _, ix, _, rfl, rfl, SqL.of hg2, hatg, ?_⟩
      obtain ⟨ox, hox⟩ := menu_int (l := oddL c) (i := (i : Int) % 6) (by omega) (by show _ < (6 : Int); omega)
      -- the four ifs
      refine ⟨JG H2 cs ga ra od c i ce v4, ?_, ?_⟩
      · refine ⟨_, rfl, _, _, rfl, rfl, .inr ⟨by decide, by decide⟩, _, _, rfl, rfl, (by show (0 : Int) < 1013; decide), _, _, rfl, rfl, (by show (0 : Int) < 48; decide), rfl, _, rfl, ?_⟩
        refine iteI (fun _ => ?_) (fun _ => ⟨_, _, _, rfl, fun _ _ z => z, k2 _ _ hgm⟩)
        refine ⟨_, rfl, _, _, rfl, rfl, .inr ⟨by decide, by decide⟩, _, _, rfl, rfl, (by show (0 : Int) < 1019; decide), _, rfl, _, _, rfl, rfl, (by show (0 : Int) < c; omega), _, rfl, _, _, rfl, rfl, .inr ⟨by decide, by decide⟩, _, _, rfl, rfl, (by show (0 : Int) < 1019; decide), _, rfl, _, _, rfl, rfl, (by show (0 : Int) < c; omega), (by show 2 ≤ sizeLine; decide), fun p hp => ?_⟩
        exact ⟨_, _, _, rfl, same_new hp _, upd_same⟩
      rintro σ H3 ⟨g, a, b, rfl, s3, hg⟩
      refine ⟨JG H2 cs ga ra od c i ce v4, ?_, ?_⟩
      · refine ⟨_, rfl, _, _, rfl, rfl, .inr ⟨by decide, by decide⟩, _, _, rfl, rfl, (by show (0 : Int) < 1013; decide), _, _, rfl, rfl, (by show (0 : Int) < 48; decide), rfl, _, rfl, ?_⟩
        refine iteI (fun _ => ?_) (fun _ => ⟨_, _, _, rfl, s3, hg⟩)
        refine ⟨_, rfl, g, _, _, _, rfl, rfl, SqT.of hg, rfl, _, rfl, _, rfl, _, _, rfl, rfl, (by show (0 : Int) < 6; decide), od, _, _, _, rfl, rfl, SqL.of (s3 _ _ ho2), hox, (by show 2 ≤ sizeLine; decide), fun p hp => ?_⟩
        exact ⟨_, _, _, rfl, s3.trans (same_new hp _), upd_same⟩
      clear hg s3 H3 a b g
      rintro σ H3 ⟨g, a, b, rfl, s3, hg⟩
      refine ⟨JG H2 cs ga ra od c i ce v4, ?_, ?_⟩
      · refine ⟨_, rfl, _, _, rfl, rfl, .inr ⟨by decide, by decide⟩, _, _, rfl, rfl, (by show (0 : Int) < 1013; decide), _, _, rfl, rfl, (by show (0 : Int) < 48; decide), rfl, _, rfl, ?_⟩
        refine iteI (fun _ => ?_) (fun _ => ⟨_, _, _, rfl, s3, hg⟩)
        refine ⟨_, rfl, g, _, _, _, rfl, rfl, SqT.of hg, rfl, _, rfl, g, _, _, _, rfl, rfl, SqT.of hg, rfl, (by show 2 ≤ sizeLine; decide), fun p hp => ?_⟩
        exact ⟨_, _, _, rfl, s3.trans (same_new hp _), upd_same⟩
      clear hg s3 H3 a b g
      rintro σ H3 ⟨g, a, b, rfl, s3, hg⟩
      refine ⟨JG H2 cs ga ra od c i ce v4, ?_, ?_⟩
      · refine ⟨_, rfl, _, _, rfl, rfl, .inr ⟨by decide, by decide⟩, _, _, rfl, rfl, (by show (0 : Int) < 1013; decide), _, _, rfl, rfl, (by show (0 : Int) < 48; decide), rfl, _, rfl, ?_⟩
        refine iteI (fun _ => ?_) (fun _ => ⟨_, _, _, rfl, s3, hg⟩)
        refine ⟨_, rfl, _, rfl, _, _, rfl, rfl, (by show (0 : Int) < 6; decide), od, _, _, _, rfl, rfl, SqL.of (s3 _ _ ho2), hox, _, rfl, g, _, _, _, rfl, rfl, SqT.of hg, rfl, (by show 2 ≤ sizeLine; decide), fun p hp => ?_⟩
        exact ⟨_, _, _, rfl, s3.trans (same_new hp _), upd_same⟩
      clear hg s3 H3 a b g
      rintro σ H3 ⟨g, a, b, rfl, s3, hg⟩
      -- the games told before
      have hr3 := s3 _ _ hr2
      have ht3 := htr.same s3
      refine ⟨_, rfl, ra, rfl, ⟨_, SqL.of hr3⟩, ?_⟩
      dsimp only
      refine lc_list (K := K) (a := ra) (xs := ps.map V.ref) (fun k acc H6 => ∃ qs : List Addr, acc = qs.map V.ref ∧ qs.length = k ∧ Same H3 H6 ∧ TupsAt H6 qs ((res.take k).map pRow))
        ⟨[], rfl, rfl, Same.refl _, .nil⟩ (fun k acc H6 _ ⟨_, _, _, z, _⟩ => SqL.of (z _ _ hr3)) ?_ (fun _ _ _ _ h z => h _ _ z) ?_ ?_
      · rintro k x acc H6 hx6 ⟨qs, rfl, hql, s6, hqt⟩
        obtain ⟨rp, rr, rfl, er, hrp⟩ := ht3.res hx6
        have hk : k < res.length := (List.getElem?_eq_some_iff.mp er).1
        have hrp6 : SqT K H6 rp ((rRow rr).map V.int) := SqT.of (s6 _ _ hrp)
        refine yes_ite ?_
        refine ⟨_, rfl, rp, _, _, _, rfl, rfl, hrp6, rfl, _, rfl, rp, _, _, _, rfl, rfl, hrp6, rfl, (by show 2 ≤ sizeLine; decide), fun t ht0 => ⟨by rw [List.length_map]; exact size_lt (by omega), qs ++ [t], ?_, ?_, s6.trans (same_new ht0 _), ?_⟩⟩
        · rw [List.map_append]; rfl
        · rw [List.length_append, hql]; rfl
        · rw [take_get er, List.map_append]
          exact paired_snoc (F := fun (p : Addr) (row : List Int) => upd H6 t (.tup ((pRow rr).map V.int)) p = some (.tup (row.map V.int))) upd_same (TupsAt.same (same_new ht0 _) hqt)
      · rintro σ' H' Q1 Q2 h ⟨a1, a2, a3, a4, a5, a6, a7, a8, a9, a10, d1, d2, d3, d4, d5, d6, d7, d8, d9, d10, sz, k⟩
        exact ⟨a1, a2, a3, a4, a5, a6, a7, a8, a9, a10, d1, d2, d3, d4, d5, d6, d7, d8, d9, d10, sz, fun p hp => h _ _ (k p hp)⟩
      · rintro acc H6 ⟨qs, rfl, hql, s6, hqt⟩ ol hol
        have s7 : Same H3 (upd H6 ol (.lst (qs.map V.ref))) := s6.trans (same_new hol _)
        have hot : Tups (upd H6 ol (.lst (qs.map V.ref))) ol ((res.take (ps.map V.ref).length).map pRow) := ⟨qs, upd_same, hqt.same (same_new hol _)⟩
        generalize upd H6 ol (.lst (qs.map V.ref)) = H7 at s7 hot
        have fin : ∀ (H8 : Hp) (tp : Addr) (x1 x2 : Int), Same H3 H8 → H8 tp = none → ∃ (v1 v2 v3 v4 : Option V) (res' : List Rs) (ps' : List Addr), [some (V.ref cs), some (.ref ga), some (.int c), some (.ref ra), some (.int 100000000000000000000), some (.ref od), some (.int (i : Int)), some (.int ce), some (.ref g), some (.ref ol)] = [some (.ref cs), some (.ref ga), some (.int c), some (.ref ra), some (.int 100000000000000000000), some (.ref od), v1, v2, v3, v4] ∧
            Same H (upd (upd H8 tp (.tup [.int a, .int b, .int x1, .int x2])) ra (.lst (ps.map V.ref ++ [.ref tp]))) ∧ upd (upd H8 tp (.tup [.int a, .int b, .int x1, .int x2])) ra (.lst (ps.map V.ref ++ [.ref tp])) od = some (.lst ((oddL c).map V.int)) ∧ upd (upd H8 tp (.tup [.int a, .int b, .int x1, .int x2])) ra (.lst (ps.map V.ref ++ [.ref tp])) ra = some (.lst (ps'.map V.ref)) ∧ TupsAt (upd (upd H8 tp (.tup [.int a, .int b, .int x1, .int x2])) ra (.lst (ps.map V.ref ++ [.ref tp]))) ps' (rRows res') ∧ res'.length ≤ i + 1 := by
          intro H8 tp x1 x2 s8 htp
          have hr8 := s8 _ _ hr3
          refine ⟨_, _, _, _, res ++ [(a, b, x1, x2)], ps ++ [tp], rfl, fun b' o eb => ?_, ?_, ?_, ?_, ?_⟩
          · have z := s8 _ _ (s3 _ _ (k2 _ _ eb))
            rw [upd_ne (ne_of_none eb hra), upd_ne (ne_of_none z htp)]
            exact z
          · have z := s8 _ _ (s3 _ _ ho2)
            rw [upd_ne nro.symm, upd_ne (ne_of_none z htp)]
            exact z
          · rw [upd_same, List.map_append]; rfl
          · have z := TupsAt.snoc (row := rRow (a, b, x1, x2)) (l' := ps.map V.ref ++ [.ref tp]) hr8 (ht3.same s8) htp
            unfold rRows at z ⊢
            rw [List.map_append]
            exact z
          · rw [List.length_append]
            show res.length + 1 ≤ i + 1
            omega
        refine ⟨_, rfl, _, _, rfl, rfl, .inr ⟨by decide, by decide⟩, _, _, rfl, rfl, (by show (0 : Int) < 1013; decide), _, _, rfl, rfl, (by show (0 : Int) < 48; decide), (by show 5 ≤ sizeLine; decide), fun l5 hl5 => ⟨l5, _, rfl, .inl (SqL.of upd_same), rfl, rfl, _, rfl, ?_⟩⟩
        have s8 : Same H3 (upd H7 l5 (.lst [.int 5, .int 6, .int 7, .int 8, .int 9])) := s7.trans (same_new hl5 _)
        have hot8 := hot.same (same_new hl5 (.lst [.int 5, .int 6, .int 7, .int 8, .int 9]))
        generalize upd H7 l5 (.lst [.int 5, .int 6, .int 7, .int 8, .int 9]) = H8 at s8 hot8
        have hg8 : SqT K H8 g [.int a, .int b] := SqT.of (s8 _ _ hg)
        have hr8 := s8 _ _ hr3
        refine iteb (fun _ => ?_) (fun _ => ?_)
        · refine iteT ?_
          refine ⟨_, rfl, .inl ⟨rfl, _, SqL.of hr8⟩, _, rfl, g, _, _, _, rfl, rfl, hg8, rfl, _, rfl, g, _, _, _, rfl, rfl, hg8, rfl, _, rfl, _, _, rfl, rfl, .inr ⟨by decide, by decide⟩, _, _, rfl, rfl, (by show (0 : Int) < 1021; decide), _, _, rfl, rfl, (by show (0 : Int) < 3; decide), _, rfl, _, _, rfl, rfl, (by show (0 : Int) < 3; decide), (by show 4 ≤ sizeLine; decide), fun tp htp => ?_⟩
          refine ⟨ra, ps.map V.ref, _, rfl, rfl, (by rw [upd_ne (ne_of_none hr8 htp)]; exact hr8), (by rw [List.length_map]; exact size_lt (by omega)), ?_⟩
          exact fin H8 tp _ _ s8 htp
        · refine ⟨_, rfl, _, rfl, g, ol, [a, b], _, rfl, rfl, hg8, hot8, _, rfl, ?_⟩
          refine iteb (fun _ => ?_) (fun _ => ?_)
          · refine ⟨_, rfl, .inl ⟨rfl, _, SqL.of hr8⟩, _, rfl, g, _, _, _, rfl, rfl, hg8, rfl, _, rfl, g, _, _, _, rfl, rfl, hg8, rfl, _, rfl, _, _, rfl, rfl, .inr ⟨by decide, by decide⟩, _, _, rfl, rfl, (by show (0 : Int) < 1021; decide), _, _, rfl, rfl, (by show (0 : Int) < 3; decide), _, rfl, _, _, rfl, rfl, (by show (0 : Int) < 3; decide), (by show 4 ≤ sizeLine; decide), fun tp htp => ?_⟩
            refine ⟨ra, ps.map V.ref, _, rfl, rfl, (by rw [upd_ne (ne_of_none hr8 htp)]; exact hr8), (by rw [List.length_map]; exact size_lt (by omega)), ?_⟩
            exact fin H8 tp _ _ s8 htp
          · exact ⟨_, _, _, _, res, ps, rfl, k2.trans (s3.trans s8), s8 _ _ (s3 _ _ ho2), hr8, ht3.same s8, by omega⟩
    · rintro σ H2 ⟨v1, v2, v3, v4, res, ps, rfl, k2, ho2, hr2, htr, hrl⟩
      exact ⟨_, rfl, q ra H2 res hra k2 ⟨ps, hr2, htr⟩ (by omega)⟩
end
end GR
namespace GR
open PySem L2
section
variable {P : Program} {w : World} {K : PySem.W.Frag} {mg : Str → Option Value} {base : Heap} {cN cT cS : Addr}
theorem cut_ints (ns : List Int) (lo hi : Option Int) : ∃ ms : List Int, cutV (ns.map V.int) lo hi = ms.map V.int ∧ ms.length ≤ ns.length := by
  refine ⟨(ns.drop (HT.sIx (ns.map V.int).length 0 lo)).take (HT.sIx (ns.map V.int).length (ns.map V.int).length hi - HT.sIx (ns.map V.int).length 0 lo), ?_, ?_⟩
  · unfold cutV
    rw [List.map_take, List.map_drop]
  · rw [List.length_take, List.length_drop]
    omega
theorem Same.sql {H H' : Hp} {a : Addr} {xs : List V} (e : Same H H') (h : SqL K H a xs) : SqL K H' a xs := by
  rcases h with (h | ⟨o, h⟩) | h
  · exact .inl (.inl (e _ _ h))
  · exact .inl (.inr ⟨o, e _ _ h⟩)
  · exact .inr h
def dueV : Option Bool → V
  | none => .str "table"
  | some false => .str "no game"
  | some true => .str "twice"
theorem due_scal (d : Option Bool) : scal (dueV d) (.str "table") = true := by
  rcases d with _ | _ | _ <;> rfl
theorem due_scal2 (d : Option Bool) : scal (dueV d) (dueV d) = true := by
  rcases d with _ | _ | _ <;> rfl
theorem due_no1 : ¬ (dueV (some false) = V.str "table") := fun h => absurd (V.str.inj h) (by decide)
theorem due_no2 : ¬ (dueV (some true) = V.str "table") := fun h => absurd (V.str.inj h) (by decide)
theorem season_pos {c l : Int} (hc : 2 ≤ c) : 0 < (seasonS c l c.toNat).length := by
  have m : ∃ g, g ∈ seasonS c l c.toNat := by
    cases e : firstS c 0 1 with
    | true => exact ⟨(0, 1), mem_seasonS.mpr ⟨0, 0, by omega, by omega, mem_pairS.mpr (.inl ⟨rfl, .inl e⟩)⟩⟩
    | false => exact ⟨(1, 0), mem_seasonS.mpr ⟨0, 0, by omega, by omega, mem_pairS.mpr (.inr ⟨rfl, .inl e⟩)⟩⟩
  obtain ⟨g, hg⟩ := m
  exact List.length_pos_of_mem hg
theorem mem_gRows {a b : Int} {gs : List (Int × Int)} : [a, b] ∈ gRows gs ↔ (a, b) ∈ gs := by
  unfold gRows
  rw [List.mem_map]
  constructor
  · rintro ⟨g, hg, e⟩
    unfold gRow at e
    injection e with e1 e
    injection e with e2 _
    rw [← e1, ← e2]
    exact hg
  · intro h
    exact ⟨_, h, rfl⟩
theorem mem_pRow {r : Rs} {res : List Rs} : [r.1, r.2.1] ∈ res.map pRow ↔ (r.1, r.2.1) ∈ res.map fun r => (r.1, r.2.1) := by
  rw [List.mem_map, List.mem_map]
  constructor
  · rintro ⟨g, hg, e⟩
    unfold pRow at e
    injection e with e1 e
    injection e with e2 _
    exact ⟨g, hg, by rw [e1, e2]⟩
  · rintro ⟨g, hg, e⟩
    injection e with e1 e2
    exact ⟨g, hg, by unfold pRow; rw [e1, e2]⟩
abbrev lawN : List Str := ["_law_script", "_law_count", "_law_legs", "_law_games", "_law_results", "_law_due", "_law_known", "_law_result", "_law_game", "_law_told", "_law_handed", "_law_refused", "e"]
theorem ok_law {f : Addr} {fd : FuncData} (F : Fun K "law" "law" s_law f fd) (M : Mo K mg) (EF : ExcK K cN cT cS) (z_isinstance : mg "isinstance" = none) (z_list : mg "list" = none) (z_ValueError : mg "ValueError" = none)
    (D__law_at : Def P w K mg base 1 "_law_at" ["_law_script", "_law_k"] (spAt K)) (D_table : Def1 P w K mg base 5 "table" ["count", "legs", "results"] (spTable1 cN cT))
    (D__law_season_of : Def P w K mg base 1 "_law_season_of" ["_law_count", "_law_legs"] spSeason)
    (D__law_results_of : Def P w K mg base 1 "_law_results_of" ["_law_cells", "_law_games", "_law_count"] spRes6) :
    FnOk P w K mg base CX0 9 f fd ["_law_script"] (spLaw K) := by
  refine F.ok (N := lawN) ⟨rfl, rfl, rfl, by decide +kernel, rfl, by decide +kernel, by decide +kernel⟩ ?_ ?_
  · rintro vs H Q E ⟨a, ns, rfl, _⟩
    rfl
  rintro cdv A outer s H vs Q E hr ⟨a, ns, rfl, hS, h63, q⟩
  have nd : lawN.Nodup := by decide +kernel
  have hu := hu_of hr
  have mN := M.at_ _ _ EF.nN
  have mT := M.at_ _ _ EF.nT
  have mS := M.at_ _ _ EF.nS
  have bV : bootBuiltins "ValueError" = some (.type "ValueError") := by decide +kernel
  refine ⟨_, (pss_cons (ps_set (i := 1) nd rfl (Or.inl rfl) (pe_op op_add pe_int (pe_op op_mod (pe_op op_mod (pe_op op_mul (pe_def D__law_at hr (pa_cons (pv 0) (pa_cons pe_int pa_nil))) pe_int) pe_int) pe_int)))
      (pss_cons (ps_set (i := 2) nd rfl (Or.inl rfl) (pe_op op_add pe_int (pe_op op_mod (pe_op op_mod (pe_op op_mul (pe_def D__law_at hr (pa_cons (pv 0) (pa_cons pe_int pa_nil))) pe_int) pe_int) pe_int)))
      (pss_cons (ps_set (i := 3) nd rfl (Or.inl rfl) (pe_def D__law_season_of hr (pa_cons (pv 1) (pa_cons (pv 2) pa_nil))))
      (pss_cons (ps_set (i := 4) nd rfl (Or.inl rfl) (pe_def D__law_results_of hr (pa_cons (pe_slice sl_list (pv 0) (po_some pe_int) (po_some pe_int)) (pa_cons (pe_callTy call_list_of rfl z_list PyProof.Rows.boot_list (pa_cons (pv 3) pa_nil)) (pa_cons (pv 1) pa_nil)))))
      (pss_cons (ps_set (i := 5) nd rfl (Or.inl rfl) pe_str)
      (pss_cons (ps_set (i := 6) nd rfl (Or.inl rfl) (pe_lst pa_nil))
      (pss_cons (ps_for PassesOwn.never rfl (pi_list (pv 4)) (pg_name (i := 7) nd rfl (Or.inl rfl)) (pss_cons (ps_set (i := 8) nd rfl (Or.inl rfl) (pe_tup (pa_cons (pe_ix ix_tup (pv 7) pe_int (fun _ _ => rfl)) (pa_cons (pe_ix ix_tup (pv 7) pe_int (fun _ _ => rfl)) pa_nil))))
      (pss_cons (ps_cut (ps_if (PW.pt (pw_and (pt_cmpR op_eq (pv 5) pe_str (nomark _)) (pw_and1 (pt_cmpR (op_notInT hu) (pv 8) (pv 3) (by with_unfolding_all rfl))))) (pss_one (ps_set (i := 5) nd rfl (Or.inl rfl) pe_str)) pss_nil))
      (pss_cons (ps_cut (ps_if (PW.pt (pw_and (pt_cmpR op_eq (pv 5) pe_str (nomark _)) (pw_and1 (pt_cmpR (op_inT hu) (pv 8) (pv 6) (by with_unfolding_all rfl))))) (pss_one (ps_set (i := 5) nd rfl (Or.inl rfl) pe_str)) pss_nil))
      (pss_one (ps_expr (pe_bm PySem.F.plainAttrs_list PySem.F.slot_list_append PySem.F.type_list_append mt_append (pv 6) (pa_cons (pv 8) pa_nil))))))))
      (pss_cons (ps_set (i := 9) nd rfl (Or.inl rfl) pe_str)
      (pss_cons (ps_set (i := 10) nd rfl (Or.inl rfl) (pe_callTy call_list_of rfl z_list PyProof.Rows.boot_list (pa_cons (pv 4) pa_nil)))
      (pss_cons (ps_cut (ps_try ⟨rfl, rfl, rfl⟩ (fun _ _ z => z) D_table hr (pa_cons (pv 1) (pa_cons (pv 2) (pa_cons (pv 10) pa_nil))) (kc := kcE cN cT) (ph_two (ph_yes mN EF.xNN (fun _ _ => pss_one (ps_set (i := 9) nd rfl (Or.inl rfl) pe_str))) (ph_no mN EF.xTN (ph_yes mT EF.xTT (fun _ _ => pss_one (ps_set (i := 9) nd rfl (Or.inl rfl) pe_str)))))))
      (pss_cons (ps_set (i := 11) nd rfl (Or.inl rfl) pe_bl)
      (pss_cons (ps_cut (ps_try ⟨rfl, rfl, rfl⟩ (fun _ _ z => z) D_table hr (pa_cons (pv 1) (pa_cons (pv 2) (pa_cons (pv 10) pa_nil))) (kc := kcE cN cT) (ph_two (ph_as (i := 12) mS EF.xNS nd rfl rfl (fun _ _ hc _ => pss_one (ps_set (i := 11) nd rfl (Or.inl rfl) (pe_and (pe_callB (call_isx EF.oN hc) rfl z_isinstance PyProof.Rows.boot_isinstance (pa_cons (pv 12) (pa_cons (pe_bltn (v := .ty "ValueError") rfl z_ValueError bV rfl) pa_nil))) (pe_one (pe_cmpR op_ne (pe_callB (call_isx EF.oN hc) rfl z_isinstance PyProof.Rows.boot_isinstance (pa_cons (pv 12) (pa_cons (pe_glob (v := .ref cN) rfl mN rfl) pa_nil))) (pe_callB (call_isx EF.oN hc) rfl z_isinstance PyProof.Rows.boot_isinstance (pa_cons (pv 12) (pa_cons (pe_glob (v := .ref cT) rfl mT rfl) pa_nil))) (nomark _))))))) (ph_as (i := 12) mS EF.xTS nd rfl rfl (fun _ _ hc _ => pss_one (ps_set (i := 11) nd rfl (Or.inl rfl) (pe_and (pe_callB (call_isx EF.oT hc) rfl z_isinstance PyProof.Rows.boot_isinstance (pa_cons (pv 12) (pa_cons (pe_bltn (v := .ty "ValueError") rfl z_ValueError bV rfl) pa_nil))) (pe_one (pe_cmpR op_ne (pe_callB (call_isx EF.oT hc) rfl z_isinstance PyProof.Rows.boot_isinstance (pa_cons (pv 12) (pa_cons (pe_glob (v := .ref cN) rfl mN rfl) pa_nil))) (pe_callB (call_isx EF.oT hc) rfl z_isinstance PyProof.Rows.boot_isinstance (pa_cons (pv 12) (pa_cons (pe_glob (v := .ref cT) rfl mT rfl) pa_nil))) (nomark _))))))))))
      (pss_one (ps_ret (pe_and (pe_cmpR op_eq (pv 9) (pv 5) (nomark _)) (pe_and (pe_cmpR op_eq (pv 11) (pe_cmpR op_ne (pv 5) pe_str (nomark _)) (nomark _)) (pe_one (pe_cmpR (op_eqL hu) (pv 10) (pv 4) (nomark _))))))))))))))))))), ?_⟩
  refine ⟨_, rfl, a, ns, 0, rfl, hS, _, _, rfl, rfl, .inr ⟨by decide, by decide⟩, _, _, rfl, rfl, (by show (0 : Int) < 1031; decide), _, _, rfl, rfl, (by show (0 : Int) < 8; decide), _, _, rfl, rfl, ?_⟩
  refine ⟨_, rfl, a, ns, 1, rfl, hS, _, _, rfl, rfl, .inr ⟨by decide, by decide⟩, _, _, rfl, rfl, (by show (0 : Int) < 1033; decide), _, _, rfl, rfl, (by show (0 : Int) < 2; decide), _, _, rfl, rfl, ?_⟩
  dsimp only
  have c2 : 2 ≤ 2 + ns.getD 0 0 * 48271 % 1031 % 8 := by omega
  have c10 : 2 + ns.getD 0 0 * 48271 % 1031 % 8 ≤ 10 := by omega
  have l12 : 1 + ns.getD 1 0 * 48271 % 1033 % 2 = 1 ∨ 1 + ns.getD 1 0 * 48271 % 1033 % 2 = 2 := by omega
  generalize 2 + ns.getD 0 0 * 48271 % 1031 % 8 = c at c2 c10 ⊢
  generalize 1 + ns.getD 1 0 * 48271 % 1033 % 2 = l at l12 ⊢
  -- the season
  refine ⟨_, rfl, _, rfl, c, l, rfl, c2, by omega, fun ga H1 s1 hga hgt => ?_⟩
  obtain ⟨gps, hgl, hgat⟩ := id hgt
  have gl := hgat.len
  -- results
  refine ⟨_, rfl, _, rfl, _, rfl, a, _, rfl, Same.sql s1 hS, fun cs hcs => ?_⟩
  obtain ⟨ms, ems, hms⟩ := cut_ints ns (some 2) (some 22)
  rw [ems]
  have t1 := same_new hcs (.lst (ms.map V.int))
  refine ⟨_, rfl, ga, _, rfl, .inl (SqL.of (t1 _ _ hgl)), fun lg hlg => ?_⟩
  have t2 := same_new hlg (.lst (gps.map V.ref))
  refine ⟨_, rfl, cs, lg, ms, seasonS c l c.toNat, c, rfl, t2 _ _ upd_same, by omega, ⟨gps, upd_same, (hgat.same t1).same t2⟩, season_pos c2, c2, fun ra H2 res hra s2 htr hrl => ?_⟩
  have S2 : Same H1 H2 := t1.trans (t2.trans s2)
  obtain ⟨rps, hral, hrat⟩ := id htr
  have rl := hrat.len
  unfold rRows at rl
  rw [List.length_map] at rl
  have hgt2 := hgt.same S2
  clear t1 t2 s2 S2 hcs hlg
  -- due
  refine ⟨(by show 0 ≤ sizeLine; decide), fun kn hkn => ?_⟩
  have t3 := same_new hkn (.lst [])
  refine ⟨_, rfl, ra, rfl, ⟨_, SqL.of (t3 _ _ hral)⟩, for_list (K := K) (a := ra) (xs := rps.map V.ref)
    (fun i σ H3 => ∃ (v1 v2 : Option V) (kps : List Addr), σ = [some (.ref a), some (.int c), some (.int l), some (.ref ga), some (.ref ra), some (dueV (dueN c l res i)), some (.ref kn), v1, v2, none, none, none, none] ∧ Same H2 H3 ∧ H3 kn = some (.lst (kps.map V.ref)) ∧ TupsAt H3 kps ((res.take i).map pRow))
    ⟨none, none, [], rfl, t3, upd_same, .nil⟩ (fun i σ H3 _ ⟨_, _, _, _, z, _⟩ => SqL.of (z _ _ hral)) ?_ ?_⟩
  · rintro i x σ H3 hx ⟨v1, v2, kps, rfl, s3, hk3, hkt⟩
    obtain ⟨rp, rr, rfl, er, hrp⟩ := hrat.res hx
    have hi : i < res.length := (List.getElem?_eq_some_iff.mp er).1
    have hrp3 : SqT K H3 rp ((rRow rr).map V.int) := SqT.of (s3 _ _ hrp)
    have kl := hkt.len
    rw [List.length_map, List.length_take] at kl
    refine ⟨_, rfl, rp, _, _, _, rfl, rfl, hrp3, rfl, _, rfl, rp, _, _, _, rfl, rfl, hrp3, rfl, (by show 2 ≤ sizeLine; decide), fun g hg0 => ?_⟩
    have t4 := same_new hg0 (.tup [.int rr.1, .int rr.2.1])
    have hg : upd H3 g (.tup [.int rr.1, .int rr.2.1]) g = some (.tup [.int rr.1, .int rr.2.1]) := upd_same
    have hkt4 := hkt.same t4
    have hk4 := t4 _ _ hk3
    have s4 := s3.trans t4
    generalize upd H3 g (.tup [.int rr.1, .int rr.2.1]) = H4 at t4 hg hkt4 hk4 s4
    have hgs : SqT K H4 g ([rr.1, rr.2.1].map V.int) := SqT.of hg
    have hgt4 := hgt2.same s4
    have hkn4 : Tups H4 kn ((res.take i).map pRow) := ⟨kps, hk4, hkt4⟩
    have mg4 : [rr.1, rr.2.1] ∈ gRows (seasonS c l c.toNat) ↔ hasM c l rr.1 rr.2.1 = true := mem_gRows.trans (season_iff c2 l12)
    -- no such game
    refine ⟨fun σ H5 => ∃ d, σ = [some (.ref a), some (.int c), some (.int l), some (.ref ga), some (.ref ra), some (dueV d), some (.ref kn), some (.ref rp), some (.ref g), none, none, none, none] ∧ H5 = H4 ∧ ((dueN c l res i = none ∧ hasM c l rr.1 rr.2.1 = true ∧ d = none) ∨ (d = dueN c l res (i + 1) ∧ d ≠ none)), ?_, ?_⟩
    · refine ⟨_, rfl, due_scal _, _, rfl, ?_⟩
      cases hd : dueN c l res i with
      | none =>
        refine iteb_t (decide_eq_true rfl) ?_
        refine ⟨_, rfl, _, rfl, g, ga, _, _, rfl, rfl, hgs, hgt4, _, rfl, ?_⟩
        cases hh : hasM c l rr.1 rr.2.1 with
        | true =>
          refine iteb_f (by show (!decide _) = false; rw [decide_eq_true (mg4.mpr hh)]; rfl) ?_
          exact ⟨none, rfl, rfl, .inl ⟨rfl, rfl, rfl⟩⟩
        | false =>
          refine iteb_t (by show (!decide _) = true; rw [decide_eq_false (fun z => by rw [mg4.mp z] at hh; cases hh)]; rfl) ?_
          exact ⟨some false, rfl, rfl, .inr ⟨(due_no hd er hh).symm, fun z => nomatch z⟩⟩
      | some k =>
        refine iteb_f (decide_eq_false (by cases k; exact due_no1; exact due_no2)) ?_
        refine iteF ?_
        exact ⟨some k, rfl, rfl, .inr ⟨(due_some hd).symm, fun z => nomatch z⟩⟩
    rintro σ H5 ⟨d, rfl, rfl, hd⟩
    -- told twice
    refine ⟨fun σ H6 => σ = [some (.ref a), some (.int c), some (.int l), some (.ref ga), some (.ref ra), some (dueV (dueN c l res (i + 1))), some (.ref kn), some (.ref rp), some (.ref g), none, none, none, none] ∧ H6 = H5, ?_, ?_⟩
    · refine ⟨_, rfl, due_scal _, _, rfl, ?_⟩
      rcases hd with ⟨h1, h2, rfl⟩ | ⟨h1, h2⟩
      · refine iteb_t (decide_eq_true rfl) ?_
        refine ⟨_, rfl, _, rfl, g, kn, _, _, rfl, rfl, hgs, hkn4, _, rfl, ?_⟩
        by_cases mm : [rr.1, rr.2.1] ∈ (res.take i).map pRow
        · refine iteb_t (by show decide _ = true; exact decide_eq_true mm) ?_
          have e := due_tw h1 er h2 (mem_pRow.mp mm)
          show _ ∧ _
          rw [e]
          exact ⟨rfl, rfl⟩
        · refine iteb_f (by show decide _ = false; exact decide_eq_false mm) ?_
          have e := due_ok h1 er h2 (fun z => mm (mem_pRow.mpr z))
          show _ ∧ _
          rw [e]
          exact ⟨rfl, rfl⟩
      · refine iteb_f (decide_eq_false (by
          cases d with
          | none => exact absurd rfl h2
          | some k => cases k; exact due_no1; exact due_no2)) ?_
        refine iteF ?_
        show _ ∧ _
        rw [← h1]
        exact ⟨rfl, rfl⟩
    rintro σ H6 ⟨rfl, rfl⟩
    -- known
    refine ⟨_, rfl, .inl ⟨rfl, _, SqL.of hk4⟩, _, rfl, kn, kps.map V.ref, _, rfl, rfl, hk4, (by rw [List.length_map]; exact size_lt (by omega)), ?_⟩
    have nk : ∀ b o, H2 b = some o → b ≠ kn := fun b o e => ne_of_none e hkn
    refine ⟨_, _, kps ++ [g], rfl, fun b o eb => ?_, ?_, ?_⟩
    · rw [upd_ne (nk b o eb)]
      exact s4 _ _ eb
    · rw [upd_same, List.map_append]; rfl
    · rw [take_get er, List.map_append]
      refine paired_snoc ?_ (hkt4.mono fun p row e => ?_)
      · rw [upd_ne (ne_of hg hk4 (by intro z; cases z))]
        exact hg
      · rw [upd_ne (ne_of e hk4 (by intro z; cases z))]
        exact e
  rintro σ H3 ⟨v1, v2, kps, rfl, s3, _, _⟩
  rw [List.length_map, rl]
  have htr3 := htr.same s3
  have hra3 := s3 _ _ hral
  -- handed
  refine ⟨_, rfl, ra, _, rfl, .inl (SqL.of hra3), fun ha hha => ?_⟩
  have t4 := same_new hha (.lst (rps.map V.ref))
  have hhat : Tups (upd H3 ha (.lst (rps.map V.ref))) ha (rRows res) := ⟨rps, upd_same, (hrat.same s3).same t4⟩
  have htr4 := htr3.same t4
  generalize upd H3 ha (.lst (rps.map V.ref)) = H4 at t4 hhat htr4
  clear hkn t3 hgt2
  -- the first try
  refine ⟨fun σ H5 => σ = [some (.ref a), some (.int c), some (.int l), some (.ref ga), some (.ref ra), some (dueV (dueN c l res res.length)), some (.ref kn), v1, v2, some (dueV (dueN c l res res.length)), some (.ref ha), none, none] ∧ Same H4 H5, ?_, ?_⟩
  · refine ⟨_, rfl, _, rfl, _, rfl, c, l, ha, res, rfl, hhat, hrl, c2, by omega, fun H5 s5 => ?_⟩
    cases hd : dueN c l res res.length with
    | none => exact fun v => ⟨rfl, s5⟩
    | some k =>
      cases k with
      | false => exact ⟨false, rfl, ⟨rfl, s5⟩⟩
      | true => exact ⟨true, rfl, ⟨rfl, s5⟩⟩
  rintro σ H5 ⟨rfl, s5⟩
  -- the second try
  refine ⟨fun σ H6 => ∃ r : Bool, σ = [some (.ref a), some (.int c), some (.int l), some (.ref ga), some (.ref ra), some (dueV (dueN c l res res.length)), some (.ref kn), v1, v2, some (dueV (dueN c l res res.length)), some (.ref ha), some (.bl r), none] ∧ r = (!decide (dueV (dueN c l res res.length) = V.str "table")) ∧ Same H4 H6, ?_, ?_⟩
  · refine ⟨_, rfl, _, rfl, _, rfl, c, l, ha, res, rfl, hhat.same s5, hrl, c2, by omega, fun H6 s6 => ?_⟩
    have s46 := s5.trans s6
    cases hd : dueN c l res res.length with
    | none =>
      have e : (!decide (dueV none = V.str "table")) = false := by rw [decide_eq_true (show dueV none = V.str "table" from rfl)]; rfl
      exact fun v => ⟨_, rfl, e.symm, s46⟩
    | some k =>
      have e : (!decide (dueV (some k) = V.str "table")) = true := by rw [decide_eq_false (by cases k; exact due_no1; exact due_no2)]; rfl
      cases k with
      | false =>
        refine ⟨false, rfl, fun x hx => ?_⟩
        refine ⟨_, rfl, _, _, rfl, .inl ⟨_, rfl, EF.kNV⟩, _, rfl, ?_⟩
        refine iteT ?_
        exact ⟨_, rfl, _, _, rfl, .inr ⟨_, rfl, EF.kNN⟩, _, rfl, _, _, rfl, .inr ⟨_, rfl, EF.kNT⟩, rfl, _, rfl, (by rw [e]; simp), s46⟩
      | true =>
        refine ⟨true, rfl, fun x hx => ?_⟩
        refine ⟨_, rfl, _, _, rfl, .inl ⟨_, rfl, EF.kTV⟩, _, rfl, ?_⟩
        refine iteT ?_
        exact ⟨_, rfl, _, _, rfl, .inr ⟨_, rfl, EF.kTN⟩, _, rfl, _, _, rfl, .inr ⟨_, rfl, EF.kTT⟩, rfl, _, rfl, (by rw [e]; simp), s46⟩
  rintro σ H6 ⟨r, rfl, rfl, s6⟩
  -- the answer
  refine ⟨_, rfl, _, rfl, due_scal2 _, _, rfl, ?_⟩
  refine iteb_t (decide_eq_true rfl) ?_
  refine ⟨_, rfl, _, rfl, due_scal _, rfl, _, rfl, ?_⟩
  refine iteb_t (decide_eq_true rfl) ?_
  refine ⟨_, rfl, _, rfl, ha, ra, rRows res, rRows res, rfl, rfl, hhat.same s6, htr4.same s6, ?_⟩
  have e : (if false = true then !decide (rRows res = rRows res) else decide (rRows res = rRows res)) = true := by simp
  rw [e]
  exact q _
end
end GR
namespace GR
open PySem L2
theorem all_mk {l : PySem.W.OpenLaw} {w : World} {K : PySem.W.Frag} {h : Heap} {mg : Str → Option Value} {fa : Addr} (X : K.In h) (G : h.Ns mainGlobals mg) (hfa : mg "law" = some (.ref fa)) (tl : DefTxt K "law" s_law)
    (t_last_team : DefTxt K "last_team" s_last_team) (t_at_home : DefTxt K "at_home" s_at_home) (t_is_there : DefTxt K "is_there" s_is_there) (t_has_game : DefTxt K "has_game" s_has_game) (t_refuse_wrong : DefTxt K "refuse_wrong" s_refuse_wrong) (t_points_for : DefTxt K "points_for" s_points_for) (t_marks_of : DefTxt K "marks_of" s_marks_of) (t_table : DefTxt K "table" s_table) (t__law_at : DefTxt K "_law_at" s__law_at) (t__law_results_of : DefTxt K "_law_results_of" s__law_results_of) (t__law_season_of : DefTxt K "_law_season_of" s__law_season_of)
    (z_len : PySem.W.nsIn K mainGlobals "len" = some none) (z_min : PySem.W.nsIn K mainGlobals "min" = some none) (z_max : PySem.W.nsIn K mainGlobals "max" = some none) (z_range : PySem.W.nsIn K mainGlobals "range" = some none) (z_enumerate : PySem.W.nsIn K mainGlobals "enumerate" = some none) (z_sorted : PySem.W.nsIn K mainGlobals "sorted" = some none) (z_isinstance : PySem.W.nsIn K mainGlobals "isinstance" = some none) (z_list : PySem.W.nsIn K mainGlobals "list" = some none) (z_ValueError : PySem.W.nsIn K mainGlobals "ValueError" = some none) {cN cT cS : Addr} (EF : ExcK K cN cT cS) :
    ∃ fd : FuncData, (∀ (s : Shared) (v : Value), BindsTo s fd ⟨[v], []⟩ [("_law_script", v)]) ∧ ∀ base : Heap, K.In base → base.Ns mainGlobals mg → FnOk l.prog w K mg base CX0 9 fa fd ["_law_script"] (spLaw K) := by
  obtain ⟨f, fd, a, F⟩ := tl.ex
  have e := hfa.symm.trans (PySem.W.mg_of X G a)
  cases e
  have M : Mo K mg := ⟨fun x v e => PySem.W.mg_of X G e⟩
  have y_len : mg "len" = none := PySem.W.mg_none_of X G z_len
  have y_min : mg "min" = none := PySem.W.mg_none_of X G z_min
  have y_max : mg "max" = none := PySem.W.mg_none_of X G z_max
  have y_range : mg "range" = none := PySem.W.mg_none_of X G z_range
  have y_enumerate : mg "enumerate" = none := PySem.W.mg_none_of X G z_enumerate
  have y_sorted : mg "sorted" = none := PySem.W.mg_none_of X G z_sorted
  have y_isinstance : mg "isinstance" = none := PySem.W.mg_none_of X G z_isinstance
  have y_list : mg "list" = none := PySem.W.mg_none_of X G z_list
  have y_ValueError : mg "ValueError" = none := PySem.W.mg_none_of X G z_ValueError
  refine ⟨fd, fun s v => ?_, fun base _ _ => ?_⟩
  · obtain ⟨oc, od, kV, doc, pm, an, cdv, ct, osl, rfl, lk, hcd⟩ := F.ex
    exact .of_eq rfl
  · have D2 := ok_last (P := l.prog) (w := w) (base := base) M t_last_team
    have D4 := ok_home (P := l.prog) (w := w) (base := base) M t_at_home y_min y_max D2
    have E1 := ok_there (P := l.prog) (w := w) (base := base) M t_is_there
    have E2 := ok_has (P := l.prog) (w := w) (base := base) M t_has_game E1 D4
    have E3 := ok_refuse1 (P := l.prog) (w := w) (base := base) M EF t_refuse_wrong y_enumerate E2
    have E4 := ok_points (P := l.prog) (w := w) (base := base) M t_points_for
    have E5 := ok_marks (P := l.prog) (w := w) (base := base) M t_marks_of y_range E4
    have E6 := ok_table1 (P := l.prog) (w := w) (base := base) M t_table y_len y_enumerate y_sorted E3 E5
    have DA := ok_at (P := l.prog) (w := w) (base := base) M t__law_at y_len
    have L1 := ok_season (P := l.prog) (w := w) (base := base) M t__law_season_of y_range
    have L2' := ok_results6 (P := l.prog) (w := w) (base := base) M t__law_results_of y_range y_len
    exact ok_law F M EF y_isinstance y_list y_ValueError DA E6 L1 L2'
theorem walk {l : PySem.W.OpenLaw} {q : Program} {loose : List Str} {XP : (Str → Option Value) → Heap → Prop} {YP : World → Heap → Prop} {d : DefRec} {K : Params → PySem.W.Frag} (hn : l.most = some 63) (hdf : d.params.defaults = [])
    (hY : ∀ (w : World) (h : Heap), YP w h → (K w.params).In h)
    (F : ∀ (w : World) (mg : Str → Option Value) (fa : Addr) (h : Heap), (K w.params).In h → h.Ns mainGlobals mg → mg d.name = some (.ref fa) →
      ∃ fd : FuncData, (∀ (s : Shared) (u : Value), BindsTo s fd ⟨[u], []⟩ [("_law_script", u)]) ∧ ∀ base : Heap, (K w.params).In base → base.Ns mainGlobals mg → FnOk l.prog w (K w.params) mg base CX0 9 fa fd ["_law_script"] (spLaw (K w.params))) :
    PySem.W.WalkO q loose XP YP l.row.toRowW d [] (fun f vs => PySem.call f vs) :=
  L2.walk_of (n := 63) (k := 9) (x := "_law_script") (CX := fun _ => CX0) (sp := fun w => spLaw (K w.params)) hn (by decide) hdf ⟨rfl, by decide, by decide⟩ hY F (fun _ _ a ns hl _ hS => ⟨a, ns, rfl, hS, hl, fun _ => rfl⟩) fun _ _ _ _ _ z => z
end GR
open PySem PySem.W PyProof.Rows
set_option maxRecDepth 100000 in
set_option maxHeartbeats 0 in
theorem PySem.Challenge.cw_gameround_k06_results_refused_holds : PySem.Challenge.rw_gameround_k06_results_refused.Holds := by
  w_on; o_law; k_head; (case hw => w_witness2)
  k_fill
  refine GR.walk (l := PySem.Challenge.rw_gameround_k06_results_refused) rfl rfl (fun w h Y => PySem.W.kIn_of Y) ?F
  case F =>
    intro w mg fa h KX G hmg
    refine' GR.all_mk KX G hmg ?tl ?t_last_team ?t_at_home ?t_is_there ?t_has_game ?t_refuse_wrong ?t_points_for ?t_marks_of ?t_table ?t__law_at ?t__law_results_of ?t__law_season_of ?z_len ?z_min ?z_max ?z_range ?z_enumerate ?z_sorted ?z_isinstance ?z_list ?z_ValueError ?xk
    (case tl => (refine' GR.txt_mk ?a ?l ?c ?k; (case a => k_is); (case l => k_is); (case c => k_is); (case k => k_is)))
    (case t_last_team => (refine' GR.txt_mk ?a ?l ?c ?k; (case a => k_is); (case l => k_is); (case c => k_is); (case k => k_is)))
    (case t_at_home => (refine' GR.txt_mk ?a ?l ?c ?k; (case a => k_is); (case l => k_is); (case c => k_is); (case k => k_is)))
    (case t_is_there => (refine' GR.txt_mk ?a ?l ?c ?k; (case a => k_is); (case l => k_is); (case c => k_is); (case k => k_is)))
    (case t_has_game => (refine' GR.txt_mk ?a ?l ?c ?k; (case a => k_is); (case l => k_is); (case c => k_is); (case k => k_is)))
    (case t_refuse_wrong => (refine' GR.txt_mk ?a ?l ?c ?k; (case a => k_is); (case l => k_is); (case c => k_is); (case k => k_is)))
    (case t_points_for => (refine' GR.txt_mk ?a ?l ?c ?k; (case a => k_is); (case l => k_is); (case c => k_is); (case k => k_is)))
    (case t_marks_of => (refine' GR.txt_mk ?a ?l ?c ?k; (case a => k_is); (case l => k_is); (case c => k_is); (case k => k_is)))
    (case t_table => (refine' GR.txt_mk ?a ?l ?c ?k; (case a => k_is); (case l => k_is); (case c => k_is); (case k => k_is)))
    (case t__law_at => (refine' GR.txt_mk ?a ?l ?c ?k; (case a => k_is); (case l => k_is); (case c => k_is); (case k => k_is)))
    (case t__law_results_of => (refine' GR.txt_mk ?a ?l ?c ?k; (case a => k_is); (case l => k_is); (case c => k_is); (case k => k_is)))
    (case t__law_season_of => (refine' GR.txt_mk ?a ?l ?c ?k; (case a => k_is); (case l => k_is); (case c => k_is); (case k => k_is)))
    (case z_len => k_is)
    (case z_min => k_is)
    (case z_max => k_is)
    (case z_range => k_is)
    (case z_enumerate => k_is)
    (case z_sorted => k_is)
    (case z_isinstance => k_is)
    (case z_list => k_is)
    (case z_ValueError => k_is)
    (case xk => (refine' ⟨?n1, ?n2, ?n3, ?q1, ?q2, ?x1, ?x2, ?x3, ?x4, ?x5, ?k1, ?k2, ?k3, ?k4, ?k5, ?k6, ⟨?a1, ?a2, ?a3, ?a4, ?a5, ?a6⟩, ⟨?b1, ?b2, ?b3, ?b4, ?b5, ?b6⟩⟩; (case n1 => k_is); (case n2 => k_is); (case n3 => k_is); (case q1 => k_exc); (case q2 => k_exc); (case x1 => kts_exm); (case x2 => kts_exm); (case x3 => kts_exm); (case x4 => kts_exm); (case x5 => kts_exm); (case k1 => kit_is); (case k2 => kit_is); (case k3 => kit_is); (case k4 => kit_is); (case k5 => kit_is); (case k6 => kit_is); (case a1 => k_is); (case a2 => k_is); (case a3 => k_is); (case a4 => k_is); (case a5 => k_is); (case a6 => k_is); (case b1 => k_is); (case b2 => k_is); (case b3 => k_is); (case b4 => k_is); (case b5 => k_is); (case b6 => k_is)))
