import PyProof.Rows.All
import Wide.All
import OpenK.AllK
import Wide.FinOn
import Lean
import PyProof.EqAt
import PyProof.EqKinds
import PyProof.TupleCall
import PyProof.NeKinds
import KE.RegMulBits
import PySem.Challenge.RW_peghall_k07_whole_rack
set_option Elab.async false
set_option linter.all false
set_option maxRecDepth 100000
namespace L2
open PySem PySem.Spec PyProof.Rows

/-- a key: an int or a str -/
abbrev Key := Sum Int Str
def keyIs : Key → Value → Bool
  | .inl k, v => Value.isInt k v
  | .inr x, v => Value.isStrOf x v
def keyH (w : World) : Key → Int
  | .inl k => hashInt k
  | .inr x => hashStr w x
theorem keyIs_shape : ∀ {k : Key} {v : Value}, keyIs k v = true → (∃ i t, k = Sum.inl i ∧ v = Value.int i t) ∨ (∃ x t, k = Sum.inr x ∧ v = Value.str x t)
  | .inl i, v, h => by
    obtain ⟨t, e⟩ := Value.isInt_shape (k := i) (v := v) h
    exact .inl ⟨i, t, rfl, e⟩
  | .inr x, v, h => by
    obtain ⟨t, e⟩ := Value.isStrOf_shape (x := x) (v := v) h
    exact .inr ⟨x, t, rfl, e⟩
theorem keyIs_int (i : Int) (t : Tok) : keyIs (.inl i) (.int i t) = true := by simp [keyIs, Value.isInt]
theorem keyIs_str (x : Str) (t : Tok) : keyIs (.inr x) (.str x t) = true := by simp [keyIs, Value.isStrOf]
theorem key_ll (a b : Int) : decide ((Sum.inl a : Key) = Sum.inl b) = (a == b) := by
  by_cases e : a = b
  · subst e; simp
  · have h : ¬ (Sum.inl a : Key) = Sum.inl b := fun q => e (Sum.inl.inj q)
    rw [decide_eq_false h]
    exact (beq_eq_false_iff_ne.mpr e).symm
theorem key_rr (a b : Str) : decide ((Sum.inr a : Key) = Sum.inr b) = decide (a = b) := by
  by_cases e : a = b
  · subst e; simp
  · have h : ¬ (Sum.inr a : Key) = Sum.inr b := fun q => e (Sum.inr.inj q)
    rw [decide_eq_false h, decide_eq_false e]
theorem key_lr (a : Int) (b : Str) : decide ((Sum.inl a : Key) = Sum.inr b) = false := decide_eq_false (fun q => nomatch q)
theorem key_rl (a : Str) (b : Int) : decide ((Sum.inr a : Key) = Sum.inl b) = false := decide_eq_false (fun q => nomatch q)

def mixKind (prog : Program) (w : World) : PySem.KeyKind prog w Key where
  is := keyIs
  hash := keyH w
  inj := fun v a b ha hb => by
    rcases keyIs_shape ha with ⟨i, t, rfl, rfl⟩ | ⟨x, t, rfl, rfl⟩
    · rcases keyIs_shape hb with ⟨j, u, rfl, e⟩ | ⟨y, u, rfl, e⟩
      · injection e with e1 _; rw [e1]
      · exact nomatch e
    · rcases keyIs_shape hb with ⟨j, u, rfl, e⟩ | ⟨y, u, rfl, e⟩
      · exact nomatch e
      · injection e with e1 _; rw [e1]
  byValue := fun k v h => by
    rcases keyIs_shape h with ⟨i, t, rfl, rfl⟩ | ⟨x, t, rfl, rfl⟩ <;> rfl
  pyHash := fun hv h => by
    rcases keyIs_shape hv with ⟨i, t, rfl, rfl⟩ | ⟨x, t, rfl, rfl⟩
    · exact wpAny_pyHash_int h
    · exact wpAny_pyHash_str h
  eqBool := fun hu hv h => by
    rcases keyIs_shape hu with ⟨i, t, rfl, rfl⟩ | ⟨x, t, rfl, rfl⟩
    · rcases keyIs_shape hv with ⟨j, u, rfl, rfl⟩ | ⟨y, u, rfl, rfl⟩
      · rw [key_ll] at h; exact wpAny_eqBool_int h
      · rw [key_lr] at h; exact SeqAt.EqAt.int_str i t y u _ _ _ _ h
    · rcases keyIs_shape hv with ⟨j, u, rfl, rfl⟩ | ⟨y, u, rfl, rfl⟩
      · rw [key_rl] at h; exact SeqAt.EqAt.str_int x t j u _ _ _ _ h
      · rw [key_rr] at h; exact wpAny_eqBool_str h
  «strs» := fun k x t v h => by
    rcases keyIs_shape h with ⟨i, u, rfl, e⟩ | ⟨y, u, rfl, e⟩
    · exact nomatch e
    · injection e with e1 _
      subst e1
      cases v <;> rfl

theorem mixKind_is (prog : Program) (w : World) (k : Key) (v : Value) : (mixKind prog w).is k v = keyIs k v := rfl
theorem mixKind_int (prog : Program) (w : World) (i : Int) (t : Tok) : (mixKind prog w).is (.inl i) (.int i t) = true := keyIs_int i t
theorem mixKind_str (prog : Program) (w : World) (x : Str) (t : Tok) : (mixKind prog w).is (.inr x) (.str x t) = true := keyIs_str x t
end L2

namespace L2
open PySem PySem.Spec PyProof.Rows

/-- a value, without the heap -/
inductive V where
  | non | bl (b : Bool) | int (i : Int) | str (x : Str) | byt (b : Array UInt8) | flt (b : UInt64) | ref (a : Addr) | ty (n : String)
  deriving DecidableEq

def RelV : V → Value → Prop
  | .non, u => u = Value.none
  | .bl b, u => u = Value.bool b
  | .int i, u => ∃ t, u = Value.int i t
  | .str x, u => ∃ t, u = Value.str x t
  | .byt b, u => ∃ t, u = Value.bytes b t
  | .flt b, u => ∃ t, u = Value.float b t
  | .ref a, u => u = Value.ref a
  | .ty n, u => u = Value.type n

abbrev Vals : List V → List Value → Prop := Paired RelV
theorem Vals.length {xs : List V} {us : List Value} (r : Vals xs us) : xs.length = us.length := Paired.length r
theorem Vals.get : ∀ {xs : List V} {us : List Value} {i : Nat} {x : V}, Vals xs us → xs[i]? = some x → ∃ u, us[i]? = some u ∧ RelV x u
  | _, _, _, _, .nil, e => by simp at e
  | _, _, 0, _, .cons r _, e => by simp at e; subst e; exact ⟨_, rfl, r⟩
  | _, _, i + 1, x, .cons _ t, e => by
    obtain ⟨u, h1, h2⟩ := Vals.get (i := i) (x := x) t (by simpa using e)
    exact ⟨u, by simpa using h1, h2⟩
theorem Vals.set {x : V} {u : Value} (r : RelV x u) : ∀ {xs : List V} {us : List Value} (i : Nat), Vals xs us → Vals (xs.set i x) (us.set i u)
  | _, _, _, .nil => .nil
  | _, _, 0, .cons _ t => .cons r t
  | _, _, i + 1, .cons q t => .cons q (Vals.set r i t)
theorem Vals.append : ∀ {xs ys : List V} {us ws : List Value}, Vals xs us → Vals ys ws → Vals (xs ++ ys) (us ++ ws)
  | _, _, _, _, .nil, s => s
  | _, _, _, _, .cons r t, s => .cons r (Vals.append t s)
theorem Vals.take : ∀ {xs : List V} {us : List Value} (n : Nat), Vals xs us → Vals (xs.take n) (us.take n)
  | _, _, 0, _ => .nil
  | _, _, _ + 1, .nil => .nil
  | _, _, n + 1, .cons r t => .cons r (Vals.take n t)
theorem Vals.drop : ∀ {xs : List V} {us : List Value} (n : Nat), Vals xs us → Vals (xs.drop n) (us.drop n)
  | _, _, 0, r => r
  | _, _, _ + 1, .nil => .nil
  | _, _, n + 1, .cons _ t => Vals.drop n t
theorem Vals.none_of : ∀ {xs : List V} {us : List Value} {i : Nat}, Vals xs us → xs[i]? = none → us[i]? = none := fun {xs us i} r e => by
  have h1 := r.length
  have h2 : xs.length ≤ i := List.getElem?_eq_none_iff.mp e
  exact List.getElem?_eq_none_iff.mpr (by omega)

def RelO : Option V → Option Value → Prop
  | some v, some u => RelV v u
  | none, none => True
  | _, _ => False
def KV {κ : Type} : List (κ × V) → List (κ × Value) → Prop := Paired fun (p : κ × V) (q : κ × Value) => p.1 = q.1 ∧ RelV p.2 q.2

/-- a key of a dict (00_mix): an int or a text -/
def kV : Key → V
  | .inl i => .int i
  | .inr x => .str x

/-- what stands at a tracked address -/
inductive HO where
  /-- a list -/
  | lst (xs : List V)
  /-- a tuple (never changes) -/
  | tup (xs : List V)
  /-- a dict whose keys are ints and texts; one whose keys are tuples of ints and texts (the empty one is both) -/
  | dK (kvs : List (Key × V)) | dT (kvs : List (List Key × V))
  /-- a set of ints: its members, its size -/
  | set (S : Int → Bool) (n : Nat)
  /-- an instance of the class at C, its dict at dx, its attributes -/
  | ins (C dx : Addr) (fs : List (Str × V))
  /-- the dict of the instance at x -/
  | own (x : Addr)
  /-- the dict of an exception -/
  | xd (fs : List (Str × V))
  /-- a bound method, f of x -/
  | met (f x : Addr)
  /-- a range object lo, lo + 1, .. below hi -/
  | rng (lo hi : Int)
  /-- a thing that is known to the object (the script; a dict while a loop walks it): read, never written while it is so -/
  | frz (o : Obj) (u : HO)
  /-- a code object's table -/
  | tbl (ps : Array Value)
  /-- any other thing, by what is true of its one object (a def of one's own: SetO a S n := HO.ext fun h => ..) -/
  | ext (φ : Heap → Prop)

abbrev Hp := Addr → Option HO
def upd (H : Hp) (a : Addr) (o : HO) : Hp := fun b => if b = a then some o else H b
theorem upd_same {H : Hp} {a : Addr} {o : HO} : upd H a o a = some o := by unfold upd; rw [if_pos rfl]
theorem upd_ne {H : Hp} {a b : Addr} {o : HO} (h : b ≠ a) : upd H a o b = H b := by unfold upd; rw [if_neg h]
theorem upd_upd {H : Hp} {a : Addr} {o u : HO} : upd (upd H a o) a u = upd H a u := by
  funext b; unfold upd; split <;> rfl
/-- two objects of different content stand apart -/
theorem ne_of {H : Hp} {a b : Addr} {o u : HO} (h : H a = some o) (h' : H b = some u) (d : o ≠ u) : a ≠ b := by
  intro e; subst e; rw [h] at h'; exact d (Option.some.inj h')
theorem ne_of_none {H : Hp} {a b : Addr} {o : HO} (h : H a = some o) (h' : H b = none) : a ≠ b := by
  intro e; subst e; rw [h] at h'; cases h'

section
variable (P : Program) (w : World)
def ObjOk (H : Hp) (h : Heap) (a : Addr) : HO → Prop
  | .lst xs => xs.length ≤ sizeLine ∧ ∃ (its : List Value) (n : Nat), Vals xs its ∧ h.get? a = some { cls := .type "list", data := .seq its.toArray n }
  | .tup xs => xs.length ≤ sizeLine ∧ ∃ its : List Value, Vals xs its ∧ IsTup h a its.toArray
  | .dK kvs => kvs.length ≤ sizeLine ∧ (a == sysModules) = false ∧ ∃ vs, KV kvs vs ∧ h.DictOf (mixKind P w) a vs
  | .dT kvs => kvs.length ≤ sizeLine ∧ (a == sysModules) = false ∧ ∃ xs : List (List Key × Addr × Value),
      Paired (fun (p : List Key × V) (q : List Key × Addr × Value) => p.1 = q.1 ∧ H q.2.1 = some (.tup (p.1.map kV)) ∧ RelV p.2 q.2.2) kvs xs ∧
      ∃ o es ep, h.get? a = some o ∧ o.ExactDict ∧ o.data = .dict es ep ∧ es.toList = xs.map (entryOfKey (tupleKind (mixKind P w))) ∧ (xs.map (·.1)).Nodup
  | .set S n => h.SetOf (intKind P w) a S n
  | .ins C dx fs => H dx = some (.own a) ∧ fs.length ≤ 1000 ∧ dx ≠ a ∧ h.get? a = some (PySem.W.instObj C dx) ∧
      ∃ mA, h.Ns1 dx mA ∧ (∀ f, RelO (fs.lookup f) (mA f)) ∧ PySem.Within mA (fs.map (·.1))
  | .own _ => ∃ o, h.get? a = some o
  | .xd fs => ∃ mA, h.Ns1 a mA ∧ ∀ f, RelO (fs.lookup f) (mA f)
  | .rng lo hi => ∃ t u v, h.get? a = some { cls := .type "range", data := .fields #[.int lo t, .int hi u, .int 1 v] }
  | .frz o u => h.get? a = some o ∧ ObjOk H h a u
  | .tbl ps => h.get? a = some { cls := .none, data := .fields ps }
  | .met f x => h.get? a = some (PySem.W.methodObj (.ref f) (.ref x))
  | .ext φ => φ h ∧ (∃ o, h.get? a = some o) ∧ ∀ h1 h2 : Heap, φ h1 → (∀ o, h1.get? a = some o → h2.get? a = some o) → φ h2
/-- the abstract heap is held -/
def HOk (H : Hp) (h : Heap) : Prop := ∀ a o, H a = some o → ObjOk P w H h a o
end

section
variable {P : Program} {w : World} {H H' : Hp} {h h' : Heap} {a : Addr} {o : HO}
theorem ObjOk.lt (x : ObjOk P w H h a o) : a < h.objs.size := by
  cases o with
  | lst xs => obtain ⟨_, _, _, _, e⟩ := x; exact Heap.lt_size e
  | tup xs => obtain ⟨_, _, _, p⟩ := x; exact p.lt
  | dK kvs => obtain ⟨_, _, _, _, o, _, _, e, _⟩ := x; exact Heap.lt_size e
  | dT kvs => obtain ⟨_, _, _, _, o, _, _, e, _⟩ := x; exact Heap.lt_size e
  | set S n => obtain ⟨o, _, _, _, e, _⟩ := x; exact Heap.lt_size e
  | ins C dx fs => obtain ⟨_, _, _, e, _⟩ := x; exact Heap.lt_size e
  | own y => obtain ⟨_, e⟩ := x; exact Heap.lt_size e
  | xd fs => obtain ⟨_, ⟨_, _, _, e, _⟩, _⟩ := x; exact Heap.lt_size e
  | rng lo hi => obtain ⟨_, _, _, e⟩ := x; exact Heap.lt_size e
  | frz ob u => obtain ⟨e, _⟩ := x; exact Heap.lt_size e
  | tbl ps => exact Heap.lt_size (show h.get? a = some _ from x)
  | met f y => exact Heap.lt_size (show h.get? a = some _ from x)
  | ext φ => obtain ⟨_, ⟨_, e⟩, _⟩ := x; exact Heap.lt_size e
theorem Paired.mapP {α β : Type} {F G : α → β → Prop} : ∀ {l₁ : List α} {l₂ : List β}, Paired F l₁ l₂ → (∀ a b, F a b → G a b) → Paired G l₁ l₂
  | _, _, .nil, _ => .nil
  | _, _, .cons r t, f => .cons (f _ _ r) (Paired.mapP t f)
theorem Paired.imp' {α β : Type} {F G : α → β → Prop} (f : ∀ a b, F a b → G a b) {l₁ : List α} {l₂ : List β} (r : Paired F l₁ l₂) : Paired G l₁ l₂ := Paired.mapP r f
/-- what an object's description leans on: its own object, its own dict, the tuples -/
theorem ObjOk.stay (x : ObjOk P w H h a o) (k : ∀ b u, (b = a ∨ H b = some (.own a)) → h.get? b = some u → h'.get? b = some u)
    (ho : ∀ b, H b = some (.own a) → H' b = some (.own a)) (ht : ∀ b xs, H b = some (.tup xs) → H' b = some (.tup xs)) : ObjOk P w H' h' a o := by
  induction o with
  | lst xs => obtain ⟨z, its, n, r, e⟩ := x; exact ⟨z, its, n, r, k _ _ (.inl rfl) e⟩
  | tup xs => obtain ⟨z, its, r, ob, e, c⟩ := x; exact ⟨z, its, r, ob, k _ _ (.inl rfl) e, c⟩
  | dK kvs => obtain ⟨z, y, vs, r, ob, es, ep, e, c⟩ := x; exact ⟨z, y, vs, r, ob, es, ep, k _ _ (.inl rfl) e, c⟩
  | dT kvs =>
    obtain ⟨z, y, xs, r, ob, es, ep, e, c⟩ := x
    exact ⟨z, y, xs, Paired.mapP r fun p q z => ⟨z.1, ht _ _ z.2.1, z.2.2⟩, ob, es, ep, k _ _ (.inl rfl) e, c⟩
  | set S n => obtain ⟨ob, es, ep, t, e, c⟩ := x; exact ⟨ob, es, ep, t, k _ _ (.inl rfl) e, c⟩
  | ins C dx fs =>
    obtain ⟨d, z, ne, e, mA, ⟨od, es, ep, e2, c⟩, r⟩ := x
    exact ⟨ho _ d, z, ne, k _ _ (.inl rfl) e, mA, ⟨od, es, ep, k _ _ (.inr d) e2, c⟩, r⟩
  | own y => obtain ⟨ob, e⟩ := x; exact ⟨ob, k _ _ (.inl rfl) e⟩
  | xd fs => obtain ⟨mA, ⟨od, es, ep, e, c⟩, r⟩ := x; exact ⟨mA, ⟨od, es, ep, k _ _ (.inl rfl) e, c⟩, r⟩
  | rng lo hi => obtain ⟨t, u, v, e⟩ := x; exact ⟨t, u, v, k _ _ (.inl rfl) e⟩
  | frz ob u ih => obtain ⟨e, q⟩ := x; exact ⟨k _ _ (.inl rfl) e, ih q⟩
  | tbl ps =>
    have e : h.get? a = some { cls := .none, data := .fields ps } := x
    show h'.get? a = some { cls := .none, data := .fields ps }
    exact k a _ (.inl rfl) e
  | met f y =>
    have e : h.get? a = some (PySem.W.methodObj (.ref f) (.ref y)) := x
    show h'.get? a = some (PySem.W.methodObj (.ref f) (.ref y))
    exact k a _ (.inl rfl) e
  | ext φ => obtain ⟨p, ⟨o, e⟩, st⟩ := x; exact ⟨st _ _ p fun o q => k _ _ (.inl rfl) q, ⟨o, k _ _ (.inl rfl) e⟩, st⟩
theorem HOk.lt (x : HOk P w H h) (e : H a = some o) : a < h.objs.size := (x a o e).lt
theorem HOk.fresh (x : HOk P w H h) (e : h.objs.size ≤ a) : H a = none := by
  cases q : H a with
  | none => rfl
  | some u => exact absurd (Nat.lt_of_lt_of_le (x.lt q) e) (Nat.lt_irrefl _)
/-- every object of the heap is kept -/
theorem HOk.kept (x : HOk P w H h) (k : ∀ b u, h.get? b = some u → h'.get? b = some u) : HOk P w H h' := fun a o e =>
  (x a o e).stay (fun b u _ q => k b u q) (fun _ q => q) fun _ _ q => q
/-- a new object is laid and tracked -/
theorem HOk.laid (x : HOk P w H h) (k : ∀ b u, h.get? b = some u → h'.get? b = some u) (hp : h.objs.size ≤ a) (new : ObjOk P w (upd H a o) h' a o) : HOk P w (upd H a o) h' := fun b u e => by
  have hn := x.fresh hp
  by_cases hb : b = a
  · subst hb; rw [upd_same] at e; cases e; exact new
  · rw [upd_ne hb] at e
    exact (x b u e).stay (fun c v _ q => k c v q) (fun c q => by rw [upd_ne (ne_of_none q hn)]; exact q) fun c xs q => by rw [upd_ne (ne_of_none q hn)]; exact q
end

/-- what may be read as u: it is u, or a known u -/
def Rd (H : Hp) (a : Addr) (u : HO) : Prop := H a = some u ∨ ∃ o, H a = some (.frz o u)
theorem Rd.of {H : Hp} {a : Addr} {u : HO} (h : H a = some u) : Rd H a u := .inl h
theorem Rd.ok {P : Program} {w : World} {H : Hp} {h : Heap} {a : Addr} {u : HO} (r : Rd H a u) (x : HOk P w H h) : ObjOk P w H h a u := by
  rcases r with r | ⟨o, r⟩
  · exact x a u r
  · obtain ⟨_, q⟩ := x a _ r
    exact q
/-- what may be written -/
def Mut : Option HO → Prop
  | some (.lst _) => True
  | some (.dK _) => True
  | some (.dT _) => True
  | some (.set _ _) => True
  | some (.ins _ _ _) => True
  | some (.ext _) => True
  | _ => False
section
variable {P : Program} {w : World} {H : Hp} {h h' : Heap} {x e : Addr} {o' : HO}
/-- the object at e is changed: x itself, or the dict of the instance x -/
theorem HOk.write (ok : HOk P w H h) (mu : Mut (H x)) (he : e = x ∨ H e = some (.own x)) (k : ∀ b u, b ≠ e → h.get? b = some u → h'.get? b = some u) (heo : ∃ u, h'.get? e = some u)
    (new : ObjOk P w (upd H x o') h' x o') : HOk P w (upd H x o') h' := fun b u q => by
  have nown : ∀ c y, H c = some (.own y) → c ≠ x := fun c y r z => by subst z; rw [r] at mu; exact mu
  have ntup : ∀ c xs, H c = some (.tup xs) → c ≠ x := fun c xs r z => by subst z; rw [r] at mu; exact mu
  by_cases hb : b = x
  · subst hb; rw [upd_same] at q; cases q; exact new
  · rw [upd_ne hb] at q
    by_cases hbe : b = e
    · have q' : H b = some (.own x) := by
        rcases he with z | z
        · exact absurd (hbe.trans z) hb
        · rw [hbe]; exact z
      rw [q] at q'; cases q'
      obtain ⟨v, hv⟩ := heo
      exact ⟨v, by rw [hbe]; exact hv⟩
    · refine (ok b u q).stay (fun c v hc r => k c v ?_ r) (fun c r => by rw [upd_ne (nown c b r)]; exact r) fun c xs r => by rw [upd_ne (ntup c xs r)]; exact r
      rcases hc with rfl | hc
      · exact hbe
      · rintro rfl
        rcases he with z | z
        · exact nown c b hc z
        · rw [hc] at z; cases z; exact hb rfl
end

/-! ### kept unless tracked; of the frames at fs (the callers') the slots may change (an exception that passes writes there); of the records at ex (iterators) nothing is said -/
structure Un (fs ex : List Addr) (H H' : Hp) (h h' : Heap) : Prop where
  keep : ∀ b o, h.get? b = some o → H b = none → b ∉ fs → b ∉ ex → h'.get? b = some o
  slot : ∀ b o, h.get? b = some o → H b = none → b ∈ fs → b ∉ ex → ∃ sl, h'.get? b = some { o with slots := sl }
  free : ∀ b o, h.get? b = some o → H b = none → b ∉ ex → H' b = none
  there : ∀ b o, h.get? b = some o → b ∉ ex → ∃ o', h'.get? b = some o'
  tups : ∀ b xs, H b = some (.tup xs) → H' b = some (.tup xs)
  frzs : ∀ b o u, H b = some (.frz o u) → H' b = some (.frz o u)
  tbls : ∀ b ps, H b = some (.tbl ps) → ∃ more, H' b = some (.tbl (ps ++ more))
section
variable {fs fs' ex ex' : List Addr} {H H1 H2 : Hp} {h h1 h2 h' : Heap} {a x e : Addr} {o : HO}
theorem Un.any (u : Un fs ex H H1 h h1) {b : Addr} {ob : Obj} (q : h.get? b = some ob) (n : H b = none) (hx : b ∉ ex) : ∃ sl, h1.get? b = some { ob with slots := sl } := by
  by_cases hb : b ∈ fs
  · exact u.slot b ob q n hb hx
  · exact ⟨ob.slots, u.keep b ob q n hb hx⟩
theorem Un.trans (a : Un fs ex H H1 h h1) (b : Un fs ex H1 H2 h1 h2) : Un fs ex H H2 h h2 where
  keep := fun c ob q n hc hx => b.keep c ob (a.keep c ob q n hc hx) (a.free c ob q n hx) hc hx
  slot := fun c ob q n hc hx => by
    obtain ⟨sl, e1⟩ := a.slot c ob q n hc hx
    obtain ⟨sl', e2⟩ := b.slot c _ e1 (a.free c ob q n hx) hc hx
    exact ⟨sl', e2⟩
  free := fun c ob q n hx => by
    obtain ⟨o', e1⟩ := a.there c ob q hx
    exact b.free c o' e1 (a.free c ob q n hx) hx
  there := fun c ob q hx => by
    obtain ⟨o', e1⟩ := a.there c ob q hx
    exact b.there c o' e1 hx
  tups := fun c xs q => b.tups c xs (a.tups c xs q)
  frzs := fun c ob xs q => b.frzs c ob xs (a.frzs c ob xs q)
  tbls := fun c ps q => by
    obtain ⟨m1, e1⟩ := a.tbls c ps q
    obtain ⟨m2, e2⟩ := b.tbls c _ e1
    exact ⟨m1 ++ m2, by rw [e2, Array.append_assoc]⟩
theorem Un.kept (k : ∀ b u, h.get? b = some u → h'.get? b = some u) : Un fs ex H H h h' :=
  ⟨fun b ob q _ _ _ => k b ob q, fun b ob q _ _ _ => ⟨ob.slots, k b ob q⟩, fun _ _ _ n _ => n, fun b ob q _ => ⟨ob, k b ob q⟩, fun _ _ q => q, fun _ _ _ q => q, fun _ ps q => ⟨#[], by rw [q]; simp⟩⟩
theorem Un.refl : Un fs ex H H h h := Un.kept fun _ _ q => q
theorem Un.laid (k : ∀ b u, h.get? b = some u → h'.get? b = some u) (hp : h.objs.size ≤ a) (hn : H a = none) : Un fs ex H (upd H a o) h h' where
  keep := fun b u q _ _ _ => k b u q
  slot := fun b u q _ _ _ => ⟨u.slots, k b u q⟩
  free := fun b u q n _ => by rw [upd_ne (Nat.ne_of_lt (Nat.lt_of_lt_of_le (Heap.lt_size q) hp))]; exact n
  there := fun b u q _ => ⟨u, k b u q⟩
  tups := fun b xs q => by rw [upd_ne (ne_of_none q hn)]; exact q
  frzs := fun b u xs q => by rw [upd_ne (ne_of_none q hn)]; exact q
  tbls := fun b ps q => ⟨#[], by rw [upd_ne (ne_of_none q hn), q]; simp⟩
theorem Un.write (mu : Mut (H x)) (he : e = x ∨ H e = some (.own x)) (k : ∀ b u, b ≠ e → h.get? b = some u → h'.get? b = some u) (heo : ∃ u, h'.get? e = some u) : Un fs ex H (upd H x o) h h' := by
  have hx : ∀ b, H b = none → b ≠ x := fun b n z => by subst z; rw [n] at mu; exact mu
  have hb : ∀ b, H b = none → b ≠ e := fun b n z => by
    subst z
    rcases he with r | r
    · exact hx b n r
    · rw [n] at r; cases r
  have hm : ∀ b u, H b = some u → ¬ Mut (some u) → b ≠ x := fun b u q nm z => by subst z; rw [q] at mu; exact nm mu
  refine ⟨fun b u q n _ _ => k b u (hb b n) q, fun b u q n _ _ => ⟨u.slots, k b u (hb b n) q⟩, fun b u q n _ => by rw [upd_ne (hx b n)]; exact n, fun b u q _ => ?_,
    fun b xs q => by rw [upd_ne (hm b _ q fun z => z)]; exact q, fun b u xs q => by rw [upd_ne (hm b _ q fun z => z)]; exact q, fun b ps q => ⟨#[], by rw [upd_ne (hm b _ q fun z => z), q]; simp⟩⟩
  by_cases hbe : b = e
  · subst hbe; exact heo
  · exact ⟨u, k b u hbe q⟩
theorem Un.mono (u : Un fs ex H H1 h h1) (hs : ∀ b ∈ fs, b ∈ fs') (hx : ∀ b ∈ ex, b ∈ ex') : Un fs' ex' H H1 h h1 :=
  ⟨fun b ob q n hb he => u.keep b ob q n (fun z => hb (hs b z)) fun z => he (hx b z), fun _ _ q n _ he => u.any q n fun z => he (hx _ z), fun b ob q n he => u.free b ob q n fun z => he (hx b z), fun b ob q he => u.there b ob q fun z => he (hx b z), u.tups, u.frzs, u.tbls⟩
end

/-! ### the heap without what is tracked -/
def trk (h : Heap) (H : Hp) : List Addr := (List.range h.objs.size).filter fun a => (H a).isSome
def hidT (h : Heap) (H : Hp) : Heap := PySem.W.hideAll h (trk h H)
theorem hidT_size (h : Heap) (H : Hp) : (hidT h H).objs.size = h.objs.size := PySem.W.hideAll_size _ _
theorem hidT_get {h : Heap} {H : Hp} {b : Addr} {o : Obj} (e : h.get? b = some o) (n : H b = none) : (hidT h H).get? b = some o :=
  PySem.W.hideAll_get _ e fun hm => by
    have q : (H b).isSome = true := (List.mem_filter.mp hm).2
    rw [n] at q; simp at q
theorem of_hidT {h : Heap} {H : Hp} {b : Addr} {o : Obj} (e : (hidT h H).get? b = some o) : h.get? b = some o ∧ H b = none := by
  have e' : h.get? b = some o := PySem.W.of_hideAll (trk h H) e
  refine ⟨e', ?_⟩
  cases q : H b with
  | none => rfl
  | some x =>
    have hm : b ∈ trk h H := List.mem_filter.mpr ⟨List.mem_range.mpr (Heap.lt_size e'), by simp [q]⟩
    have z : (hidT h H).get? b = none := PySem.W.hideAll_none (trk h H) hm
    rw [z] at e; cases e

/-! ### OpenK's ledger, filled with every new object but one -/
def allNews (g h : Heap) (L : Addr) : List (Addr × Obj) := (List.range h.objs.size).filterMap fun a => if a = L ∨ (g.get? a).isSome = true then none else (h.get? a).map fun o => (a, o)
theorem mem_allNews {g h : Heap} {L a : Addr} {o : Obj} (h1 : a ≠ L) (h2 : g.get? a = none) (h3 : h.get? a = some o) : (a, o) ∈ allNews g h L :=
  List.mem_filterMap.mpr ⟨a, List.mem_range.mpr (Heap.lt_size h3), by simp [h1, h2, h3]⟩
theorem of_mem_allNews {g h : Heap} {L : Addr} {p : Addr × Obj} (hp : p ∈ allNews g h L) : p.1 ≠ L ∧ g.get? p.1 = none ∧ h.get? p.1 = some p.2 := by
  obtain ⟨b, _, e⟩ := List.mem_filterMap.mp hp
  split at e
  · cases e
  · rename_i hn
    cases q : h.get? b with
    | none => rw [q] at e; simp at e
    | some u =>
      rw [q] at e
      simp only [Option.map_some, Option.some.injEq] at e
      subst e
      refine ⟨fun z => hn (.inl z), ?_, q⟩
      show g.get? b = none
      cases r : g.get? b with
      | none => rfl
      | some v => exact (hn (.inr (by simp [r]))).elim
def rest (g h : Heap) (L d : Addr) : List (Addr × Obj) := (allNews g h L).filter fun p => decide (p.1 ≠ d)
theorem rest_ne {g h : Heap} {L d : Addr} : ∀ p ∈ rest g h L d, p.1 ≠ d := fun p hp => of_decide_eq_true (List.mem_filter.mp hp).2
theorem mem_rest {g h : Heap} {L d a : Addr} {o : Obj} (h1 : a ≠ L) (h2 : g.get? a = none) (h3 : h.get? a = some o) (h4 : a ≠ d) : (a, o) ∈ rest g h L d :=
  List.mem_filter.mpr ⟨mem_allNews h1 h2 h3, decide_eq_true h4⟩
theorem news_all {g h : Heap} {L : Addr} : News g L h (allNews g h L) := fun p hp => let ⟨a, b, c⟩ := of_mem_allNews hp; ⟨c, a, b⟩
theorem news_at {g h : Heap} {L d : Addr} {o : Obj} (h1 : d ≠ L) (h2 : g.get? d = none) (h3 : h.get? d = some o) : News g L h ((d, o) :: rest g h L d) := fun p hp => by
  rcases List.mem_cons.mp hp with rfl | hp
  · exact ⟨h3, h1, h2⟩
  · exact news_all p (List.mem_filter.mp hp).1
/-- behind a rule that changed d alone: all else but the frame is kept -/
theorem kept_of_news {g h h' : Heap} {L d : Addr} {m : Str → Option Value} (k : ∀ b o, g.get? b = some o → h.get? b = some o) (F : Fr g L h' m) (N : News g L h' (rest g h L d)) :
    ∀ b o, b ≠ L → b ≠ d → h.get? b = some o → h'.get? b = some o := fun b o h1 h2 e => by
  cases q : g.get? b with
  | some u =>
    have := k b u q
    rw [e] at this; cases this
    exact F.keep b _ q
  | none => exact (N (b, o) (mem_rest h1 q e h2)).1
end L2

namespace L2
open PySem PySem.Spec PyProof.Rows

/-- the module's facts, over the base: the heap at the law's entry without what is tracked there -/
structure Mod (K : PySem.W.Frag) (mg : Str → Option Value) (base : Heap) : Prop where
  kin : K.In base
  glob : base.Ns mainGlobals mg
  blt : ∃ mb, base.Ns builtinsNs mb ∧ ∀ x : Str, x ≠ "__name__" → mb x = bootBuiltins x
  nolimit : base.NoLimit

/-- the context: a def's body (or a comprehension's block) running. base: fixed through the whole law; s₀, H₀: the entry; outer: the frames whose slots others may change (a def's callers); stack: all frames that run;
   ex: iterators that were made ahead of the entry and are walked here (a comprehension's); fn: the names whose cells were made at the entry (a def: all; a comprehension's block: its own); calm: not within an except suite; pn: pins that every state bears; xe: what is wanted of an exception that leaves the code -/
structure Cx where
  prog : Program
  w : World
  K : PySem.W.Frag
  mg : Str → Option Value
  base : Heap
  A : Around
  N : List Str
  s₀ : Shared
  H₀ : Hp
  env : Env
  outer : List Env
  stack : List Env
  ex : List Addr
  fn : Str → Bool
  calm : Bool
  pn : List (Addr × Obj)
  xe : Value → Shared → Prop
/-- the callers' frames -/
def frs (l : List Env) : List Addr := l.filterMap (·.frame)
abbrev Cx.fs (X : Cx) : List Addr := frs X.outer

def Vis (sc : Scope) (x : Str) : Prop := sc.names.lookup x = some .local ∨ sc.names.lookup x = some .cell ∨ sc.names.lookup x = some .free
def Loc (sc : Scope) (x : Str) : Prop := sc.names.lookup x = some .local ∨ sc.names.lookup x = some .cell
def Look (env : Env) (h : Heap) (m : Str → Option Value) (x : Str) (u : Value) : Prop :=
  (env.kindOf x = some .local ∧ m x = some u) ∨ ((env.kindOf x = some .cell ∨ env.kindOf x = some .free) ∧ ∃ c, env.cells.lookup x = some c ∧ h.IsCell c (some u))

structure Cx.Ok (X : Cx) : Prop where
  mod : Mod X.K X.mg X.base
  kind : X.env.scope.kind = .function
  glob : X.env.globals = mainGlobals
  blt : X.env.builtins = builtinsNs
  above : X.s₀.heap.objs.size ≤ X.env.locals
  inj : ∀ x y c, X.env.cells.lookup x = some c → X.env.cells.lookup y = some c → x = y
  has : ∀ x, (X.env.kindOf x = some .cell ∨ X.env.kindOf x = some .free) → ∃ c, X.env.cells.lookup x = some c
  cab : ∀ x c, X.fn x = true → X.env.cells.lookup x = some c → X.s₀.heap.objs.size ≤ c
  hd : X.calm = true → X.A.handled = none
  frames : X.A.frames = some X.stack
  stk : X.stack = X.outer ∨ (X.stack = X.env :: X.outer ∧ X.env.frame = some X.env.locals)
  exf : ∀ b ∈ X.ex, b ≠ X.env.locals ∧ ∀ x c, X.env.cells.lookup x = some c → c ≠ b
  bs : ∀ b o, X.base.get? b = some o → X.s₀.heap.get? b = some o ∧ X.H₀ b = none
  bsz : X.base.objs.size ≤ X.s₀.heap.objs.size
  noex : ∀ b o, X.base.get? b = some o → b ∉ X.ex
  exfs : ∀ b ∈ X.ex, b ∉ X.fs
  funs : X.s₀.heap.FunFrames X.base X.outer
  frf : ∀ b ∈ X.fs, X.H₀ b = none

structure Inv (X : Cx) (pins : List (Addr × Obj)) (σ : List (Option V)) (H : Hp) (s : Shared) : Prop where
  ok : X.Ok
  os : s.os = X.s₀.os
  bare : AllBare s.gens
  base : Un X.fs X.ex X.H₀ H X.s₀.heap s.heap
  loc : ∃ m, s.heap.Ns X.env.locals m ∧ ∀ (i : Nat) (x : Str) (v : V), X.N[i]? = some x → σ[i]? = some (some v) → Vis X.env.scope x → ∃ u, RelV v u ∧ Look X.env s.heap m x u
  cell : ∀ x c, X.env.cells.lookup x = some c → ∃ v, s.heap.IsCell c v
  free : H X.env.locals = none
  freeC : ∀ x c, X.env.cells.lookup x = some c → H c = none
  pin : ∀ p ∈ X.pn ++ pins, s.heap.get? p.1 = some p.2 ∧ H p.1 = none ∧ p.1 ≠ X.env.locals ∧ p.1 ∉ X.fs ∧ ∀ v, p.2.data ≠ .cell v
  hok : HOk X.prog X.w H s.heap
  len : σ.length = X.N.length

section
variable {X : Cx} {pins : List (Addr × Obj)} {σ : List (Option V)} {H H' : Hp} {s : Shared} {h' : Heap}

theorem Cx.Ok.nofr (ok : X.Ok) {b : Addr} {o : Obj} (e : X.base.get? b = some o) : b ∉ X.fs := fun hb => by
  have := (ok.funs.mem hb).1
  rw [e] at this; cases this
theorem Inv.bs (I : Inv X pins σ H s) : ∀ b o, X.base.get? b = some o → s.heap.get? b = some o ∧ H b = none := fun b o e =>
  ⟨I.base.keep b o (I.ok.bs b o e).1 (I.ok.bs b o e).2 (I.ok.nofr e) (I.ok.noex b o e), I.base.free b o (I.ok.bs b o e).1 (I.ok.bs b o e).2 (I.ok.noex b o e)⟩
theorem Inv.bk (I : Inv X pins σ H s) : ∀ b o, X.base.get? b = some o → s.heap.get? b = some o := fun b o e => (I.bs b o e).1
theorem Inv.mod (I : Inv X pins σ H s) : Mod X.K X.mg X.base := I.ok.mod
theorem Inv.kIn (I : Inv X pins σ H s) : X.K.In s.heap := I.ok.mod.kin.keeps I.bk
theorem Inv.nolimit (I : Inv X pins σ H s) : s.heap.NoLimit := I.ok.mod.nolimit.keeps I.bk
/-- the frame over the base: for OpenK's rules (K.In X.base is I.mod.kin) -/
theorem Inv.fr (I : Inv X pins σ H s) : ∃ m, Fr X.base X.env.locals s.heap m :=
  let ⟨m, hn, _⟩ := I.loc
  ⟨m, hn, I.bk, Nat.le_trans I.ok.bsz I.ok.above⟩
theorem Inv.lt (I : Inv X pins σ H s) : X.env.locals < s.heap.objs.size := let ⟨_, hn, _⟩ := I.loc; hn.lt
theorem Inv.sz (I : Inv X pins σ H s) : X.s₀.heap.objs.size ≤ s.heap.objs.size := Nat.le_trans I.ok.above (Nat.le_of_lt I.lt)
theorem Inv.nofs (I : Inv X pins σ H s) {a : Addr} (h : s.heap.objs.size ≤ a) : a ∉ X.fs := fun hb => by
  obtain ⟨_, o, ho, _⟩ := I.ok.funs.mem hb
  exact absurd (Nat.lt_of_lt_of_le (Heap.lt_size ho) (Nat.le_trans I.sz h)) (Nat.lt_irrefl _)
theorem Inv.cne (I : Inv X pins σ H s) : ∀ x c, X.env.cells.lookup x = some c → c ≠ X.env.locals := fun x c e z => by
  obtain ⟨v, o, ho, hd⟩ := I.cell x c e
  obtain ⟨m, ⟨o', es, ep, ho', hd', _⟩, _⟩ := I.loc
  rw [z, ho'] at ho; cases ho; rw [hd'] at hd; cases hd
theorem Inv.funs (I : Inv X pins σ H s) : s.heap.FunFrames X.base X.outer := by
  have all : ∀ (l : List Env), (∀ b ∈ frs l, b ∈ X.fs) → X.s₀.heap.FunFrames X.base l → s.heap.FunFrames X.base l := by
    intro l
    induction l with
    | nil => intro _ _; trivial
    | cons env r ih =>
      intro hs hl
      obtain ⟨hk, ⟨L, o, hf, hn, ho, hd⟩, hr⟩ := hl
      have hL : L ∈ X.fs := hs L (by unfold frs; rw [List.filterMap_cons, hf]; exact List.mem_cons_self)
      obtain ⟨sl, e⟩ := I.base.slot L o ho (I.ok.frf L hL) hL fun z => I.ok.exfs L z hL
      exact ⟨hk, ⟨L, _, hf, hn, e, hd⟩, ih (fun b hb => hs b (by unfold frs; rw [List.filterMap_cons, hf]; exact List.mem_cons_of_mem _ hb)) hr⟩
  exact all X.outer (fun _ hb => hb) I.ok.funs

/-- the frames that run, for a call -/
theorem Inv.stack (I : Inv X pins σ H s) : s.heap.FunFrames X.base X.stack := by
  rcases I.ok.stk with e | ⟨e, hf⟩
  · rw [e]; exact I.funs
  · rw [e]
    obtain ⟨m, hn, _⟩ := I.loc
    refine .cons (by rw [I.ok.kind]; decide) hf hn ?_ I.funs
    exact Heap.get?_none_of_le (Nat.le_trans I.ok.bsz I.ok.above)
theorem Inv.stkSub (I : Inv X pins σ H s) : ∀ b ∈ frs X.stack, b ∈ X.env.locals :: X.fs := fun b hb => by
  rcases I.ok.stk with e | ⟨e, hf⟩
  · rw [e] at hb; exact List.mem_cons_of_mem _ hb
  · rw [e] at hb
    unfold frs at hb
    rw [List.filterMap_cons, hf] at hb
    exact hb
theorem Inv.stkFree (I : Inv X pins σ H s) : ∀ b ∈ frs X.stack, H b = none := fun b hb => by
  rcases List.mem_cons.mp (I.stkSub b hb) with e | hb
  · rw [e]; exact I.free
  · obtain ⟨_, o, ho, _⟩ := I.ok.funs.mem hb
    exact I.base.free b o ho (I.ok.frf b hb) fun z => I.ok.exfs b z hb

/-- THE STEP: the untracked objects but the frame and the records at ch are kept (the callers' frames up to slots), the frame's map is kept, the new abstract heap is held -/
theorem Inv.step {g' : Array GenState} {t' : Nat} {d' : Drawn} {ch : List Addr} (I : Inv X pins σ H s)
    (hch : ∀ b ∈ ch, (b ∈ X.ex ∨ X.s₀.heap.objs.size ≤ b) ∧ b ≠ X.env.locals ∧ (∀ x c, X.env.cells.lookup x = some c → c ≠ b) ∧ ∀ p ∈ X.pn ++ pins, p.1 ≠ b)
    (keep : ∀ b o, b ≠ X.env.locals → b ∉ X.fs → b ∉ ch → s.heap.get? b = some o → H b = none → h'.get? b = some o)
    (slot : ∀ b o, b ≠ X.env.locals → b ∈ X.fs → b ∉ ch → s.heap.get? b = some o → H b = none → ∃ sl, h'.get? b = some { o with slots := sl }) (free : ∀ b o, b ∉ ch → s.heap.get? b = some o → H b = none → H' b = none)
    (there : ∀ b o, b ∉ ch → s.heap.get? b = some o → ∃ o', h'.get? b = some o')
    (tups : ∀ b xs, H b = some (.tup xs) → H' b = some (.tup xs)) (frzs : ∀ b o u, H b = some (.frz o u) → H' b = some (.frz o u)) (tbls : ∀ b ps, H b = some (.tbl ps) → ∃ more, H' b = some (.tbl (ps ++ more)))
    (ns : ∀ m, s.heap.Ns X.env.locals m → h'.Ns X.env.locals m) (hok : HOk X.prog X.w H' h') (hg : AllBare g') :
    Inv X pins σ H' { s with heap := h', gens := g', drawn := d', toks := t' } := by
  have neL : ∀ b o, X.s₀.heap.get? b = some o → b ≠ X.env.locals := fun b o e => Nat.ne_of_lt (Nat.lt_of_lt_of_le (Heap.lt_size e) I.ok.above)
  have neC : ∀ b o, X.s₀.heap.get? b = some o → b ∉ X.ex → b ∉ ch := fun b o e hx hb => by
    rcases (hch b hb).1 with z | z
    · exact hx z
    · exact absurd (Nat.lt_of_lt_of_le (Heap.lt_size e) z) (Nat.lt_irrefl _)
  have cellK : ∀ x c, X.env.cells.lookup x = some c → ∀ v, s.heap.IsCell c v → h'.IsCell c v := fun x c e v ⟨o, ho, hd⟩ => by
    have nch : c ∉ ch := fun z => (hch c z).2.2.1 x c e rfl
    by_cases hc : c ∈ X.fs
    · obtain ⟨sl, q⟩ := slot c o (I.cne x c e) hc nch ho (I.freeC x c e)
      exact ⟨_, q, hd⟩
    · exact ⟨o, keep c o (I.cne x c e) hc nch ho (I.freeC x c e), hd⟩
  refine ⟨I.ok, I.os, hg, ⟨fun b o e n hb hx => ?_, fun b o e n hb hx => ?_, fun b o e n hx => ?_, fun b o e hx => ?_, fun b xs e => tups b xs (I.base.tups b xs e), fun b o xs e => frzs b o xs (I.base.frzs b o xs e), fun b ps e => ?_⟩, ?_, fun x c e => ?_, ?_, fun x c e => ?_, fun p hp => ?_, hok, I.len⟩
  · exact keep b o (neL b o e) hb (neC b o e hx) (I.base.keep b o e n hb hx) (I.base.free b o e n hx)
  · obtain ⟨sl, e1⟩ := I.base.slot b o e n hb hx
    obtain ⟨sl', e2⟩ := slot b _ (neL b o e) hb (neC b o e hx) e1 (I.base.free b o e n hx)
    exact ⟨sl', e2⟩
  · obtain ⟨o', e1⟩ := I.base.there b o e hx
    exact free b o' (neC b o e hx) e1 (I.base.free b o e n hx)
  · obtain ⟨o', e1⟩ := I.base.there b o e hx
    exact there b o' (neC b o e hx) e1
  · obtain ⟨m1, e1⟩ := I.base.tbls b ps e
    obtain ⟨m2, e2⟩ := tbls b _ e1
    exact ⟨m1 ++ m2, by rw [e2, Array.append_assoc]⟩
  · obtain ⟨m, hn, hl⟩ := I.loc
    refine ⟨m, ns m hn, fun i x v e1 e2 e3 => ?_⟩
    obtain ⟨u, r, l⟩ := hl i x v e1 e2 e3
    refine ⟨u, r, ?_⟩
    rcases l with l | ⟨k, c, e, z⟩
    · exact .inl l
    · exact .inr ⟨k, c, e, cellK x c e _ z⟩
  · obtain ⟨v, z⟩ := I.cell x c e
    exact ⟨v, cellK x c e v z⟩
  · obtain ⟨m, ⟨o, _, _, ho, _⟩, _⟩ := I.loc
    exact free _ o (fun z => (hch _ z).2.1 rfl) ho I.free
  · obtain ⟨v, o, ho, hd⟩ := I.cell x c e
    exact free c o (fun z => (hch c z).2.2.1 x c e rfl) ho (I.freeC x c e)
  · obtain ⟨e, n, ne, nf, d⟩ := I.pin p hp
    have nch : p.1 ∉ ch := fun z => (hch p.1 z).2.2.2 p hp rfl
    exact ⟨keep p.1 p.2 ne nf nch e n, free p.1 p.2 nch e n, ne, nf, d⟩
/-- .. where the frame's own object is kept too -/
theorem Inv.un {t' : Nat} (I : Inv X pins σ H s) (u : Un X.fs [] H H' s.heap h') (hok : HOk X.prog X.w H' h') : Inv X pins σ H' { s with heap := h', toks := t' } := by
  obtain ⟨m, ⟨o, es, ep, ho, r⟩, _⟩ := id I.loc
  obtain ⟨sl, hL⟩ := u.any ho I.free (by simp)
  exact I.step (g' := s.gens) (d' := s.drawn) (ch := []) (fun _ z => nomatch z) (fun b o _ hb _ e n => u.keep b o e n hb (by simp)) (fun b o _ hb _ e n => u.slot b o e n hb (by simp)) (fun b o _ e n => u.free b o e n (by simp)) (fun b o _ e => u.there b o e (by simp)) u.tups u.frzs u.tbls (fun m' hm => by
    obtain ⟨o', es', ep', ho', r'⟩ := hm
    rw [ho] at ho'; cases ho'
    exact ⟨_, es', ep', hL, r'⟩) hok I.bare
/-- behind a call (or a comprehension's block): the slots of this frame may have changed too, the records at ch may have turned -/
theorem Inv.call {g' : Array GenState} {t' : Nat} {d' : Drawn} {ch : List Addr} (I : Inv X pins σ H s) (u : Un (frs X.stack) ch H H' s.heap h') (hok : HOk X.prog X.w H' h') (hg : AllBare g')
    (hch : ∀ b ∈ ch, (b ∈ X.ex ∨ X.s₀.heap.objs.size ≤ b) ∧ b ≠ X.env.locals ∧ (∀ x c, X.env.cells.lookup x = some c → c ≠ b) ∧ ∀ p ∈ X.pn ++ pins, p.1 ≠ b) :
    Inv X pins σ H' { s with heap := h', gens := g', drawn := d', toks := t' } := by
  obtain ⟨m, ⟨o, es, ep, ho, r⟩, _⟩ := id I.loc
  obtain ⟨sl, hL⟩ := u.any ho I.free fun z => (hch _ z).2.1 rfl
  exact I.step (ch := ch) hch (fun b o hL hb hc e n => u.keep b o e n (fun z => (List.mem_cons.mp (I.stkSub b z)).elim hL hb) hc) (fun b o _ _ hc e n => u.any e n hc) (fun b o hc e n => u.free b o e n hc) (fun b o hc e => u.there b o e hc) u.tups u.frzs u.tbls (fun m' hm => by
    obtain ⟨o', es', ep', ho', r'⟩ := hm
    rw [ho] at ho'; cases ho'
    exact ⟨_, es', ep', hL, r'⟩) hok hg
/-- an untracked record of ours (an iterator) has turned -/
theorem Inv.turned {t' : Nat} {it : Addr} (I : Inv X pins σ H s) (k : ∀ b o, b ≠ it → s.heap.get? b = some o → h'.get? b = some o) (hn : H it = none) (hL : it ≠ X.env.locals)
    (h1 : it ∈ X.ex ∨ X.s₀.heap.objs.size ≤ it) (h2 : ∀ x c, X.env.cells.lookup x = some c → c ≠ it) (h3 : ∀ p ∈ X.pn ++ pins, p.1 ≠ it) : Inv X pins σ H { s with heap := h', toks := t' } := by
  have nit : ∀ b u, H b = some u → b ≠ it := fun b u e z => by rw [z, hn] at e; cases e
  refine I.step (g' := s.gens) (d' := s.drawn) (ch := [it]) (fun b hb => ?_) (fun b o _ _ hc e _ => k b o (fun z => hc (by simp [z])) e) (fun b o _ _ hc e _ => ⟨o.slots, k b o (fun z => hc (by simp [z])) e⟩) (fun _ _ _ _ n => n)
    (fun b o hc e => ⟨o, k b o (fun z => hc (by simp [z])) e⟩) (fun _ _ e => e) (fun _ _ _ e => e) (fun b ps e => ⟨#[], by rw [e]; simp⟩) (fun m hm => ?_) (fun b u e => ?_) I.bare
  · have e : b = it := by simpa using hb
    subst e
    exact ⟨h1, hL, h2, h3⟩
  · obtain ⟨o, es, ep, ho, r⟩ := hm
    exact ⟨o, es, ep, k _ o (Ne.symm hL) ho, r⟩
  · refine (I.hok b u e).stay (fun c v hc q => k c v ?_ q) (fun _ q => q) fun _ _ q => q
    rcases hc with z | z
    · rw [z]; exact nit b u e
    · exact nit c _ z
theorem Inv.tok (I : Inv X pins σ H s) (t : Nat) : Inv X pins σ H { s with toks := t } := I.un (h' := s.heap) (t' := t) Un.refl I.hok
/-- all objects kept -/
theorem Inv.kept {t' : Nat} (I : Inv X pins σ H s) (k : ∀ b u, s.heap.get? b = some u → h'.get? b = some u) : Inv X pins σ H { s with heap := h', toks := t' } := I.un (Un.kept k) (I.hok.kept k)
/-- a new object laid and tracked -/
theorem Inv.laid {a : Addr} {o : HO} {t' : Nat} (I : Inv X pins σ H s) (k : ∀ b u, s.heap.get? b = some u → h'.get? b = some u) (hp : s.heap.objs.size ≤ a) (new : ObjOk X.prog X.w (upd H a o) h' a o) :
    Inv X pins σ (upd H a o) { s with heap := h', toks := t' } := I.un (Un.laid k hp (I.hok.fresh hp)) (I.hok.laid k hp new)
/-- an object written -/
theorem Inv.write {x e : Addr} {o : HO} {t' : Nat} (I : Inv X pins σ H s) (mu : Mut (H x)) (he : e = x ∨ H e = some (.own x)) (k : ∀ b u, b ≠ e → s.heap.get? b = some u → h'.get? b = some u) (heo : ∃ u, h'.get? e = some u)
    (new : ObjOk X.prog X.w (upd H x o) h' x o) : Inv X pins σ (upd H x o) { s with heap := h', toks := t' } := I.un (Un.write mu he k heo) (I.hok.write mu he k heo new)
/-- forgetting slots, pins -/
theorem Inv.weak {σ' : List (Option V)} (I : Inv X pins σ H s) (hl : σ'.length = σ.length) (w : ∀ (i : Nat) v, σ'[i]? = some (some v) → σ[i]? = some (some v)) : Inv X pins σ' H s :=
  ⟨I.ok, I.os, I.bare, I.base, let ⟨m, hn, hl'⟩ := I.loc; ⟨m, hn, fun i x v e1 e2 e3 => hl' i x v e1 (w i v e2) e3⟩, I.cell, I.free, I.freeC, I.pin, I.hok, hl.trans I.len⟩
theorem Inv.pins_of {pins' : List (Addr × Obj)} (I : Inv X pins σ H s) (h : ∀ p ∈ pins', s.heap.get? p.1 = some p.2 ∧ H p.1 = none ∧ p.1 ≠ X.env.locals ∧ p.1 ∉ X.fs ∧ ∀ v, p.2.data ≠ .cell v) : Inv X pins' σ H s :=
  ⟨I.ok, I.os, I.bare, I.base, I.loc, I.cell, I.free, I.freeC, fun p hp => (List.mem_append.mp hp).elim (fun z => I.pin p (List.mem_append_left _ z)) (h p), I.hok, I.len⟩

theorem nodup_ix {N : List Str} (hN : N.Nodup) {i j : Nat} {x : Str} (a : N[i]? = some x) (b : N[j]? = some x) : i = j := by
  obtain ⟨h1, e1⟩ := List.getElem?_eq_some_iff.mp a
  obtain ⟨h2, e2⟩ := List.getElem?_eq_some_iff.mp b
  exact (List.getElem_inj hN).mp (e1.trans e2.symm)

/-- a name is stored; what changed -/
theorem store_ok2 {M : Model} {A : Around} {E : Value → Shared → Prop} {i : Nat} {x : Str} {v : V} {u : Value} {Q : Unit → Shared → Prop} (I : Inv X pins σ H s) (hN : X.N.Nodup) (hi : X.N[i]? = some x) (hx : Loc X.env.scope x) (r : RelV v u)
    (h : ∀ s', Inv X pins (σ.set i (some v)) H s' → (∃ a, Heap.SameBut a s.heap s'.heap ∧ (a = X.env.locals ∨ X.env.cells.lookup x = some a)) → Q () s') (hf : X.fn x = true ∨ X.env.scope.names.lookup x = some .local := by first | exact .inl rfl | exact .inr rfl | assumption) : wpAny M A (storeName X.env x u) Q E s := by
  obtain ⟨m, hn, hl⟩ := id I.loc
  have hcls : (X.env.scope.kind == .class || (X.env.scope.kind == .module && X.env.locals != X.env.globals)) = false := by rw [I.ok.kind]; rfl
  have hiσ : i < σ.length := by rw [I.len]; exact (List.getElem?_eq_some_iff.mp hi).1
  have cne := I.cne
  have tracked : ∀ {a : Addr} {h' : Heap}, (∃ o, s.heap.get? a = some o ∧ H a = none) → Heap.SameBut a s.heap h' → HOk X.prog X.w H h' := fun {a h'} ha hs b ob e => by
    obtain ⟨_, _, hfree⟩ := ha
    refine (I.hok b ob e).stay (fun c w' hc q => (hs.2 c ?_).trans q) (fun _ q => q) fun _ _ q => q
    rintro rfl
    rcases hc with rfl | hc
    · rw [hfree] at e; cases e
    · rw [hfree] at hc; cases hc
  rcases hx with hk | hk
  · refine wpAny_storeName_local hk hn (fun h' hn' hs => ?_) hcls
    obtain ⟨oL, _, _, hoL, _⟩ := id hn
    refine h _ ⟨I.ok, I.os, I.bare, ⟨fun b o e n hb hx => ?_, fun b o e n hb hx => ?_, I.base.free, fun b o e hx => ?_, I.base.tups, I.base.frzs, I.base.tbls⟩, ⟨_, hn', fun j y v' e1 e2 e3 => ?_⟩, fun y c e => ?_, I.free, I.freeC, fun p hp => ?_, tracked ⟨oL, hoL, I.free⟩ hs, by simpa using I.len⟩ ⟨_, hs, .inl rfl⟩
    · exact (hs.2 b (Nat.ne_of_lt (Nat.lt_of_lt_of_le (Heap.lt_size e) I.ok.above))).trans (I.base.keep b o e n hb hx)
    · obtain ⟨sl, e1⟩ := I.base.slot b o e n hb hx
      exact ⟨sl, (hs.2 b (Nat.ne_of_lt (Nat.lt_of_lt_of_le (Heap.lt_size e) I.ok.above))).trans e1⟩
    · obtain ⟨o', e1⟩ := I.base.there b o e hx
      exact ⟨o', (hs.2 b (Nat.ne_of_lt (Nat.lt_of_lt_of_le (Heap.lt_size e) I.ok.above))).trans e1⟩
    · by_cases hj : j = i
      · subst hj
        rw [hi] at e1; cases e1
        rw [List.getElem?_set_self hiσ] at e2
        cases e2
        exact ⟨u, r, .inl ⟨hk, by simp⟩⟩
      · rw [List.getElem?_set_ne (Ne.symm hj)] at e2
        obtain ⟨u', r', q⟩ := hl j y v' e1 e2 e3
        refine ⟨u', r', ?_⟩
        rcases q with ⟨k, e⟩ | ⟨k, c, e, z⟩
        · refine .inl ⟨k, ?_⟩
          have : y ≠ x := fun e => hj (nodup_ix hN e1 (e ▸ hi))
          simp [this, e]
        · exact .inr ⟨k, c, e, z.sameBut hs (cne y c e)⟩
    · obtain ⟨w', z⟩ := I.cell y c e
      exact ⟨w', z.sameBut hs (cne y c e)⟩
    · obtain ⟨e, n, ne, nf, d⟩ := I.pin p hp
      exact ⟨(hs.2 p.1 ne).trans e, n, ne, nf, d⟩
  · have hfn : X.fn x = true := by
      rcases hf with z | z
      · exact z
      · rw [z] at hk; cases hk
    obtain ⟨c, hc⟩ := I.ok.has x (.inl hk)
    obtain ⟨w', z⟩ := I.cell x c hc
    refine wpAny_storeName_cell I.ok.kind hk hc z (fun h' hc' hs => ?_)
    obtain ⟨oc, hoc, hocd⟩ := id z
    refine h { s with heap := h' } ⟨I.ok, I.os, I.bare, ⟨fun b o e n hb hx => ?_, fun b o e n hb hx => ?_, I.base.free, fun b o e hx => ?_, I.base.tups, I.base.frzs, I.base.tbls⟩, ⟨m, hn.sameBut hs (Ne.symm (cne x c hc)), fun j y v' e1 e2 e3 => ?_⟩, fun y c' e => ?_, I.free, I.freeC, fun p hp => ?_, tracked ⟨oc, hoc, I.freeC x c hc⟩ hs, by simpa using I.len⟩ ⟨c, hs, .inr hc⟩
    · exact (hs.2 b (Nat.ne_of_lt (Nat.lt_of_lt_of_le (Heap.lt_size e) (I.ok.cab x c hfn hc)))).trans (I.base.keep b o e n hb hx)
    · obtain ⟨sl, e1⟩ := I.base.slot b o e n hb hx
      exact ⟨sl, (hs.2 b (Nat.ne_of_lt (Nat.lt_of_lt_of_le (Heap.lt_size e) (I.ok.cab x c hfn hc)))).trans e1⟩
    · obtain ⟨o', e1⟩ := I.base.there b o e hx
      exact ⟨o', (hs.2 b (Nat.ne_of_lt (Nat.lt_of_lt_of_le (Heap.lt_size e) (I.ok.cab x c hfn hc)))).trans e1⟩
    · by_cases hj : j = i
      · subst hj
        rw [hi] at e1; cases e1
        rw [List.getElem?_set_self hiσ] at e2
        cases e2
        exact ⟨u, r, .inr ⟨.inl hk, c, hc, hc'⟩⟩
      · rw [List.getElem?_set_ne (Ne.symm hj)] at e2
        obtain ⟨u', r', q⟩ := hl j y v' e1 e2 e3
        refine ⟨u', r', ?_⟩
        rcases q with q | ⟨k, c', e, z'⟩
        · exact .inl q
        · refine .inr ⟨k, c', e, z'.sameBut hs ?_⟩
          rintro rfl
          exact hj (nodup_ix hN e1 (I.ok.inj _ _ _ e hc ▸ hi))
    · by_cases hcc : c' = c
      · subst hcc; exact ⟨_, hc'⟩
      · obtain ⟨w2, z2⟩ := I.cell y c' e
        exact ⟨w2, z2.sameBut hs hcc⟩
    · obtain ⟨e, n, ne, nf, d⟩ := I.pin p hp
      refine ⟨(hs.2 p.1 ?_).trans e, n, ne, nf, d⟩
      intro q
      rw [q, hoc] at e
      have q' : oc = p.2 := Option.some.inj e
      exact d w' (by rw [← q']; exact hocd)
theorem store_ok {M : Model} {A : Around} {E : Value → Shared → Prop} {i : Nat} {x : Str} {v : V} {u : Value} {Q : Unit → Shared → Prop} (I : Inv X pins σ H s) (hN : X.N.Nodup) (hi : X.N[i]? = some x) (hx : Loc X.env.scope x) (r : RelV v u)
    (h : ∀ s', Inv X pins (σ.set i (some v)) H s' → Q () s') (hf : X.fn x = true ∨ X.env.scope.names.lookup x = some .local := by first | exact .inl rfl | exact .inr rfl | assumption) : wpAny M A (storeName X.env x u) Q E s :=
  store_ok2 I hN hi hx r (fun s' I' _ => h s' I') hf
/-- behind a call or a block, the state as it is -/
theorem Inv.call' {s' : Shared} {ch : List Addr} (I : Inv X pins σ H s) (ho : s'.os = s.os) (u : Un (frs X.stack) ch H H' s.heap s'.heap) (hok : HOk X.prog X.w H' s'.heap) (hg : AllBare s'.gens)
    (hch : ∀ b ∈ ch, (b ∈ X.ex ∨ X.s₀.heap.objs.size ≤ b) ∧ b ≠ X.env.locals ∧ (∀ x c, X.env.cells.lookup x = some c → c ≠ b) ∧ ∀ p ∈ X.pn ++ pins, p.1 ≠ b) : Inv X pins σ H' s' := by
  obtain ⟨h', g', d', t', o'⟩ := s'
  have e : o' = s.os := ho
  subst e
  exact I.call (g' := g') (t' := t') (d' := d') u hok hg hch
end

/-! ### the judgements -/
/-- an exception: its class, its own dict's address (where it has one), the abstract heap behind it -/
abbrev XK := Value → Option Addr → Hp → Prop
abbrev St := List (Option V)
abbrev VK := V → Hp → Prop
/-- an expression's reading; a test's; an argument list's -/
abbrev TE := St → Hp → VK → Prop
abbrev TT := St → Hp → (Bool → Hp → Prop) → Prop
abbrev TA := St → Hp → (List V → Hp → Prop) → Prop
/-- what is wanted behind a statement -/
structure Ends where
  nx : St → Hp → Prop
  rt : VK
  bk : St → Hp → Prop := fun _ _ => False
  ct : St → Hp → Prop := fun _ _ => False
abbrev TS := Ends → St → Hp → Prop

def EP (X : Cx) (pins : List (Addr × Obj)) (σ : St) (Q : VK) (u : Value) (s' : Shared) : Prop := ∃ v H', Inv X pins σ H' s' ∧ RelV v u ∧ Q v H'
def TP (X : Cx) (pins : List (Addr × Obj)) (σ : St) (Q : Bool → Hp → Prop) (b : Bool) (s' : Shared) : Prop := ∃ H', Inv X pins σ H' s' ∧ Q b H'
def AP (X : Cx) (pins : List (Addr × Obj)) (σ : St) (Q : List V → Hp → Prop) (us : List Value) (s' : Shared) : Prop := ∃ vs H', Inv X pins σ H' s' ∧ Vals vs us ∧ Q vs H'
def SP (X : Cx) (pins : List (Addr × Obj)) (D : Ends) (f : Flow) (s' : Shared) : Prop :=
  match f with
  | .next => ∃ σ' H', Inv X pins σ' H' s' ∧ D.nx σ' H'
  | .brk => ∃ σ' H', Inv X pins σ' H' s' ∧ D.bk σ' H'
  | .cont => ∃ σ' H', Inv X pins σ' H' s' ∧ D.ct σ' H'
  | .ret u => ∃ v σ' H', Inv X pins σ' H' s' ∧ RelV v u ∧ D.rt v H'

def PE (X : Cx) (e : Expr) (t : TE) : Prop :=
  ∀ (pins : List (Addr × Obj)) (s : Shared) (σ : St) (H : Hp) (Q : VK), Inv X pins σ H s → t σ H Q → wpAny (model X.prog X.w) X.A (eval e X.env) (EP X pins σ Q) X.xe s
def PT (X : Cx) (e : Expr) (t : TT) : Prop :=
  ∀ (pins : List (Addr × Obj)) (s : Shared) (σ : St) (H : Hp) (Q : Bool → Hp → Prop), Inv X pins σ H s → t σ H Q → wpAny (model X.prog X.w) X.A (isTrue e X.env (eval e X.env)) (TP X pins σ Q) X.xe s
/-- a test whatever its 'whole' is (and, or) -/
def PW (X : Cx) (e : Expr) (t : TT) : Prop :=
  ∀ (whole : Sem Value) (pins : List (Addr × Obj)) (s : Shared) (σ : St) (H : Hp) (Q : Bool → Hp → Prop), Inv X pins σ H s → t σ H Q → wpAny (model X.prog X.w) X.A (isTrue e X.env whole) (TP X pins σ Q) X.xe s
theorem PW.pt {X : Cx} {e : Expr} {t : TT} (h : PW X e t) : PT X e t := h _
/-- an argument list (no star), from the left -/
def PA (X : Cx) (es : List Expr) (t : TA) : Prop :=
  ∀ (pos : Pos) (pins : List (Addr × Obj)) (s : Shared) (σ : St) (H : Hp) (Q : List V → Hp → Prop), Inv X pins σ H s → t σ H Q → wpAny (model X.prog X.w) X.A (spliced (backTo pos (starEach es X.env))) (AP X pins σ Q) X.xe s
def PS (X : Cx) (st : Stmt) (t : TS) : Prop :=
  ∀ (pins : List (Addr × Obj)) (s : Shared) (σ : St) (H : Hp) (D : Ends), Inv X pins σ H s → t D σ H → wpAny (model X.prog X.w) X.A (exec st X.env) (SP X pins D) X.xe s
def PSs (X : Cx) (st : List Stmt) (t : TS) : Prop :=
  ∀ (pins : List (Addr × Obj)) (s : Shared) (σ : St) (H : Hp) (D : Ends), Inv X pins σ H s → t D σ H → wpAny (model X.prog X.w) X.A (execs st X.env) (SP X pins D) X.xe s
/-- weaken the end -/
theorem thn {α : Type} {t : Sem α} {Q Q' : α → Shared → Prop} {M : Model} {A : Around} {E : Value → Shared → Prop} {s : Shared} (h : wpAny M A t Q E s) (hQ : ∀ a s, Q a s → Q' a s) : wpAny M A t Q' E s := wpAny_mono h hQ fun _ _ x => x
end L2

namespace L2
open PySem PySem.Spec PyProof.Rows
section
variable {X : Cx}

/-- two expressions in a row -/
theorem bin {a b : Expr} {ta tb : TE} (ha : PE X a ta) (hb : PE X b tb) {pins : List (Addr × Obj)} {s : Shared} {σ : St} {H : Hp} {R : V → V → Hp → Prop} (I : Inv X pins σ H s) (h : ta σ H fun x H1 => tb σ H1 fun y H2 => R x y H2)
    {α : Type} {Q : α → Shared → Prop} {f : Value → Value → Sem α}
    (hf : ∀ v u s2 x y H2, Inv X pins σ H2 s2 → RelV x v → RelV y u → R x y H2 → wpAny (model X.prog X.w) X.A (f v u) Q X.xe s2) :
    wpAny (model X.prog X.w) X.A (eval a X.env) (fun v s₁ => wpAny (model X.prog X.w) X.A (eval b X.env) (fun u s₂ => wpAny (model X.prog X.w) X.A (f v u) Q X.xe s₂) X.xe s₁) X.xe s := by
  refine thn (ha pins s σ H _ I h) fun v s1 ⟨x, H1, I1, r1, q1⟩ => ?_
  refine thn (hb pins s1 σ H1 _ I1 q1) fun u s2 ⟨y, H2, I2, r2, q2⟩ => ?_
  exact hf v u s2 x y H2 I2 r1 r2 q2

/-! ### names and constants -/
def tVar (i : Nat) : TE := fun σ H Q => ∃ v, σ[i]? = some (some v) ∧ Q v H
def tC (v : V) : TE := fun _ H Q => Q v H
theorem pe_var {i : Nat} {x : Str} {pos : Pos} (hN : X.N[i]? = some x) (hv : Vis X.env.scope x) (hd : (x == ("__debug__" : Str)) = false := by decide) (hcd : (x == ("__classdict__" : Str)) = false := by decide) : PE X (.Name x pos) (tVar i) := by
  intro pins s σ H Q I h
  obtain ⟨v, e, h⟩ := h
  obtain ⟨m, hn, hl⟩ := I.loc
  obtain ⟨u, r, l⟩ := hl i x v hN e hv
  have fin : EP X pins σ Q u s := ⟨v, H, I, r, h⟩
  rcases l with ⟨hk, hm⟩ | ⟨hk, c, hc, hcell⟩
  · exact wpAny_Name (wpAny_loadName_local I.ok.kind hk hn hm fin) hd
  · rcases hk with hk | hk
    · exact wpAny_Name (wpAny_loadName_cell I.ok.kind hk hc hcell fin) hd
    · exact wpAny_Name (wpAny_loadName_free I.ok.kind hk hc hcell fin hcd) hd
theorem pe_int {i j pos} : PE X (.Constant (.int i) j pos) (tC (.int i)) := fun _ _ _ H _ I h => wpAny_Constant_int ⟨.int i, H, I.tok _, ⟨_, rfl⟩, h⟩
theorem pe_bl {b j pos} : PE X (.Constant (.bool b) j pos) (tC (.bl b)) := fun _ _ _ H _ I h => Constant_bool ⟨.bl b, H, I, rfl, h⟩
theorem pe_non {j pos} : PE X (.Constant .none j pos) (tC .non) := fun _ _ _ H _ I h => Constant_none ⟨.non, H, I, rfl, h⟩
theorem pe_str {x j pos} : PE X (.Constant (.str x) j pos) (tC (.str x)) := fun _ _ _ H _ I h => Calls.Constant_str ⟨.str x, H, I.tok _, ⟨_, rfl⟩, h⟩

/-- a global name of the def -/
def Gl (X : Cx) (x : Str) : Prop := X.env.kindOf x = some .globalImplicit
theorem ld_glob {E : Value → Shared → Prop} {pins : List (Addr × Obj)} {s : Shared} {σ : St} {H : Hp} {x : Str} {u : Value} {pos : Pos} {Q : Value → Shared → Prop} (I : Inv X pins σ H s) (hg : Gl X x) (hm : X.mg x = some u) (h : Q u s)
    (hd : (x == ("__debug__" : Str)) = false := by decide) : wpAny (model X.prog X.w) X.A (eval (.Name x pos) X.env) Q E s :=
  Calls.Name_function_global I.ok.kind hg (Calls.loadGlobal_global (by rw [I.ok.glob]; exact I.mod.glob.keeps I.bk) hm h) hd
theorem ld_blt {E : Value → Shared → Prop} {pins : List (Addr × Obj)} {s : Shared} {σ : St} {H : Hp} {x : Str} {u : Value} {pos : Pos} {Q : Value → Shared → Prop} (I : Inv X pins σ H s) (hg : Gl X x) (hm : X.mg x = none) (hv : bootBuiltins x = some u) (h : Q u s)
    (hn : x ≠ "__name__" := by decide) (hd : (x == ("__debug__" : Str)) = false := by decide) : wpAny (model X.prog X.w) X.A (eval (.Name x pos) X.env) Q E s := by
  obtain ⟨mb, h1, h2⟩ := I.mod.blt
  exact Calls.Name_function_global I.ok.kind hg (Calls.loadGlobal_builtin (by rw [I.ok.glob]; exact I.mod.glob.keeps I.bk) hm (by rw [I.ok.blt]; exact h1.keeps I.bk) ((h2 x hn).trans hv) h) hd
/-- a module's constant, a class, a function, as a value -/
theorem pe_glob {x : Str} {v : V} {u : Value} {pos : Pos} (hg : Gl X x) (hm : X.mg x = some u) (r : RelV v u) (hd : (x == ("__debug__" : Str)) = false := by decide) : PE X (.Name x pos) (tC v) :=
  fun _ _ _ H _ I h => ld_glob I hg hm ⟨v, H, I, r, h⟩ hd
theorem pe_bltn {x : Str} {v : V} {u : Value} {pos : Pos} (hg : Gl X x) (hm : X.mg x = none) (hv : bootBuiltins x = some u) (r : RelV v u) (hn : x ≠ "__name__" := by decide) (hd : (x == ("__debug__" : Str)) = false := by decide) : PE X (.Name x pos) (tC v) :=
  fun _ _ _ H _ I h => ld_blt I hg hm hv ⟨v, H, I, r, h⟩ hn hd

/-! ### arithmetic -/
/-- two ints -/
def t2I (ta tb : TE) (k : Int → Int → Hp → Prop) : St → Hp → Prop := fun σ H => ta σ H fun x H1 => tb σ H1 fun y H2 => ∃ i j, x = .int i ∧ y = .int j ∧ k i j H2
def tAdd (ta tb : TE) : TE := fun σ H Q => t2I ta tb (fun i j H2 => Q (.int (i + j)) H2) σ H
def tSub (ta tb : TE) : TE := fun σ H Q => t2I ta tb (fun i j H2 => Q (.int (i - j)) H2) σ H
/-- the left factor below 2^64 -/
def tMul (ta tb : TE) : TE := fun σ H Q => t2I ta tb (fun i j H2 => (-(2 ^ 64) < i ∧ i < 2 ^ 64) ∧ Q (.int (i * j)) H2) σ H
variable {a b : Expr} {ta tb : TE} {pos : Pos}
theorem pe_add (ha : PE X a ta) (hb : PE X b tb) : PE X (.BinOp a .Add b pos) (tAdd ta tb) := by
  intro pins s σ H Q I h
  refine wpAny_BinOp (bin ha hb I h fun v u s2 x y H2 I2 rx ry q => ?_)
  obtain ⟨i, j, rfl, rfl, q⟩ := q
  obtain ⟨t, rfl⟩ := rx
  obtain ⟨t', rfl⟩ := ry
  exact add_int ⟨.int _, H2, I2.tok _, ⟨_, rfl⟩, q⟩
theorem pe_sub (ha : PE X a ta) (hb : PE X b tb) : PE X (.BinOp a .Sub b pos) (tSub ta tb) := by
  intro pins s σ H Q I h
  refine wpAny_BinOp (bin ha hb I h fun v u s2 x y H2 I2 rx ry q => ?_)
  obtain ⟨i, j, rfl, rfl, q⟩ := q
  obtain ⟨t, rfl⟩ := rx
  obtain ⟨t', rfl⟩ := ry
  exact sub_int ⟨.int _, H2, I2.tok _, ⟨_, rfl⟩, q⟩
theorem pe_mul (ha : PE X a ta) (hb : PE X b tb) : PE X (.BinOp a .Mult b pos) (tMul ta tb) := by
  intro pins s σ H Q I h
  refine wpAny_BinOp (bin ha hb I h fun v u s2 x y H2 I2 rx ry q => ?_)
  obtain ⟨i, j, rfl, rfl, ⟨q1, q2⟩, q⟩ := q
  obtain ⟨t, rfl⟩ := rx
  obtain ⟨t', rfl⟩ := ry
  exact mul_int ⟨.int _, H2, I2.tok _, ⟨_, rfl⟩, q⟩ (.of_left (intBits_le_64 q1 q2))

/-! ### comparisons -/
def PC (X : Cx) (op : CmpOp) (a b : Expr) (t : TE) : Prop :=
  ∀ (pins : List (Addr × Obj)) (s : Shared) (σ : St) (H : Hp) (Q : VK), Inv X pins σ H s → t σ H Q →
    wpAny (model X.prog X.w) X.A (eval a X.env) (fun v s₁ => wpAny (model X.prog X.w) X.A (eval b X.env) (fun u s₂ => wpAny (model X.prog X.w) X.A (compareOp op v u) (EP X pins σ Q) X.xe s₂) X.xe s₁) X.xe s
theorem nobehind (b : Expr) {op : CmpOp} (h : op ≠ .In) (h2 : op ≠ .NotIn) : behindInMarks op b = false := by
  have e1 : (op == CmpOp.In) = false := by cases op <;> first | rfl | exact absurd rfl h
  have e2 : (op == CmpOp.NotIn) = false := by cases op <;> first | rfl | exact absurd rfl h2
  cases b <;> simp [behindInMarks, e1, e2]
def tCmp (p : Int → Int → Bool) (ta tb : TE) : TE := fun σ H Q => t2I ta tb (fun i j H2 => Q (.bl (p i j)) H2) σ H
abbrev tLt : TE → TE → TE := tCmp fun i j => decide (i < j)
abbrev tLe : TE → TE → TE := tCmp fun i j => decide (i ≤ j)
abbrev tGt : TE → TE → TE := tCmp fun i j => decide (j < i)
abbrev tGe : TE → TE → TE := tCmp fun i j => decide (j ≤ i)
abbrev tEqI : TE → TE → TE := tCmp fun i j => decide (i = j)
abbrev tNeI : TE → TE → TE := tCmp fun i j => !decide (i = j)
/-- a comparison of two ints, by its rule -/
theorem pc_int {op : CmpOp} {p : Int → Int → Bool} (ha : PE X a ta) (hb : PE X b tb)
    (rule : ∀ (i j : Int) (t u : Tok) (Q : Value → Shared → Prop) (s : Shared), Q (.bool (p i j)) s → wpAny (model X.prog X.w) X.A (compareOp op (.int i t) (.int j u)) Q X.xe s) : PC X op a b (tCmp p ta tb) := by
  intro pins s σ H Q I h
  refine bin ha hb I h fun v u s2 x y H2 I2 rx ry q => ?_
  obtain ⟨i, j, rfl, rfl, q⟩ := q
  obtain ⟨t, rfl⟩ := rx
  obtain ⟨t', rfl⟩ := ry
  exact rule i j t t' _ s2 ⟨.bl _, H2, I2, rfl, q⟩
theorem pc_lt (ha : PE X a ta) (hb : PE X b tb) : PC X .Lt a b (tLt ta tb) := pc_int ha hb fun _ _ _ _ _ _ h => lt_int h
theorem pc_le (ha : PE X a ta) (hb : PE X b tb) : PC X .LtE a b (tLe ta tb) := pc_int ha hb fun _ _ _ _ _ _ h => le_int h
theorem pc_gt (ha : PE X a ta) (hb : PE X b tb) : PC X .Gt a b (tGt ta tb) := pc_int ha hb fun _ _ _ _ _ _ h => gt_int h
theorem pc_ge (ha : PE X a ta) (hb : PE X b tb) : PC X .GtE a b (tGe ta tb) := pc_int ha hb fun _ _ _ _ _ _ h => ge_int h
theorem pc_eqI (ha : PE X a ta) (hb : PE X b tb) : PC X .Eq a b (tEqI ta tb) := pc_int ha hb fun _ _ _ _ _ _ h => eq_int (by rw [Bool.beq_eq_decide_eq]; exact h)
theorem pc_neI (ha : PE X a ta) (hb : PE X b tb) : PC X .NotEq a b (tNeI ta tb) := pc_int ha hb fun _ _ _ _ _ _ h => ne_int (by rw [bne, Bool.beq_eq_decide_eq]; exact h)
/-- is None -/
def tIsN (ta : TE) : TE := fun σ H Q => ta σ H fun x H1 => Q (.bl (decide (x = .non))) H1
def tNotN (ta : TE) : TE := fun σ H Q => ta σ H fun x H1 => Q (.bl (!decide (x = .non))) H1
theorem RelV.none_iff {x : V} {v : Value} (r : RelV x v) : (v == Value.none) = decide (x = .non) := by
  cases x with
  | non => cases r; rfl
  | bl _ => cases r; rfl
  | int _ => obtain ⟨t, rfl⟩ := r; rfl
  | str _ => obtain ⟨t, rfl⟩ := r; rfl
  | byt _ => obtain ⟨t, rfl⟩ := r; rfl
  | flt _ => obtain ⟨t, rfl⟩ := r; rfl
  | ref _ => cases r; rfl
  | ty _ => cases r; rfl
theorem pc_isN {j pos'} (ha : PE X a ta) : PC X .Is a (.Constant .none j pos') (tIsN ta) := by
  intro pins s σ H Q I h
  refine thn (ha pins s σ H _ I h) fun v s1 ⟨x, H1, I1, r1, q1⟩ => ?_
  exact Constant_none (is_none_gen ⟨.bl _, H1, I1, by rw [r1.none_iff]; rfl, q1⟩)
theorem pc_notN {j pos'} (ha : PE X a ta) : PC X .IsNot a (.Constant .none j pos') (tNotN ta) := by
  intro pins s σ H Q I h
  refine thn (ha pins s σ H _ I h) fun v s1 ⟨x, H1, I1, r1, q1⟩ => ?_
  exact Constant_none (isnot_none_gen ⟨.bl _, H1, I1, by rw [r1.none_iff]; rfl, q1⟩)
/-- a comparison as a value, as a test -/
def tB (t : TE) : TT := fun σ H Q => t σ H fun x H1 => ∃ c, x = .bl c ∧ Q c H1
theorem pe_cmp {op : CmpOp} {t : TE} (h : PC X op a b t) (h1 : behindInMarks op b = false := by first | exact nobehind _ (by decide) (by decide) | rfl) : PE X (.Compare a [op] [b] pos) t := fun pins s σ H Q I hw => wpAny_Compare1 (h pins s σ H Q I hw) h1
theorem pt_cmp {op : CmpOp} {t : TE} (h : PC X op a b t) (h1 : behindInMarks op b = false := by first | exact nobehind _ (by decide) (by decide) | rfl) : PT X (.Compare a [op] [b] pos) (tB t) := by
  intro pins s σ H Q I hw
  refine wpAny_isTrue_Compare1 (thn (h pins s σ H _ I hw) fun v s1 h1 => thn h1 fun u s2 h2 => thn h2 fun c s3 ⟨x, H1, I1, r1, q1⟩ => ?_) h1
  obtain ⟨d, rfl, q⟩ := q1
  cases r1
  exact wpAny_truthy_bool ⟨H1, I1, q⟩
/-- an expression whose value is a bool, as a test -/
theorem pt_val {e : Expr} {t : TE} (h : PE X e t) (he : ∀ whole, isTrue e X.env whole = (do let v ← whole; standAt e.pos; holding [v] (truthy v)) := by intro _; rfl) : PT X e (tB t) := by
  intro pins s σ H Q I hw
  refine isTrue_plain (thn (h pins s σ H _ I hw) fun v s1 ⟨x, H1, I1, r1, q1⟩ => ?_) (he _)
  obtain ⟨d, rfl, q⟩ := q1
  cases r1
  exact wpAny_truthy_bool ⟨H1, I1, q⟩

/-! ### and, or, not -/
variable {tA tB' : TT} {rest : List Expr}
def tAnd (t u : TT) : TT := fun σ H Q => t σ H fun c H1 => if c = true then u σ H1 Q else Q false H1
def tOr (t u : TT) : TT := fun σ H Q => t σ H fun c H1 => if c = true then Q true H1 else u σ H1 Q
def tNot (t : TT) : TT := fun σ H Q => t σ H fun c H1 => Q (!c) H1
theorem pw_and1 (ha : PT X a tA) : PW X (.BoolOp .And [a] pos) tA := by
  intro wh pins s σ H Q I h
  refine isTrue_and (thn (ha pins s σ H Q I h) fun c s1 e => ?_)
  cases c with
  | true => exact isTrue_and_nil e
  | false => exact e
theorem pw_or1 (ha : PT X a tA) : PW X (.BoolOp .Or [a] pos) tA := by
  intro wh pins s σ H Q I h
  refine isTrue_or (thn (ha pins s σ H Q I h) fun c s1 e => ?_)
  cases c with
  | false => exact isTrue_or_nil e
  | true => exact e
theorem pw_and (ha : PT X a tA) (hb : PW X (.BoolOp .And (b :: rest) pos) tB') : PW X (.BoolOp .And (a :: b :: rest) pos) (tAnd tA tB') := by
  intro wh pins s σ H Q I h
  refine isTrue_and (thn (ha pins s σ H _ I h) fun c s1 ⟨H1, I1, q1⟩ => ?_)
  cases c with
  | true => exact hb wh pins s1 σ H1 Q I1 q1
  | false => exact ⟨H1, I1, q1⟩
theorem pw_or (ha : PT X a tA) (hb : PW X (.BoolOp .Or (b :: rest) pos) tB') : PW X (.BoolOp .Or (a :: b :: rest) pos) (tOr tA tB') := by
  intro wh pins s σ H Q I h
  refine isTrue_or (thn (ha pins s σ H _ I h) fun c s1 ⟨H1, I1, q1⟩ => ?_)
  cases c with
  | true => exact ⟨H1, I1, q1⟩
  | false => exact hb wh pins s1 σ H1 Q I1 q1
theorem pt_not (ha : PT X a tA) : PT X (.UnaryOp .Not a pos) (tNot tA) := by
  intro pins s σ H Q I h
  exact isTrue_not (ha pins s σ H (fun c H1 => Q (!c) H1) I h)
/-- .. as values (bools) -/
def tAndV (ta tb : TE) : TE := fun σ H Q => ta σ H fun x H1 => ∃ c, x = .bl c ∧ if c = true then tb σ H1 Q else Q (.bl false) H1
def tOrV (ta tb : TE) : TE := fun σ H Q => ta σ H fun x H1 => ∃ c, x = .bl c ∧ if c = true then Q (.bl true) H1 else tb σ H1 Q
def tNotV (ta : TE) : TE := fun σ H Q => ta σ H fun x H1 => ∃ c, x = .bl c ∧ Q (.bl (!c)) H1
theorem pe_one {op} {t : TE} (h : PE X a t) : PE X (.BoolOp op [a] pos) t := fun pins s σ H Q I hw => BoolOp_one (h pins s σ H Q I hw)
theorem pe_and (ha : PE X a ta) (hb : PE X (.BoolOp .And (b :: rest) pos) tb) : PE X (.BoolOp .And (a :: b :: rest) pos) (tAndV ta tb) := by
  intro pins s σ H Q I h
  refine BoolOp_and (thn (ha pins s σ H _ I h) fun v s1 ⟨x, H1, I1, r1, q1⟩ => ?_)
  obtain ⟨c, rfl, q1⟩ := q1
  cases r1
  refine wpAny_truthy_bool ?_
  cases c with
  | true => exact hb pins s1 σ H1 Q I1 q1
  | false => exact ⟨.bl false, H1, I1, rfl, q1⟩
theorem pe_or (ha : PE X a ta) (hb : PE X (.BoolOp .Or (b :: rest) pos) tb) : PE X (.BoolOp .Or (a :: b :: rest) pos) (tOrV ta tb) := by
  intro pins s σ H Q I h
  refine BoolOp_or (thn (ha pins s σ H _ I h) fun v s1 ⟨x, H1, I1, r1, q1⟩ => ?_)
  obtain ⟨c, rfl, q1⟩ := q1
  cases r1
  refine wpAny_truthy_bool ?_
  cases c with
  | false => exact hb pins s1 σ H1 Q I1 q1
  | true => exact ⟨.bl true, H1, I1, rfl, q1⟩
theorem pe_not (ha : PE X a ta) : PE X (.UnaryOp .Not a pos) (tNotV ta) := by
  intro pins s σ H Q I h
  refine UnaryOp_ (thn (ha pins s σ H _ I h) fun v s1 ⟨x, H1, I1, r1, q1⟩ => ?_)
  obtain ⟨c, rfl, q1⟩ := q1
  cases r1
  exact not_of (wpAny_truthy_bool ⟨.bl (!c), H1, I1, rfl, q1⟩)
/-- a if t else b -/
def tIf (t : TT) (ta tb : TE) : TE := fun σ H Q => t σ H fun c H1 => if c = true then ta σ H1 Q else tb σ H1 Q
theorem pe_ifExp {c : Expr} (hc : PT X c tA) (ha : PE X a ta) (hb : PE X b tb) : PE X (.IfExp c a b pos) (tIf tA ta tb) := by
  intro pins s σ H Q I h
  refine wpAny_IfExp (thn (hc pins s σ H _ I h) fun d s1 ⟨H1, I1, q1⟩ => ?_)
  cases d with
  | true => exact ha pins s1 σ H1 Q I1 q1
  | false => exact hb pins s1 σ H1 Q I1 q1
end
end L2

namespace L2
open PySem PySem.Spec PyProof.Rows

/-! ### a list, a tuple that is read: tracked, frozen, or an object of the module -/
def SqL (K : PySem.W.Frag) (H : Hp) (a : Addr) (xs : List V) : Prop :=
  Rd H a (.lst xs) ∨
    ∃ (o : Obj) (its : Array Value) (n : Nat), K.lookup a = some o ∧ o.cls = .type "list" ∧ o.dict = none ∧ o.data = .seq its n ∧ its.size ≤ sizeLine ∧ Vals xs its.toList
def SqT (K : PySem.W.Frag) (H : Hp) (a : Addr) (xs : List V) : Prop :=
  Rd H a (.tup xs) ∨
    ∃ (o : Obj) (its : Array Value) (n : Nat), K.lookup a = some o ∧ o.cls = .type "tuple" ∧ o.data = .seq its n ∧ its.size ≤ sizeLine ∧ Vals xs its.toList
def absV : Value → Option V
  | .none => some .non
  | .bool b => some (.bl b)
  | .int i _ => some (.int i)
  | .str x _ => some (.str x)
  | .bytes b _ => some (.byt b)
  | .float b _ => some (.flt b)
  | .ref a => some (.ref a)
  | .type n => some (.ty n)
  | _ => none
theorem RelV.abs {x : V} {u : Value} (r : RelV x u) : absV u = some x := by
  cases x with
  | non => cases r; rfl
  | bl _ => cases r; rfl
  | int _ => obtain ⟨t, rfl⟩ := r; rfl
  | str _ => obtain ⟨t, rfl⟩ := r; rfl
  | byt _ => obtain ⟨t, rfl⟩ := r; rfl
  | flt _ => obtain ⟨t, rfl⟩ := r; rfl
  | ref _ => cases r; rfl
  | ty _ => cases r; rfl
theorem RelV.inj {x y : V} {u : Value} (r : RelV x u) (q : RelV y u) : x = y := Option.some.inj (r.abs.symm.trans q.abs)
theorem Vals.inj : ∀ {xs ys : List V} {us : List Value}, Vals xs us → Vals ys us → xs = ys
  | _, _, _, .nil, .nil => rfl
  | _, _, _, .cons r t, .cons r' t' => by rw [r.inj r', Vals.inj t t']
section
variable {X : Cx} {pins : List (Addr × Obj)} {σ : St} {H : Hp} {s : Shared} {a : Addr} {xs ys : List V}
theorem SqL.of {K : PySem.W.Frag} (h : H a = some (.lst xs)) : SqL K H a xs := .inl (.inl h)
theorem SqT.of {K : PySem.W.Frag} (h : H a = some (.tup xs)) : SqT K H a xs := .inl (.inl h)
theorem Inv.list (I : Inv X pins σ H s) (h : SqL X.K H a xs) : ∃ its : List Value, Vals xs its ∧ PlainL s.heap a its.toArray ∧ xs.length ≤ sizeLine := by
  rcases h with h | ⟨o, its, n, hk, hc, hd, hs, hz, r⟩
  · obtain ⟨z, its, n, r, e⟩ := h.ok I.hok
    exact ⟨its, r, ⟨_, n, e, rfl, rfl, rfl⟩, z⟩
  · refine ⟨its.toList, r, ⟨o, n, I.kIn a o hk, hc, hd, by simpa using hs⟩, ?_⟩
    have e := r.length
    simp only [Array.length_toList] at e
    omega
theorem Inv.tuple (I : Inv X pins σ H s) (h : SqT X.K H a xs) : ∃ its : List Value, Vals xs its ∧ IsTup s.heap a its.toArray ∧ xs.length ≤ sizeLine := by
  rcases h with h | ⟨o, its, n, hk, hc, hs, hz, r⟩
  · obtain ⟨z, its, r, p⟩ := h.ok I.hok
    exact ⟨its, r, p, z⟩
  · refine ⟨its.toList, r, ⟨o, I.kIn a o hk, hc, n, by simpa using hs⟩, ?_⟩
    have e := r.length
    simp only [Array.length_toList] at e
    omega
theorem Inv.list_inj (I : Inv X pins σ H s) (h : SqL X.K H a xs) (h' : SqL X.K H a ys) : xs = ys := by
  obtain ⟨its, r, ⟨o, n, e, _, _, d⟩, _⟩ := I.list h
  obtain ⟨its', r', ⟨o', n', e', _, _, d'⟩, _⟩ := I.list h'
  rw [e] at e'; cases e'
  rw [d] at d'
  injection d' with d1 _
  have : its = its' := by simpa using congrArg Array.toList d1
  subst this
  exact r.inj r'
theorem Inv.tuple_inj (I : Inv X pins σ H s) (h : SqT X.K H a xs) (h' : SqT X.K H a ys) : xs = ys := by
  obtain ⟨its, r, ⟨o, e, _, n, d⟩, _⟩ := I.tuple h
  obtain ⟨its', r', ⟨o', e', _, n', d'⟩, _⟩ := I.tuple h'
  rw [e] at e'; cases e'
  rw [d] at d'
  injection d' with d1 _
  have : its = its' := by simpa using congrArg Array.toList d1
  subst this
  exact r.inj r'
end

/-! ### another wish about exceptions -/
abbrev Cx.wish (X : Cx) (E : Value → Shared → Prop) : Cx := { X with xe := E }
/-- no exception leaves -/
abbrev Cx.nox (X : Cx) : Cx := X.wish fun _ _ => False
theorem Cx.Ok.wish {X : Cx} (ok : X.Ok) (E : Value → Shared → Prop) : (X.wish E).Ok :=
  ⟨ok.mod, ok.kind, ok.glob, ok.blt, ok.above, ok.inj, ok.has, ok.cab, ok.hd, ok.frames, ok.stk, ok.exf, ok.bs, ok.bsz, ok.noex, ok.exfs, ok.funs, ok.frf⟩
theorem Cx.Ok.unwish {X : Cx} {E : Value → Shared → Prop} (ok : (X.wish E).Ok) : X.Ok :=
  ⟨ok.mod, ok.kind, ok.glob, ok.blt, ok.above, ok.inj, ok.has, ok.cab, ok.hd, ok.frames, ok.stk, ok.exf, ok.bs, ok.bsz, ok.noex, ok.exfs, ok.funs, ok.frf⟩
section
variable {X : Cx} {pins : List (Addr × Obj)} {σ : St} {H : Hp} {s : Shared} {E : Value → Shared → Prop}
theorem Inv.wish (I : Inv X pins σ H s) (E : Value → Shared → Prop) : Inv (X.wish E) pins σ H s := ⟨I.ok.wish E, I.os, I.bare, I.base, I.loc, I.cell, I.free, I.freeC, I.pin, I.hok, I.len⟩
theorem Inv.unwish (I : Inv (X.wish E) pins σ H s) : Inv X pins σ H s := ⟨I.ok.unwish, I.os, I.bare, I.base, I.loc, I.cell, I.free, I.freeC, I.pin, I.hok, I.len⟩
theorem SP.unwish {D : Ends} {f : Flow} {s' : Shared} (h : SP (X.wish E) pins D f s') : SP X pins D f s' := by
  cases f with
  | next => obtain ⟨σ', H', I, q⟩ := h; exact ⟨σ', H', I.unwish, q⟩
  | brk => obtain ⟨σ', H', I, q⟩ := h; exact ⟨σ', H', I.unwish, q⟩
  | cont => obtain ⟨σ', H', I, q⟩ := h; exact ⟨σ', H', I.unwish, q⟩
  | ret u => obtain ⟨v, σ', H', I, r, q⟩ := h; exact ⟨v, σ', H', I.unwish, r, q⟩
theorem PE.nox {e : Expr} {t : TE} (h : PE X.nox e t) : PE X e t := fun pins s σ H Q I hw =>
  wpAny_mono (h pins s σ H Q (I.wish _) hw) (fun _ _ ⟨v, H', I', r, q⟩ => ⟨v, H', I'.unwish, r, q⟩) fun _ _ z => False.elim z
theorem PT.nox {e : Expr} {t : TT} (h : PT X.nox e t) : PT X e t := fun pins s σ H Q I hw =>
  wpAny_mono (h pins s σ H Q (I.wish _) hw) (fun _ _ ⟨H', I', q⟩ => ⟨H', I'.unwish, q⟩) fun _ _ z => False.elim z
theorem PSs.nox {st : List Stmt} {t : TS} (h : PSs X.nox st t) : PSs X st t := fun pins s σ H D I hw =>
  wpAny_mono (h pins s σ H D (I.wish _) hw) (fun _ _ q => q.unwish) fun _ _ z => False.elim z
end

/-! ### blocks and small statements -/
section
variable {X : Cx} {st : Stmt} {rest : List Stmt} {t u : TS} {e : Expr} {te : TE} {pos : Pos}
def tNext : TS := fun D σ H => D.nx σ H
def tSeq (t u : TS) : TS := fun D σ H => t { D with nx := u D } σ H
theorem pss_nil : PSs X [] tNext := fun _ _ σ H _ I h => wpAny_execs_nil ⟨σ, H, I, h⟩
theorem pss_cons (h1 : PS X st t) (h2 : PSs X rest u) : PSs X (st :: rest) (tSeq t u) := by
  intro pins s σ H D I h
  refine wpAny_execs_cons (thn (h1 pins s σ H { D with nx := u D } I h) fun f s1 q => ?_)
  cases f with
  | next =>
    obtain ⟨σ', H', I', q⟩ := q
    exact h2 pins s1 σ' H' D I' q
  | ret v => exact q
  | brk => exact q
  | cont => exact q
theorem pss_one (h1 : PS X st t) : PSs X [st] t := by
  intro pins s σ H D I h
  refine wpAny_execs_cons (thn (h1 pins s σ H D I h) fun f s1 q => ?_)
  cases f with
  | next => exact wpAny_execs_nil q
  | ret v => exact q
  | brk => exact q
  | cont => exact q
def tBreak : TS := fun D σ H => D.bk σ H
def tCont : TS := fun D σ H => D.ct σ H
theorem ps_pass : PS X (.Pass pos) tNext := fun _ _ σ H _ I h => wpAny_Pass ⟨σ, H, I, h⟩
theorem ps_break : PS X (.Break pos) tBreak := fun _ _ σ H _ I h => wpAny_Break ⟨σ, H, I, h⟩
theorem ps_continue : PS X (.Continue pos) tCont := fun _ _ σ H _ I h => wpAny_Continue ⟨σ, H, I, h⟩
/-- in a def's body nothing is shown -/
theorem Inv.quiet {pins : List (Addr × Obj)} {σ : St} {H : Hp} {s : Shared} (I : Inv X pins σ H s) : interactive X.env = false := by simp [interactive, I.ok.kind]
/-- a docstring -/
theorem ps_doc {x j pos pos'} : PS X (.Expr (.Constant (.str x) j pos) pos') tNext := fun _ s σ H _ I h => wpAny_Expr (Calls.Constant_str (show SP X _ _ .next { s with toks := s.toks + 1 } from ⟨σ, H, I.tok _, h⟩)) I.quiet
/-- an expression whose value is dropped -/
def tDrop (te : TE) : TS := fun D σ H => te σ H fun _ H1 => D.nx σ H1
theorem ps_expr (he : PE X e te) (hs : swapsWith e none pos.line X.env = pure false := by rfl) : PS X (.Expr e pos) (tDrop te) := by
  intro pins s σ H D I h
  exact wpAny_Expr_any (thn (he pins s σ H _ I h) fun v s1 ⟨x, H1, I1, r1, q1⟩ => ⟨σ, H1, I1, q1⟩) I.quiet hs
def tRet (te : TE) : TS := fun D σ H => te σ H D.rt
theorem ps_ret (he : PE X e te) : PS X (.Return (some e) pos) (tRet te) := by
  intro pins s σ H D I h
  exact wpAny_Return_some (thn (he pins s σ H _ I h) fun v s1 ⟨x, H1, I1, r1, q1⟩ => ⟨x, σ, H1, I1, r1, q1⟩)
def tRetN : TS := fun D _ H => D.rt .non H
theorem ps_retN : PS X (.Return none pos) tRetN := fun _ _ σ H _ I h => wpAny_Return_none ⟨.non, σ, H, I, rfl, h⟩
def tIfS (c : TT) (t u : TS) : TS := fun D σ H => c σ H fun b H1 => if b = true then t D σ H1 else u D σ H1
theorem ps_if {c : Expr} {a b : List Stmt} {tc : TT} (hc : PT X c tc) (ha : PSs X a t) (hb : PSs X b u) : PS X (.If c a b pos) (tIfS tc t u) := by
  intro pins s σ H D I h
  refine wpAny_If (thn (hc pins s σ H _ I h) fun d s1 ⟨H1, I1, q1⟩ => ?_)
  cases d with
  | true => exact ha pins s1 σ H1 D I1 q1
  | false => exact hb pins s1 σ H1 D I1 q1
/-- code that the proof never comes to -/
def tNever : TS := fun _ _ _ => False
theorem ps_never : PS X st tNever := fun _ _ _ _ _ _ h => h.elim
theorem pss_never {sts : List Stmt} : PSs X sts tNever := fun _ _ _ _ _ _ h => h.elim
end

/-! ### targets -/
abbrev TG := V → St → Hp → (St → Hp → Prop) → Prop
abbrev TGs := List V → St → Hp → (St → Hp → Prop) → Prop
def PG (X : Cx) (target : Expr) (t : TG) : Prop :=
  ∀ (pins : List (Addr × Obj)) (s : Shared) (σ : St) (H : Hp) (v : V) (u : Value) (Q : St → Hp → Prop), Inv X pins σ H s → RelV v u → t v σ H Q →
    wpAny (model X.prog X.w) X.A (assign target X.env u) (fun _ s' => ∃ σ' H', Inv X pins σ' H' s' ∧ Q σ' H') X.xe s
/-- several targets, one after another -/
def PGs (X : Cx) (ts : List Expr) (t : TGs) : Prop :=
  ∀ (pins : List (Addr × Obj)) (s : Shared) (σ : St) (H : Hp) (vs : List V) (us : List Value) (Q : St → Hp → Prop), Inv X pins σ H s → Vals vs us → t vs σ H Q →
    wpAny (model X.prog X.w) X.A (assignInOrder ((assignEach ts X.env).map (·.2)) us) (fun _ s' => ∃ σ' H', Inv X pins σ' H' s' ∧ Q σ' H') X.xe s
/-- o[i] = v, by values -/
abbrev TSet := V → V → V → Hp → (Hp → Prop) → Prop
def PSet (X : Cx) (t : TSet) : Prop :=
  ∀ (pins : List (Addr × Obj)) (s : Shared) (σ : St) (H : Hp) (o i v : V) (ov iv u : Value) (Q : Hp → Prop), Inv X pins σ H s → RelV o ov → RelV i iv → RelV v u → t o i v H Q →
    wpAny (model X.prog X.w) X.A (setItem ov iv u) (fun _ s' => ∃ H', Inv X pins σ H' s' ∧ Q H') X.xe s
/-- a op= b, by values -/
abbrev TIp := V → V → Hp → VK → Prop
def PIp (X : Cx) (op : Operator) (t : TIp) : Prop :=
  ∀ (pins : List (Addr × Obj)) (s : Shared) (σ : St) (H : Hp) (x y : V) (v u : Value) (Q : VK), Inv X pins σ H s → RelV x v → RelV y u → t x y H Q →
    wpAny (model X.prog X.w) X.A (inplaceOp op v u) (EP X pins σ Q) X.xe s
section
variable {X : Cx} {pos : Pos}
def gName (i : Nat) : TG := fun v σ H Q => Q (σ.set i (some v)) H
theorem pg_name {i : Nat} {x : Str} (hN : X.N.Nodup) (hi : X.N[i]? = some x) (hx : Loc X.env.scope x) (hf : X.fn x = true ∨ X.env.scope.names.lookup x = some .local := by first | exact .inl rfl | exact .inr rfl | assumption) : PG X (.Name x pos) (gName i) := by
  intro pins s σ H v u Q I r h
  exact wpAny_assign_Name (store_ok I hN hi hx r (fun s' I' => ⟨_, H, I', h⟩) hf)
def gNil : TGs := fun vs σ H Q => vs = [] ∧ Q σ H
def gCons (t : TG) (u : TGs) : TGs := fun vs σ H Q => ∃ v r, vs = v :: r ∧ t v σ H fun σ' H' => u r σ' H' Q
theorem pgs_nil : PGs X [] gNil := by
  intro pins s σ H vs us Q I r h
  obtain ⟨e, h⟩ := h
  subst e
  cases r
  exact assignInOrder_nil ⟨σ, H, I, h⟩
theorem pgs_cons {e : Expr} {es : List Expr} {t : TG} {u : TGs} (h1 : PG X e t) (h2 : PGs X es u)
    (hs : (assignEach (e :: es) X.env).map (·.2) = assign e X.env :: (assignEach es X.env).map (·.2) := by rfl) : PGs X (e :: es) (gCons t u) := by
  intro pins s σ H vs us Q I r h
  obtain ⟨v, vr, e1, h⟩ := h
  subst e1
  cases r with
  | cons r rr =>
    rw [hs]
    refine assignInOrder_cons (thn (h1 pins s σ H _ _ _ I r h) fun _ s1 ⟨σ1, H1, I1, q1⟩ => ?_)
    exact h2 pins s1 σ1 H1 _ _ Q I1 rr q1
/-- (a, b, ..) = a tuple of that length -/
def gTup (K : PySem.W.Frag) (n : Nat) (t : TGs) : TG := fun v σ H Q => ∃ a xs, v = .ref a ∧ SqT K H a xs ∧ xs.length = n ∧ t xs σ H Q
theorem pg_tup {es : List Expr} {k : Nat} {t : TGs} {n : Nat} (hc : X.calm = true) (h : PGs X es t)
    (hn : (assignEach es X.env).length = n := by rfl) (hst : (assignEach es X.env).findIdx? (·.1) = none := by rfl) : PG X (.Tuple es k pos) (gTup X.K n t) := by
  intro pins s σ H v u Q I r hw
  obtain ⟨a, xs, e1, hq, hl, hw⟩ := hw
  subst e1
  cases r
  obtain ⟨its, rv, ht, hz⟩ := I.tuple hq
  refine assign_Tuple_tuple (I.ok.hd hc) ht (by simp [hn, ← hl, rv.length]) hst fun h' hx => ?_
  have I1 : Inv X pins σ H { s with heap := h' } := I.kept (t' := s.toks) fun b o e => hx b o (Nat.ne_of_lt (Heap.lt_size e)) e
  exact h pins _ σ H xs _ Q I1 (by simpa using rv) hw
/-- o[i] = .. -/
def gSub (to ti : TE) (t : TSet) : TG := fun v σ H Q => to σ H fun o H1 => ti σ H1 fun i H2 => t o i v H2 fun H3 => Q σ H3
theorem pg_sub {o i : Expr} {to ti : TE} {t : TSet} (ho : PE X o to) (hi : PE X i ti) (hs : PSet X t)
    (ha : ∀ v, assign (.Subscript o i pos) X.env v = (do
      let ov ← holding [v] (eval o X.env)
      let iv ← holding [v, ov] (eval i X.env)
      standAt pos
      holding [v, ov, iv] (setItem ov iv v)
      release [v, ov, iv] []) := by intro _; rfl) : PG X (.Subscript o i pos) (gSub to ti t) := by
  intro pins s σ H v u Q I r h
  rw [ha]
  refine wpAny_bind (wpAny_holding (thn (ho pins s σ H _ I h) fun ov s1 ⟨x, H1, I1, r1, q1⟩ => ?_))
  refine wpAny_bind (wpAny_holding (thn (hi pins s1 σ H1 _ I1 q1) fun iv s2 ⟨y, H2, I2, r2, q2⟩ => ?_))
  refine wpAny_bind (wpAny_standAt (wpAny_bind (wpAny_holding (thn (hs pins s2 σ H2 x y v ov iv u _ I2 r1 r2 r q2) fun _ s3 ⟨H3, I3, q3⟩ => ?_))))
  exact wpAny_release ⟨σ, H3, I3, q3⟩
/-- target = value -/
def tAsg (te : TE) (g : TG) : TS := fun D σ H => te σ H fun x H1 => g x σ H1 D.nx
theorem ps_asg {tg e : Expr} {te : TE} {g : TG} (he : PE X e te) (hg : PG X tg g) (hs : swapsWithSole [tg] e pos.line X.env = pure false := by rfl) (hw : swappedStores [tg] e X.env = pure none := by rfl)
    (h1 : (assignEach [tg] X.env).map (·.2) = [assign tg X.env] := by rfl) : PS X (.Assign [tg] e pos) (tAsg te g) := by
  intro pins s σ H D I h
  refine wpAny_Assign_stores (thn (he pins s σ H _ I h) fun v s1 ⟨x, H1, I1, r1, q1⟩ => ?_) hs hw
  rw [h1]
  exact thn (hg pins s1 σ H1 x v _ I1 r1 q1) fun _ s2 q => q
/-- name = value -/
theorem ps_set {i : Nat} {x : Str} {e : Expr} {te : TE} {pos' : Pos} (hN : X.N.Nodup) (hi : X.N[i]? = some x) (hx : Loc X.env.scope x) (he : PE X e te) (hs : swapsWith e (some (.Name x pos')) pos.line X.env = pure false := by rfl) (hf : X.fn x = true ∨ X.env.scope.names.lookup x = some .local := by first | exact .inl rfl | exact .inr rfl | assumption) :
    PS X (.Assign [.Name x pos'] e pos) (tAsg te (gName i)) := by
  intro pins s σ H D I h
  refine wpAny_Assign_Name (thn (he pins s σ H _ I h) fun v s1 ⟨y, H1, I1, r1, q1⟩ => ?_) hs
  exact store_ok I1 hN hi hx r1 (fun s2 I2 => ⟨_, H1, I2, q1⟩) hf
/-- a, b = x, y with plain local names: stored from the right; the pair itself is not tracked (the opening rows as in PyProof/Rows/TupAssign.lean:23) -/
def tPar (i j : Nat) (ta : TA) : TS := fun D σ H => ta σ H fun vs H1 => ∃ v w, vs = [v, w] ∧ D.nx ((σ.set i (some v)).set j (some w)) H1
theorem ps_par {i j : Nat} {x y : Str} {a b : Expr} {ta : TA} {px py pt : Pos} {kt k2 pt2} (hc : X.calm = true) (hN : X.N.Nodup) (hi : X.N[i]? = some x) (hj : X.N[j]? = some y) (hij : i ≠ j)
    (hx : X.env.scope.names.lookup x = some .local) (hy : X.env.scope.names.lookup y = some .local) (ha : PA X [a, b] ta)
    (hw : swappedStores [.Tuple [.Name x px, .Name y py] kt pt] (.Tuple [a, b] k2 pt2) X.env = pure (some [x, y]))
    (hs : swapsWithSole [.Tuple [.Name x px, .Name y py] kt pt] (.Tuple [a, b] k2 pt2) pos.line X.env = pure false := by rfl) :
    PS X (.Assign [.Tuple [.Name x px, .Name y py] kt pt] (.Tuple [a, b] k2 pt2) pos) (tPar i j ta) := by
  intro pins s σ H D I h
  rw [exec_Assign_arm]
  refine wpAny_bind (wpAny_standAt ?_)
  rw [hs]
  refine wpAny_bind (wpAny_pure ?_)
  rw [if_neg (by decide)]
  refine wpAny_bind (Tuple_ (thn (ha _ pins s σ H _ I h) fun us s1 ⟨vs, H1, I1, r1, q1⟩ => ?_))
  obtain ⟨v, w, e1, q1⟩ := q1
  subst e1
  obtain ⟨u1, u2, rfl, rv, rw'⟩ : ∃ u1 u2, us = [u1, u2] ∧ RelV v u1 ∧ RelV w u2 := by
    cases r1 with
    | cons p q =>
      cases q with
      | cons p' q' =>
        cases q'
        exact ⟨_, _, rfl, p, p'⟩
  refine wpAny_newObj_type ?_ (by show 2 ≤ sizeLine; decide)
  have I2 : Inv X pins σ H1 { s1 with heap := s1.heap.push { cls := .type "tuple", data := .seq [u1, u2].toArray } } := I1.kept (t' := s1.toks) fun b o e => Heap.get?_push_of_some _ e
  rw [hw]
  refine wpAny_bind (wpAny_pure ?_)
  show wpAny (model X.prog X.w) X.A (do rule "assign.swapped-stores"; let items ← unpackItems (.ref s1.heap.objs.size) 2 none; assignInOrder [fun v => bindName X.env y v, fun v => bindName X.env x v] items.reverse; pure Flow.next) _ _ _
  refine wpAny_bind (wpAny_rule (wpAny_bind (unpackItems_tuple (items := #[u1, u2]) (I.ok.hd hc) (IsTup.new s1.heap _) fun h' hx' => ?_)))
  have I3 := I2.kept (h' := h') (t' := s1.toks) fun b o e => hx' b o (Nat.ne_of_lt (Heap.lt_size e)) e
  show wpAny _ _ (assignInOrder [fun v => bindName X.env y v, fun v => bindName X.env x v] [u2, u1] >>= fun _ => pure Flow.next) _ _ _
  refine wpAny_bind (assignInOrder_cons (wpAny_bindName (store_ok I3 hN hj (.inl hy) rw' (fun s2 I4 => ?_) (.inr hy))))
  refine assignInOrder_cons (wpAny_bindName (store_ok I4 hN hi (.inl hx) rv (fun s3 I5 => assignInOrder_nil (wpAny_pure ?_)) (.inr hx)))
  rw [List.set_comm _ _ (Ne.symm hij)] at I5
  exact ⟨_, H1, I5, q1⟩
/-- name op= e -/
def tAug (i : Nat) (te : TE) (ti : TIp) : TS := fun D σ H => ∃ x, σ[i]? = some (some x) ∧ te σ H fun y H1 => ti x y H1 fun z H2 => D.nx (σ.set i (some z)) H2
theorem ps_aug {i : Nat} {x : Str} {e : Expr} {te : TE} {op : Operator} {ti : TIp} {pos' : Pos} (hN : X.N.Nodup) (hi : X.N[i]? = some x) (hx : Loc X.env.scope x) (he : PE X e te) (ho : PIp X op ti) (hf : X.fn x = true ∨ X.env.scope.names.lookup x = some .local := by first | exact .inl rfl | exact .inr rfl | assumption) :
    PS X (.AugAssign (.Name x pos') op e pos) (tAug i te ti) := by
  intro pins s σ H D I h
  obtain ⟨v, e1, h⟩ := h
  obtain ⟨m, hn, hl⟩ := I.loc
  have vis : Vis X.env.scope x := by rcases hx with k | k; exact .inl k; exact .inr (.inl k)
  obtain ⟨u, r, l⟩ := hl i x v hi e1 vis
  refine wpAny_AugAssign_Name ?_
  have go : wpAny (model X.prog X.w) X.A (eval e X.env) (fun w s₂ => wpAny (model X.prog X.w) X.A (inplaceOp op u w) (fun r s₃ => wpAny (model X.prog X.w) X.A (storeName X.env x r) (fun _ => SP X pins D .next) X.xe s₃) X.xe s₂) X.xe s := by
    refine thn (he pins s σ H _ I h) fun w s1 ⟨y, H1, I1, r1, q1⟩ => ?_
    refine thn (ho pins s1 σ H1 v y u w _ I1 r r1 q1) fun z s2 ⟨zv, H2, I2, r2, q2⟩ => ?_
    exact store_ok I2 hN hi hx r2 (fun s3 I3 => ⟨_, H2, I3, q2⟩) hf
  rcases l with ⟨hk, hm⟩ | ⟨hk, c, hc, hcell⟩
  · exact wpAny_loadName_local I.ok.kind hk hn hm go
  · rcases hk with hk | hk
    · exact wpAny_loadName_cell I.ok.kind hk hc hcell go
    · rcases hx with k | k
      · have : X.env.scope.names.lookup x = some .free := hk
        rw [k] at this; cases this
      · have : X.env.scope.names.lookup x = some .free := hk
        rw [k] at this; cases this
/-- o[i] op= e -/
def tAugS (to ti te : TE) (tget : V → V → Hp → VK → Prop) (tip : TIp) (tset : TSet) : TS := fun D σ H => to σ H fun o H1 => ti σ H1 fun i H2 => tget o i H2 fun x H3 => te σ H3 fun y H4 => tip x y H4 fun z H5 => tset o i z H5 fun H6 => D.nx σ H6
/-- o[i], by values -/
def PGet (X : Cx) (t : V → V → Hp → VK → Prop) : Prop :=
  ∀ (pins : List (Addr × Obj)) (s : Shared) (σ : St) (H : Hp) (o i : V) (ov iv : Value) (Q : VK), Inv X pins σ H s → RelV o ov → RelV i iv → t o i H Q →
    wpAny (model X.prog X.w) X.A (getItem ov iv) (EP X pins σ Q) X.xe s
theorem ps_augS {o i e : Expr} {to ti te : TE} {tget : V → V → Hp → VK → Prop} {tip : TIp} {tset : TSet} {op : Operator} {tpos : Pos} (ho : PE X o to) (hi : PE X i ti) (hg : PGet X tget) (he : PE X e te) (hp : PIp X op tip) (hs : PSet X tset)
    (ha : ∀ ov iv new, augStore i ov iv new = (do holding [new, ov, iv] (setItem ov iv new); release [new, ov, iv] []; pure .next) := by intros; rfl) : PS X (.AugAssign (.Subscript o i tpos) op e pos) (tAugS to ti te tget tip tset) := by
  intro pins s σ H D I h
  refine wpAny_AugAssign_SubscriptAny (thn (ho pins s σ H _ I h) fun ov s1 ⟨x1, H1, I1, r1, q1⟩ => ?_) ha
  refine thn (hi pins s1 σ H1 _ I1 q1) fun iv s2 ⟨x2, H2, I2, r2, q2⟩ => ?_
  refine thn (hg pins s2 σ H2 x1 x2 ov iv _ I2 r1 r2 q2) fun old s3 ⟨x3, H3, I3, r3, q3⟩ => ?_
  refine thn (he pins s3 σ H3 _ I3 q3) fun v s4 ⟨x4, H4, I4, r4, q4⟩ => ?_
  refine thn (hp pins s4 σ H4 x3 x4 old v _ I4 r3 r4 q4) fun new s5 ⟨x5, H5, I5, r5, q5⟩ => ?_
  exact thn (hs pins s5 σ H5 x1 x2 x5 ov iv new _ I5 r1 r2 r5 q5) fun _ s6 ⟨H6, I6, q6⟩ => ⟨σ, H6, I6, q6⟩
/-- ints -/
def ipI (f : Int → Int → Int) : TIp := fun x y H Q => ∃ i j, x = .int i ∧ y = .int j ∧ Q (.int (f i j)) H
theorem ip_add : PIp X .Add (ipI fun i j => i + j) := by
  intro pins s σ H x y v u Q I r1 r2 h
  obtain ⟨i, j, e1, e2, q⟩ := h
  subst e1; subst e2
  obtain ⟨t, rfl⟩ := r1
  obtain ⟨t', rfl⟩ := r2
  exact iadd_int ⟨.int _, H, I.tok _, ⟨_, rfl⟩, q⟩
theorem ip_sub : PIp X .Sub (ipI fun i j => i - j) := by
  intro pins s σ H x y v u Q I r1 r2 h
  obtain ⟨i, j, e1, e2, q⟩ := h
  subst e1; subst e2
  obtain ⟨t, rfl⟩ := r1
  obtain ⟨t', rfl⟩ := r2
  exact isub_int ⟨.int _, H, I.tok _, ⟨_, rfl⟩, q⟩
end

/-! ### while -/
section
variable {X : Cx} {pos : Pos}
/-- the invariant W with its measure -/
def tWhile (c : TT) (tb : TS) : TS := fun D σ H => ∃ W : Nat → St → Hp → Prop, (∃ m, W m σ H) ∧ ∀ m σ H, W m σ H →
  c σ H fun b H1 => if b = true then ∃ N : St → Hp → Prop, (∀ σ' H', N σ' H' → ∃ m', m' < m ∧ W m' σ' H') ∧ tb { D with nx := N, ct := N, bk := D.nx } σ H1 else D.nx σ H1
theorem ps_while {c : Expr} {body : List Stmt} {tc : TT} {tb : TS} (hp : PassesOwn (model X.prog X.w) X.A X.env X.xe) (hc : PT X c tc) (hb : PSs X body tb) : PS X (.While c body [] pos) (tWhile tc tb) := by
  intro pins s σ H D I h
  obtain ⟨W, ⟨m0, w0⟩, turn⟩ := h
  refine wpAny_While (codeAny_whileLoop (fun n s' => ∃ σ' H', Inv X pins σ' H' s' ∧ W n σ' H') ?_ m0 ⟨σ, H, I, w0⟩)
  rintro n s1 ⟨σ1, H1, I1, w1⟩
  refine wpAny_passesOwn hp (thn (hc pins s1 σ1 H1 _ I1 (turn n σ1 H1 w1)) fun b s2 ⟨H2, I2, q2⟩ => ?_)
  cases b with
  | true =>
    obtain ⟨N, hN, q2⟩ := q2
    rw [if_pos rfl]
    refine wpAny_passesOwn hp (thn (hb pins s2 σ1 H2 _ I2 q2) fun f s3 q3 => ?_)
    cases f with
    | next =>
      obtain ⟨σ3, H3, I3, n3⟩ := q3
      obtain ⟨m', hm, w3⟩ := hN σ3 H3 n3
      exact ⟨m', hm, σ3, H3, I3, w3⟩
    | cont =>
      obtain ⟨σ3, H3, I3, n3⟩ := q3
      obtain ⟨m', hm, w3⟩ := hN σ3 H3 n3
      exact ⟨m', hm, σ3, H3, I3, w3⟩
    | brk => exact q3
    | ret v => exact q3
  | false =>
    rw [if_neg Bool.false_ne_true]
    exact wpAny_execs_nil ⟨σ1, H2, I2, q2⟩
end

/-! ### what a loop or a comprehension walks -/
/-- at turn i: it yields x (the heap may grow), or it stops -/
structure It where
  go : Nat → Hp → Prop
  yld : Nat → Hp → V → Hp → Prop
  stop : Nat → Hp → Prop
/-- the iterator's own objects may turn: they are not the frame's, not pinned, younger than the entry (or a comprehension's own) -/
def FpOk (X : Cx) (pins : List (Addr × Obj)) (H : Hp) (b : Addr) : Prop :=
  H b = none ∧ b ≠ X.env.locals ∧ b ∉ X.fs ∧ (b ∈ X.ex ∨ X.s₀.heap.objs.size ≤ b) ∧ (∀ x c, X.env.cells.lookup x = some c → c ≠ b) ∧ ∀ p ∈ X.pn ++ pins, p.1 ≠ b
theorem Inv.fpOk {X : Cx} {pins : List (Addr × Obj)} {σ : St} {H H' : Hp} {s : Shared} {b : Addr} (I : Inv X pins σ H s) (hb : s.heap.objs.size ≤ b) (hn : H' b = none) : FpOk X pins H' b := by
  refine ⟨hn, Nat.ne_of_gt (Nat.lt_of_lt_of_le I.lt hb), I.nofs hb, .inr (Nat.le_trans I.sz hb), fun x c e z => ?_, fun p hp z => ?_⟩
  · obtain ⟨v, q⟩ := I.cell x c e
    exact absurd (Nat.lt_of_lt_of_le q.lt (by rw [z]; exact hb)) (Nat.lt_irrefl _)
  · exact absurd (Nat.lt_of_lt_of_le (Heap.lt_size (I.pin p hp).1) (by rw [z]; exact hb)) (Nat.lt_irrefl _)
structure Turn (P : Program) (w : World) (K : PySem.W.Frag) (tg : Expr) (J : It) (fp : List Addr) (it : Addr) (tn : Nat → Heap → Prop) : Prop where
  mem : it ∈ fp
  obj : ∀ i h, tn i h → ∀ b ∈ fp, ∃ o, h.get? b = some o ∧ ∀ v, o.data ≠ .cell v
  keep : ∀ i h h', tn i h → (∀ b ∈ fp, ∀ o, h.get? b = some o → h'.get? b = some o) → tn i h'
  item : ∀ (X : Cx), X.prog = P → X.w = w → X.K = K → X.calm = true → ∀ (i : Nat) (pins : List (Addr × Obj)) (s : Shared) (σ : St) (H : Hp) (E : Value → Shared → Prop), Inv X pins σ H s → (∀ b ∈ fp, FpOk X pins H b) → tn i s.heap → J.go i H →
    wpAny (model P w) X.A (pyNext (.ref it)) (fun r s1 => ∃ u, r = some u ∧
      wpAny (model P w) X.A (letOwnedTupleGo tg (.ref it) u) (fun _ s2 => ∃ x H', Inv X pins σ H' s2 ∧ RelV x u ∧ J.yld i H x H' ∧ tn (i + 1) s2.heap ∧ ∀ b ∈ fp, H' b = none) E s1) E s
  done : ∀ (X : Cx), X.prog = P → X.w = w → X.K = K → X.calm = true → ∀ (i : Nat) (pins : List (Addr × Obj)) (s : Shared) (σ : St) (H : Hp) (E : Value → Shared → Prop), Inv X pins σ H s → (∀ b ∈ fp, FpOk X pins H b) → tn i s.heap → J.stop i H →
    wpAny (model P w) X.A (pyNext (.ref it)) (fun r s1 => r = none ∧ Inv X pins σ H s1) E s
  self : ∀ (A : Around) (i : Nat) (s : Shared) (Q : Value → Shared → Prop) (E : Value → Shared → Prop), tn i s.heap → Q (.ref it) s → wpAny (model P w) A (pyIter (.ref it)) Q E s
abbrev TI := St → Hp → (It → Hp → Prop) → Prop
/-- an iterator has come -/
def PIE (X : Cx) (pins : List (Addr × Obj)) (σ : St) (tg : Expr) (R : It → Hp → Prop) (itv : Value) (s2 : Shared) : Prop :=
  ∃ (it : Addr) (fp : List Addr) (tn : Nat → Heap → Prop) (J : It) (H' : Hp), itv = .ref it ∧ Inv X pins σ H' s2 ∧ Turn X.prog X.w X.K tg J fp it tn ∧ tn 0 s2.heap ∧ (∀ b ∈ fp, FpOk X pins H' b) ∧ R J H'
def PI (X : Cx) (tg iter : Expr) (wi : TI) : Prop :=
  ∀ (pins : List (Addr × Obj)) (s : Shared) (σ : St) (H : Hp) (R : It → Hp → Prop), Inv X pins σ H s → wi σ H R →
    wpAny (model X.prog X.w) X.A (eval iter X.env) (fun v s1 => wpAny (model X.prog X.w) X.A (pyIter v) (PIE X pins σ tg R) X.xe s1) X.xe s

/-- the step ahead of the store is nothing for an iterator that keeps no tuple -/
theorem go_of {M : Model} {A : Around} {E : Value → Shared → Prop} {s : Shared} {tg : Expr} {it : Addr} {u : Value} {o : Obj} {n : String} {vs : Array Value} {Q : Unit → Shared → Prop} (ho : s.heap.get? it = some o) (hc : o.cls = .type n) (hd : o.data = .fields vs)
    (hn : ["enumerate", "zip", "dict_itemiterator", "dict_reverseitemiterator", "odict_iterator", "itertools.zip_longest", "itertools.pairwise"].contains n = false) (hQ : Q () s) : wpAny M A (letOwnedTupleGo tg (.ref it) u) Q E s := by
  unfold letOwnedTupleGo
  cases tg <;> first
    | exact wpAny_pure hQ
    | (cases u <;> first
        | exact wpAny_pure hQ
        | (refine wpAny_bind (wpAny_load ho ?_)
           rw [hc, hd]
           show wpAny M A (if (["enumerate", "zip", "dict_itemiterator", "dict_reverseitemiterator", "odict_iterator", "itertools.zip_longest", "itertools.pairwise"].contains n && vs[0]? == some (rawInt _)) = true then _ else _) Q E s
           rw [if_neg (by intro h; rw [hn, Bool.false_and] at h; cases h)]
           exact wpAny_pure hQ))

/-- the list at a, as it stands at each turn (a loop may append to it) -/
def Itl (K : PySem.W.Frag) (a : Addr) : It :=
  ⟨fun i H => ∃ xs x, SqL K H a xs ∧ xs[i]? = some x, fun i H x H' => H' = H ∧ ∀ xs, SqL K H a xs → xs[i]? = some x, fun i H => ∃ xs, SqL K H a xs ∧ xs.length ≤ i⟩
def Itt (K : PySem.W.Frag) (a : Addr) : It :=
  ⟨fun i H => ∃ xs x, SqT K H a xs ∧ xs[i]? = some x, fun i H x H' => H' = H ∧ ∀ xs, SqT K H a xs → xs[i]? = some x, fun i H => ∃ xs, SqT K H a xs ∧ xs.length ≤ i⟩
/-- lo, lo + 1, .. (n of them) -/
def Itr (lo : Int) (n : Nat) : It := ⟨fun i _ => i < n, fun i H x H' => H' = H ∧ x = .int (lo + i), fun i _ => n ≤ i⟩
theorem turn_list {P : Program} {w : World} {K : PySem.W.Frag} {tg : Expr} (a it : Addr) : Turn P w K tg (Itl K a) [it] it (fun i h => h.IsListIter it a i) where
  mem := by simp
  obj := fun i h st b hb => by
    have e : b = it := by simpa using hb
    subst e
    obtain ⟨o, e, c, d⟩ := st
    exact ⟨o, e, fun v z => by rw [d] at z; cases z⟩
  keep := fun i h h' st k => st.at fun o e => k it (by simp) o e
  item := by
    intro X hP hw hK hc i pins s σ H E I hf st hg
    subst hP hw hK
    obtain ⟨xs, x, hq, hx⟩ := hg
    obtain ⟨its, rv, p, hz⟩ := I.list hq
    obtain ⟨u, hu, ru⟩ := rv.get hx
    obtain ⟨f0, f1, f2, f3, f4, f5⟩ := hf it (by simp)
    refine wpAny_pyNext_list_item st p.isList (x := u) (by simpa using hu) fun h' st' sb => ?_
    have I1 : Inv X pins σ H { s with heap := h' } := I.turned (t' := s.toks) (fun b o hb e => (sb.2 b hb).trans e) f0 f1 f3 f4 f5
    obtain ⟨o, e, c, d⟩ := id st'
    exact ⟨u, rfl, go_of (s := { s with heap := h' }) e c d (by decide) ⟨x, H, I1, ru, ⟨rfl, fun ys hy => by rw [I.list_inj hy hq]; exact hx⟩, st', fun b hb => (hf b hb).1⟩⟩
  done := by
    intro X hP hw hK hc i pins s σ H E I hf st hg
    subst hP hw hK
    obtain ⟨xs, hq, hx⟩ := hg
    obtain ⟨its, rv, p, hz⟩ := I.list hq
    obtain ⟨f0, f1, f2, f3, f4, f5⟩ := hf it (by simp)
    have hl := rv.length
    exact wpAny_pyNext_list_end (I.ok.hd hc) st p.isList (by simp; omega) fun h' eb => ⟨rfl, I.turned (t' := s.toks) (fun b o hb e => eb b o hb e) f0 f1 f3 f4 f5⟩
  self := fun _ _ _ _ _ st h => wpAny_pyIter_listiter st h
theorem turn_tuple {P : Program} {w : World} {K : PySem.W.Frag} {tg : Expr} (a it : Addr) : Turn P w K tg (Itt K a) [it] it (fun i h => h.IsTupleIter it a i) where
  mem := by simp
  obj := fun i h st b hb => by
    have e : b = it := by simpa using hb
    subst e
    obtain ⟨o, e, c, d⟩ := st
    exact ⟨o, e, fun v z => by rw [d] at z; cases z⟩
  keep := fun i h h' st k => st.at fun o e => k it (by simp) o e
  item := by
    intro X hP hw hK hc i pins s σ H E I hf st hg
    subst hP hw hK
    obtain ⟨xs, x, hq, hx⟩ := hg
    obtain ⟨its, rv, p, hz⟩ := I.tuple hq
    obtain ⟨u, hu, ru⟩ := rv.get hx
    obtain ⟨f0, f1, f2, f3, f4, f5⟩ := hf it (by simp)
    refine wpAny_pyNext_tuple_item st (show s.heap.IsTuple a its.toArray from p) (x := u) (by simpa using hu) fun h' st' sb => ?_
    have I1 : Inv X pins σ H { s with heap := h' } := I.turned (t' := s.toks) (fun b o hb e => (sb.2 b hb).trans e) f0 f1 f3 f4 f5
    obtain ⟨o, e, c, d⟩ := id st'
    exact ⟨u, rfl, go_of (s := { s with heap := h' }) e c d (by decide) ⟨x, H, I1, ru, ⟨rfl, fun ys hy => by rw [I.tuple_inj hy hq]; exact hx⟩, st', fun b hb => (hf b hb).1⟩⟩
  done := by
    intro X hP hw hK hc i pins s σ H E I hf st hg
    subst hP hw hK
    obtain ⟨xs, hq, hx⟩ := hg
    obtain ⟨its, rv, p, hz⟩ := I.tuple hq
    obtain ⟨f0, f1, f2, f3, f4, f5⟩ := hf it (by simp)
    have hl := rv.length
    exact wpAny_pyNext_tuple_end (I.ok.hd hc) st (show s.heap.IsTuple a its.toArray from p) (by simp; omega) fun h' eb => ⟨rfl, I.turned (t' := s.toks) (fun b o hb e => eb b o hb e) f0 f1 f3 f4 f5⟩
  self := fun _ _ _ _ _ st h => wpAny_pyIter_tupleiter st h
theorem turn_range {P : Program} {w : World} {K : PySem.W.Frag} {tg : Expr} (it : Addr) (lo : Int) (n : Nat) : Turn P w K tg (Itr lo n) [it] it (fun i h => IsRangeIter h it (lo + (i : Nat) * 1) ((n : Int) - (i : Nat)) 1) where
  mem := by simp
  obj := fun i h st b hb => by
    have e : b = it := by simpa using hb
    subst e
    exact ⟨_, st, fun v z => by
      have z' : Data.fields _ = Data.cell v := z
      cases z'⟩
  keep := fun i h h' st k => k it (by simp) _ st
  item := by
    intro X hP hw hK hc i pins s σ H E I hf st hg
    subst hP hw hK
    obtain ⟨f0, f1, f2, f3, f4, f5⟩ := hf it (by simp)
    have W := Walks.range (prog := X.prog) (w := X.w) (I.ok.hd hc) it lo 1 n
    refine W.item i s _ _ hg st fun v h' tk hv st' kk => ?_
    obtain ⟨t, rfl⟩ := hv
    have I1 : Inv X pins σ H { s with heap := h', toks := tk } := I.turned (fun b o hb e => kk b o (by simpa using hb) e) f0 f1 f3 f4 f5
    refine ⟨_, rfl, go_of (s := { s with heap := h', toks := tk }) (n := "range_iterator") st' rfl rfl (by decide) ⟨.int (lo + i), H, I1, ⟨t, ?_⟩, ⟨rfl, rfl⟩, st', fun b hb => (hf b hb).1⟩⟩
    rw [Int.mul_one]
  done := by
    intro X hP hw hK hc i pins s σ H E I hf st hg
    subst hP hw hK
    obtain ⟨f0, f1, f2, f3, f4, f5⟩ := hf it (by simp)
    exact wpAny_pyNext_range_end (I.ok.hd hc) st (by have : n ≤ i := hg; omega) fun h' eb => ⟨rfl, I.turned (t' := s.toks) (fun b o hb e => eb b o hb e) f0 f1 f3 f4 f5⟩
  self := fun _ _ _ _ _ st h => wpAny_pyIter_rangeiter st h
end L2

namespace L2
open PySem PySem.Spec PyProof.Rows
section
variable {X : Cx} {tg : Expr}
def iList (K : PySem.W.Frag) (tl : TE) : TI := fun σ H R => tl σ H fun x H1 => ∃ a, x = .ref a ∧ (∃ xs, SqL K H1 a xs) ∧ R (Itl K a) H1
def iTup (K : PySem.W.Frag) (tl : TE) : TI := fun σ H R => tl σ H fun x H1 => ∃ a, x = .ref a ∧ (∃ xs, SqT K H1 a xs) ∧ R (Itt K a) H1
theorem pi_list {l : Expr} {tl : TE} (hl : PE X l tl) : PI X tg l (iList X.K tl) := by
  intro pins s σ H R I h
  refine thn (hl pins s σ H _ I h) fun v s1 ⟨x, H1, I1, r1, q1⟩ => ?_
  obtain ⟨a, e, ⟨xs, hq⟩, q⟩ := q1
  subst e
  cases r1
  obtain ⟨its, rv, p, hz⟩ := I1.list hq
  refine wpAny_pyIter_list p.isList ?_
  refine ⟨s1.heap.objs.size, [s1.heap.objs.size], _, _, H1, rfl, I1.kept (t' := s1.toks) fun b o e => Heap.get?_push_of_some _ e, turn_list a _, ⟨_, Heap.get?_push_size _ rfl, rfl, rfl⟩, fun b hb => ?_, q⟩
  have e : b = s1.heap.objs.size := by simpa using hb
  subst e
  exact I1.fpOk (Nat.le_refl _) (I1.hok.fresh (Nat.le_refl _))
theorem pi_tup {l : Expr} {tl : TE} (hl : PE X l tl) : PI X tg l (iTup X.K tl) := by
  intro pins s σ H R I h
  refine thn (hl pins s σ H _ I h) fun v s1 ⟨x, H1, I1, r1, q1⟩ => ?_
  obtain ⟨a, e, ⟨xs, hq⟩, q⟩ := q1
  subst e
  cases r1
  obtain ⟨its, rv, p, hz⟩ := I1.tuple hq
  refine wpAny_pyIter_tuple (show s1.heap.IsTuple a its.toArray from p) ?_
  refine ⟨s1.heap.objs.size, [s1.heap.objs.size], _, _, H1, rfl, I1.kept (t' := s1.toks) fun b o e => Heap.get?_push_of_some _ e, turn_tuple a _, ⟨_, Heap.get?_push_size _ rfl, rfl, rfl⟩, fun b hb => ?_, q⟩
  have e : b = s1.heap.objs.size := by simpa using hb
  subst e
  exact I1.fpOk (Nat.le_refl _) (I1.hok.fresh (Nat.le_refl _))
/-- a range object just made, walked -/
theorem range_it {pins : List (Addr × Obj)} {σ : St} {H : Hp} {s : Shared} {R : It → Hp → Prop} {E : Value → Shared → Prop} {lo hi : Int} {t u v : Tok} {tk : Nat} (I : Inv X pins σ H s) (h1 : -(2 ^ 62) ≤ lo) (h2 : lo < 2 ^ 62) (h3 : -(2 ^ 62) ≤ hi) (h4 : hi < 2 ^ 62)
    (q : R (Itr lo (hi - lo).toNat) H) : wpAny (model X.prog X.w) X.A (pyIter (.ref s.heap.objs.size)) (PIE X pins σ tg R) E { s with heap := s.heap.push { cls := .type "range", data := .fields #[.int lo t, .int hi u, .int 1 v] }, toks := tk } := by
  refine wpAny_pyIter_range (IsRange.new ..) (small_one h1 h2 h3 h4) ?_
  have I1 : Inv X pins σ H { s with heap := s.heap.push { cls := .type "range", data := .fields #[.int lo t, .int hi u, .int 1 v] }, toks := tk } := I.kept fun b o e => Heap.get?_push_of_some _ e
  refine ⟨(s.heap.push { cls := .type "range", data := .fields #[.int lo t, .int hi u, .int 1 v] }).objs.size, [(s.heap.push { cls := .type "range", data := .fields #[.int lo t, .int hi u, .int 1 v] }).objs.size], _, _, H, rfl,
    I1.kept (t' := tk) fun b o e => Heap.get?_push_of_some _ e, turn_range _ lo (hi - lo).toNat, ?_, fun b hb => ?_, q⟩
  · have e1 : lo + ((0 : Nat) : Int) * 1 = lo := by simp
    have e2 : (((hi - lo).toNat : Nat) : Int) - ((0 : Nat) : Int) = Builtin.Range.rangeSize lo hi 1 := by rw [rangeSize_one]; split <;> omega
    show IsRangeIter _ _ (lo + ((0 : Nat) : Int) * 1) ((((hi - lo).toNat : Nat) : Int) - ((0 : Nat) : Int)) 1
    rw [e1, e2]
    exact Heap.get?_push_size _ rfl
  · have e : b = (s.heap.push { cls := .type "range", data := .fields #[.int lo t, .int hi u, .int 1 v] }).objs.size := by simpa using hb
    subst e
    exact I1.fpOk (Nat.le_refl _) (I1.hok.fresh (Nat.le_refl _))
def iRng1 (ta : TA) : TI := fun σ H R => ta σ H fun vs H1 => ∃ j : Int, vs = [.int j] ∧ -(2 ^ 62) ≤ j ∧ j < 2 ^ 62 ∧ R (Itr 0 j.toNat) H1
def iRng2 (ta : TA) : TI := fun σ H R => ta σ H fun vs H1 => ∃ i j : Int, vs = [.int i, .int j] ∧ (-(2 ^ 62) ≤ i ∧ i < 2 ^ 62 ∧ -(2 ^ 62) ≤ j ∧ j < 2 ^ 62) ∧ R (Itr i (j - i).toNat) H1
theorem pi_range1 {a : Expr} {ta : TA} {p pos : Pos} (hg : Gl X "range") (hm : X.mg "range" = none) (ha : PA X [a] ta) (hs : starEach [a] X.env = [(false, eval a X.env)] := by rfl) : PI X tg (.Call (.Name "range" p) [a] [] pos) (iRng1 ta) := by
  intro pins s σ H R I h
  refine Call_ (ld_blt I hg hm boot_range (PyProof.Rows.callWith_type1 (thn (ha pos pins s σ H _ I h) fun us s1 ⟨vs, H1, I1, r1, q1⟩ => ?_) hs rfl))
  obtain ⟨j, e, q1, q2, q⟩ := q1
  subst e
  cases r1 with
  | cons r rr =>
    cases rr
    obtain ⟨t, rfl⟩ := r
    exact call_range_1 (range_it I1 (by omega) (by omega) q1 q2 (by simpa using q))
theorem pi_range2 {a b : Expr} {ta : TA} {p pos : Pos} (hg : Gl X "range") (hm : X.mg "range" = none) (ha : PA X [a, b] ta) (hs : starEach [a, b] X.env = [(false, eval a X.env), (false, eval b X.env)] := by rfl) (hs2 : starEach [b] X.env = [(false, eval b X.env)] := by rfl) :
    PI X tg (.Call (.Name "range" p) [a, b] [] pos) (iRng2 ta) := by
  intro pins s σ H R I h
  refine Call_ (ld_blt I hg hm boot_range (PyProof.Rows.callWith_type1 (thn (ha pos pins s σ H _ I h) fun us s1 ⟨vs, H1, I1, r1, q1⟩ => ?_) (by rw [hs, hs2]) (by rw [hs2]; rfl)))
  obtain ⟨i, j, e, ⟨q1, q2, q3, q4⟩, q⟩ := q1
  subst e
  cases r1 with
  | cons r rr =>
    cases rr with
    | cons r' rr =>
      cases rr
      obtain ⟨t, rfl⟩ := r
      obtain ⟨t', rfl⟩ := r'
      exact call_range_2 (range_it I1 q1 q2 q3 q4 q)

/-! ### for -/
/-- W: the invariant by the turn and a measure; N: what the body is to reach -/
def tFor (wi : TI) (g : TG) (tb : TS) : TS := fun D σ H => wi σ H fun J H1 => ∃ W : Nat → Nat → St → Hp → Prop, (∃ m, W 0 m σ H1) ∧ ∀ i m σ H, W i m σ H →
  (J.stop i H ∧ D.nx σ H) ∨ (J.go i H ∧ ∃ N : St → Hp → Prop, (∀ σ' H', N σ' H' → ∃ m', m' < m ∧ W (i + 1) m' σ' H') ∧ ∀ x H', J.yld i H x H' → g x σ H' fun σ2 H2 => tb { D with nx := N, ct := N, bk := D.nx } σ2 H2)
/-- the records at fp as they stand -/
def pinsAt (fp : List Addr) (h : Heap) : List (Addr × Obj) := fp.filterMap fun b => (h.get? b).map fun o => (b, o)
theorem mem_pinsAt {fp : List Addr} {h : Heap} {b : Addr} {o : Obj} (hb : b ∈ fp) (e : h.get? b = some o) : (b, o) ∈ pinsAt fp h := List.mem_filterMap.mpr ⟨b, hb, by rw [e]; rfl⟩
theorem of_pinsAt {fp : List Addr} {h : Heap} {p : Addr × Obj} (hp : p ∈ pinsAt fp h) : p.1 ∈ fp ∧ h.get? p.1 = some p.2 := by
  obtain ⟨b, hb, e⟩ := List.mem_filterMap.mp hp
  cases q : h.get? b with
  | none => rw [q] at e; cases e
  | some o =>
    rw [q] at e
    have e' : (b, o) = p := Option.some.inj e
    subst e'
    exact ⟨hb, q⟩
theorem Inv.pinned {pins : List (Addr × Obj)} {σ : St} {H : Hp} {s : Shared} {fp : List Addr} (I : Inv X pins σ H s) (hf : ∀ b ∈ fp, FpOk X pins H b) (ho : ∀ b ∈ fp, ∃ o, s.heap.get? b = some o ∧ ∀ v, o.data ≠ .cell v) : Inv X (pins ++ pinsAt fp s.heap) σ H s :=
  I.pins_of fun p hp => (List.mem_append.mp hp).elim (fun z => I.pin p (List.mem_append_right _ z)) fun z => by
    obtain ⟨hb, e⟩ := of_pinsAt z
    obtain ⟨f0, f1, f2, _⟩ := hf p.1 hb
    obtain ⟨o, e', d⟩ := ho p.1 hb
    rw [e] at e'; cases e'
    exact ⟨e, f0, f1, f2, d⟩
theorem Inv.unpinned {pins pl : List (Addr × Obj)} {σ : St} {H : Hp} {s : Shared} (I : Inv X (pins ++ pl) σ H s) : Inv X pins σ H s := I.pins_of fun p hp => I.pin p (List.mem_append_right _ (List.mem_append_left _ hp))
theorem ps_for {iter : Expr} {body : List Stmt} {wi : TI} {g : TG} {tb : TS} {pos : Pos} (hp : PassesOwn (model X.prog X.w) X.A X.env X.xe) (hc : X.calm = true) (hi : PI X tg iter wi) (hg : PG X tg g) (hb : PSs X body tb)
    (hs : ∀ x, foldedSetIterable iter X.env x = pure x := by intro _; rfl) : PS X (.For tg iter body [] pos) (tFor wi g tb) := by
  intro pins s σ H D I h
  refine wpAny_For (thn (hi pins s σ H _ I h) fun v s1 h1 => thn h1 fun itv s2 h2 => ?_) hs
  obtain ⟨it, fp, tn, J, H2, e, I2, T, st2, f2, W, ⟨m0, w0⟩, turn⟩ := h2
  subst e
  -- what stays true of the iterator's objects through the loop
  have stat : ∀ {H' : Hp}, (∀ b ∈ fp, H' b = none) → ∀ b ∈ fp, FpOk X pins H' b := fun hn b hb => ⟨hn b hb, (f2 b hb).2⟩
  refine codeAny_forLoop_any (fun n s' => ∃ i σ' H', Inv X pins σ' H' s' ∧ tn i s'.heap ∧ (∀ b ∈ fp, H' b = none) ∧ W i n σ' H') ?_ m0 ⟨0, σ, H2, I2, st2, fun b hb => (f2 b hb).1, w0⟩
  rintro n s3 ⟨i, σ3, H3, I3, st3, fr3, w3⟩
  rcases turn i n σ3 H3 w3 with ⟨stop, qn⟩ | ⟨go, N, hN, step⟩
  · refine wpAny_passesOwn hp (thn (T.done X rfl rfl rfl hc i pins s3 σ3 H3 X.xe I3 (stat fr3) st3 stop) fun r s4 ⟨hr, I4⟩ => ?_)
    subst hr
    exact wpAny_execs_nil ⟨σ3, H3, I4, qn⟩
  · refine wpAny_passesOwn hp (thn (T.item X rfl rfl rfl hc i pins s3 σ3 H3 X.xe I3 (stat fr3) st3 go) fun r s4 ⟨u, hr, h4⟩ => ?_)
    subst hr
    refine wpAny_passesOwn hp (thn h4 fun _ s5 ⟨x, H5, I5, r5, y5, st5, fr5⟩ => ?_)
    have I5' := I5.pinned (stat fr5) (T.obj _ _ st5)
    refine wpAny_passesOwn hp (thn (hg _ s5 σ3 H5 x u _ I5' r5 (step x H5 y5)) fun _ s6 ⟨σ6, H6, I6, q6⟩ => ?_)
    refine wpAny_passesOwn hp (thn (hb _ s6 σ6 H6 _ I6 q6) fun f s7 q7 => ?_)
    have again : ∀ {σ7 : St} {H7 : Hp}, Inv X (pins ++ pinsAt fp s5.heap) σ7 H7 s7 → N σ7 H7 → ∃ m, m < n ∧ ∃ i σ' H', Inv X pins σ' H' s7 ∧ tn i s7.heap ∧ (∀ b ∈ fp, H' b = none) ∧ W i m σ' H' := fun {σ7 H7} I7 n7 => by
      obtain ⟨m', hm, w7⟩ := hN σ7 H7 n7
      refine ⟨m', hm, i + 1, σ7, H7, I7.unpinned, T.keep _ _ _ st5 fun b hb o e => (I7.pin (b, o) (List.mem_append_right _ (List.mem_append_right _ (mem_pinsAt hb e)))).1, fun b hb => ?_, w7⟩
      obtain ⟨o, e, d⟩ := T.obj _ _ st5 b hb
      exact (I7.pin (b, o) (List.mem_append_right _ (List.mem_append_right _ (mem_pinsAt hb e)))).2.1
    cases f with
    | next => obtain ⟨σ7, H7, I7, n7⟩ := q7; exact again I7 n7
    | cont => obtain ⟨σ7, H7, I7, n7⟩ := q7; exact again I7 n7
    | brk => obtain ⟨σ7, H7, I7, q7⟩ := q7; exact ⟨σ7, H7, I7.unpinned, q7⟩
    | ret v => obtain ⟨x7, σ7, H7, I7, r7, q7⟩ := q7; exact ⟨x7, σ7, H7, I7.unpinned, r7, q7⟩
end

/-! ### the forms one uses -/
/-- over a list that the body leaves as it is -/
theorem for_list {K : PySem.W.Frag} {a : Addr} {xs : List V} {g : TG} {tb : TS} {D : Ends} {σ : St} {H : Hp} (Pv : Nat → St → Hp → Prop) (h0 : Pv 0 σ H) (hl : ∀ i σ H, i ≤ xs.length → Pv i σ H → SqL K H a xs)
    (hs : ∀ i x σ H, xs[i]? = some x → Pv i σ H → g x σ H fun σ2 H2 => tb { D with nx := Pv (i + 1), ct := Pv (i + 1), bk := D.nx } σ2 H2) (hd : ∀ σ H, Pv xs.length σ H → D.nx σ H) :
    ∃ W : Nat → Nat → St → Hp → Prop, (∃ m, W 0 m σ H) ∧ ∀ i m σ H, W i m σ H →
      ((Itl K a).stop i H ∧ D.nx σ H) ∨ ((Itl K a).go i H ∧ ∃ N : St → Hp → Prop, (∀ σ' H', N σ' H' → ∃ m', m' < m ∧ W (i + 1) m' σ' H') ∧ ∀ x H', (Itl K a).yld i H x H' → g x σ H' fun σ2 H2 => tb { D with nx := N, ct := N, bk := D.nx } σ2 H2) := by
  refine ⟨fun i m σ H => m = xs.length - i ∧ i ≤ xs.length ∧ Pv i σ H, ⟨xs.length, by simp, Nat.zero_le _, h0⟩, ?_⟩
  rintro i m σ H ⟨rfl, hi, p⟩
  have q := hl i σ H hi p
  by_cases hlt : i < xs.length
  · refine .inr ⟨⟨xs, xs[i], q, by simp [hlt]⟩, Pv (i + 1), fun σ' H' p' => ⟨xs.length - (i + 1), by omega, rfl, hlt, p'⟩, fun x H' y => ?_⟩
    obtain ⟨e, y⟩ := y
    subst e
    exact hs i x σ _ (y xs q) p
  · have e : i = xs.length := by omega
    subst e
    exact .inl ⟨⟨xs, q, Nat.le_refl _⟩, hd σ H p⟩
theorem for_tup {K : PySem.W.Frag} {a : Addr} {xs : List V} {g : TG} {tb : TS} {D : Ends} {σ : St} {H : Hp} (Pv : Nat → St → Hp → Prop) (h0 : Pv 0 σ H) (hl : ∀ i σ H, i ≤ xs.length → Pv i σ H → SqT K H a xs)
    (hs : ∀ i x σ H, xs[i]? = some x → Pv i σ H → g x σ H fun σ2 H2 => tb { D with nx := Pv (i + 1), ct := Pv (i + 1), bk := D.nx } σ2 H2) (hd : ∀ σ H, Pv xs.length σ H → D.nx σ H) :
    ∃ W : Nat → Nat → St → Hp → Prop, (∃ m, W 0 m σ H) ∧ ∀ i m σ H, W i m σ H →
      ((Itt K a).stop i H ∧ D.nx σ H) ∨ ((Itt K a).go i H ∧ ∃ N : St → Hp → Prop, (∀ σ' H', N σ' H' → ∃ m', m' < m ∧ W (i + 1) m' σ' H') ∧ ∀ x H', (Itt K a).yld i H x H' → g x σ H' fun σ2 H2 => tb { D with nx := N, ct := N, bk := D.nx } σ2 H2) := by
  refine ⟨fun i m σ H => m = xs.length - i ∧ i ≤ xs.length ∧ Pv i σ H, ⟨xs.length, by simp, Nat.zero_le _, h0⟩, ?_⟩
  rintro i m σ H ⟨rfl, hi, p⟩
  have q := hl i σ H hi p
  by_cases hlt : i < xs.length
  · refine .inr ⟨⟨xs, xs[i], q, by simp [hlt]⟩, Pv (i + 1), fun σ' H' p' => ⟨xs.length - (i + 1), by omega, rfl, hlt, p'⟩, fun x H' y => ?_⟩
    obtain ⟨e, y⟩ := y
    subst e
    exact hs i x σ _ (y xs q) p
  · have e : i = xs.length := by omega
    subst e
    exact .inl ⟨⟨xs, q, Nat.le_refl _⟩, hd σ H p⟩
theorem for_range {lo : Int} {n : Nat} {g : TG} {tb : TS} {D : Ends} {σ : St} {H : Hp} (Pv : Nat → St → Hp → Prop) (h0 : Pv 0 σ H)
    (hs : ∀ i σ H, i < n → Pv i σ H → g (.int (lo + i)) σ H fun σ2 H2 => tb { D with nx := Pv (i + 1), ct := Pv (i + 1), bk := D.nx } σ2 H2) (hd : ∀ σ H, Pv n σ H → D.nx σ H) :
    ∃ W : Nat → Nat → St → Hp → Prop, (∃ m, W 0 m σ H) ∧ ∀ i m σ H, W i m σ H →
      ((Itr lo n).stop i H ∧ D.nx σ H) ∨ ((Itr lo n).go i H ∧ ∃ N : St → Hp → Prop, (∀ σ' H', N σ' H' → ∃ m', m' < m ∧ W (i + 1) m' σ' H') ∧ ∀ x H', (Itr lo n).yld i H x H' → g x σ H' fun σ2 H2 => tb { D with nx := N, ct := N, bk := D.nx } σ2 H2) := by
  refine ⟨fun i m σ H => m = n - i ∧ i ≤ n ∧ Pv i σ H, ⟨n, by simp, Nat.zero_le _, h0⟩, ?_⟩
  rintro i m σ H ⟨rfl, hi, p⟩
  by_cases hlt : i < n
  · refine .inr ⟨hlt, Pv (i + 1), fun σ' H' p' => ⟨n - (i + 1), by omega, rfl, hlt, p'⟩, fun x H' y => ?_⟩
    obtain ⟨e, y⟩ := y
    subst e y
    exact hs i σ _ hlt p
  · have e : i = n := by omega
    subst e
    exact .inl ⟨Nat.le_refl _, hd σ H p⟩
/-- while, by a word and a measure of the state -/
theorem while_by {c : TT} {tb : TS} {D : Ends} {σ : St} {H : Hp} (Pv : St → Hp → Prop) (μ : St → Hp → Nat) (h0 : Pv σ H)
    (hs : ∀ σ H, Pv σ H → c σ H fun b H1 => if b = true then tb { D with nx := fun σ' H' => Pv σ' H' ∧ μ σ' H' < μ σ H, ct := fun σ' H' => Pv σ' H' ∧ μ σ' H' < μ σ H, bk := D.nx } σ H1 else D.nx σ H1)
    (mono : ∀ σ H Q Q', (∀ b H1, Q b H1 → Q' b H1) → c σ H Q → c σ H Q') : tWhile c tb D σ H := by
  refine ⟨fun m σ H => m = μ σ H ∧ Pv σ H, ⟨_, rfl, h0⟩, ?_⟩
  rintro m σ H ⟨rfl, p⟩
  refine mono σ H _ _ (fun b H1 q => ?_) (hs σ H p)
  cases b with
  | true => exact ⟨_, fun σ' H' ⟨p', l⟩ => ⟨_, l, rfl, p'⟩, q⟩
  | false => exact q
end L2

namespace L2
open PySem PySem.Spec PyProof.Rows

abbrev R2 := V → V → Hp → VK → Prop
/-- a two-place operation on values: f is binaryOp op, inplaceOp op or compareOp op -/
def OpR (X : Cx) (f : Value → Value → Sem Value) (r : R2) : Prop :=
  ∀ (pins : List (Addr × Obj)) (s : Shared) (σ : St) (H : Hp) (x y : V) (v u : Value) (Q : VK), Inv X pins σ H s → RelV x v → RelV y u → r x y H Q →
    wpAny (model X.prog X.w) X.A (f v u) (EP X pins σ Q) X.xe s
/-- a one-place operation -/
def UnR (X : Cx) (f : Value → Sem Value) (r : V → Hp → VK → Prop) : Prop :=
  ∀ (pins : List (Addr × Obj)) (s : Shared) (σ : St) (H : Hp) (x : V) (v : Value) (Q : VK), Inv X pins σ H s → RelV x v → r x H Q →
    wpAny (model X.prog X.w) X.A (f v) (EP X pins σ Q) X.xe s
/-- a call of a value that is known (a builtin, a type) with values -/
def CallR (X : Cx) (f : Value) (r : List V → Hp → VK → Prop) : Prop :=
  ∀ (pins : List (Addr × Obj)) (s : Shared) (σ : St) (H : Hp) (xs : List V) (us : List Value) (Q : VK), Inv X pins σ H s → Vals xs us → r xs H Q →
    wpAny (model X.prog X.w) X.A (call f us) (EP X pins σ Q) X.xe s
/-- a value's truth -/
def TruR (X : Cx) (r : V → Hp → (Bool → Hp → Prop) → Prop) : Prop :=
  ∀ (pins : List (Addr × Obj)) (s : Shared) (σ : St) (H : Hp) (x : V) (v : Value) (Q : Bool → Hp → Prop), Inv X pins σ H s → RelV x v → r x H Q →
    wpAny (model X.prog X.w) X.A (truthy v) (TP X pins σ Q) X.xe s

def tOp (r : R2) (ta tb : TE) : TE := fun σ H Q => ta σ H fun x H1 => tb σ H1 fun y H2 => r x y H2 Q
def tUn (r : V → Hp → VK → Prop) (ta : TE) : TE := fun σ H Q => ta σ H fun x H1 => r x H1 Q
/-- ints in, under C, and a value out -/
def rI (C : Int → Int → Prop) (g : Int → Int → V) : R2 := fun x y H Q => ∃ i j, x = .int i ∧ y = .int j ∧ C i j ∧ Q (g i j) H
def rI0 (g : Int → Int → V) : R2 := fun x y H Q => ∃ i j, x = .int i ∧ y = .int j ∧ Q (g i j) H
def rU (g : Int → V) : V → Hp → VK → Prop := fun x H Q => ∃ i, x = .int i ∧ Q (g i) H

section
variable {X : Cx} {a b c : Expr} {ta tb tc : TE} {pos : Pos}

theorem binT (ha : PE X a ta) (hb : PE X b tb) {pins : List (Addr × Obj)} {s : Shared} {σ : St} {H : Hp} {R : V → V → Hp → Prop} (I : Inv X pins σ H s)
    (h : ta σ H fun x H1 => tb σ H1 fun y H2 => R x y H2) {Q : Value → Shared → Prop} {f : Value → Value → Sem Value}
    (hf : ∀ v u s2 x y H2, Inv X pins σ H2 s2 → RelV x v → RelV y u → R x y H2 → wpAny (model X.prog X.w) X.A (f v u) Q X.xe s2) :
    wpAny (model X.prog X.w) X.A (eval a X.env) (fun v s₁ => wpAny (model X.prog X.w) X.A (eval b X.env) (fun u s₂ => wpAny (model X.prog X.w) X.A (f v u) Q X.xe s₂) X.xe s₁) X.xe s := by
  refine thn (ha pins s σ H _ I h) fun v s1 ⟨x, H1, I1, r1, q1⟩ => ?_
  refine thn (hb pins s1 σ H1 _ I1 q1) fun u s2 ⟨y, H2, I2, r2, q2⟩ => ?_
  exact hf v u s2 x y H2 I2 r1 r2 q2

theorem pe_op {op : Operator} {r : R2} (ho : OpR X (binaryOp op) r) (ha : PE X a ta) (hb : PE X b tb) : PE X (.BinOp a op b pos) (tOp r ta tb) := by
  intro pins s σ H Q I h
  exact wpAny_BinOp (binT ha hb I h fun v u s2 x y H2 I2 rx ry q => ho pins s2 σ H2 x y v u Q I2 rx ry q)
theorem pe_un {op : UnaryOp} {r : V → Hp → VK → Prop} (ho : UnR X (unaryOp op) r) (ha : PE X a ta) : PE X (.UnaryOp op a pos) (tUn r ta) := by
  intro pins s σ H Q I h
  exact UnaryOp_ (thn (ha pins s σ H _ I h) fun v s1 ⟨x, H1, I1, r1, q1⟩ => ho pins s1 σ H1 x v Q I1 r1 q1)
/-- a op= e at a name: the name's slot i -/
theorem augR {op : Operator} {r : R2} (ho : OpR X (inplaceOp op) r) {pins : List (Addr × Obj)} {s : Shared} {σ : St} {H : Hp} {x y : V} {v u : Value} {Q : VK} (I : Inv X pins σ H s)
    (rx : RelV x v) (ry : RelV y u) (q : r x y H Q) : wpAny (model X.prog X.w) X.A (inplaceOp op v u) (EP X pins σ Q) X.xe s := ho pins s σ H x y v u Q I rx ry q

/-! ### ints -/
theorem opI {f : Value → Value → Sem Value} {C : Int → Int → Prop} {g : Int → Int → Int}
    (rule : ∀ (i j : Int) (t u : Tok) (s : Shared) (Q : Value → Shared → Prop) (E : Value → Shared → Prop), C i j → Q (.int (g i j) s.toks) { s with toks := s.toks + 1 } → wpAny (model X.prog X.w) X.A (f (.int i t) (.int j u)) Q E s) :
    OpR X f (rI C fun i j => .int (g i j)) := by
  intro pins s σ H x y v u Q I rx ry h
  obtain ⟨i, j, rfl, rfl, hc, q⟩ := h
  obtain ⟨t, rfl⟩ := rx
  obtain ⟨t', rfl⟩ := ry
  exact rule i j t t' s _ _ hc ⟨.int (g i j), H, I.tok _, ⟨_, rfl⟩, q⟩
theorem opI0 {f : Value → Value → Sem Value} {g : Int → Int → Int}
    (rule : ∀ (i j : Int) (t u : Tok) (s : Shared) (Q : Value → Shared → Prop) (E : Value → Shared → Prop), Q (.int (g i j) s.toks) { s with toks := s.toks + 1 } → wpAny (model X.prog X.w) X.A (f (.int i t) (.int j u)) Q E s) :
    OpR X f (rI0 fun i j => .int (g i j)) := by
  intro pins s σ H x y v u Q I rx ry h
  obtain ⟨i, j, rfl, rfl, q⟩ := h
  obtain ⟨t, rfl⟩ := rx
  obtain ⟨t', rfl⟩ := ry
  exact rule i j t t' s _ _ ⟨.int (g i j), H, I.tok _, ⟨_, rfl⟩, q⟩
theorem opB0 {f : Value → Value → Sem Value} {g : Int → Int → Bool}
    (rule : ∀ (i j : Int) (t u : Tok) (s : Shared) (Q : Value → Shared → Prop) (E : Value → Shared → Prop), Q (.bool (g i j)) s → wpAny (model X.prog X.w) X.A (f (.int i t) (.int j u)) Q E s) :
    OpR X f (rI0 fun i j => .bl (g i j)) := by
  intro pins s σ H x y v u Q I rx ry h
  obtain ⟨i, j, rfl, rfl, q⟩ := h
  obtain ⟨t, rfl⟩ := rx
  obtain ⟨t', rfl⟩ := ry
  exact rule i j t t' s _ _ ⟨.bl (g i j), H, I, rfl, q⟩

def CDiv (i j : Int) : Prop := 0 < j ∧ j < 1073741824
def CDivN (i j : Int) : Prop := j ≠ 0 ∧ j.natAbs < 1073741824
def CPow (i j : Int) : Prop := 0 ≤ j ∧ j ≤ 1000000 ∧ i.natAbs < 2 ^ 64
def CMul (i j : Int) : Prop := (-(2 ^ 64) < i ∧ i < 2 ^ 64) ∨ (-(2 ^ 64) < j ∧ j < 2 ^ 64)
theorem CMul.ok {i j : Int} (h : CMul i j) : IntMulOk i j := by
  rcases h with ⟨h1, h2⟩ | ⟨h1, h2⟩
  · exact .of_left (intBits_le_64 h1 h2)
  · exact .of_right (intBits_le_64 h1 h2)
theorem two_pow_nn (k : Nat) : (0 : Int) ≤ 2 ^ k := by
  rw [two_pow_cast]
  exact Int.natCast_nonneg _

theorem op_add : OpR X (binaryOp .Add) (rI0 fun i j => .int (i + j)) := opI0 fun _ _ _ _ _ _ _ q => add_int q
theorem op_sub : OpR X (binaryOp .Sub) (rI0 fun i j => .int (i - j)) := opI0 fun _ _ _ _ _ _ _ q => sub_int q
theorem op_mul : OpR X (binaryOp .Mult) (rI CMul fun i j => .int (i * j)) := opI fun _ _ _ _ _ _ _ hc q => mul_int q hc.ok
/-- // by a positive divisor -/
theorem op_fdiv : OpR X (binaryOp .FloorDiv) (rI CDiv fun i j => .int (i / j)) := opI fun i j _ _ _ _ _ hc q => by
  have h1 : (0 : Int) < j := hc.1
  have h2 : j < 1073741824 := hc.2
  exact floordiv_int (by omega) (by rw [Int.fdiv_eq_ediv_of_nonneg i (by omega)]; exact q) (.inl (PyProof.noPylong_small (by omega)))
theorem op_fdivN : OpR X (binaryOp .FloorDiv) (rI CDivN fun i j => .int (i.fdiv j)) := opI fun _ _ _ _ _ _ _ hc q => floordiv_int hc.1 q (.inl (PyProof.noPylong_small hc.2))
/-- % by a positive divisor of any size -/
theorem op_mod : OpR X (binaryOp .Mod) (rI (fun _ j => 0 < j) fun i j => .int (i % j)) := opI fun i j _ _ _ _ _ hc q => by
  have h1 : (0 : Int) < j := hc
  exact mod_int' (by omega) (by rw [Int.fmod_eq_emod_of_nonneg i (by omega)]; exact q)
theorem op_modN : OpR X (binaryOp .Mod) (rI (fun _ j => j ≠ 0) fun i j => .int (i.fmod j)) := opI fun _ _ _ _ _ _ _ hc q => mod_int' hc q
theorem op_pow : OpR X (binaryOp .Pow) (rI CPow fun i j => .int (i ^ j.toNat)) := opI fun _ _ _ _ _ _ _ hc q => pow_int_small hc.1 hc.2.1 hc.2.2 q
theorem op_shl : OpR X (binaryOp .LShift) (rI CPow fun i j => .int (i * 2 ^ j.toNat)) := opI fun _ _ _ _ _ _ _ hc q => lshift_int_small hc.1 hc.2.1 hc.2.2 q
theorem op_shr : OpR X (binaryOp .RShift) (rI (fun _ j => 0 ≤ j) fun i j => .int (i / 2 ^ j.toNat)) := opI fun i j _ _ _ _ _ hc q =>
  rshift_int hc (by rw [Int.fdiv_eq_ediv_of_nonneg i (two_pow_nn _)]; exact q)
theorem op_and : OpR X (binaryOp .BitAnd) (rI0 fun i j => .int (Builtin.bitAnd i j)) := opI0 fun _ _ _ _ _ _ _ q => and_int q
theorem op_or : OpR X (binaryOp .BitOr) (rI0 fun i j => .int (Builtin.bitOr i j)) := opI0 fun _ _ _ _ _ _ _ q => or_int q
theorem op_xor : OpR X (binaryOp .BitXor) (rI0 fun i j => .int (Builtin.bitXor i j)) := opI0 fun _ _ _ _ _ _ _ q => xor_int q

theorem iop_add : OpR X (inplaceOp .Add) (rI0 fun i j => .int (i + j)) := opI0 fun _ _ _ _ _ _ _ q => iadd_int q
theorem iop_sub : OpR X (inplaceOp .Sub) (rI0 fun i j => .int (i - j)) := opI0 fun _ _ _ _ _ _ _ q => isub_int q
theorem iop_mul : OpR X (inplaceOp .Mult) (rI CMul fun i j => .int (i * j)) := opI fun _ _ _ _ _ _ _ hc q => imul_int q hc.ok
theorem iop_fdiv : OpR X (inplaceOp .FloorDiv) (rI CDiv fun i j => .int (i / j)) := opI fun i j _ _ _ _ _ hc q => by
  have h1 : (0 : Int) < j := hc.1
  have h2 : j < 1073741824 := hc.2
  exact ifloordiv_int (by omega) (by rw [Int.fdiv_eq_ediv_of_nonneg i (by omega)]; exact q) (.inl (PyProof.noPylong_small (by omega)))
theorem iop_mod : OpR X (inplaceOp .Mod) (rI (fun _ j => 0 < j) fun i j => .int (i % j)) := opI fun i j _ _ _ _ _ hc q => by
  have h1 : (0 : Int) < j := hc
  exact imod_int (by omega) (by rw [Int.fmod_eq_emod_of_nonneg i (by omega)]; exact q)
theorem iop_shl : OpR X (inplaceOp .LShift) (rI CPow fun i j => .int (i * 2 ^ j.toNat)) := opI fun _ _ _ _ _ _ _ hc q => ilshift_int_small hc.1 hc.2.1 hc.2.2 q
theorem iop_shr : OpR X (inplaceOp .RShift) (rI (fun _ j => 0 ≤ j) fun i j => .int (i / 2 ^ j.toNat)) := opI fun i j _ _ _ _ _ hc q =>
  irshift_int hc (by rw [Int.fdiv_eq_ediv_of_nonneg i (two_pow_nn _)]; exact q)
theorem iop_and : OpR X (inplaceOp .BitAnd) (rI0 fun i j => .int (Builtin.bitAnd i j)) := opI0 fun _ _ _ _ _ _ _ q => iand_int q
theorem iop_or : OpR X (inplaceOp .BitOr) (rI0 fun i j => .int (Builtin.bitOr i j)) := opI0 fun _ _ _ _ _ _ _ q => ior_int q
theorem iop_xor : OpR X (inplaceOp .BitXor) (rI0 fun i j => .int (Builtin.bitXor i j)) := opI0 fun _ _ _ _ _ _ _ q => ixor_int q

theorem unI {f : Value → Sem Value} {g : Int → Int}
    (rule : ∀ (i : Int) (t : Tok) (s : Shared) (Q : Value → Shared → Prop) (E : Value → Shared → Prop), Q (.int (g i) s.toks) { s with toks := s.toks + 1 } → wpAny (model X.prog X.w) X.A (f (.int i t)) Q E s) :
    UnR X f (rU fun i => .int (g i)) := by
  intro pins s σ H x v Q I rx h
  obtain ⟨i, rfl, q⟩ := h
  obtain ⟨t, rfl⟩ := rx
  exact rule i t s _ _ ⟨.int (g i), H, I.tok _, ⟨_, rfl⟩, q⟩
theorem un_neg : UnR X (unaryOp .USub) (rU fun i => .int (-i)) := unI fun _ _ _ _ _ q => neg_int q
theorem un_inv : UnR X (unaryOp .Invert) (rU fun i => .int (Builtin.bitNot i)) := unI fun _ _ _ _ _ q => invert_int q

/-! ### bools among ints: n += (a < b) -/
theorem op_add_ib : OpR X (binaryOp .Add) (fun x y H Q => ∃ i k, x = .int i ∧ y = .bl k ∧ Q (.int (i + b2i k)) H) := by
  intro pins s σ H x y v u Q I rx ry h
  obtain ⟨i, k, rfl, rfl, q⟩ := h
  obtain ⟨t, rfl⟩ := rx
  cases ry
  exact add_int_bool ⟨.int (i + b2i k), H, I.tok _, ⟨_, rfl⟩, q⟩
end

/-! ### comparisons -/
/-- the scalars that == tells apart as data does -/
def scal : V → V → Bool
  | .non, .non => true | .non, .int _ => true | .int _, .non => true | .non, .bl _ => true | .bl _, .non => true | .non, .str _ => true | .str _, .non => true
  | .int _, .int _ => true | .bl _, .bl _ => true | .str _, .str _ => true | .byt _, .byt _ => true
  | .int _, .str _ => true | .str _, .int _ => true | .bl _, .str _ => true | .str _, .bl _ => true
  | _, _ => false
def rEq : R2 := fun x y H Q => scal x y = true ∧ Q (.bl (decide (x = y))) H
def rNe : R2 := fun x y H Q => scal x y = true ∧ Q (.bl (!decide (x = y))) H

theorem dec_int {i j : Int} : decide (V.int i = V.int j) = (i == j) := by
  rw [Bool.eq_iff_iff]
  simp
theorem dec_bl {i j : Bool} : decide (V.bl i = V.bl j) = (i == j) := by
  rw [Bool.eq_iff_iff]
  simp
theorem dec_str {i j : Str} : decide (V.str i = V.str j) = (i == j) := by
  rw [Bool.eq_iff_iff]
  simp
theorem dec_byt {i j : Array UInt8} : decide (V.byt i = V.byt j) = (i.toList == j.toList) := by
  rw [Bool.eq_iff_iff]
  cases i
  cases j
  simp

section
variable {X : Cx} {a b c : Expr} {ta tb tc : TE} {pos : Pos}
theorem fin_bl {pins : List (Addr × Obj)} {σ : St} {H : Hp} {s : Shared} {Q : VK} {k k' : Bool} (I : Inv X pins σ H s) (q : Q (.bl k) H) (e : k = k') : EP X pins σ Q (.bool k') s := by
  subst e
  exact ⟨.bl k, H, I, rfl, q⟩
theorem op_eq : OpR X (compareOp .Eq) rEq := by
  intro pins s σ H x y v u Q I rx ry h
  obtain ⟨hs, q⟩ := h
  cases x with
  | non =>
    cases rx
    cases y with
    | non => cases ry; exact PySem.EqNone.eq_none_none (fin_bl I q (by simp))
    | bl j => cases ry; exact PySem.EqNone.eq_none_bool (fin_bl I q (by simp))
    | int j => obtain ⟨t', rfl⟩ := ry; exact PySem.EqNone.eq_none_int (fin_bl I q (by simp))
    | str j => obtain ⟨t', rfl⟩ := ry; exact PySem.EqNone.eq_none_str (fin_bl I q (by simp))
    | _ => exact absurd (show false = true from hs) Bool.false_ne_true
  | bl i =>
    cases rx
    cases y with
    | non => cases ry; exact PySem.EqNone.eq_bool_none (fin_bl I q (by simp))
    | bl j => cases ry; exact eq_bool (fin_bl I q dec_bl)
    | str j => obtain ⟨t', rfl⟩ := ry; exact PySem.EqMixed.eq_bool_str (fin_bl I q (by simp))
    | _ => exact absurd (show false = true from hs) Bool.false_ne_true
  | int i =>
    obtain ⟨t, rfl⟩ := rx
    cases y with
    | non => cases ry; exact PySem.EqNone.eq_int_none (fin_bl I q (by simp))
    | int j => obtain ⟨t', rfl⟩ := ry; exact eq_int (fin_bl I q dec_int)
    | str j => obtain ⟨t', rfl⟩ := ry; exact PySem.EqMixed.eq_int_str (fin_bl I q (by simp))
    | _ => exact absurd (show false = true from hs) Bool.false_ne_true
  | str i =>
    obtain ⟨t, rfl⟩ := rx
    cases y with
    | non => cases ry; exact PySem.EqNone.eq_str_none (fin_bl I q (by simp))
    | bl j => cases ry; exact PySem.EqMixed.eq_str_bool (fin_bl I q (by simp))
    | int j => obtain ⟨t', rfl⟩ := ry; exact PySem.EqMixed.eq_str_int (fin_bl I q (by simp))
    | str j => obtain ⟨t', rfl⟩ := ry; exact eq_str (fin_bl I q dec_str)
    | _ => exact absurd (show false = true from hs) Bool.false_ne_true
  | byt i =>
    obtain ⟨t, rfl⟩ := rx
    cases y with
    | byt j => obtain ⟨t', rfl⟩ := ry; exact PySem.W.eq_bytes (fin_bl I q dec_byt)
    | _ => exact absurd (show false = true from hs) Bool.false_ne_true
  | _ => cases y <;> exact absurd (show false = true from hs) Bool.false_ne_true
theorem op_ne : OpR X (compareOp .NotEq) rNe := by
  intro pins s σ H x y v u Q I rx ry h
  obtain ⟨hs, q⟩ := h
  cases x with
  | non =>
    cases rx
    cases y with
    | non => cases ry; exact PySem.EqNone.ne_none_none (fin_bl I q (by simp))
    | bl j => cases ry; exact PySem.EqNone.ne_none_bool (fin_bl I q (by simp))
    | int j => obtain ⟨t', rfl⟩ := ry; exact PySem.EqNone.ne_none_int (fin_bl I q (by simp))
    | str j => obtain ⟨t', rfl⟩ := ry; exact PySem.EqNone.ne_none_str (fin_bl I q (by simp))
    | _ => exact absurd (show false = true from hs) Bool.false_ne_true
  | bl i =>
    cases rx
    cases y with
    | non => cases ry; exact PySem.EqNone.ne_bool_none (fin_bl I q (by simp))
    | bl j => cases ry; exact ne_bool (fin_bl I q (congrArg not dec_bl))
    | str j => obtain ⟨t', rfl⟩ := ry; exact PySem.EqMixed.ne_bool_str (fin_bl I q (by simp))
    | _ => exact absurd (show false = true from hs) Bool.false_ne_true
  | int i =>
    obtain ⟨t, rfl⟩ := rx
    cases y with
    | non => cases ry; exact PySem.EqNone.ne_int_none (fin_bl I q (by simp))
    | int j => obtain ⟨t', rfl⟩ := ry; exact ne_int (fin_bl I q (congrArg not dec_int))
    | str j => obtain ⟨t', rfl⟩ := ry; exact PySem.EqMixed.ne_int_str (fin_bl I q (by simp))
    | _ => exact absurd (show false = true from hs) Bool.false_ne_true
  | str i =>
    obtain ⟨t, rfl⟩ := rx
    cases y with
    | non => cases ry; exact PySem.EqNone.ne_str_none (fin_bl I q (by simp))
    | bl j => cases ry; exact PySem.EqMixed.ne_str_bool (fin_bl I q (by simp))
    | int j => obtain ⟨t', rfl⟩ := ry; exact PySem.EqMixed.ne_str_int (fin_bl I q (by simp))
    | str j => obtain ⟨t', rfl⟩ := ry; exact ne_str (fin_bl I q (congrArg not dec_str))
    | _ => exact absurd (show false = true from hs) Bool.false_ne_true
  | byt i =>
    obtain ⟨t, rfl⟩ := rx
    cases y with
    | byt j => obtain ⟨t', rfl⟩ := ry; exact PySem.W.ne_bytes (fin_bl I q (congrArg not dec_byt))
    | _ => exact absurd (show false = true from hs) Bool.false_ne_true
  | _ => cases y <;> exact absurd (show false = true from hs) Bool.false_ne_true

theorem op_lt : OpR X (compareOp .Lt) (rI0 fun i j => .bl (decide (i < j))) := opB0 fun _ _ _ _ _ _ _ q => lt_int q
theorem op_le : OpR X (compareOp .LtE) (rI0 fun i j => .bl (decide (i ≤ j))) := opB0 fun _ _ _ _ _ _ _ q => le_int q
theorem op_gt : OpR X (compareOp .Gt) (rI0 fun i j => .bl (decide (j < i))) := opB0 fun _ _ _ _ _ _ _ q => gt_int q
theorem op_ge : OpR X (compareOp .GtE) (rI0 fun i j => .bl (decide (j ≤ i))) := opB0 fun _ _ _ _ _ _ _ q => ge_int q
theorem op_lt_str : OpR X (compareOp .Lt) (fun x y H Q => ∃ i j, x = .str i ∧ y = .str j ∧ Q (.bl (decide (i.cps.toList < j.cps.toList))) H) := by
  intro pins s σ H x y v u Q I rx ry h
  obtain ⟨i, j, rfl, rfl, q⟩ := h
  obtain ⟨t, rfl⟩ := rx
  obtain ⟨t', rfl⟩ := ry
  exact lt_str (fin_bl I q rfl)
/-- the one string within the other -/
theorem op_in_str : OpR X (compareOp .In) (fun x y H Q => ∃ i j, x = .str i ∧ y = .str j ∧ Q (.bl (!(Builtin.Str.occurrences j i 0 j.length 1).isEmpty)) H) := by
  intro pins s σ H x y v u Q I rx ry h
  obtain ⟨i, j, rfl, rfl, q⟩ := h
  obtain ⟨t, rfl⟩ := rx
  obtain ⟨t', rfl⟩ := ry
  exact in_str (fin_bl I q rfl)

/-- is None, is not None: the right side a value none -/
theorem op_isN : OpR X (compareOp .Is) (fun x y H Q => y = .non ∧ Q (.bl (decide (x = .non))) H) := by
  intro pins s σ H x y v u Q I rx ry h
  obtain ⟨rfl, q⟩ := h
  cases ry
  refine is_none_gen (fin_bl I q ?_)
  cases x <;> first
    | (cases rx; rfl)
    | (obtain ⟨t, rfl⟩ := rx; rfl)
theorem op_notN : OpR X (compareOp .IsNot) (fun x y H Q => y = .non ∧ Q (.bl (!decide (x = .non))) H) := by
  intro pins s σ H x y v u Q I rx ry h
  obtain ⟨rfl, q⟩ := h
  cases ry
  refine isnot_none_gen (fin_bl I q ?_)
  cases x <;> first
    | (cases rx; rfl)
    | (obtain ⟨t, rfl⟩ := rx; rfl)

theorem op_notin_str : OpR X (compareOp .NotIn) (fun x y H Q => ∃ i j, x = .str i ∧ y = .str j ∧ Q (.bl (!(!(Builtin.Str.occurrences j i 0 j.length 1).isEmpty))) H) := by
  intro pins s σ H x y v u Q I rx ry h
  obtain ⟨i, j, rfl, rfl, q⟩ := h
  obtain ⟨t, rfl⟩ := rx
  obtain ⟨t', rfl⟩ := ry
  exact notIn_str (fin_bl I q rfl)
/-- is, is not of two objects that are tracked lists or instances -/
def isObj : HO → Bool
  | .lst _ => true
  | .ins _ _ _ => true
  | _ => false
theorem obj_there {pins : List (Addr × Obj)} {s : Shared} {σ : St} {H : Hp} {a : Addr} {o : HO} (I : Inv X pins σ H s) (h : H a = some o) (p : isObj o = true) : ∃ ob, s.heap.get? a = some ob ∧ ob.cls ≠ .type "tuple" := by
  cases o with
  | lst xs =>
    obtain ⟨_, its, n, _, e⟩ : xs.length ≤ sizeLine ∧ ∃ (its : List Value) (n : Nat), Vals xs its ∧ s.heap.get? a = some { cls := .type "list", data := .seq its.toArray n } := I.hok a _ h
    exact ⟨_, e, (by show Value.type "list" ≠ .type "tuple"; decide +kernel)⟩
  | ins C dx fs =>
    have x := I.hok a _ h
    obtain ⟨_, _, _, e, _⟩ := x
    exact ⟨_, e, (by show Value.ref C ≠ .type "tuple"; exact fun z => by cases z)⟩
  | _ => exact absurd (show false = true from p) Bool.false_ne_true
theorem op_is_ref : OpR X (compareOp .Is) (fun x y H Q => ∃ a b oa ob, x = .ref a ∧ y = .ref b ∧ H a = some oa ∧ isObj oa = true ∧ H b = some ob ∧ isObj ob = true ∧ Q (.bl (decide (a = b))) H) := by
  intro pins s σ H x y v u Q I rx ry h
  obtain ⟨a, b, oa, ob, rfl, rfl, ha, pa, hb, pb, q⟩ := h
  cases rx
  cases ry
  obtain ⟨o1, e1, n1⟩ := obj_there I ha pa
  obtain ⟨o2, e2, _⟩ := obj_there I hb pb
  by_cases z : a = b
  · subst z
    exact wpAny_is_ref_self (fin_bl I q (by simp))
  · exact wpAny_is_ref_other z e1 e2 n1 (fin_bl I q (by simp [z]))
theorem op_isnot_ref : OpR X (compareOp .IsNot) (fun x y H Q => ∃ a b oa ob, x = .ref a ∧ y = .ref b ∧ H a = some oa ∧ isObj oa = true ∧ H b = some ob ∧ isObj ob = true ∧ Q (.bl (!decide (a = b))) H) := by
  intro pins s σ H x y v u Q I rx ry h
  obtain ⟨a, b, oa, ob, rfl, rfl, ha, pa, hb, pb, q⟩ := h
  cases rx
  cases ry
  obtain ⟨o1, e1, n1⟩ := obj_there I ha pa
  obtain ⟨o2, e2, _⟩ := obj_there I hb pb
  by_cases z : a = b
  · subst z
    exact wpAny_isNot_ref_self (fin_bl I q (by simp))
  · exact wpAny_isNot_ref_other z e1 e2 n1 (fin_bl I q (by simp [z]))

/-- two rules for one operation: by cases -/
theorem OpR.or {f : Value → Value → Sem Value} {r r' : R2} (h : OpR X f r) (h' : OpR X f r') : OpR X f (fun x y H Q => r x y H Q ∨ r' x y H Q) := by
  intro pins s σ H x y v u Q I rx ry q
  rcases q with q | q
  · exact h pins s σ H x y v u Q I rx ry q
  · exact h' pins s σ H x y v u Q I rx ry q

theorem nomark (b : Expr) {op : CmpOp} (h : op ≠ .In := by decide) (h2 : op ≠ .NotIn := by decide) : behindInMarks op b = false := by
  have e1 : (op == CmpOp.In) = false := by cases op <;> first | rfl | exact absurd rfl h
  have e2 : (op == CmpOp.NotIn) = false := by cases op <;> first | rfl | exact absurd rfl h2
  cases b <;> simp [behindInMarks, e1, e2]
/-- a comparison as a value; hm: nomark b, or (for in, not in) by with_unfolding_all rfl -/
theorem pe_cmpR {op : CmpOp} {r : R2} (ho : OpR X (compareOp op) r) (ha : PE X a ta) (hb : PE X b tb) (hm : behindInMarks op b = false) : PE X (.Compare a [op] [b] pos) (tOp r ta tb) := by
  intro pins s σ H Q I h
  exact wpAny_Compare1 (binT ha hb I h fun v u s2 x y H2 I2 rx ry q => ho pins s2 σ H2 x y v u Q I2 rx ry q) hm
/-- a reading of a value as a test -/
def tTest (t : TE) : TT := fun σ H Q => t σ H fun x H' => ∃ k, x = .bl k ∧ Q k H'
theorem pt_cmpR {op : CmpOp} {r : R2} (ho : OpR X (compareOp op) r) (ha : PE X a ta) (hb : PE X b tb) (hm : behindInMarks op b = false) : PT X (.Compare a [op] [b] pos) (tTest (tOp r ta tb)) := by
  intro pins s σ H Q I h
  refine wpAny_isTrue_Compare1 (thn (ha pins s σ H _ I h) fun v s1 ⟨x, H1, I1, r1, q1⟩ => thn (hb pins s1 σ H1 _ I1 q1) fun u s2 ⟨y, H2, I2, r2, q2⟩ =>
    thn (ho pins s2 σ H2 x y v u _ I2 r1 r2 q2) fun c s3 ⟨z, H3, I3, r3, k, e, q3⟩ => ?_) hm
  subst e
  cases r3
  exact wpAny_truthy_bool ⟨H3, I3, q3⟩
/-- a op1 b op2 c -/
def tChain (r r' : R2) (ta tb tc : TE) : TE := fun σ H Q => ta σ H fun x H1 => tb σ H1 fun y H2 => r x y H2 fun z H3 => ∃ k, z = .bl k ∧
  (if k = true then tc σ H3 fun w' H4 => r' y w' H4 Q else Q (.bl false) H3)
theorem pe_chain {op op' : CmpOp} {r r' : R2} (ho : OpR X (compareOp op) r) (ho' : OpR X (compareOp op') r') (ha : PE X a ta) (hb : PE X b tb) (hc : PE X c tc)
    (hm : lastMarks [op, op'] [b, c] = false := by with_unfolding_all rfl) : PE X (.Compare a [op, op'] [b, c] pos) (tChain r r' ta tb tc) := by
  intro pins s σ H Q I h
  refine Compare_chain (thn (ha pins s σ H _ I h) fun v s1 ⟨x, H1, I1, r1, q1⟩ => chain_link (thn (hb pins s1 σ H1 _ I1 q1) fun u s2 ⟨y, H2, I2, r2, q2⟩ =>
    thn (ho pins s2 σ H2 x y v u _ I2 r1 r2 q2) fun d s3 ⟨z, H3, I3, r3, k, e, q3⟩ => ?_)) hm
  subst e
  cases r3
  refine wpAny_truthy_bool ?_
  cases k with
  | false => exact ite_ff ⟨.bl false, H3, I3, rfl, q3⟩
  | true => exact ite_tt (chain_last (thn (hc pins s3 σ H3 _ I3 q3) fun w' s4 ⟨z', H4, I4, r4, q4⟩ => ho' pins s4 σ H4 y z' u w' Q I4 r2 r4 q4))
theorem pt_chain {op op' : CmpOp} {r r' : R2} (ho : OpR X (compareOp op) r) (ho' : OpR X (compareOp op') r') (ha : PE X a ta) (hb : PE X b tb) (hc : PE X c tc)
    (hm : lastMarks [op, op'] [b, c] = false := by with_unfolding_all rfl) : PT X (.Compare a [op, op'] [b, c] pos) (tTest (tChain r r' ta tb tc)) := by
  intro pins s σ H Q I h
  refine isTrue_chain (thn (ha pins s σ H _ I h) fun v s1 ⟨x, H1, I1, r1, q1⟩ => test_link (thn (hb pins s1 σ H1 _ I1 q1) fun u s2 ⟨y, H2, I2, r2, q2⟩ =>
    thn (ho pins s2 σ H2 x y v u _ I2 r1 r2 q2) fun d s3 ⟨z, H3, I3, r3, k, e, q3⟩ => ?_)) hm
  subst e
  cases r3
  refine wpAny_truthy_bool ?_
  cases k with
  | false =>
    obtain ⟨k', e', q'⟩ := q3
    cases e'
    exact ite_ff ⟨H3, I3, q'⟩
  | true =>
    refine ite_tt (test_last (thn (hc pins s3 σ H3 _ I3 q3) fun w' s4 ⟨z', H4, I4, r4, q4⟩ => thn (ho' pins s4 σ H4 y z' u w' _ I4 r2 r4 q4) fun d' s5 ⟨z2, H5, I5, r5, k2, e2, q5⟩ => ?_))
    subst e2
    cases r5
    exact wpAny_truthy_bool ⟨H5, I5, q5⟩

/-! ### truth -/
/-- a value's truth by the abstract heap -/
def TruV (K : PySem.W.Frag) (x : V) (H : Hp) (k : Bool) : Prop :=
  match x with
  | .non => k = false
  | .bl b => k = b
  | .int i => k = (i != 0)
  | .str y => y.length ≤ sizeLine ∧ k = ((y.length : Int) != 0)
  | .byt y => y.size ≤ sizeLine ∧ k = ((y.size : Int) != 0)
  | .ref p => (∃ xs, SqL K H p xs ∧ k = !xs.isEmpty) ∨ (∃ xs, SqT K H p xs ∧ k = !xs.isEmpty) ∨ ∃ kvs, H p = some (.dK kvs) ∧ k = !kvs.isEmpty
  | _ => False
theorem isEmpty_kv {κ : Type} {kvs : List (κ × V)} {vs : List (κ × Value)} (r : KV kvs vs) : (!vs.isEmpty) = !kvs.isEmpty := by
  cases r <;> rfl
theorem isEmpty_of {xs : List V} {its : List Value} (r : Vals xs its) : (!its.toArray.isEmpty) = !xs.isEmpty := by
  cases r <;> simp
theorem line63 : (sizeLine : Nat) < 2 ^ 63 := by rw [sizeLine_eq]; decide
theorem tru_ok : TruR X (fun x H Q => ∃ k, TruV X.K x H k ∧ Q k H) := by
  intro pins s σ H x v Q I rx h
  obtain ⟨k, e, q⟩ := h
  have hl := line63
  have hs : sizeLine = 16777216 := sizeLine_eq
  cases x with
  | non =>
    cases rx
    have e' : k = false := e
    subst e'
    exact truthy_none ⟨H, I, q⟩
  | bl b =>
    cases rx
    have e' : k = b := e
    subst e'
    exact wpAny_truthy_bool ⟨H, I, q⟩
  | int i =>
    obtain ⟨t, rfl⟩ := rx
    have e' : k = (i != 0) := e
    subst e'
    exact PySem.P.truthy_int ⟨H, I, q⟩
  | str y =>
    obtain ⟨t, rfl⟩ := rx
    obtain ⟨hy, e'⟩ : y.length ≤ sizeLine ∧ k = ((y.length : Int) != 0) := e
    subst e'
    exact PySem.P.truthy_str (by omega) ⟨H, I.tok _, q⟩
  | byt y =>
    obtain ⟨t, rfl⟩ := rx
    obtain ⟨hy, e'⟩ : y.size ≤ sizeLine ∧ k = ((y.size : Int) != 0) := e
    subst e'
    exact PySem.W.truthy_bytes (by omega) ⟨H, I.tok _, q⟩
  | ref p =>
    cases rx
    have e' : (∃ xs, SqL X.K H p xs ∧ k = !xs.isEmpty) ∨ (∃ xs, SqT X.K H p xs ∧ k = !xs.isEmpty) ∨ ∃ kvs, H p = some (.dK kvs) ∧ k = !kvs.isEmpty := e
    rcases e' with ⟨xs, hx, e'⟩ | ⟨xs, hx, e'⟩ | ⟨kvs, hx, e'⟩
    · subst e'
      obtain ⟨its, r, pl, hz⟩ := I.list hx
      have hlen := r.length
      exact wpAny_truthy_list pl.isList (by simp only [List.size_toArray]; omega) ⟨H, I.tok _, by rw [isEmpty_of r]; exact q⟩
    · subst e'
      obtain ⟨its, r, pl, hz⟩ := I.tuple hx
      have hlen := r.length
      exact truthy_tuple pl (by simp only [List.size_toArray]; omega) ⟨H, I.tok _, by rw [isEmpty_of r]; exact q⟩
    · subst e'
      obtain ⟨hz, hS, vs, r, m⟩ : kvs.length ≤ sizeLine ∧ (p == sysModules) = false ∧ ∃ vs, KV kvs vs ∧ s.heap.DictOf (mixKind X.prog X.w) p vs := I.hok p _ hx
      have hlen : kvs.length = vs.length := Paired.length r
      exact wpAny_truthy_dict hS m (by omega) ⟨H, I.tok _, by rw [isEmpty_kv r]; exact q⟩
  | _ => exact (show False from e).elim
/-- any expression whose test is its value's truth (a name, a call, a subscript, a field ..: he by fun _ => rfl) -/
theorem pt_truth (ha : PE X a ta) (he : ∀ whole, isTrue a X.env whole = (do let v ← whole; standAt a.pos; holding [v] (truthy v))) :
    PT X a (fun σ H Q => ta σ H fun x H' => ∃ k, TruV X.K x H' k ∧ Q k H') := by
  intro pins s σ H Q I h
  exact isTrue_plain (thn (ha pins s σ H _ I h) fun v s1 ⟨x, H1, I1, r1, q1⟩ => tru_ok pins s1 σ H1 x v Q I1 r1 q1) (he _)

/-! ### strs and bytes -/
theorem pe_byt {x : List UInt8} {k : Nat} : PE X (.Constant (.bytes x) k pos) (fun _ H Q => Q (.byt x.toArray) H) := fun _ _ _ H _ I h => PySem.W.Constant_bytes ⟨.byt x.toArray, H, I.tok _, ⟨_, rfl⟩, h⟩
theorem op_add_str : OpR X (binaryOp .Add) (fun x y H Q => ∃ i j, x = .str i ∧ y = .str j ∧ i.length + j.length ≤ sizeLine ∧ Q (.str (i ++ j)) H) := by
  intro pins s σ H x y v u Q I rx ry h
  obtain ⟨i, j, rfl, rfl, hz, q⟩ := h
  obtain ⟨t, rfl⟩ := rx
  obtain ⟨t', rfl⟩ := ry
  exact add_str (fun t' tk => ⟨.str (i ++ j), H, I.tok _, ⟨_, rfl⟩, q⟩) hz
theorem iop_add_str : OpR X (inplaceOp .Add) (fun x y H Q => ∃ i j, x = .str i ∧ y = .str j ∧ i.length + j.length ≤ sizeLine ∧ Q (.str (i ++ j)) H) := by
  intro pins s σ H x y v u Q I rx ry h
  obtain ⟨i, j, rfl, rfl, hz, q⟩ := h
  obtain ⟨t, rfl⟩ := rx
  obtain ⟨t', rfl⟩ := ry
  exact iadd_str (fun t' tk => ⟨.str (i ++ j), H, I.tok _, ⟨_, rfl⟩, q⟩) hz
theorem op_add_byt : OpR X (binaryOp .Add) (fun x y H Q => ∃ i j, x = .byt i ∧ y = .byt j ∧ i.size + j.size ≤ 16777216 ∧ Q (.byt (i ++ j)) H) := by
  intro pins s σ H x y v u Q I rx ry h
  obtain ⟨i, j, rfl, rfl, hz, q⟩ := h
  obtain ⟨t, rfl⟩ := rx
  obtain ⟨t', rfl⟩ := ry
  exact PySem.W.KBy.add_bytes hz (fun t' tk => ⟨.byt (i ++ j), H, I.tok _, ⟨_, rfl⟩, q⟩)

def PlainIxT (b : Expr) : Prop := ∀ o i, subscripted b false o i = operate [o, i] (getItem o i)
/-- s[i], 0 ≤ i < len -/
theorem pe_item_str (ha : PE X a ta) (hb : PE X b tb) (hs : PlainIxT b) :
    PE X (.Subscript a b pos) (tOp (fun x y H Q => ∃ z i c, x = .str z ∧ y = .int i ∧ 0 ≤ i ∧ i < 2 ^ 63 ∧ i < z.length ∧ z.cps[i.toNat]? = some c ∧ Q (.str ⟨#[c]⟩) H) ta tb) := by
  intro pins s σ H Q I h
  refine Subscript_ (binT ha hb I h fun v u s2 x y H2 I2 rx ry q => ?_)
  obtain ⟨z, i, c, rfl, rfl, h0, h63, h1, hc, q⟩ := q
  obtain ⟨t, rfl⟩ := rx
  obtain ⟨t', rfl⟩ := ry
  have e : seqIndex? i z.length = some i.toNat := PySem.StrLaws.seqIndex_nonneg h0 h1
  exact tail_any (typeIs_str s2 z t) slot_str_getitem.lookup (getItem_str (c := c) (by
    have e1 : decide (i < -(2 ^ 63 : Int)) = false := decide_eq_false (by omega)
    have e2 : decide (i ≥ 2 ^ 63) = false := decide_eq_false (by omega)
    rw [e1, e2] <;> rfl) (by rw [e]; exact hc) ⟨.str ⟨#[c]⟩, H2, I2.tok _, ⟨_, rfl⟩, q⟩) (hs _ _)
/-- b[i], 0 ≤ i < len -/
theorem pe_item_byt (ha : PE X a ta) (hb : PE X b tb) (hs : PlainIxT b) :
    PE X (.Subscript a b pos) (tOp (fun x y H Q => ∃ (z : List UInt8) (i : Int), x = .byt z.toArray ∧ y = .int i ∧ z.length ≤ sizeLine ∧ 0 ≤ i ∧ i < z.length ∧ Q (.int ((z.getD i.toNat 0).toNat : Nat)) H) ta tb) := by
  intro pins s σ H Q I h
  refine Subscript_ (binT ha hb I h fun v u s2 x y H2 I2 rx ry q => ?_)
  obtain ⟨z, i, rfl, rfl, hz, h0, h1, q⟩ := q
  obtain ⟨t, rfl⟩ := rx
  obtain ⟨t', rfl⟩ := ry
  have hl : sizeLine = 16777216 := sizeLine_eq
  exact tail_any (PySem.W.typeIs_bytes s2 z.toArray t) PySem.W.FB.slot_bytes_getitem.lookup (PySem.W.getItem_bytes (by omega) h0 h1 ⟨.int ((z.getD i.toNat 0).toNat : Nat), H2, I2.tok _, ⟨_, rfl⟩, q⟩) (hs _ _)

/-! ### scalar builtins, by CallR -/
theorem vals1 {x : V} {us : List Value} (r : Vals [x] us) : ∃ u, us = [u] ∧ RelV x u := by
  cases r with
  | cons r1 r2 => cases r2; exact ⟨_, rfl, r1⟩
theorem vals2 {x y : V} {us : List Value} (r : Vals [x, y] us) : ∃ u w', us = [u, w'] ∧ RelV x u ∧ RelV y w' := by
  cases r with
  | cons r1 r2 =>
    cases r2 with
    | cons r3 r4 => cases r4; exact ⟨_, _, rfl, r1, r3⟩
theorem call_abs : CallR X (.builtin "abs") (fun xs H Q => ∃ i, xs = [.int i] ∧ Q (.int (if i < 0 then -i else i)) H) := by
  intro pins s σ H xs us Q I r h
  obtain ⟨i, rfl, q⟩ := h
  obtain ⟨u, rfl, t, rfl⟩ := vals1 r
  exact call_abs_int fun u tk => ⟨.int (if i < 0 then -i else i), H, I.tok _, ⟨_, rfl⟩, q⟩
theorem call_max2 (hc : X.calm = true) : CallR X (.builtin "max") (fun xs H Q => ∃ i j, xs = [.int i, .int j] ∧ Q (.int (if j > i then j else i)) H) := by
  intro pins s σ H xs us Q I r h
  obtain ⟨i, j, rfl, q⟩ := h
  obtain ⟨u, w', rfl, ⟨t, rfl⟩, ⟨t', rfl⟩⟩ := vals2 r
  refine max_two_ints (I.ok.hd hc) fun h' tk k => ⟨_, H, I.kept k, ?_, q⟩
  by_cases hj : j > i
  · rw [if_pos hj, if_pos hj]; exact ⟨_, rfl⟩
  · rw [if_neg hj, if_neg hj]; exact ⟨_, rfl⟩
theorem call_min2 (hc : X.calm = true) : CallR X (.builtin "min") (fun xs H Q => ∃ i j, xs = [.int i, .int j] ∧ Q (.int (if j < i then j else i)) H) := by
  intro pins s σ H xs us Q I r h
  obtain ⟨i, j, rfl, q⟩ := h
  obtain ⟨u, w', rfl, ⟨t, rfl⟩, ⟨t', rfl⟩⟩ := vals2 r
  refine min_two_ints (I.ok.hd hc) fun h' tk k => ⟨_, H, I.kept k, ?_, q⟩
  by_cases hj : j < i
  · rw [if_pos hj, if_pos hj]; exact ⟨_, rfl⟩
  · rw [if_neg hj, if_neg hj]; exact ⟨_, rfl⟩
theorem call_int1 : CallR X (.type "int") (fun xs H Q => (∃ i, xs = [.int i] ∧ Q (.int i) H) ∨ ∃ k, xs = [.bl k] ∧ Q (.int (if k then 1 else 0)) H) := by
  intro pins s σ H xs us Q I r h
  rcases h with ⟨i, rfl, q⟩ | ⟨k, rfl, q⟩
  · obtain ⟨u, rfl, t, rfl⟩ := vals1 r
    exact call_int_int ⟨.int i, H, I, ⟨_, rfl⟩, q⟩
  · obtain ⟨u, rfl, r1⟩ := vals1 r
    cases r1
    exact call_int_bool ⟨.int (if k then 1 else 0), H, I.tok _, ⟨_, rfl⟩, q⟩
theorem call_bool1 : CallR X (.type "bool") (fun xs H Q => (∃ i, xs = [.int i] ∧ Q (.bl (i != 0)) H) ∨ ∃ k, xs = [.bl k] ∧ Q (.bl k) H) := by
  intro pins s σ H xs us Q I r h
  rcases h with ⟨i, rfl, q⟩ | ⟨k, rfl, q⟩
  · obtain ⟨u, rfl, t, rfl⟩ := vals1 r
    exact call_bool_int ⟨.bl (i != 0), H, I, rfl, q⟩
  · obtain ⟨u, rfl, r1⟩ := vals1 r
    cases r1
    exact call_bool_bool ⟨.bl k, H, I, rfl, q⟩
theorem call_str_int : CallR X (.type "str") (fun xs H Q => ∃ i, xs = [.int i] ∧ i.natAbs.log2 < 1920 ∧ Q (.str (toString i)) H) := by
  intro pins s σ H xs us Q I r h
  obtain ⟨i, rfl, hz, q⟩ := h
  obtain ⟨u, rfl, t, rfl⟩ := vals1 r
  exact PySem.P.str_of_int hz ⟨.str _, H, I.tok _, ⟨_, rfl⟩, q⟩
theorem call_ord : CallR X (.builtin "ord") (fun xs H Q => ∃ x, xs = [.str x] ∧ x.length = 1 ∧ Q (.int (x.cps.getD 0 0 : Nat)) H) := by
  intro pins s σ H xs us Q I r h
  obtain ⟨x, rfl, hz, q⟩ := h
  obtain ⟨u, rfl, t, rfl⟩ := vals1 r
  exact ord_of_one hz ⟨.int _, H, I.tok _, ⟨_, rfl⟩, q⟩
theorem call_chr : CallR X (.builtin "chr") (fun xs H Q => ∃ i, xs = [.int i] ∧ 0 ≤ i ∧ i ≤ 1114111 ∧ Q (.str ⟨#[i.toNat]⟩) H) := by
  intro pins s σ H xs us Q I r h
  obtain ⟨i, rfl, h0, h1, q⟩ := h
  obtain ⟨u, rfl, t, rfl⟩ := vals1 r
  exact chr_of_range h0 h1 ⟨.str _, H, I.tok _, ⟨_, rfl⟩, q⟩
/-- len of a str, a bytes, a list, a tuple -/
def LenV (K : PySem.W.Frag) (x : V) (H : Hp) (n : Nat) : Prop :=
  match x with
  | .str y => y.length ≤ sizeLine ∧ n = y.length
  | .byt y => y.size ≤ sizeLine ∧ n = y.size
  | .ref p => (∃ xs, SqL K H p xs ∧ n = xs.length) ∨ ∃ xs, SqT K H p xs ∧ n = xs.length
  | _ => False
theorem call_len : CallR X (.builtin "len") (fun xs H Q => ∃ x n, xs = [x] ∧ LenV X.K x H n ∧ Q (.int n) H) := by
  intro pins s σ H xs us Q I r h
  obtain ⟨x, n, rfl, e, q⟩ := h
  obtain ⟨u, rfl, rx⟩ := vals1 r
  have hl := line63
  have hs : sizeLine = 16777216 := sizeLine_eq
  cases x with
  | str y =>
    obtain ⟨t, rfl⟩ := rx
    obtain ⟨hy, e'⟩ : y.length ≤ sizeLine ∧ n = y.length := e
    subst e'
    exact len_str (by omega) ⟨.int _, H, I.tok _, ⟨_, rfl⟩, q⟩
  | byt y =>
    obtain ⟨t, rfl⟩ := rx
    obtain ⟨hy, e'⟩ : y.size ≤ sizeLine ∧ n = y.size := e
    subst e'
    exact PySem.W.len_bytes (by omega) ⟨.int _, H, I.tok _, ⟨_, rfl⟩, q⟩
  | ref p =>
    cases rx
    have e' : (∃ xs, SqL X.K H p xs ∧ n = xs.length) ∨ ∃ xs, SqT X.K H p xs ∧ n = xs.length := e
    rcases e' with ⟨xs, hx, e'⟩ | ⟨xs, hx, e'⟩
    · subst e'
      obtain ⟨its, r', pl, hz⟩ := I.list hx
      have hlen := r'.length
      exact Calls.call_len_list pl.isList (by simp only [List.size_toArray]; omega) ⟨.int xs.length, H, I.tok _, ⟨_, by simp only [List.size_toArray]; rw [hlen]⟩, q⟩
    · subst e'
      obtain ⟨its, r', pl, hz⟩ := I.tuple hx
      have hlen := r'.length
      exact len_tuple pl (by simp only [List.size_toArray]; omega) ⟨.int xs.length, H, I.tok _, ⟨_, by simp only [List.size_toArray]; rw [hlen]⟩, q⟩
  | _ => exact (show False from e).elim
/-- divmod: a new tuple -/
theorem call_divmod : CallR X (.builtin "divmod") (fun xs H Q => ∃ i j, xs = [.int i, .int j] ∧ CDiv i j ∧ ∀ p, H p = none → Q (.ref p) (upd H p (.tup [.int (i / j), .int (i % j)]))) := by
  intro pins s σ H xs us Q I r h
  obtain ⟨i, j, rfl, ⟨h1, h2⟩, q⟩ := h
  obtain ⟨u, w', rfl, ⟨t, rfl⟩, ⟨t', rfl⟩⟩ := vals2 r
  refine divmod_int (by omega) ?_ (.inl (PyProof.noPylong_small (by omega)))
  rw [Int.fdiv_eq_ediv_of_nonneg i (by omega), Int.fmod_eq_emod_of_nonneg i (by omega)]
  have hn : H s.heap.objs.size = none := I.hok.fresh (Nat.le_refl _)
  refine ⟨.ref s.heap.objs.size, _, ?_, rfl, q _ hn⟩
  refine I.laid (fun b o e => Heap.get?_push_of_some _ e) (Nat.le_refl _) ⟨by simp only [List.length_cons, List.length_nil]; rw [sizeLine_eq]; decide, [.int (i / j) s.toks, .int (i % j) (s.toks + 1)], .cons ⟨_, rfl⟩ (.cons ⟨_, rfl⟩ .nil), ?_⟩
  exact ⟨_, Heap.get?_push_size s.heap rfl, rfl, 0, rfl⟩
end
end L2

namespace L2
open PySem PySem.Spec PyProof.Rows

/-! ### an instance, its attributes a map -/
structure ObjM (h : Heap) (x dx C : Addr) (mA : Str → Option Value) : Prop where
  obj : h.get? x = some (PySem.W.instObj C dx)
  ns : h.Ns1 dx mA
  ne : dx ≠ x

theorem lookIn_ns {h : Heap} {dx : Addr} {mA : Str → Option Value} (n : h.Ns1 dx mA) : ∃ od, h.get? dx = some od ∧ ∀ name, PySem.W.lookIn name od = some (mA name) := by
  obtain ⟨o, es, ep, ho, hd, hk, _, hm⟩ := n
  refine ⟨o, ho, fun name => ?_⟩
  have e := hm name
  unfold nsFind findBy at e
  rw [← Array.find?_toList] at e
  unfold PySem.W.lookIn
  rw [hd]
  dsimp only
  split
  · rename_i y q
    rw [q] at e
    exact congrArg some e
  · rename_i q
    rw [q] at e
    have a : es.toList.any (·.refKey) = false := by
      rw [List.any_eq_false]
      intro y hy
      obtain ⟨z, t, hkey⟩ := hk y (Array.mem_toList_iff.mp hy)
      simp [DictEntry.refKey, hkey]
    have a' : ¬ es.toList.any (·.refKey) = true := by rw [a]; exact Bool.false_ne_true
    rw [if_neg a']
    exact congrArg some e

theorem ObjM.look {h : Heap} {x dx C : Addr} {mA : Str → Option Value} (I : ObjM h x dx C mA) : ∃ od, PySem.W.InstAt h x (PySem.W.instObj C dx) C (some od) ∧ ∀ name, PySem.W.lookIn name od = some (mA name) :=
  let ⟨od, ho, hl⟩ := lookIn_ns I.ns
  ⟨od, ⟨I.obj, rfl, rfl, ho⟩, hl⟩

section
variable {prog : Program} {w : World} {A : Around} {E : Value → Shared → Prop} {s : Shared} {K : PySem.W.Frag} {x dx C f : Addr} {mA : Str → Option Value} {name : Str} {v : Value}

theorem get_map {expr : Bool} {Q : Value → Shared → Prop} (X : K.In s.heap) (I : ObjM s.heap x dx C mA) (hg : PySem.W.plainGet K C name = true) (hh : PySem.W.hasDictIn K C = true)
    (ha : PySem.W.findIn K (.ref C) name = some none) (hv : mA name = some v) (hv' : PySem.W.handedIn v = true) (h : Q v { s with toks := s.toks + 1 }) :
    wpAny (model prog w) A (getAttr (.ref x) name expr) Q E s := by
  obtain ⟨od, J, hl⟩ := I.look
  exact PySem.W.get_value X J (PySem.W.plainGet_of hg).1 (PySem.W.findObj_own hh ha rfl (by rw [hl, hv])) hv' h

theorem get_const {expr : Bool} {a : Value} {Q : Value → Shared → Prop} (X : K.In s.heap) (I : ObjM s.heap x dx C mA) (hg : PySem.W.plainGet K C name = true) (hh : PySem.W.hasDictIn K C = true)
    (ha : PySem.W.findIn K (.ref C) name = some (some a)) (hn : PySem.W.specialIn K a "__get__" = some none) (hc : PySem.W.copiedNames.contains name = false) (hv : mA name = none) (hv' : PySem.W.handedIn a = true)
    (h : Q a { s with toks := s.toks + 1 }) : wpAny (model prog w) A (getAttr (.ref x) name expr) Q E s := by
  obtain ⟨od, J, hl⟩ := I.look
  exact PySem.W.get_value X J (PySem.W.plainGet_of hg).1 (PySem.W.findObj_cls hh ha hn hv' hc (by rw [hl, hv])) hv' h

theorem get_meth {pl : Sem Bool} {Q : Value × List Value → Shared → Prop} (X : K.In s.heap) (I : ObjM s.heap x dx C mA) (hg : PySem.W.plainGet K C name = true)
    (hf : PySem.W.findIn K (.ref C) name = some (some (.ref f))) (ht : PySem.W.isFn K (.ref f) = true) (hv : mA name = none) (h : Q (.ref f, [.ref x]) s) :
    wpAny (model prog w) A (getMethod (.ref x) name pl) Q E s := by
  obtain ⟨od, J, hl⟩ := I.look
  exact PySem.W.method_fn X J (PySem.W.plainGet_of hg).1 (PySem.W.plainGet_of hg).2 hf (beq_iff_eq.mp ht) (by show (PySem.W.lookIn name od).map (·.isSome) = some false; rw [hl, hv]; rfl) h

theorem set_map {ns : List Str} {Q : Unit → Shared → Prop} (X : K.In s.heap) (I : ObjM s.heap x dx C mA)
    (hs : PySem.W.findIn K (.ref C) "__setattr__" = some (some (.builtin "object.__setattr__"))) (hp : PySem.W.plainOver K C = true) (ht : PySem.W.takerIn K C name = some none) (hh : PySem.W.hasDictIn K C = true)
    (hw : PySem.Within mA ns) (hsz : ns.length ≤ sizeLine)
    (h : ∀ h', ObjM h' x dx C (fun y => if y = name then some v else mA y) → Heap.SameBut dx s.heap h' → Q () { s with heap := h', toks := s.toks + 2 }) :
    wpAny (model prog w) A (setAttr (.ref x) name v) Q E s := by
  obtain ⟨od, J, hl⟩ := I.look
  refine PySem.W.set_plain X J hs (PySem.W.osa_open (s := { s with toks := s.toks + 1 }) (r := none) X J hp ht fun b => ?_)
  obtain ⟨cd, hc, hd'⟩ := PySem.W.any_some hh
  have hx : s.heap.get? x = some ⟨.ref C, some dx, .plain, #[]⟩ := I.obj
  refine wpAny_bind (wpAny_pure (wpAny_bind (wpAny_bind (wpAny_loadPart hx (wpAny_bind (PySem.W.Looks.here (s := { s with toks := s.toks + 1 }) (PySem.W.looks_clsIn X hc) ?_))))))
  rw [hd']
  refine wpAny_pure (a := some dx) (wpAny_bind (wpAny_pure (wpAny_bind ?_)))
  refine wpAny_nsSet1 (s := { s with toks := s.toks + 1 }) I.ns fun h' hn2 hs2 => ?_
  obtain ⟨oD, esD, epD, hoD, hdD, hcD⟩ := hn2.count (PySem.Within.cons name v hw)
  refine wpAny_bind (wpAny_lookBehind hoD (by rw [hdD]; exact pastItsLine_dict (Nat.le_trans hcD (by rw [List.length_cons]; omega))) ?_)
  exact wpAny_pure (h _ ⟨(hs2.2 _ (Ne.symm I.ne)).trans I.obj, hn2, I.ne⟩ hs2)

/-- C(..): the dict at the heap's end, the instance behind it; then its __init__ -/
theorem make_map {R : Result → Shared → Prop} {vs : List Value} {kw : List (Str × Value)} (X : K.In s.heap) (hm : PySem.W.makesIn K C = true)
    (hi : PySem.W.findIn K (.ref C) "__init__" = some (some (.ref f))) (hf : PySem.W.typeIn K (.ref f) = some (.type "function"))
    (h : codeAny (model prog w) (A.under (.builtin "type.__call__" ⟨.ref C :: vs, kw⟩)) (.call (.ref f) ⟨.ref (s.heap.objs.size + 1) :: vs, kw⟩) (PySem.W.InitBack (s.heap.objs.size + 1) R)
      { s with heap := (s.heap.push PySem.W.emptyDict).push (PySem.W.instObj C s.heap.objs.size) }) :
    codeAny (model prog w) A (.call (.ref C) ⟨vs, kw⟩) R s := by
  obtain ⟨hh, g, d, t, os⟩ := s
  exact PySem.W.make_core (PySem.W.makes_of X hm) (PySem.W.looks_findIn X hi) (fun self => PySem.W.bind_fn X self hf) (.inl rfl) h
/-- C() where there is no __init__ but object's -/
theorem make_map0 {R : Result → Shared → Prop} (X : K.In s.heap) (hm : PySem.W.makesIn K C = true)
    (hi : PySem.W.findIn K (.ref C) "__init__" = some (some (.builtin "object.__init__")))
    (hb : ∀ self, PySem.W.Looks (model prog w) s.heap (bindSpecial (.builtin "object.__init__") self) (.builtin "object.__init__", [self]))
    (h : codeAny (model prog w) (A.under (.builtin "type.__call__" ⟨[.ref C], []⟩)) (.call (.builtin "object.__init__") ⟨[.ref (s.heap.objs.size + 1)], []⟩) (PySem.W.InitBack (s.heap.objs.size + 1) R)
      { s with heap := (s.heap.push PySem.W.emptyDict).push (PySem.W.instObj C s.heap.objs.size) }) :
    codeAny (model prog w) A (.call (.ref C) ⟨[], []⟩) R s := by
  obtain ⟨hh, g, d, t, os⟩ := s
  exact PySem.W.make_core (PySem.W.makes_of X hm) (PySem.W.looks_findIn X hi) hb (.inr ⟨rfl, rfl⟩) h
end

/-! ### the attributes as a list of pairs -/
def putF (f : Str) (v : V) : List (Str × V) → List (Str × V)
  | [] => [(f, v)]
  | (g, x) :: r => if g = f then (g, v) :: r else (g, x) :: putF f v r
theorem lookup_putF (f g : Str) (v : V) : ∀ fs : List (Str × V), (putF f v fs).lookup g = if g = f then some v else fs.lookup g
  | [] => by
    show List.lookup g [(f, v)] = _
    by_cases h : g = f
    · have hb : (g == f) = true := beq_iff_eq.mpr h
      simp only [List.lookup, hb, if_pos h]
    · have hb : (g == f) = false := beq_eq_false_iff_ne.mpr h
      simp only [List.lookup, hb, if_neg h]
  | (k, x) :: r => by
    have ih := lookup_putF f g v r
    rw [show putF f v ((k, x) :: r) = (if k = f then (k, v) :: r else (k, x) :: putF f v r) from rfl]
    by_cases hk : k = f
    · rw [if_pos hk]
      by_cases h : g = k
      · have hb : (g == k) = true := beq_iff_eq.mpr h
        simp only [List.lookup, hb, if_pos (h.trans hk)]
      · have hb : (g == k) = false := beq_eq_false_iff_ne.mpr h
        simp only [List.lookup, hb, if_neg (fun e : g = f => h (e.trans hk.symm))]
    · rw [if_neg hk]
      by_cases h : g = k
      · have hb : (g == k) = true := beq_iff_eq.mpr h
        simp only [List.lookup, hb, if_neg (fun e : g = f => hk (h.symm.trans e))]
      · have hb : (g == k) = false := beq_eq_false_iff_ne.mpr h
        simp only [List.lookup, hb]
        exact ih
theorem keys_putF (f : Str) (v : V) : ∀ fs : List (Str × V), f ∈ (putF f v fs).map (·.1) ∧ ∀ g, g ∈ fs.map (·.1) → g ∈ (putF f v fs).map (·.1)
  | [] => ⟨by simp [putF], fun g h => by simp at h⟩
  | (k, x) :: r => by
    obtain ⟨i1, i2⟩ := keys_putF f v r
    rw [show putF f v ((k, x) :: r) = (if k = f then (k, v) :: r else (k, x) :: putF f v r) from rfl]
    by_cases hk : k = f
    · rw [if_pos hk]
      subst hk
      exact ⟨by simp, fun g h => by simpa using h⟩
    · rw [if_neg hk]
      refine ⟨?_, fun g h => ?_⟩
      · rw [List.map_cons]
        exact List.mem_cons_of_mem _ i1
      · rw [List.map_cons] at h ⊢
        rcases List.mem_cons.mp h with e | e
        · exact List.mem_cons.mpr (.inl e)
        · exact List.mem_cons_of_mem _ (i2 g e)
theorem length_putF (f : Str) (v : V) : ∀ fs : List (Str × V), (putF f v fs).length ≤ fs.length + 1
  | [] => by simp [putF]
  | (k, x) :: r => by
    have ih := length_putF f v r
    rw [show putF f v ((k, x) :: r) = (if k = f then (k, v) :: r else (k, x) :: putF f v r) from rfl]
    by_cases hk : k = f
    · rw [if_pos hk, List.length_cons, List.length_cons]; omega
    · rw [if_neg hk, List.length_cons, List.length_cons]; omega

theorem RelO.some_of {v : V} {o : Option Value} (r : RelO (some v) o) : ∃ u, o = some u ∧ RelV v u := by
  cases o with
  | none => exact (show False from r).elim
  | some u => exact ⟨u, rfl, r⟩
theorem RelO.none_of {o : Option Value} (r : RelO none o) : o = none := by
  cases o with
  | none => rfl
  | some u => exact (show False from r).elim
theorem handed_of {v : V} {u : Value} (r : RelV v u) : PySem.W.handedIn u = true := by
  cases v with
  | non => cases (show u = Value.none from r); rfl
  | bl b => cases (show u = Value.bool b from r); rfl
  | int i => obtain ⟨t, e⟩ := (show ∃ t, u = Value.int i t from r); cases e; rfl
  | str x => obtain ⟨t, e⟩ := (show ∃ t, u = Value.str x t from r); cases e; rfl
  | byt b => obtain ⟨t, e⟩ := (show ∃ t, u = Value.bytes b t from r); cases e; rfl
  | flt b => obtain ⟨t, e⟩ := (show ∃ t, u = Value.float b t from r); cases e; rfl
  | ref a => cases (show u = Value.ref a from r); rfl
  | ty n => cases (show u = Value.type n from r); rfl

section
variable {P : Program} {w : World} {H H' : Hp} {h h' : Heap} {a C dx : Addr} {fs fs' : List (Str × V)}
theorem ins_get (hok : HOk P w H h) (e : H a = some (.ins C dx fs)) : ∃ mA, ObjM h a dx C mA ∧ (∀ f, RelO (fs.lookup f) (mA f)) ∧ PySem.Within mA (fs.map (·.1)) ∧ fs.length ≤ 1000 ∧ H dx = some (.own a) := by
  obtain ⟨d, z, ne, ob, mA, n, r, q⟩ := (show ObjOk P w H h a (.ins C dx fs) from hok a _ e)
  exact ⟨mA, ⟨ob, n, ne⟩, r, q, z, d⟩
end

/-! ### what of the text a class must have -/
structure Cls (K : PySem.W.Frag) (C : Addr) : Prop where
  pg : PySem.W.plainGet K C Str.empty = true
  hd : PySem.W.hasDictIn K C = true
  po : PySem.W.plainOver K C = true
  sa : PySem.W.findIn K (.ref C) "__setattr__" = some (some (.builtin "object.__setattr__"))
theorem Cls.get {K : PySem.W.Frag} {C : Addr} (c : Cls K C) (f : Str) : PySem.W.plainGet K C f = true := c.pg
/-- no class of it has the name -/
def NoAttr (K : PySem.W.Frag) (C : Addr) (f : Str) : Prop := PySem.W.findIn K (.ref C) f = some none
theorem NoAttr.taker {K : PySem.W.Frag} {C : Addr} {f : Str} (n : NoAttr K C f) : PySem.W.takerIn K C f = some none := by
  unfold PySem.W.takerIn
  rw [show PySem.W.findIn K (.ref C) f = some none from n]
  rfl
/-- a constant of the class -/
structure Con (K : PySem.W.Frag) (C : Addr) (f : Str) (v : V) (u : Value) : Prop where
  at_ : PySem.W.findIn K (.ref C) f = some (some u)
  rel : RelV v u
  get : PySem.W.specialIn K u "__get__" = some none
  cp : PySem.W.copiedNames.contains f = false
/-- a method: a plain def of the class or of one above it -/
structure Meth (K : PySem.W.Frag) (C : Addr) (m : Str) (f : Addr) : Prop where
  at_ : PySem.W.findIn K (.ref C) m = some (some (.ref f))
  fn : PySem.W.isFn K (.ref f) = true
  kp : PySem.W.keepIn K (.ref f) = true

section
variable {X : Cx} {pins : List (Addr × Obj)} {σ : St} {H : Hp} {s : Shared} {a C dx : Addr} {fs : List (Str × V)} {f : Str} {v : V} {A : Around} {E : Value → Shared → Prop}

theorem getattr_ok {b : Bool} {Q : Value → Shared → Prop} (I : Inv X pins σ H s) (e : H a = some (.ins C dx fs)) (c : Cls X.K C) (n : NoAttr X.K C f) (l : fs.lookup f = some v)
    (h : ∀ u s', Inv X pins σ H s' → RelV v u → Q u s') : wpAny (model X.prog X.w) A (getAttr (.ref a) f b) Q E s := by
  obtain ⟨mA, O, r, _, _, _⟩ := ins_get I.hok e
  obtain ⟨u, hu, ru⟩ := RelO.some_of (v := v) (o := mA f) (by rw [← l]; exact r f)
  exact get_map I.kIn O (c.get f) c.hd n hu (handed_of ru) (h u _ (I.tok _) ru)

theorem getcon_ok {b : Bool} {u : Value} {Q : Value → Shared → Prop} (I : Inv X pins σ H s) (e : H a = some (.ins C dx fs)) (c : Cls X.K C) (k : Con X.K C f v u) (l : fs.lookup f = none)
    (h : ∀ s', Inv X pins σ H s' → Q u s') : wpAny (model X.prog X.w) A (getAttr (.ref a) f b) Q E s := by
  obtain ⟨mA, O, r, _, _, _⟩ := ins_get I.hok e
  have hn : mA f = none := RelO.none_of (by rw [← l]; exact r f)
  exact get_const I.kIn O (c.get f) c.hd k.at_ k.get k.cp hn (handed_of k.rel) (h _ (I.tok _))

theorem getmeth_ok {m : Str} {g : Addr} {pl : Sem Bool} {Q : Value × List Value → Shared → Prop} (I : Inv X pins σ H s) (e : H a = some (.ins C dx fs)) (c : Cls X.K C) (k : Meth X.K C m g) (l : fs.lookup m = none)
    (h : Q (.ref g, [.ref a]) s) : wpAny (model X.prog X.w) A (getMethod (.ref a) m pl) Q E s := by
  obtain ⟨mA, O, r, _, _, _⟩ := ins_get I.hok e
  have hn : mA m = none := RelO.none_of (by rw [← l]; exact r m)
  exact get_meth I.kIn O (c.get m) k.at_ k.fn hn h

theorem setattr_ok {y : V} {u : Value} {Q : Unit → Shared → Prop} (I : Inv X pins σ H s) (e : H a = some (.ins C dx fs)) (c : Cls X.K C) (n : NoAttr X.K C f) (hl : fs.length < 1000) (ry : RelV y u)
    (h : ∀ s', Inv X pins σ (upd H a (.ins C dx (putF f y fs))) s' → Q () s') : wpAny (model X.prog X.w) A (setAttr (.ref a) f u) Q E s := by
  obtain ⟨mA, O, r, wi, _, ho⟩ := ins_get I.hok e
  have hz : (fs.map (·.1)).length ≤ sizeLine := by rw [List.length_map, sizeLine_eq]; omega
  refine set_map I.kIn O c.sa c.po n.taker c.hd wi hz fun h' O' sb => h _ ?_
  have hd : ∃ o, h'.get? dx = some o := let ⟨o, _, _, e', _⟩ := O'.ns; ⟨o, e'⟩
  refine I.write (x := a) (e := dx) (by rw [e]; exact True.intro) (.inr ho) (fun b q hb z => (sb.2 b hb).trans z) hd ?_
  refine ⟨by rw [upd_ne O.ne]; exact ho, ?_, O.ne, O'.obj, _, O'.ns, fun g => ?_, fun g hg => ?_⟩
  · have := length_putF f y fs; omega
  · show RelO ((putF f y fs).lookup g) (if g = f then some u else mA g)
    rw [lookup_putF]
    by_cases q : g = f
    · rw [if_pos q, if_pos q]; exact ry
    · rw [if_neg q, if_neg q]; exact r g
  · by_cases q : g = f
    · rw [q]; exact (keys_putF f y fs).1
    · refine (keys_putF f y fs).2 g (wi g fun z => hg ?_)
      show (if g = f then some u else mA g) = none
      rw [if_neg q]; exact z

/-- a new instance, tracked, without attributes -/
theorem Inv.made (I : Inv X pins σ H s) : Inv X pins σ (upd (upd H s.heap.objs.size (.own (s.heap.objs.size + 1))) (s.heap.objs.size + 1) (.ins C s.heap.objs.size []))
    { s with heap := (s.heap.push PySem.W.emptyDict).push (PySem.W.instObj C s.heap.objs.size) } := by
  have e1 : (s.heap.push PySem.W.emptyDict).get? s.heap.objs.size = some PySem.W.emptyDict := Heap.get?_push_size s.heap rfl
  have e2 : ((s.heap.push PySem.W.emptyDict).push (PySem.W.instObj C s.heap.objs.size)).get? (s.heap.objs.size + 1) = some (PySem.W.instObj C s.heap.objs.size) := by
    have := Heap.get?_push_size (s.heap.push PySem.W.emptyDict) (o := PySem.W.instObj C s.heap.objs.size) rfl
    rwa [Heap.size_push] at this
  have e3 : (s.heap.push PySem.W.emptyDict).Ns s.heap.objs.size (fun _ => none) := ⟨PySem.W.emptyDict, #[], _, e1, rfl, (fun e he => absurd he (by simp)), fun _ => rfl⟩
  have I1 := I.laid (a := s.heap.objs.size) (o := .own (s.heap.objs.size + 1)) (h' := s.heap.push PySem.W.emptyDict) (t' := s.toks) (fun b u q => Heap.get?_push_of_some _ q) (Nat.le_refl _) ⟨_, e1⟩
  refine I1.laid (a := s.heap.objs.size + 1) (o := .ins C s.heap.objs.size []) (t' := s.toks) (fun b u q => Heap.get?_push_of_some _ q) (Nat.le_of_eq (Heap.size_push _ _)) ?_
  have ne : s.heap.objs.size ≠ s.heap.objs.size + 1 := Nat.ne_of_lt (Nat.lt_succ_self _)
  refine ⟨by rw [upd_ne ne, upd_same], Nat.zero_le _, ne, e2, fun _ => none, (Heap.Ns1.of_empty e3).at fun o q => Heap.get?_push_of_some _ q, fun _ => True.intro, fun y hy => absurd rfl hy⟩

/-- e.f where nothing but the object is asked: through attributeBase (super) and the last hold -/
theorem attr_of {prog : Program} {w : World} {env : Env} {e : Expr} {f : Str} {pos : Pos} {s : Shared} {Q : Value → Shared → Prop} (hb : attributeBase e f env (eval e env) = eval e env)
    (h : wpAny (model prog w) A (eval e env) (fun o s₁ => wpAny (model prog w) A (getAttr o f true) Q E s₁) E s) : wpAny (model prog w) A (eval (.Attribute e f pos) env) Q E s :=
  Attribute_any_ h (by rw [arm_eval_Attribute, hb])
end

/-! ### readings and rules -/
/-- e.f, an attribute of the instance -/
def tFld (K : PySem.W.Frag) (ta : TE) (f : Str) : TE := fun σ H Q => ta σ H fun x H1 => ∃ a C dx fs v, x = .ref a ∧ H1 a = some (.ins C dx fs) ∧ Cls K C ∧ NoAttr K C f ∧ fs.lookup f = some v ∧ Q v H1
/-- e.f, a constant of the class -/
def tCon (K : PySem.W.Frag) (ta : TE) (f : Str) : TE := fun σ H Q => ta σ H fun x H1 => ∃ a C dx fs v u, x = .ref a ∧ H1 a = some (.ins C dx fs) ∧ Cls K C ∧ Con K C f v u ∧ fs.lookup f = none ∧ Q v H1
/-- e.f = value -/
def sFld (K : PySem.W.Frag) (ta tv : TE) (f : Str) : TS := fun D σ H => tv σ H fun y H1 => ta σ H1 fun x H2 => ∃ a C dx fs, x = .ref a ∧ H2 a = some (.ins C dx fs) ∧ Cls K C ∧ NoAttr K C f ∧ fs.length < 1000 ∧
  D.nx σ (upd H2 a (.ins C dx (putF f y fs)))
/-- an augmented operator on two values -/
def InOp (X : Cx) (op : Operator) (rd : V → V → Hp → VK → Prop) : Prop :=
  ∀ (pins : List (Addr × Obj)) (s : Shared) (σ : St) (H : Hp) (x y : V) (u v : Value) (Q : VK), Inv X pins σ H s → RelV x u → RelV y v → rd x y H Q → wpAny (model X.prog X.w) X.A (inplaceOp op u v) (EP X pins σ Q) X.xe s
/-- e.f op= value -/
def sFldAug (K : PySem.W.Frag) (ta tv : TE) (rd : V → V → Hp → VK → Prop) (f : Str) : TS := fun D σ H => ta σ H fun x H1 => ∃ a C dx fs v, x = .ref a ∧ H1 a = some (.ins C dx fs) ∧ Cls K C ∧ NoAttr K C f ∧ fs.lookup f = some v ∧
  tv σ H1 fun y H2 => rd v y H2 fun z H3 => ∃ dx' fs', H3 a = some (.ins C dx' fs') ∧ fs'.length < 1000 ∧ D.nx σ (upd H3 a (.ins C dx' (putF f z fs')))

section
variable {X : Cx} {o e value : Expr} {f : Str} {pos pos' tpos : Pos} {ta tv : TE}
theorem pe_fld (he : PE X e ta) (hb : attributeBase e f X.env (eval e X.env) = eval e X.env) : PE X (.Attribute e f pos) (tFld X.K ta f) := by
  intro pins s σ H Q I h
  refine attr_of hb (thn (he pins s σ H _ I h) fun u s1 ⟨x, H1, I1, rx, a, C, dx, fs, v, ex, ea, c, n, l, q⟩ => ?_)
  subst ex
  obtain rfl : u = Value.ref a := rx
  exact getattr_ok I1 ea c n l fun u' s2 I2 ru => ⟨v, H1, I2, ru, q⟩
theorem pe_con (he : PE X e ta) (hb : attributeBase e f X.env (eval e X.env) = eval e X.env) : PE X (.Attribute e f pos) (tCon X.K ta f) := by
  intro pins s σ H Q I h
  refine attr_of hb (thn (he pins s σ H _ I h) fun u s1 ⟨x, H1, I1, rx, a, C, dx, fs, v, u0, ex, ea, c, k, l, q⟩ => ?_)
  subst ex
  obtain rfl : u = Value.ref a := rx
  exact getcon_ok I1 ea c k l fun s2 I2 => ⟨v, H1, I2, k.rel, q⟩
theorem ps_fld (ha : PE X o ta) (hv : PE X value tv) (hs : swapsWith value (some (.Attribute o f pos')) pos.line X.env = pure false) : PS X (.Assign [.Attribute o f pos'] value pos) (sFld X.K ta tv f) := by
  intro pins s σ H D I h
  refine plainObj_wpAny_Assign_Attribute (thn (hv pins s σ H _ I h) fun u s1 ⟨y, H1, I1, ry, q⟩ => thn (ha pins s1 σ H1 _ I1 q) fun ov s2 ⟨x, H2, I2, rx, a, C, dx, fs, ex, ea, c, n, l, q2⟩ => ?_) hs
  subst ex
  obtain rfl : ov = Value.ref a := rx
  exact setattr_ok I2 ea c n l ry fun s3 I3 => ⟨σ, _, I3, q2⟩
theorem ps_fldaug {op : Operator} {rd : V → V → Hp → VK → Prop} (ha : PE X o ta) (hv : PE X value tv) (hop : InOp X op rd) : PS X (.AugAssign (.Attribute o f tpos) op value pos) (sFldAug X.K ta tv rd f) := by
  intro pins s σ H D I h
  refine wpAny_AugAssign_AttributeAny (thn (ha pins s σ H _ I h) fun ov s1 ⟨x, H1, I1, rx, a, C, dx, fs, v, ex, ea, c, n, l, q⟩ => ?_)
  subst ex
  obtain rfl : ov = Value.ref a := rx
  refine getattr_ok I1 ea c n l fun u s2 I2 ru => thn (hv pins s2 σ H1 _ I2 q) fun w3 s3 ⟨y, H2, I3, ry, q3⟩ => thn (hop pins s3 σ H2 v y u w3 _ I3 ru ry q3) fun w4 s4 ⟨z, H3, I4, rz, dx', fs', ea', l', q4⟩ => ?_
  exact setattr_ok I4 ea' c n l' rz fun s5 I5 => ⟨σ, _, I5, q4⟩
def rAdd : V → V → Hp → VK → Prop := fun x y H Q => ∃ i j, x = .int i ∧ y = .int j ∧ Q (.int (i + j)) H
def rSub : V → V → Hp → VK → Prop := fun x y H Q => ∃ i j, x = .int i ∧ y = .int j ∧ Q (.int (i - j)) H
theorem in_add : InOp X .Add rAdd := by
  rintro pins s σ H x y u v Q I rx ry ⟨i, j, rfl, rfl, q⟩
  obtain ⟨t, rfl⟩ := (show ∃ t, u = Value.int i t from rx)
  obtain ⟨t', rfl⟩ := (show ∃ t', v = Value.int j t' from ry)
  exact PyProof.Rows.iadd_int ⟨.int (i + j), H, I.tok _, ⟨_, rfl⟩, q⟩
theorem in_sub : InOp X .Sub rSub := by
  rintro pins s σ H x y u v Q I rx ry ⟨i, j, rfl, rfl, q⟩
  obtain ⟨t, rfl⟩ := (show ∃ t, u = Value.int i t from rx)
  obtain ⟨t', rfl⟩ := (show ∃ t', v = Value.int j t' from ry)
  exact PyProof.Rows.isub_int ⟨.int (i - j), H, I.tok _, ⟨_, rfl⟩, q⟩

/-- what is between an instance and its method: the tree of a method call -/
theorem methcall_of {pl : Sem Bool} {m : Str} {apos : Pos} {args : List Expr} {pins : List (Addr × Obj)} {s : Shared} {σ : St} {H : Hp} {Q : Value → Shared → Prop} {te : TE} (he : PE X e te) (I : Inv X pins σ H s)
    (h : te σ H fun x H1 => ∃ a C dx fs g, x = .ref a ∧ H1 a = some (.ins C dx fs) ∧ Cls X.K C ∧ Meth X.K C m g ∧ fs.lookup m = none ∧
      ∀ s1, Inv X pins σ H1 s1 → wpAny (model X.prog X.w) X.A (callWith pos (.ref g) [.ref a] (backTo pos (starEach args X.env)) (backToKw pos (keywordEach [] X.env))) Q X.xe s1)
    (ht : eval (.Call (.Attribute e m apos) args [] pos) X.env = (do
      let ov ← eval e X.env
      standAt apos.atName
      let (f, first) ← holding [ov] (getMethod ov m pl)
      callWith pos f first (backTo pos (starEach args X.env)) (backToKw pos (keywordEach [] X.env)))) :
    wpAny (model X.prog X.w) X.A (eval (.Call (.Attribute e m apos) args [] pos) X.env) Q X.xe s := by
  refine PySem.W.methodCall_KW (pl := pl) (thn (he pins s σ H _ I h) fun u s1 ⟨x, H1, I1, rx, a, C, dx, fs, g, ex, ea, c, k, l, q⟩ => ?_) ht
  subst ex
  obtain rfl : u = Value.ref a := rx
  exact getmeth_ok I1 ea c k l (q s1 I1)
end

/-! ### isinstance -/
section
variable {X : Cx} {pins : List (Addr × Obj)} {σ : St} {H : Hp} {s : Shared} {A : Around} {E : Value → Shared → Prop} {Q : Value → Shared → Prop} {c : Value} {b : Bool}
/-- the type of a value, as the fragment's deciders take it; for an instance its class -/
inductive TyOf (K : PySem.W.Frag) (H : Hp) : V → Value → Prop where
  | non : TyOf K H .non (.type "NoneType")
  | bl (x : Bool) : TyOf K H (.bl x) (.type "bool")
  | int (i : Int) : TyOf K H (.int i) (.type "int")
  | str (x : Str) : TyOf K H (.str x) (.type "str")
  | flt (x : UInt64) : TyOf K H (.flt x) (.type "float")
  | lst {a : Addr} {xs : List V} (e : H a = some (.lst xs)) : TyOf K H (.ref a) (.type "list")
  | frz {a : Addr} {o : Obj} {xs : List V} (e : H a = some (.frz o (.lst xs))) : TyOf K H (.ref a) (.type "list")
  | tup {a : Addr} {xs : List V} (e : H a = some (.tup xs)) : TyOf K H (.ref a) (.type "tuple")
  | dK {a : Addr} {kvs : List (Key × V)} (e : H a = some (.dK kvs)) : TyOf K H (.ref a) (.type "dict")
  | dT {a : Addr} {kvs : List (List Key × V)} (e : H a = some (.dT kvs)) : TyOf K H (.ref a) (.type "dict")
  | ins {a C dx : Addr} {fs : List (Str × V)} (e : H a = some (.ins C dx fs)) (cl : Cls K C) (ha : PySem.W.findIn K (.ref C) "__class__" = some (some (.builtin "object.__class__")))
      (hn : PySem.W.specialIn K (.builtin "object.__class__") "__get__" = some (some (.builtin "getset_descriptor.__get__"))) (htk : PySem.W.takesIn K (.builtin "object.__class__") = some true)
      (hm : PySem.W.mroIn K C (.type "object") = some true) : TyOf K H (.ref a) (.ref C)
/-- isinstance(x, c) for one class c, a built-in or an own one: kitOne's answer -/
theorem isinst_ok {x : V} {u t : Value} (I : Inv X pins σ H s) (rx : RelV x u) (ty : TyOf X.K H x t) (e : PySem.W.kitOne X.K t c = some b) (h : ∀ tk, Q (.bool b) { s with toks := tk }) :
    wpAny (model X.prog X.w) A (call (.builtin "isinstance") [u, c]) Q E s := by
  cases ty with
  | non => cases (show u = Value.none from rx); exact PySem.W.kia_one PySem.W.kitx_none I.kIn True.intro e (fun z => nomatch z) h
  | bl y => cases (show u = Value.bool y from rx); exact PySem.W.kia_one PySem.W.kitx_bool I.kIn True.intro e (fun z => nomatch z) h
  | int i => obtain ⟨t, q⟩ := (show ∃ t, u = Value.int i t from rx); cases q; exact PySem.W.kia_one PySem.W.kitx_int I.kIn True.intro e (fun z => nomatch z) h
  | str y => obtain ⟨t, q⟩ := (show ∃ t, u = Value.str y t from rx); cases q; exact PySem.W.kia_one PySem.W.kitx_str I.kIn True.intro e (fun z => nomatch z) h
  | flt y => obtain ⟨t, q⟩ := (show ∃ t, u = Value.float y t from rx); cases q; exact PySem.W.kia_one PySem.W.kitx_float I.kIn True.intro e (fun z => nomatch z) h
  | @lst a xs ea =>
    cases (show u = Value.ref a from rx)
    obtain ⟨_, _, n, _, h1⟩ := (show ObjOk X.prog X.w H s.heap a (.lst xs) from I.hok a _ ea)
    exact PySem.W.kia_one PySem.W.kitx_list I.kIn ⟨_, h1, rfl⟩ e (fun z => nomatch z) h
  | @frz a ob xs ea =>
    cases (show u = Value.ref a from rx)
    obtain ⟨_, _, _, n, _, h1⟩ := (show ObjOk X.prog X.w H s.heap a (.frz ob (.lst xs)) from I.hok a _ ea)
    exact PySem.W.kia_one PySem.W.kitx_list I.kIn ⟨_, h1, rfl⟩ e (fun z => nomatch z) h
  | @tup a xs ea =>
    cases (show u = Value.ref a from rx)
    obtain ⟨_, _, _, p⟩ := (show ObjOk X.prog X.w H s.heap a (.tup xs) from I.hok a _ ea)
    obtain ⟨o, h1, h2, _⟩ := p
    exact PySem.W.kia_one PySem.W.kitx_tuple I.kIn ⟨o, h1, h2⟩ e (fun z => nomatch z) h
  | @dK a kvs ea =>
    cases (show u = Value.ref a from rx)
    obtain ⟨_, _, vs, _, p⟩ := (show ObjOk X.prog X.w H s.heap a (.dK kvs) from I.hok a _ ea)
    obtain ⟨o, es, ep, h1, h2, _⟩ := p
    exact PySem.W.kia_one PySem.W.kitx_dict I.kIn ⟨o, h1, h2.1⟩ e (fun z => nomatch z) h
  | @dT a kvs ea =>
    cases (show u = Value.ref a from rx)
    obtain ⟨_, _, xs, _, o, es, ep, h1, h2, _⟩ := (show ObjOk X.prog X.w H s.heap a (.dT kvs) from I.hok a _ ea)
    exact PySem.W.kia_one PySem.W.kitx_dict I.kIn ⟨o, h1, h2.1⟩ e (fun z => nomatch z) h
  | @ins a C dx fs ea cl ha hn htk hm =>
    cases (show u = Value.ref a from rx)
    obtain ⟨mA, O, _⟩ := ins_get I.hok ea
    obtain ⟨od, J, _⟩ := O.look
    exact PySem.W.kia_one (PySem.W.kitx_own (cl.get _) cl.hd ha hn htk hm) I.kIn J e (fun z => nomatch z) h
end
end L2

namespace L2
open PySem PySem.Spec PyProof.Rows

/-! ### room -/
structure Room (k : Nat) (A : Around) : Prop where
  hd : A.handled = none
  dp : A.depth + 3 * k + 5 < recursionLimit
  un : A.units + 16 * k + 200 < cLine
theorem Room.mono {j k : Nat} {A : Around} (r : Room k A) (h : j ≤ k) : Room j A := ⟨r.hd, by have := r.dp; omega, by have := r.un; omega⟩
theorem Room.deeper {k : Nat} {A : Around} (r : Room (k + 1) A) (env : Env) : Room k (A.deeper env) :=
  ⟨r.hd, by have := r.dp; show A.depth + 1 + 3 * k + 5 < _; omega, by have := r.un; show A.units + 3 + 16 * k + 200 < _; omega⟩
theorem Room.in1 {k : Nat} {A : Around} (r : Room (k + 1) A) : Room k A.in1 :=
  ⟨r.hd, by have := r.dp; show A.depth + 3 * k + 5 < _; omega, by have := r.un; show A.units + 1 + 16 * k + 200 < _; omega⟩
theorem make_depth {A : Around} {C : Addr} {us : List Value} {kw : List (Str × Value)} : (A.under (.builtin "type.__call__" ⟨.ref C :: us, kw⟩)).depth = A.depth + 1 := by
  first | rfl | simp [Around.under, Code.weight, Code.isCreation, Code.isGuard, Code.isCaller, Code.frames, Code.isFrame, guardIds]
theorem make_units {A : Around} {C : Addr} {us : List Value} {kw : List (Str × Value)} : (A.under (.builtin "type.__call__" ⟨.ref C :: us, kw⟩)).units = A.units + 1 := by
  first | rfl | simp [Around.under, Code.cUnits, Code.frames, Code.isFrame]
theorem Room.make {k : Nat} {A : Around} (r : Room (k + 1) A) (C : Addr) (us : List Value) (kw : List (Str × Value)) : Room k (A.under (.builtin "type.__call__" ⟨.ref C :: us, kw⟩)) :=
  ⟨r.hd, by have := r.dp; rw [make_depth]; omega, by have := r.un; rw [make_units]; omega⟩
theorem Room.depth {k : Nat} {A : Around} (r : Room k A) : A.depth < recursionLimit := by have := r.dp; omega
theorem Room.units {k : Nat} {A : Around} (r : Room k A) : A.units + 64 < cLine := by have := r.un; omega
theorem Room.units0 {k : Nat} {A : Around} (r : Room k A) : A.units < cLine := by have := r.un; omega

/-! ### argument lists and displays -/
def tNil : TA := fun _ H Q => Q [] H
def tCons (ta : TE) (tr : TA) : TA := fun σ H Q => ta σ H fun x H1 => tr σ H1 fun xs H2 => Q (x :: xs) H2
section
variable {X : Cx} {e : Expr} {es : List Expr} {te : TE} {t : TA} {pos : Pos}
theorem pa_nil : PA X [] tNil := fun _ _ _ _ H Q I h => Calls.spliced_nil ⟨[], H, I, .nil, h⟩
theorem pa_cons (ha : PE X e te) (hr : PA X es t) (hs : starEach (e :: es) X.env = (false, eval e X.env) :: starEach es X.env := by rfl) : PA X (e :: es) (tCons te t) := by
  intro pos pins s σ H Q I h
  rw [hs]
  show wpAny _ _ (spliced ((false, eval e X.env) :: backTo pos (starEach es X.env))) _ _ s
  refine Calls.spliced_cons (thn (ha pins s σ H _ I h) fun u s1 ⟨x, H1, I1, r1, q1⟩ => ?_)
  exact thn (hr pos pins s1 σ H1 _ I1 q1) fun us s2 ⟨xs, H2, I2, r2, q2⟩ => ⟨x :: xs, H2, I2, .cons r1 r2, q2⟩

/-- a tuple, a list of written items -/
def tTup (t : TA) : TE := fun σ H Q => t σ H fun xs H1 => xs.length ≤ sizeLine ∧ ∀ p, H1 p = none → Q (.ref p) (upd H1 p (.tup xs))
def tLst (t : TA) : TE := fun σ H Q => t σ H fun xs H1 => xs.length ≤ sizeLine ∧ ∀ p, H1 p = none → Q (.ref p) (upd H1 p (.lst xs))
theorem pe_tup {x1} (h : PA X es t) : PE X (.Tuple es x1 pos) (tTup t) := by
  intro pins s σ H Q I hq
  refine wpAny_Tuple_spliced (thn (h pos pins s σ H _ I hq) fun us s1 ⟨xs, H1, I1, r, z, q⟩ => ⟨by rw [← r.length]; exact z, ?_⟩)
  have hf : H1 s1.heap.objs.size = none := I1.hok.fresh (Nat.le_refl _)
  refine ⟨.ref s1.heap.objs.size, upd H1 s1.heap.objs.size (.tup xs), I1.laid (t' := s1.toks) (fun b u e => Heap.get?_push_of_some _ e) (Nat.le_refl _) ?_, rfl, q _ hf⟩
  exact ⟨z, us, r, ⟨_, Heap.get?_push_size _ rfl, rfl, _, rfl⟩⟩
theorem pe_lst (h : PA X es t) : PE X (.List es pos) (tLst t) := by
  intro pins s σ H Q I hq
  refine wpAny_List_spliced (thn (h pos pins s σ H _ I hq) fun us s1 ⟨xs, H1, I1, r, z, q⟩ => ⟨by rw [← r.length]; exact z, ?_⟩)
  have hf : H1 s1.heap.objs.size = none := I1.hok.fresh (Nat.le_refl _)
  refine ⟨.ref s1.heap.objs.size, upd H1 s1.heap.objs.size (.lst xs), I1.laid (t' := s1.toks) (fun b u e => Heap.get?_push_of_some _ e) (Nat.le_refl _) ?_, rfl, q _ hf⟩
  exact ⟨z, us, 0, r, Heap.get?_push_size _ rfl⟩
end

/-! ### what a def promises -/
/-- a def's promise: the bound arguments in the parameters' order, the heap, the wanted end, the wanted exception -/
abbrev Sp := List V → Hp → VK → XK → Prop
/-- how an exception lies behind a call (file 08 gives it): the callers' frames, abstract heap and state ahead of the call, the wish, the exception, the state -/
abbrev CXT := List Env → Hp → Shared → XK → Value → Shared → Prop

/-- the state at a call -/
structure Env0 (P : Program) (w : World) (K : PySem.W.Frag) (mg : Str → Option Value) (base : Heap) (A : Around) (outer : List Env) (s : Shared) (H : Hp) : Prop where
  frames : A.frames = some outer
  mod : Mod K mg base
  bs : ∀ b o, base.get? b = some o → s.heap.get? b = some o ∧ H b = none
  bsz : base.objs.size ≤ s.heap.objs.size
  funs : s.heap.FunFrames base outer
  frf : ∀ b ∈ frs outer, H b = none
  hok : HOk P w H s.heap
  bare : AllBare s.gens
/-- a call's end -/
def CE (outer : List Env) (P : Program) (w : World) (H : Hp) (s : Shared) (Q : VK) (u : Value) (s' : Shared) : Prop :=
  ∃ v H', s'.os = s.os ∧ AllBare s'.gens ∧ Un (frs outer) [] H H' s.heap s'.heap ∧ HOk P w H' s'.heap ∧ RelV v u ∧ Q v H'
def CR (CX : CXT) (outer : List Env) (P : Program) (w : World) (H : Hp) (s : Shared) (Q : VK) (E : XK) (r : Result) (s' : Shared) : Prop :=
  match r with
  | .ok (.ret u) => CE outer P w H s Q u s'
  | .ok _ => False
  | .error e => CX outer H s E e s'
structure FnOk (P : Program) (w : World) (K : PySem.W.Frag) (mg : Str → Option Value) (base : Heap) (CX : CXT) (k : Nat) (f : Addr) (fd : FuncData) (ps : List Str) (sp : Sp) : Prop where
  len : ∀ vs H Q E, sp vs H Q E → vs.length = ps.length
  run : ∀ (A : Around) (outer : List Env) (s : Shared) (H : Hp) (args : Args) (us : List Value) (vs : List V) (Q : VK) (E : XK), Room k A → Env0 P w K mg base A outer s H → BindsTo s fd args (ps.zip us) → Vals vs us → sp vs H Q E →
    codeAny (model P w) A (.call (.ref f) args) (CR CX outer P w H s Q E) s
theorem FnOk.mono {P : Program} {w : World} {K : PySem.W.Frag} {mg : Str → Option Value} {base : Heap} {CX : CXT} {j k : Nat} {f : Addr} {fd : FuncData} {ps : List Str} {sp : Sp} (F : FnOk P w K mg base CX j f fd ps sp) (h : j ≤ k) :
    FnOk P w K mg base CX k f fd ps sp := ⟨F.len, fun A outer s H args us vs Q E hr => F.run A outer s H args us vs Q E (hr.mono h)⟩
/-- a weaker promise -/
theorem FnOk.imp {P : Program} {w : World} {K : PySem.W.Frag} {mg : Str → Option Value} {base : Heap} {CX : CXT} {k : Nat} {f : Addr} {fd : FuncData} {ps : List Str} {sp sp' : Sp} (F : FnOk P w K mg base CX k f fd ps sp)
    (h : ∀ vs H Q E, sp' vs H Q E → sp vs H Q E) : FnOk P w K mg base CX k f fd ps sp' :=
  ⟨fun vs H Q E q => F.len vs H Q E (h _ _ _ _ q), fun A outer s H args us vs Q E hr he hb hv hs => F.run A outer s H args us vs Q E hr he hb hv (h _ _ _ _ hs)⟩

theorem Env0.make {P : Program} {w : World} {K : PySem.W.Frag} {mg : Str → Option Value} {base : Heap} {A : Around} {outer : List Env} {s : Shared} {H : Hp} (e : Env0 P w K mg base A outer s H) (C : Addr) (us : List Value) (kw : List (Str × Value)) :
    Env0 P w K mg base (A.under (.builtin "type.__call__" ⟨.ref C :: us, kw⟩)) outer s H := ⟨by first | exact e.frames | (simpa [Around.under, Code.envs, Code.isFrame, pushEnvs] using e.frames), e.mod, e.bs, e.bsz, e.funs, e.frf, e.hok, e.bare⟩
theorem Env0.in1 {P : Program} {w : World} {K : PySem.W.Frag} {mg : Str → Option Value} {base : Heap} {A : Around} {outer : List Env} {s : Shared} {H : Hp} (e : Env0 P w K mg base A outer s H) :
    Env0 P w K mg base A.in1 outer s H := ⟨e.frames, e.mod, e.bs, e.bsz, e.funs, e.frf, e.hok, e.bare⟩

section
variable {X : Cx} {pins : List (Addr × Obj)} {σ : St} {H : Hp} {s s' : Shared}
/-- from a body: what a callee wants -/
theorem Inv.env0 (I : Inv X pins σ H s) : Env0 X.prog X.w X.K X.mg X.base X.A X.stack s H :=
  ⟨I.ok.frames, I.ok.mod, I.bs, Nat.le_trans I.ok.bsz I.sz, I.stack, I.stkFree, I.hok, I.bare⟩
/-- behind a call -/
theorem Inv.after {Q : VK} {u : Value} (I : Inv X pins σ H s) (h : CE X.stack X.prog X.w H s Q u s') : EP X pins σ Q u s' := by
  obtain ⟨v, H', os, bare, un, hok, r, q⟩ := h
  obtain ⟨hh, g, d, t, os'⟩ := s'
  obtain rfl : os' = s.os := os
  exact ⟨v, H', I.call (h' := hh) (g' := g) (d' := d) (t' := t) (ch := []) un hok bare (fun b z => absurd z (by simp)), r, q⟩
end

/-! ### calls -/
/-- f(..): the written arguments, then the defaults dvs; E: what is wanted of an exception -/
def tCall (sp : Sp) (dvs : List V) (E : XK) (t : TA) : TE := fun σ H Q => t σ H fun vs H1 => sp (vs ++ dvs) H1 Q E
/-- o.m(..) of an instance of the class at C -/
def tMeth (C : Addr) (m : Str) (sp : Sp) (dvs : List V) (E : XK) (ta : TE) (t : TA) : TE := fun σ H Q => ta σ H fun x H1 => ∃ a dx fs, x = .ref a ∧ H1 a = some (.ins C dx fs) ∧ fs.lookup m = none ∧
  t σ H1 fun vs H2 => sp (x :: (vs ++ dvs)) H2 Q E
/-- C(..): a new instance and its dict, then __init__ -/
def tMake (C : Addr) (sp : Sp) (dvs : List V) (E : XK) (t : TA) : TE := fun σ H Q => t σ H fun vs H1 => ∀ x dx, H1 x = none → H1 dx = none → dx ≠ x →
  sp (.ref x :: (vs ++ dvs)) (upd (upd H1 dx (.own x)) x (.ins C dx [])) (fun v H2 => v = .non ∧ Q (.ref x) H2) E

/-- how the parameters are bound: us the positional arguments, kw the keywords' values by name, ds the defaults that fill up -/
def Binds (K : PySem.W.Frag) (fd : FuncData) (ps : List Str) (ds : List Value) : Prop :=
  ∀ (s : Shared) (us : List Value), K.In s.heap → (us ++ ds).length = ps.length → BindsTo s fd ⟨us, []⟩ (ps.zip (us ++ ds))
/-- every parameter is given -/
theorem Binds.all {K : PySem.W.Frag} {fd : FuncData} {ps : List Str} (h : ∀ us : List Value, us.length = ps.length → bindArgs fd ⟨us, []⟩ = pure (ps.zip us)) : Binds K fd ps [] := fun s us _ hl => by
  rw [List.append_nil] at hl ⊢
  exact .of_eq (h us hl)

/-- an exception of a callee reaches what this body wants of exceptions -/
def Passes (CX : CXT) (X : Cx) (E : XK) : Prop := ∀ (pins : List (Addr × Obj)) (σ : St) (H : Hp) (s : Shared) (e : Value) (s' : Shared), Inv X pins σ H s → CX X.stack H s E e s' → X.xe e s'

section
variable {X : Cx} {CX : CXT} {k : Nat} {f C : Addr} {fd : FuncData} {ps : List Str} {sp : Sp} {dvs : List V} {ds : List Value} {E : XK} {x m : Str} {p pos apos : Pos} {e o : Expr} {es : List Expr} {ta : TE} {t : TA}

/-- the callee runs -/
theorem run_fn {pins : List (Addr × Obj)} {σ : St} {H : Hp} {s : Shared} {Q : VK} {us : List Value} {vs : List V} (F : FnOk X.prog X.w X.K X.mg X.base CX k f fd ps sp) (hr : Room k X.A) (hb : Binds X.K fd ps ds) (hd : Vals dvs ds) (hx : Passes CX X E)
    (I : Inv X pins σ H s) (r : Vals vs us) (h : sp (vs ++ dvs) H Q E) : wpAny (model X.prog X.w) X.A (call (.ref f) us) (EP X pins σ Q) X.xe s := by
  have r2 : Vals (vs ++ dvs) (us ++ ds) := r.append hd
  have hl : (us ++ ds).length = ps.length := by rw [← r2.length]; exact F.len _ _ _ _ h
  refine wpAny_call (codeAny_mono (F.run X.A X.stack s H ⟨us, []⟩ (us ++ ds) (vs ++ dvs) Q E hr I.env0 (hb s us I.kIn hl) r2 h) fun r s' hq => ?_)
  cases r with
  | error e => exact hx pins σ H s e s' I hq
  | ok fl =>
    cases fl with
    | ret u => exact I.after hq
    | next => exact False.elim hq
    | brk => exact False.elim hq
    | cont => exact False.elim hq

theorem pe_call (F : FnOk X.prog X.w X.K X.mg X.base CX k f fd ps sp) (hr : Room k X.A) (hg : Gl X x) (hm : X.mg x = some (.ref f)) (hk : PySem.W.keepIn X.K (.ref f) = true) (hb : Binds X.K fd ps ds) (hd : Vals dvs ds) (hx : Passes CX X E)
    (ha : PA X (e :: es) t) (hdb : (x == ("__debug__" : Str)) = false := by decide) (he : starEach (e :: es) X.env = (false, eval e X.env) :: starEach es X.env := by rfl) (hpl : (backTo pos (starEach es X.env)).any (·.1) = false := by rfl) :
    PE X (.Call (.Name x p) (e :: es) [] pos) (tCall sp dvs E t) := by
  intro pins s σ H Q I h
  refine wpAny_Call_Name_kw (ld_glob I hg hm ?_ hdb)
  refine PySem.W.callWith_K (h₀ := X.base) I.ok.mod.kin hk (thn (ha pos pins s σ H _ I h) fun us s1 ⟨vs, H1, I1, r, q⟩ => ⟨I1.kIn, ?_⟩) he hpl
  exact run_fn F hr hb hd hx I1 r q
theorem pe_call0 (F : FnOk X.prog X.w X.K X.mg X.base CX k f fd ps sp) (hr : Room k X.A) (hg : Gl X x) (hm : X.mg x = some (.ref f)) (hk : PySem.W.keepIn X.K (.ref f) = true) (hb : Binds X.K fd ps ds) (hd : Vals dvs ds) (hx : Passes CX X E)
    (hdb : (x == ("__debug__" : Str)) = false := by decide) : PE X (.Call (.Name x p) [] [] pos) (tCall sp dvs E tNil) := by
  intro pins s σ H Q I h
  refine wpAny_Call_Name_kw (ld_glob I hg hm ?_ hdb)
  exact PySem.W.callWith_K0 I.kIn hk (run_fn (us := []) F hr hb hd hx I .nil h)

/-- o.m(e, ..) -/
theorem pe_meth {pl : Sem Bool} (he : PE X o ta) (c : Cls X.K C) (hm : Meth X.K C m f) (F : FnOk X.prog X.w X.K X.mg X.base CX k f fd ps sp) (hr : Room k X.A) (hb : Binds X.K fd ps ds) (hd : Vals dvs ds) (hx : Passes CX X E) (ha : PA X (e :: es) t)
    (hst : starEach (e :: es) X.env = (false, eval e X.env) :: starEach es X.env := by rfl) (hpl : (backTo pos (starEach es X.env)).any (·.1) = false := by rfl)
    (ht : eval (.Call (.Attribute o m apos) (e :: es) [] pos) X.env = (do
      let ov ← eval o X.env
      standAt apos.atName
      let (f, first) ← holding [ov] (getMethod ov m pl)
      callWith pos f first (backTo pos (starEach (e :: es) X.env)) (backToKw pos (keywordEach [] X.env))) := by rfl) :
    PE X (.Call (.Attribute o m apos) (e :: es) [] pos) (tMeth C m sp dvs E ta t) := by
  intro pins s σ H Q I h
  refine PySem.W.methodCall_KW (pl := pl) (thn (he pins s σ H _ I h) fun u s1 ⟨x, H1, I1, rx, a, dx, fs, ex, ea, l, q⟩ => ?_) ht
  subst ex
  obtain rfl : u = Value.ref a := rx
  refine getmeth_ok I1 ea c hm l ?_
  refine PySem.W.callWith_K (first := [.ref a]) (h₀ := X.base) I.ok.mod.kin hm.kp (thn (ha pos pins s1 σ H1 _ I1 q) fun us s2 ⟨vs, H2, I2, r, q2⟩ => ⟨I2.kIn, ?_⟩) hst hpl
  exact run_fn (us := .ref a :: us) (vs := .ref a :: vs) F hr hb hd hx I2 (.cons rfl r) q2
/-- o.m() -/
theorem pe_meth0 {pl : Sem Bool} (he : PE X o ta) (c : Cls X.K C) (hm : Meth X.K C m f) (F : FnOk X.prog X.w X.K X.mg X.base CX k f fd ps sp) (hr : Room k X.A) (hb : Binds X.K fd ps ds) (hd : Vals dvs ds) (hx : Passes CX X E)
    (ht : eval (.Call (.Attribute o m apos) [] [] pos) X.env = (do
      let ov ← eval o X.env
      standAt apos.atName
      let (f, first) ← holding [ov] (getMethod ov m pl)
      callWith pos f first (backTo pos (starEach [] X.env)) (backToKw pos (keywordEach [] X.env))) := by rfl) :
    PE X (.Call (.Attribute o m apos) [] [] pos) (tMeth C m sp dvs E ta tNil) := by
  intro pins s σ H Q I h
  refine PySem.W.methodCall_KW (pl := pl) (thn (he pins s σ H _ I h) fun u s1 ⟨x, H1, I1, rx, a, dx, fs, ex, ea, l, q⟩ => ?_) ht
  subst ex
  obtain rfl : u = Value.ref a := rx
  refine getmeth_ok I1 ea c hm l ?_
  exact PySem.W.callWith_K0 (first := [.ref a]) I1.kIn hm.kp (run_fn (us := [.ref a]) (vs := [.ref a]) F hr hb hd hx I1 (.cons rfl .nil) q)

/-- what a class must have to be made -/
structure Mk (K : PySem.W.Frag) (C f : Addr) : Prop where
  makes : PySem.W.makesIn K C = true
  init : PySem.W.findIn K (.ref C) "__init__" = some (some (.ref f))
  fn : PySem.W.isFn K (.ref f) = true
  kp : PySem.W.keepIn K (.ref C) = true

theorem run_make {pins : List (Addr × Obj)} {σ : St} {H : Hp} {s : Shared} {Q : VK} {us : List Value} {vs : List V} (M : Mk X.K C f) (F : FnOk X.prog X.w X.K X.mg X.base CX k f fd ps sp) (hr : Room (k + 1) X.A) (hb : Binds X.K fd ps ds) (hd : Vals dvs ds)
    (hx : Passes CX X E) (I : Inv X pins σ H s) (r : Vals vs us)
    (h : ∀ x dx, H x = none → H dx = none → dx ≠ x → sp (.ref x :: (vs ++ dvs)) (upd (upd H dx (.own x)) x (.ins C dx [])) (fun v H2 => v = .non ∧ Q (.ref x) H2) E) :
    wpAny (model X.prog X.w) X.A (call (.ref C) us) (EP X pins σ Q) X.xe s := by
  have hq := h (s.heap.objs.size + 1) s.heap.objs.size (I.hok.fresh (Nat.le_succ _)) (I.hok.fresh (Nat.le_refl _)) (Nat.ne_of_lt (Nat.lt_succ_self _))
  have I2 := Inv.made (C := C) I
  have r2 : Vals (V.ref (s.heap.objs.size + 1) :: (vs ++ dvs)) (Value.ref (s.heap.objs.size + 1) :: (us ++ ds)) := .cons rfl (r.append hd)
  have hl : (Value.ref (s.heap.objs.size + 1) :: us ++ ds).length = ps.length := by
    have e := r2.length
    rw [F.len _ _ _ _ hq] at e
    exact e.symm
  refine wpAny_call (make_map (f := f) I.kIn M.makes M.init (beq_iff_eq.mp M.fn) (codeAny_mono (F.run _ X.stack _ _ ⟨Value.ref (s.heap.objs.size + 1) :: us, []⟩ (Value.ref (s.heap.objs.size + 1) :: (us ++ ds)) _ _ E (hr.make C us [])
    (I2.env0.make C us []) (hb _ (Value.ref (s.heap.objs.size + 1) :: us) I2.kIn hl) r2 hq) fun r s' hq' => ?_))
  cases r with
  | error e => exact hx pins σ _ _ e s' I2 hq'
  | ok fl =>
    cases fl with
    | ret u =>
      obtain ⟨v, H', I3, rv, ev, q3⟩ := I2.after hq'
      subst ev
      exact ⟨rv, ⟨V.ref (s.heap.objs.size + 1), H', I3, rfl, q3⟩⟩
    | next => exact False.elim hq'
    | brk => exact False.elim hq'
    | cont => exact False.elim hq'
theorem pe_make (M : Mk X.K C f) (F : FnOk X.prog X.w X.K X.mg X.base CX k f fd ps sp) (hr : Room (k + 1) X.A) (hg : Gl X x) (hm : X.mg x = some (.ref C)) (hb : Binds X.K fd ps ds) (hd : Vals dvs ds) (hx : Passes CX X E)
    (ha : PA X (e :: es) t) (hdb : (x == ("__debug__" : Str)) = false := by decide) (he : starEach (e :: es) X.env = (false, eval e X.env) :: starEach es X.env := by rfl) (hpl : (backTo pos (starEach es X.env)).any (·.1) = false := by rfl) :
    PE X (.Call (.Name x p) (e :: es) [] pos) (tMake C sp dvs E t) := by
  intro pins s σ H Q I h
  refine wpAny_Call_Name_kw (ld_glob I hg hm ?_ hdb)
  refine PySem.W.callWith_K (h₀ := X.base) I.ok.mod.kin M.kp (thn (ha pos pins s σ H _ I h) fun us s1 ⟨vs, H1, I1, r, q⟩ => ⟨I1.kIn, ?_⟩) he hpl
  exact run_make M F hr hb hd hx I1 r q
theorem pe_make0 (M : Mk X.K C f) (F : FnOk X.prog X.w X.K X.mg X.base CX k f fd ps sp) (hr : Room (k + 1) X.A) (hg : Gl X x) (hm : X.mg x = some (.ref C)) (hb : Binds X.K fd ps ds) (hd : Vals dvs ds) (hx : Passes CX X E)
    (hdb : (x == ("__debug__" : Str)) = false := by decide) : PE X (.Call (.Name x p) [] [] pos) (tMake C sp dvs E tNil) := by
  intro pins s σ H Q I h
  refine wpAny_Call_Name_kw (ld_glob I hg hm ?_ hdb)
  exact PySem.W.callWith_K0 I.kIn M.kp (run_make (us := []) M F hr hb hd hx I .nil h)
end

/-! ### keywords -/
/-- the values of the keywords, from the left -/
def PK (X : Cx) (kws : List Keyword) (t : TA) : Prop :=
  ∀ (pos : Pos) (pins : List (Addr × Obj)) (s : Shared) (σ : St) (H : Hp) (Q : List V → Hp → Prop), Inv X pins σ H s → t σ H Q → wpAny (model X.prog X.w) X.A (evalAll ((backToKw pos (keywordEach kws X.env)).map (·.2))) (AP X pins σ Q) X.xe s
section
variable {X : Cx} {CX : CXT} {k : Nat} {f C : Addr} {fd : FuncData} {ps ks : List Str} {sp : Sp} {E : XK} {x m : Str} {p pos apos kpos : Pos} {e o : Expr} {es : List Expr} {kws : List Keyword} {te ta : TE} {t tk : TA} {nm : Option Str}
theorem pk_nil : PK X [] tNil := fun _ _ _ _ H Q I h => wpAny_evalAll_nil ⟨[], H, I, .nil, h⟩
theorem pk_cons (ha : PE X e te) (hr : PK X kws t) : PK X (⟨nm, e, kpos⟩ :: kws) (tCons te t) := by
  intro pos pins s σ H Q I h
  show wpAny _ _ (evalAll ((do let v ← eval e X.env; standAt pos; pure v) :: (backToKw pos (keywordEach kws X.env)).map (·.2))) _ _ s
  refine wpAny_evalAll_cons (wpAny_bind (thn (ha pins s σ H _ I h) fun u s1 ⟨x, H1, I1, r1, q1⟩ => wpAny_bind (wpAny_standAt (wpAny_pure ?_))))
  exact thn (hr pos pins s1 σ H1 _ I1 q1) fun us s2 ⟨xs, H2, I2, r2, q2⟩ => ⟨x :: xs, H2, I2, .cons r1 r2, q2⟩

/-- how a call with keywords binds: g puts the positional values us and the keywords' values ws (names ks) in the parameters' order, defaults among them -/
structure KBinds (K : PySem.W.Frag) (fd : FuncData) (ps ks : List Str) (g : List Value → List Value → List Value) (gV : List V → List V → List V) : Prop where
  to : ∀ (s : Shared) (us ws : List Value), K.In s.heap → (g us ws).length = ps.length → BindsTo s fd ⟨us, ks.zip ws⟩ (ps.zip (g us ws))
  rel : ∀ {vs : List V} {us : List Value} {zs : List V} {ws : List Value}, Vals vs us → Vals zs ws → Vals (gV vs zs) (g us ws)
def tCallK (sp : Sp) (gV : List V → List V → List V) (E : XK) (t tk : TA) : TE := fun σ H Q => t σ H fun vs H1 => tk σ H1 fun zs H2 => sp (gV vs zs) H2 Q E
variable {g : List Value → List Value → List Value} {gV : List V → List V → List V}
theorem run_fnk {pins : List (Addr × Obj)} {σ : St} {H : Hp} {s : Shared} {Q : VK} {us ws : List Value} {vs zs : List V} (F : FnOk X.prog X.w X.K X.mg X.base CX k f fd ps sp) (hr : Room k X.A) (hb : KBinds X.K fd ps ks g gV) (hx : Passes CX X E)
    (I : Inv X pins σ H s) (r : Vals vs us) (rz : Vals zs ws) (h : sp (gV vs zs) H Q E) : wpAny (model X.prog X.w) X.A (call (.ref f) us (ks.zip ws)) (EP X pins σ Q) X.xe s := by
  have r2 := hb.rel r rz
  have hl : (g us ws).length = ps.length := by rw [← r2.length]; exact F.len _ _ _ _ h
  refine wpAny_call (codeAny_mono (F.run X.A X.stack s H ⟨us, ks.zip ws⟩ (g us ws) (gV vs zs) Q E hr I.env0 (hb.to s us ws I.kIn hl) r2 h) fun r s' hq => ?_)
  cases r with
  | error e => exact hx pins σ H s e s' I hq
  | ok fl =>
    cases fl with
    | ret u => exact I.after hq
    | next => exact False.elim hq
    | brk => exact False.elim hq
    | cont => exact False.elim hq
/-- f(e, .., k = v, ..) -/
theorem pe_callK (F : FnOk X.prog X.w X.K X.mg X.base CX k f fd ps sp) (hr : Room k X.A) (hg : Gl X x) (hm : X.mg x = some (.ref f)) (hk : PySem.W.keepIn X.K (.ref f) = true) (hb : KBinds X.K fd ps ks g gV) (hx : Passes CX X E)
    (ha : PA X (e :: es) t) (hkw : PK X kws tk) (hall : (backToKw pos (keywordEach kws X.env)).all (·.1.isSome) = true := by rfl) (hks : (backToKw pos (keywordEach kws X.env)).filterMap (·.1) = ks := by rfl)
    (hdb : (x == ("__debug__" : Str)) = false := by decide) (he : starEach (e :: es) X.env = (false, eval e X.env) :: starEach es X.env := by rfl)
    (hpl : ((backTo pos (starEach (e :: es) X.env)).any (·.1) || (backToKw pos (keywordEach kws X.env)).any (·.1.isNone)) = false := by rfl) :
    PE X (.Call (.Name x p) (e :: es) kws pos) (tCallK sp gV E t tk) := by
  intro pins s σ H Q I h
  refine wpAny_Call_Name_kw (ld_glob I hg hm ?_ hdb)
  refine PySem.W.callWith_KW (h₀ := X.base) I.ok.mod.kin hk hall (thn (ha pos pins s σ H _ I h) fun us s1 ⟨vs, H1, I1, r, q⟩ => ?_) hpl he
  refine thn (hkw pos pins s1 σ H1 _ I1 q) fun ws s2 ⟨zs, H2, I2, rz, q2⟩ => ⟨I2.kIn, ?_⟩
  rw [hks]
  exact run_fnk F hr hb hx I2 r rz q2
end

/-! ### a def's body keeps its promise -/
/-- names: the parameters first -/
structure FnScope (N P : List Str) (sc : Scope) : Prop where
  kind : sc.kind = .function
  co : sc.isCoroutine = false
  gen : sc.isGenerator = false
  nd : N.Nodup
  pre : N.take P.length = P
  par : ∀ x ∈ P, sc.names.lookup x = some .local ∨ sc.names.lookup x = some .cell
  nofree : ∀ y ∈ sc.names, y.2 ≠ .free

theorem bindL_out {kindOf : Str → Option NameKind} {x : Str} : ∀ {binds : List (Str × Value)} {m : Str → Option Value}, (∀ v, (x, v) ∉ binds) → bindL kindOf binds m x = m x
  | [], _, _ => rfl
  | (n, v) :: r, m, h => by
    unfold bindL
    rw [bindL_out fun w hw => h w (List.mem_cons_of_mem _ hw)]
    split
    · have : x ≠ n := by rintro rfl; exact h v List.mem_cons_self
      simp [this]
    · rfl
theorem bindC_out {kindOf : Str → Option NameKind} {x : Str} : ∀ {binds : List (Str × Value)} {m : Str → Option Value}, (∀ v, (x, v) ∉ binds) → bindC kindOf binds m x = m x
  | [], _, _ => rfl
  | (n, v) :: r, m, h => by
    unfold bindC
    rw [bindC_out fun w hw => h w (List.mem_cons_of_mem _ hw)]
    split
    · rfl
    · have : x ≠ n := by rintro rfl; exact h v List.mem_cons_self
      simp [this]
theorem bindL_get {kindOf : Str → Option NameKind} {x : Str} {v : Value} : ∀ {P : List Str} {vs : List Value} {i : Nat} {m : Str → Option Value}, P.Nodup → P[i]? = some x → vs[i]? = some v → kindOf x = some .local →
    bindL kindOf (P.zip vs) m x = some v
  | [], _, _, _, _, h, _, _ => by simp at h
  | _ :: _, [], _, _, _, _, h, _ => by simp at h
  | p :: P, w :: vs, 0, m, nd, h1, h2, hk => by
    simp at h1 h2; subst h1; subst h2
    show bindL kindOf ((p, w) :: P.zip vs) m p = _
    unfold bindL
    rw [bindL_out fun v hv => (List.nodup_cons.mp nd).1 (List.of_mem_zip hv).1, if_pos hk]
    simp
  | p :: P, w :: vs, i + 1, m, nd, h1, h2, hk => by
    show bindL kindOf ((p, w) :: P.zip vs) m x = _
    unfold bindL
    exact bindL_get (i := i) (List.nodup_cons.mp nd).2 (by simpa using h1) (by simpa using h2) hk
theorem bindC_get {kindOf : Str → Option NameKind} {x : Str} {v : Value} : ∀ {P : List Str} {vs : List Value} {i : Nat} {m : Str → Option Value}, P.Nodup → P[i]? = some x → vs[i]? = some v → kindOf x ≠ some .local →
    bindC kindOf (P.zip vs) m x = some v
  | [], _, _, _, _, h, _, _ => by simp at h
  | _ :: _, [], _, _, _, _, h, _ => by simp at h
  | p :: P, w :: vs, 0, m, nd, h1, h2, hk => by
    simp at h1 h2; subst h1; subst h2
    show bindC kindOf ((p, w) :: P.zip vs) m p = _
    unfold bindC
    rw [bindC_out fun v hv => (List.nodup_cons.mp nd).1 (List.of_mem_zip hv).1, if_neg hk]
    simp
  | p :: P, w :: vs, i + 1, m, nd, h1, h2, hk => by
    show bindC kindOf ((p, w) :: P.zip vs) m x = _
    unfold bindC
    exact bindC_get (i := i) (List.nodup_cons.mp nd).2 (by simpa using h1) (by simpa using h2) hk

/-- the names' values at the entry -/
def start (N : List Str) (vs : List V) : St := vs.map some ++ List.replicate (N.length - vs.length) none

/-- the context of a def's body, at its entry; an exception leaves the frame, then lies as CX says -/
def cxOf (CX : CXT) (P : Program) (w : World) (K : PySem.W.Frag) (mg : Str → Option Value) (base : Heap) (N : List Str) (qual : Str) (scope : Scope) (f : Addr) (cd : Value) (A : Around) (outer : List Env) (s : Shared) (H : Hp) (E : XK) : Cx where
  prog := P
  w := w
  K := K
  mg := mg
  base := base
  A := A.deeper (envOfC qual scope s.heap.objs.size f cd)
  N := N
  s₀ := s
  H₀ := H
  env := envOfC qual scope s.heap.objs.size f cd
  outer := outer
  stack := envOfC qual scope s.heap.objs.size f cd :: outer
  ex := []
  calm := true
  fn := fun _ => true
  pn := []
  xe := fun e s' => wpAny (model P w) (A.deeper (envOfC qual scope s.heap.objs.size f cd)) (leaving (envOfC qual scope s.heap.objs.size f cd) e) (fun _ s'' => CX outer H s E e s'') (fun e' s'' => CX outer H s E e' s'') s'

theorem cell_has {sc : Scope} {n : Nat} {x : Str} (h : sc.names.lookup x = some .cell) : ∃ c, (cellsFrom n sc.names []).lookup x = some c := by
  have q := PySem.W.cellsFrom_some sc.names n [] (.inl h)
  exact Option.isSome_iff_exists.mp q

theorem inv_start {CX : CXT} {P : Program} {w : World} {K : PySem.W.Frag} {mg : Str → Option Value} {base : Heap} {N ps : List Str} {qual : Str} {scope : Scope} {f : Addr} {cd : Value} {A : Around} {outer : List Env} {s s1 : Shared} {H : Hp} {E : XK} {us : List Value} {vs : List V}
    (S : FnScope N ps scope) (hd : A.handled = none) (e0 : Env0 P w K mg base A outer s H) (hl : vs.length = ps.length) (r : Vals vs us)
    (x : InCallC s s.heap.objs.size (bindL (envOfC qual scope s.heap.objs.size f cd).kindOf (ps.zip us) fun _ => none) (cellsFrom (s.heap.objs.size + 1) scope.names []) (bindC (envOfC qual scope s.heap.objs.size f cd).kindOf (ps.zip us) fun _ => none) s1) :
    Inv (cxOf CX P w K mg base N qual scope f cd A outer s H E) [] (start N vs) H s1 := by
  have hpl : ps.length ≤ N.length := by have := congrArg List.length S.pre; rw [List.length_take] at this; omega
  obtain ⟨h1, tk, rfl, hk⟩ := x.done
  have noA : ∀ b : Addr, b ∉ (cxOf CX P w K mg base N qual scope f cd A outer s H E).ex := fun b z => absurd (show b ∈ ([] : List Addr) from z) (by simp)
  refine ⟨⟨e0.mod, S.kind, rfl, rfl, Nat.le_refl _, fun y z c h1 h2 => ?_, fun y hy => ?_, fun y c _ h => ?_, fun _ => hd, Around.frames_deeper e0.frames, .inr ⟨rfl, rfl⟩, fun b z => absurd z (noA b), e0.bs, e0.bsz, fun b _ _ => noA b, fun b z => absurd z (noA b), e0.funs, e0.frf⟩,
    rfl, e0.bare, Un.kept hk, ⟨_, x.toInCall.ns, fun i y v h1 h2 h3 => ?_⟩, fun y c h => ⟨_, x.cell y c h⟩, e0.hok.fresh (Nat.le_refl _), fun y c h => ?_, fun p hp => absurd (show p ∈ ([] : List (Addr × Obj)) from hp) (by simp), e0.hok.kept hk, ?_⟩
  · exact name_of_addr x.apart (PySem.mem_of_lookup h1) (PySem.mem_of_lookup h2)
  · have hy : scope.names.lookup y = some .cell ∨ scope.names.lookup y = some .free := hy
    rcases hy with hy | hy
    · exact cell_has hy
    · exact absurd rfl (S.nofree _ (PySem.mem_of_lookup hy))
  · exact Nat.le_of_lt (x.above y c (PySem.mem_of_lookup h))
  · have hi : i < vs.length := by
      unfold start at h2
      by_cases hi : i < vs.length
      · exact hi
      · rw [List.getElem?_append_right (by simpa using hi)] at h2
        rw [List.getElem?_replicate] at h2
        split at h2 <;> cases h2
    have ha : vs[i]? = some v := by
      unfold start at h2
      rw [List.getElem?_append_left (by simpa using hi), List.getElem?_map] at h2
      cases e : vs[i]? with
      | none => rw [e] at h2; cases h2
      | some a => rw [e] at h2; cases h2; rfl
    obtain ⟨u, hu, rv⟩ := r.get ha
    have hp : ps[i]? = some y := by
      rw [← S.pre, List.getElem?_take_of_lt (by omega)]; exact h1
    have ndP : ps.Nodup := by rw [← S.pre]; exact S.nd.sublist (List.take_sublist _ _)
    refine ⟨u, rv, ?_⟩
    rcases S.par y (List.mem_of_getElem? hp) with k | k
    · exact .inl ⟨k, bindL_get ndP hp hu k⟩
    · obtain ⟨c, e⟩ := cell_has (n := s.heap.objs.size + 1) k
      refine .inr ⟨.inl k, c, e, ?_⟩
      have q := x.cell y c e
      rw [bindC_get ndP hp hu (by show scope.names.lookup y ≠ _; rw [k]; decide)] at q
      exact q
  · exact e0.hok.fresh (Nat.le_of_lt (x.above y c (PySem.mem_of_lookup h)))
  · unfold start
    show _ = N.length
    rw [List.length_append, List.length_map, List.length_replicate]
    omega

/-- THE RULE: a def (or a method) of the text, by its body. The body's reading t is chosen for each entry; it is run at the parameters' values -/
theorem fn_of {CX : CXT} {P : Program} {w : World} {K : PySem.W.Frag} {mg : Str → Option Value} {base : Heap} {k : Nat} {f : Addr} {name qual : Str} {params : Arguments} {body : List Stmt} {scope : Scope} {dV kV doc pm cdv ct oc : Value} {an od : Option Addr}
    {osl : Array (Option Value)} {N ps : List Str} {sp : Sp} (lk : K.lookup f = some ⟨oc, od, .func (PySem.W.fnOf name qual params body scope dV kV doc pm an cdv ct), osl⟩) (hcd : PySem.W.codeIn K cdv qual = true) (S : FnScope N ps scope)
    (len : ∀ vs H Q E, sp vs H Q E → vs.length = ps.length)
    (hbody : ∀ (A : Around) (outer : List Env) (s : Shared) (H : Hp) (vs : List V) (Q : VK) (E : XK), Room k (A.deeper (envOfC qual scope s.heap.objs.size f cdv)) → sp vs H Q E →
      ∃ t, PSs (cxOf CX P w K mg base N qual scope f cdv A outer s H E) body t ∧ t { nx := fun _ H' => Q .non H', rt := Q } (start N vs) H) :
    FnOk P w K mg base CX (k + 1) f (PySem.W.fnOf name qual params body scope dV kV doc pm an cdv ct) ps sp := by
  refine ⟨len, fun A outer s H args us vs Q E hr e0 hb r hsp => ?_⟩
  have hl := len _ _ _ _ hsp
  have KX : K.In s.heap := e0.mod.kin.keeps fun b o e => (e0.bs b o e).1
  have lim : s.heap.NoLimit := e0.mod.nolimit.keeps fun b o e => (e0.bs b o e).1
  have hkind : ∀ y ∈ ps.zip us, scope.names.lookup y.1 = some .local ∨ (scope.names.lookup y.1 = some .cell ∧ ((cellsFrom (s.heap.objs.size + 1) scope.names []).lookup y.1).isSome = true) := fun ⟨n, v⟩ hy => by
    rcases S.par n (List.of_mem_zip hy).1 with q | q
    · exact .inl q
    · exact .inr ⟨q, PySem.W.cellsFrom_some _ _ _ (.inl q)⟩
  refine codeAny_call_function hr.depth (KX _ _ lk) rfl S.co S.gen rfl (PySem.W.codeRec_of KX hcd) (hb _ _ _ _ ?_)
  refine wpAny_newFunctionEnv_cells S.kind hkind fun env he s1 x => ?_
  subst he
  refine ⟨lim.keeps x.toInCall.keep, codeAny_func ?_⟩
  obtain ⟨t, ht, hq⟩ := hbody A outer s H vs Q E (hr.deeper _) hsp
  have I : Inv (cxOf CX P w K mg base N qual scope f cdv A outer s H E) [] (start N vs) H s1 := inv_start S hr.hd e0 hl r x
  refine wpAny_mono (ht [] s1 (start N vs) H _ I hq) (fun fl s' hs => ?_) fun e s' hs => hs
  have fin : ∀ {σ' : St} {H' : Hp} {v : V} {u : Value}, Inv (cxOf CX P w K mg base N qual scope f cdv A outer s H E) [] σ' H' s' → RelV v u → Q v H' → CE outer P w H s Q u s' :=
    fun {σ' H' v u} J rv q => ⟨v, H', J.os, J.bare, J.base, J.hok, rv, q⟩
  cases fl with
  | ret u =>
    obtain ⟨v, σ', H', J, rv, q⟩ := hs
    exact fin J rv q
  | next =>
    obtain ⟨σ', H', J, q⟩ := hs
    exact fin (v := V.non) (u := Value.none) J rfl q
  | brk =>
    obtain ⟨_, _, _, q⟩ := hs
    exact False.elim q
  | cont =>
    obtain ⟨_, _, _, q⟩ := hs
    exact False.elim q
end L2

namespace L2
open PySem PySem.Spec PyProof.Rows
section
variable {X : Cx} {x : Str} {p pos : Pos} {e : Expr} {es : List Expr} {t : TA} {id T : String} {r : List V → Hp → VK → Prop}

def tCB (r : List V → Hp → VK → Prop) (t : TA) : TE := fun σ H Q => t σ H fun vs H1 => r vs H1 Q
/-- f(e, ..), f a built-in function -/
theorem pe_callB (hc : CallR X (.builtin id) r) (hg : Gl X x) (hm : X.mg x = none) (hv : bootBuiltins x = some (.builtin id)) (ha : PA X (e :: es) t) (hn : x ≠ "__name__" := by decide) (hdb : (x == ("__debug__" : Str)) = false := by decide)
    (he : starEach (e :: es) X.env = (false, eval e X.env) :: starEach es X.env := by rfl) (hpl : (backTo pos (starEach es X.env)).any (·.1) = false := by rfl) : PE X (.Call (.Name x p) (e :: es) [] pos) (tCB r t) := by
  intro pins s σ H Q I h
  refine wpAny_Call_Name_kw (ld_blt I hg hm hv ?_ hn hdb)
  exact PyProof.Rows.callWith_builtin1 (thn (ha pos pins s σ H _ I h) fun us s1 ⟨vs, H1, I1, r1, q1⟩ => hc pins s1 σ H1 vs us Q I1 r1 q1) he hpl
/-- T(e, ..), T a built-in type -/
theorem pe_callTy (hc : CallR X (.type T) r) (hg : Gl X x) (hm : X.mg x = none) (hv : bootBuiltins x = some (.type T)) (ha : PA X (e :: es) t) (hn : x ≠ "__name__" := by decide) (hdb : (x == ("__debug__" : Str)) = false := by decide)
    (he : starEach (e :: es) X.env = (false, eval e X.env) :: starEach es X.env := by rfl) (hpl : (backTo pos (starEach es X.env)).any (·.1) = false := by rfl) : PE X (.Call (.Name x p) (e :: es) [] pos) (tCB r t) := by
  intro pins s σ H Q I h
  refine wpAny_Call_Name_kw (ld_blt I hg hm hv ?_ hn hdb)
  exact PyProof.Rows.callWith_type1 (thn (ha pos pins s σ H _ I h) fun us s1 ⟨vs, H1, I1, r1, q1⟩ => hc pins s1 σ H1 vs us Q I1 r1 q1) he hpl
/-- T() -/
theorem pe_callTy0 (hc : CallR X (.type T) r) (hg : Gl X x) (hm : X.mg x = none) (hv : bootBuiltins x = some (.type T)) (hn : x ≠ "__name__" := by decide) (hdb : (x == ("__debug__" : Str)) = false := by decide) :
    PE X (.Call (.Name x p) [] [] pos) (tCB r tNil) := by
  intro pins s σ H Q I h
  refine wpAny_Call_Name_kw (ld_blt I hg hm hv ?_ hn hdb)
  exact PyProof.Rows.callWith_type0 (hc pins s σ H [] [] Q I .nil h)
end
end L2

namespace HT
open PySem PyProof.Rows

/-- t < u of tuples of ints -/
def lexLt : List Int → List Int → Bool
  | [], [] => false
  | [], _ :: _ => true
  | _ :: _, [] => false
  | x :: xs, y :: ys => if x = y then lexLt xs ys else decide (x < y)
theorem lexLt_cons (x y : Int) (xs ys : List Int) : lexLt (x :: xs) (y :: ys) = if x = y then lexLt xs ys else decide (x < y) := rfl
theorem lexLt_nil_nil : lexLt [] [] = false := rfl
theorem lexLt_nil_cons (y : Int) (ys : List Int) : lexLt [] (y :: ys) = true := rfl
theorem lexLt_cons_nil (x : Int) (xs : List Int) : lexLt (x :: xs) [] = false := rfl

theorem eqAt_int (A : Around) (s : Shared) (a : Int) (t : Tok) (c : Int) (u : Tok) : ∃ e, SeqAt.EqAt A s (.int a t) (.int c u) e ∧ (e = true ↔ a = c) :=
  ⟨(a == c), SeqAt.EqAt.int_int a t c u, by simp⟩
theorem rcLt_int (A : Around) (s : Shared) (a : Int) (t : Tok) (c : Int) (u : Tok) (prog : Program) (w : World) (E : Value → Shared → Prop) (Q : Value → Shared → Prop) (h : Q (.bool (decide (a < c))) s) :
    wpAny (model prog w) A (richCompare .Lt (.int a t) (.int c u)) Q E s :=
  (PyProof.Rows.lt_int h : wpAny (model prog w) A (compareOp .Lt (.int a t) (.int c u)) Q E s)

section
open PySem.SeqAt
open PySem.AutoSeq1 (wpAny_loadPart')
open PySem.MeetsSeq PySem.MeetsSeq2 PySem.MeetsSeq3

theorem tuple_lt_ints (l b : Addr) (items items2 : Array Value) (n n2 : Nat) (dd dd2 : Option Addr) (sl sl2 : Array (Option Value)) (ns ms : List Int) (hi : IntsAre items.toList ns) (hj : IntsAre items2.toList ms) :
    Meets (Builtin.«tuple.__lt__» ⟨[.ref l, .ref b], []⟩)
      (fun _ R s => s.heap.get? l = some { cls := .type "tuple", dict := dd, data := .seq items n, slots := sl } ∧ s.heap.get? b = some { cls := .type "tuple", dict := dd2, data := .seq items2 n2, slots := sl2 } ∧
        R (.ok (.ret (.bool (lexLt ns ms)))) s) :=
  .of_wp fun prog w A R s h => by
    obtain ⟨hp, g, d, tk, os⟩ := s; obtain ⟨hl, hb, h⟩ := h
    have f2 := AutoSeq1.sub_tuple_tuple
    have z1 : items.size = ns.length := by rw [← hi.length]; simp
    have z2 : items2.size = ms.length := by rw [← hj.length]; simp
    wp_walk using wpAny_loadPart' hl, wpAny_loadPart' hb, wpAny_forIn_list _ (fun rest b s' => b.1 = none ∧ s' = ⟨hp, g, d, tk, os⟩ ∧ ∃ (vs ws : List Value) (ns' ms' : List Int), rest = vs.zip ws ∧
      IntsAre vs ns' ∧ IntsAre ws ms' ∧ ns'.length + items2.size = ms'.length + items.size ∧ R (.ok (.ret (.bool (lexLt ns' ms')))) ⟨hp, g, d, tk, os⟩) _
    case turn =>
      rintro ⟨y, x⟩ rest b s' ⟨hb', rfl, vs, ws, ns', ms', hz, hvi, hwi, hlen, hR⟩
      cases hvi with
      | nil => rw [List.zip_nil_left] at hz; cases hz
      | cons a t hvi' =>
        cases hwi with
        | nil => rw [List.zip_nil_right] at hz; cases hz
        | cons c u hwi' =>
          rw [List.zip_cons_cons] at hz
          injection hz with hyx hrest
          injection hyx with hy hx
          subst hy hx
          rw [lexLt_cons] at hR
          simp only [List.length_cons] at hlen
          obtain ⟨e, he, hiff⟩ := eqAt_int A.in1 ⟨hp, g, d, tk, os⟩ a t c u
          refine wpAny_bind (he prog w _ _ ?_)
          cases e with
          | true =>
            rw [if_pos (hiff.mp rfl)] at hR
            wp_walk
            exact ⟨rfl, rfl, _, _, _, _, hrest, hvi', hwi', by omega, hR⟩
          | false =>
            rw [if_neg (fun q => absurd (hiff.mpr q) Bool.false_ne_true)] at hR
            have hri := rcLt_int A.in1 ⟨hp, g, d, tk, os⟩ a t c u prog w
            wp_walk using hri
            exact ⟨_, rfl, by simpa using hR⟩
    case fin =>
      rintro ⟨b1, b2⟩ s' ⟨hb', rfl, vs, ws, ns', ms', hz, hvi, hwi, hlen, hR⟩
      simp only at hb'
      subst hb'
      have hv : lexLt ns' ms' = decide (items.size < items2.size) := by
        cases hvi with
        | nil =>
          cases hwi with
          | nil =>
            simp only [List.length_nil] at hlen
            rw [lexLt_nil_nil]
            exact (decide_eq_false (by omega)).symm
          | cons c u hw =>
            simp only [List.length_nil, List.length_cons] at hlen
            rw [lexLt_nil_cons]
            exact (decide_eq_true (by omega)).symm
        | cons a t hv =>
          cases hwi with
          | nil =>
            simp only [List.length_nil, List.length_cons] at hlen
            rw [lexLt_cons_nil]
            exact (decide_eq_false (by omega)).symm
          | cons c u hw =>
            rw [List.zip_cons_cons] at hz
            cases hz
      rw [hv] at hR
      wp_walk
      exact ⟨_, rfl, by simpa [Builtin.Tuple.tupleCompareSizes] using hR⟩
    case h =>
      exact ⟨rfl, rfl, items.toList, items2.toList, ns, ms, rfl, hi, hj, by omega, h⟩
end

section
variable {prog : Program} {w : World} {A : Around} {E : Value → Shared → Prop} {s : Shared}

theorem lt_tupInts {l b : Addr} {items items2 : Array Value} {ns ms : List Int} {Q : Value → Shared → Prop} (hl : IsTup s.heap l items) (hb : IsTup s.heap b items2) (hi : IntsAre items.toList ns) (hj : IntsAre items2.toList ms)
    (hu : A.units < cLine) (h : Q (.bool (lexLt ns ms)) s) : wpAny (model prog w) A (compareOp .Lt (.ref l) (.ref b)) Q E s := by
  obtain ⟨⟨cls, dd, data, sl⟩, ho, hc, n, hd⟩ := id hl
  obtain ⟨⟨cls2, dd2, data2, sl2⟩, ho2, hc2, n2, hd2⟩ := id hb
  simp only at hc hd hc2 hd2
  subst hc hd hc2 hd2
  exact richCompare_meets_room (op := .Lt) ⟨_, ho, rfl⟩ ⟨_, ho2, rfl⟩ PySem.F.slot_tuple_lt PySem.F.entry_tuple_lt (PySem.F.args_tuple_lt_2 _ _) (tuple_lt_ints l b items items2 n n2 dd dd2 sl sl2 ns ms hi hj)
    ⟨ho, ho2, show Value.bool (lexLt ns ms) ≠ Value.notImplemented ∧ Q (.bool (lexLt ns ms)) s from ⟨(fun x => nomatch x), h⟩⟩ hu

/-- t + u, t not empty -/
theorem cat_tup {t b : Addr} {vs ws : List Value} {Q : Value → Shared → Prop} (ht : IsTup s.heap t vs.toArray) (hb : IsTup s.heap b ws.toArray) (hv : vs ≠ [])
    (h1 : ws = [] → Q (.ref t) s) (h2 : ws ≠ [] → Q (.ref s.heap.objs.size) { s with heap := s.heap.push { cls := .type "tuple", data := .seq (vs ++ ws).toArray } })
    (hsz : vs.length + ws.length ≤ sizeLine) : wpAny (model prog w) A (binaryOp .Add (.ref t) (.ref b)) Q E s := by
  obtain ⟨⟨cls, dd, data, sl⟩, ho, hc, n, hd⟩ := id ht
  obtain ⟨⟨cls2, dd2, data2, sl2⟩, ho2, hc2, n2, hd2⟩ := id hb
  simp only at hc hd hc2 hd2
  subst hc hd hc2 hd2
  have e : vs.toArray ++ ws.toArray = (vs ++ ws).toArray := by simp
  by_cases hw : ws = []
  · exact concat_meets ⟨_, ho, rfl⟩ ⟨_, ho2, rfl⟩ noFill_tuple_add seq_tuple_add PySem.F.slot_tuple_add PySem.F.entry_tuple_add (PySem.F.args_tuple_add_2 _ _)
      (tuple_addW1 t b vs.toArray ws.toArray n n2 dd dd2 sl sl2 (by simpa using hv) (by simp [hw])) ⟨ho, ho2, h1 hw⟩
  · refine concat_meets ⟨_, ho, rfl⟩ ⟨_, ho2, rfl⟩ noFill_tuple_add seq_tuple_add PySem.F.slot_tuple_add PySem.F.entry_tuple_add (PySem.F.args_tuple_add_2 _ _)
      (tuple_addW2 t b vs.toArray ws.toArray n n2 dd dd2 sl sl2 (by simpa using hv) (by simpa using hw) (by rw [List.size_toArray, List.size_toArray]; exact hsz)) ⟨ho, ho2, ?_⟩
    rw [e]
    exact h2 hw

/-! ### t[a:b], not the whole -/
/-- a slice's bound as a place among n (d where it is left out) -/
def sIx (n d : Nat) : Option Int → Nat
  | none => d
  | some v => if v < 0 then (v + (n : Int)).toNat else min v.toNat n
theorem sIx_none (n d : Nat) : sIx n d none = d := rfl
theorem sIx_nat (n d k : Nat) : sIx n d (some (k : Int)) = min k n := by
  show (if (k : Int) < 0 then ((k : Int) + (n : Int)).toNat else min (k : Int).toNat n) = min k n
  rw [if_neg (by omega), Int.toNat_natCast]
theorem sIx_le (n d : Nat) (hd : d ≤ n) (o : Option Int) : sIx n d o ≤ n := by
  cases o with
  | none => exact hd
  | some v =>
    show (if v < 0 then (v + (n : Int)).toNat else min v.toNat n) ≤ n
    by_cases hv : v < 0
    · rw [if_pos hv]; omega
    · rw [if_neg hv]; exact Nat.min_le_right _ _
theorem clip_eq (v : Int) (n d : Nat) : (if v < 0 then max (v + (n : Int)) 0 else min v (n : Int)) = ((sIx n d (some v) : Nat) : Int) := by
  show (if v < 0 then max (v + (n : Int)) 0 else min v (n : Int)) = (((if v < 0 then (v + (n : Int)).toNat else min v.toNat n) : Nat) : Int)
  by_cases hv : v < 0
  · simp only [if_pos hv]; omega
  · simp only [if_neg hv]; omega
theorem adjust_gen (lo hi : Option Int) (n : Nat) : Builtin.Slice.sliceAdjust lo hi 1 (n : Int) = (((sIx n 0 lo : Nat) : Int), ((sIx n n hi : Nat) : Int)) := by
  have h1 : ¬ ((1 : Int) < 0) := by omega
  unfold Builtin.Slice.sliceAdjust
  simp only [h1, if_false]
  refine Prod.ext ?_ ?_
  · cases lo with
    | none => rfl
    | some v => exact clip_eq v n 0
  · cases hi with
    | none => rfl
    | some v => exact clip_eq v n n
theorem places_gen (i j : Nat) : Builtin.Slice.slicePlaces (i : Int) (j : Int) 1 = j - i := by
  unfold Builtin.Slice.slicePlaces
  have h1 : (1 : Int) > 0 := by omega
  simp only [h1, if_true, Int.ediv_one]
  split <;> omega
theorem slicePart_ {v : Value} {o : Option Int} {Q : Option Int → Shared → Prop} (p : IsPart v o) (h : Q o s) : wpAny (model prog w) A (Builtin.Slice.slicePartIndex v) Q E s := by
  cases p with
  | none => exact slicePart_none h
  | int i t => exact slicePart_int h
theorem sliceApplied_gen {sl : Addr} {vl vu : Value} {lo hi : Option Int} {n : Nat} {Q : Int × Int × Nat → Shared → Prop} (hs : s.heap.IsSliceOf sl vl vu .none) (pl : IsPart vl lo) (pu : IsPart vu hi)
    (h : Q (((sIx n 0 lo : Nat) : Int), 1, sIx n n hi - sIx n 0 lo) s) : wpAny (model prog w) A (Builtin.Slice.sliceApplied (.ref sl) (pure (n : Int))) Q E s := by
  obtain ⟨os, hos, hcs, hds⟩ := id hs
  unfold Builtin.Slice.sliceApplied Builtin.Slice.sliceFields
  refine wpAny_bind (wpAny_bind (wpAny_field hos hds (x := vl) rfl (wpAny_bind (wpAny_field hos hds (x := vu) rfl (wpAny_bind (wpAny_field hos hds (x := .none) rfl (wpAny_pure ?_)))))))
  refine wpAny_bind (slicePart_none ?_)
  show wpAny _ _ (if ((1 : Int) == 0) = true then _ else _) _ _ s
  rw [if_neg (by decide)]
  refine wpAny_bind (slicePart_ pl (wpAny_bind (slicePart_ pu (wpAny_bind (wpAny_pure ?_)))))
  show wpAny _ _ (match Builtin.Slice.sliceAdjust lo hi 1 (n : Int) with | (lo, hi) => pure (lo, (1 : Int), Builtin.Slice.slicePlaces lo hi 1)) _ _ s
  rw [adjust_gen lo hi n]
  show wpAny _ _ (pure (((sIx n 0 lo : Nat) : Int), (1 : Int), Builtin.Slice.slicePlaces ((sIx n 0 lo : Nat) : Int) ((sIx n n hi : Nat) : Int) 1)) _ _ s
  rw [places_gen]
  exact wpAny_pure h
theorem pick_gen (xs : Array Value) (i k : Nat) : ((List.range k).filterMap fun (m : Nat) => xs[((i : Int) + (m : Int) * 1).toNat]?).toArray = ((xs.toList.drop i).take k).toArray := by
  have e : (fun (m : Nat) => xs[((i : Int) + (m : Int) * 1).toNat]?) = fun m => xs[i + m]? := by
    funext m
    have : ((i : Int) + (m : Int) * 1).toNat = i + m := by omega
    rw [this]
  rw [e]
  have := pick_run xs i k
  rw [List.filterMap_map] at this
  have e2 : ((fun x => xs[x]?) ∘ fun x => i + x) = fun m => xs[i + m]? := rfl
  rw [e2] at this
  rw [this]

theorem getItem_tuple_cut {t sl : Addr} {items : Array Value} {vl vu : Value} {lo hi : Option Int} {Q : Value → Shared → Prop} (ht : IsTup s.heap t items) (hs : s.heap.IsSliceOf sl vl vu .none) (pl : IsPart vl lo) (pu : IsPart vu hi)
    (hw : ¬ (sIx items.size 0 lo = 0 ∧ sIx items.size items.size hi = items.size))
    (h : Q (.ref s.heap.objs.size) { s with heap := s.heap.push { cls := .type "tuple", data := .seq ((items.toList.drop (sIx items.size 0 lo)).take (sIx items.size items.size hi - sIx items.size 0 lo)).toArray } })
    (hsz : items.size ≤ sizeLine) : wpAny (model prog w) A (getItem (.ref t) (.ref sl)) Q E s := by
  have htake : sizeOk (.seq ((items.toList.drop (sIx items.size 0 lo)).take (sIx items.size items.size hi - sIx items.size 0 lo)).toArray) := by
    show ((items.toList.drop (sIx items.size 0 lo)).take (sIx items.size items.size hi - sIx items.size 0 lo)).toArray.size ≤ sizeLine
    rw [List.size_toArray, List.length_take, List.length_drop, Array.length_toList]
    omega
  have hj : sIx items.size items.size hi ≤ items.size := sIx_le _ _ (Nat.le_refl _) hi
  obtain ⟨os, hos, hcs, hds⟩ := id hs
  have hTs : s.TypeIs (.ref sl) "slice" := ⟨os, hos, hcs⟩
  unfold getItem
  try with_reducible refine wpAny_holding ?_
  first | refine wpAny_bind (wpAny_pure ?_) | skip
  refine wpAny_bind (wpAny_sequenceKey ht.typeIs (by decide) ?_)
  refine wpAny_bind (wpAny_callSpecial?_slot (name := Str.ofString "__getitem__") ht.typeIs PyProof.Rows.slot_tuple_getitem
    (wpAny_call_entry PyProof.Rows.slot_tuple_getitem ht.typeIs entry_tuple_getitem ?_ (args_tuple_getitem _ _)))
  show wpAny _ _ (Builtin.Tuple.tupleItemsOf (.ref t) >>= _) _ _ s
  refine wpAny_bind (tupleItemsOf_ ht ?_)
  refine wpAny_bind (wpAny_typeOf hTs ?_)
  rw [if_pos (by decide)]
  refine wpAny_bind (sliceApplied_gen hs pl pu ?_)
  have hno : ¬ ((((sIx items.size 0 lo : Nat) : Int) == 0 && (1 : Int) == 1 && (sIx items.size items.size hi - sIx items.size 0 lo) == items.size) = true) := by
    intro q
    rw [Bool.and_eq_true, Bool.and_eq_true] at q
    have q1 : ((sIx items.size 0 lo : Nat) : Int) = 0 := eq_of_beq q.1.1
    have q2 : sIx items.size items.size hi - sIx items.size 0 lo = items.size := eq_of_beq q.2
    exact hw ⟨by omega, by omega⟩
  show wpAny _ _ (if (((sIx items.size 0 lo : Nat) : Int) == 0 && (1 : Int) == 1 && (sIx items.size items.size hi - sIx items.size 0 lo) == items.size) = true then _ else _) _ _ s
  rw [if_neg hno, pick_gen]
  first
    | exact wpAny_bind (m := Builtin.Tuple.tupleExact _) (wpAny_newObj_type (wpAny_pure ⟨_, rfl, wpAny_pure h⟩) htake)
    | exact wpAny_bind (m := Builtin.Tuple.tupleExact _) (wpAny_newObj_type (wpAny_bind (wpAny_pure (wpAny_pure ⟨_, rfl, wpAny_pure h⟩))) htake)
    | exact wpAny_bind (wpAny_bind (m := Builtin.Tuple.tupleExact _) (wpAny_newObj_type (wpAny_pure (wpAny_pure ⟨_, rfl, wpAny_pure h⟩)) htake))
    | exact wpAny_bind (wpAny_bind (m := Builtin.Tuple.tupleExact _) (wpAny_newObj_type (wpAny_pure ⟨_, rfl, wpAny_pure h⟩) htake))
end
end HT

namespace L2
open PySem PySem.Spec PyProof.Rows

/-! ### the parts of a slice -/
abbrev TO := St → Hp → (Option Int → Hp → Prop) → Prop
/-- a slice's part (left out, or an int) -/
def PO (X : Cx) (e : Option Expr) (t : TO) : Prop :=
  ∀ (pins : List (Addr × Obj)) (s : Shared) (σ : St) (H : Hp) (Q : Option Int → Hp → Prop), Inv X pins σ H s → t σ H Q →
    wpAny (model X.prog X.w) X.A (evalPart e X.env) (fun u s' => ∃ o H', Inv X pins σ H' s' ∧ IsPart u o ∧ Q o H') X.xe s
def tNoPart : TO := fun _ H Q => Q none H
def tPart (t : TE) : TO := fun σ H Q => t σ H fun x H1 => ∃ i, x = .int i ∧ Q (some i) H1

theorem intsAre_of {ns : List Int} : ∀ {us : List Value}, Vals (ns.map V.int) us → IntsAre us ns := by
  induction ns with
  | nil => intro us r; rw [List.map_nil] at r; cases r; exact .nil
  | cons n ns ih =>
    intro us r
    rw [List.map_cons] at r
    cases r with
    | cons r1 r2 =>
      obtain ⟨t, e⟩ := r1
      subst e
      exact .cons n t (ih r2)

section
variable {X : Cx} {e : Expr} {te : TE} {lo hi : Option Expr} {tl th : TO} {pos p2 : Pos}

theorem po_none : PO X none tNoPart := by
  intro pins s σ H Q I h
  rw [evalPart_none]
  exact wpAny_pure ⟨none, H, I, .none, h⟩
theorem po_some (h : PE X e te) : PO X (some e) (tPart te) := by
  intro pins s σ H Q I hw
  rw [evalPart_some]
  refine thn (h pins s σ H _ I hw) fun u s1 ⟨x, H1, I1, r1, q1⟩ => ?_
  obtain ⟨i, rfl, q⟩ := q1
  obtain ⟨t, rfl⟩ := r1
  exact ⟨some i, H1, I1, .int i t, q⟩

/-- what a slice of a value is, by values: the slice object stands at sl -/
def SlR (X : Cx) (r : V → Option Int → Option Int → Hp → VK → Prop) : Prop :=
  ∀ (pins : List (Addr × Obj)) (s : Shared) (σ : St) (H : Hp) (x : V) (v vl vu : Value) (lo hi : Option Int) (sl : Addr) (Q : VK), Inv X pins σ H s → RelV x v → s.heap.IsSliceOf sl vl vu .none → IsPart vl lo → IsPart vu hi → r x lo hi H Q →
    ∃ T id, typeLookup (.type T) "__getitem__" = pure (some (.builtin id)) ∧ s.TypeIs v T ∧ wpAny (model X.prog X.w) X.A (getItem v (.ref sl)) (EP X pins σ Q) X.xe s
theorem SlR.or {r r' : V → Option Int → Option Int → Hp → VK → Prop} (h : SlR X r) (h' : SlR X r') : SlR X (fun x lo hi H Q => r x lo hi H Q ∨ r' x lo hi H Q) := by
  intro pins s σ H x v vl vu lo hi sl Q I rx hs pl pu q
  rcases q with q | q
  · exact h pins s σ H x v vl vu lo hi sl Q I rx hs pl pu q
  · exact h' pins s σ H x v vl vu lo hi sl Q I rx hs pl pu q
def tSl (r : V → Option Int → Option Int → Hp → VK → Prop) (te : TE) (tl th : TO) : TE := fun σ H Q => te σ H fun x H1 => tl σ H1 fun l H2 => th σ H2 fun u H3 => r x l u H3 Q
/-- a[lo:hi], any a -/
theorem pe_slice {r : V → Option Int → Option Int → Hp → VK → Prop} (hr : SlR X r) (he : PE X e te) (hl : PO X lo tl) (hu : PO X hi th) : PE X (.Subscript e (.Slice lo hi none p2) pos) (tSl r te tl th) := by
  intro pins s σ H Q I h
  refine Subscript_ (thn (he pins s σ H _ I h) fun v s1 ⟨x, H1, I1, r1, q1⟩ => ?_)
  refine wpAny_Slice (thn (hl pins s1 σ H1 _ I1 q1) fun vl s2 ⟨l, H2, I2, pl, q2⟩ => thn (hu pins s2 σ H2 _ I2 q2) fun vu s3 ⟨u, H3, I3, pu, q3⟩ => ?_)
  rw [evalPart_none]
  refine wpAny_pure ?_
  have I4 : Inv X pins σ H3 { s3 with heap := s3.heap.push { cls := .type "slice", data := .fields #[vl, vu, .none] } } := I3.kept (t' := s3.toks) fun b ob q => Heap.get?_push_of_some _ q
  obtain ⟨T, id, hT, ht, hg⟩ := hr pins { s3 with heap := s3.heap.push { cls := .type "slice", data := .fields #[vl, vu, .none] } } σ H3 x v vl vu l u s3.heap.objs.size Q I4 r1 (Heap.IsSliceOf.new ..) pl pu q3
  show wpAny (model X.prog X.w) X.A (subscriptTail e (.Slice lo hi none p2) v (.ref s3.heap.objs.size)) (EP X pins σ Q) X.xe { s3 with heap := s3.heap.push { cls := .type "slice", data := .fields #[vl, vu, .none] } }
  exact tail_any (ops := [.ref s3.heap.objs.size, v]) ht hT hg (by with_unfolding_all rfl)

/-- the items of xs[lo:hi] -/
def cutV (xs : List V) (lo hi : Option Int) : List V := (xs.drop (HT.sIx xs.length 0 lo)).take (HT.sIx xs.length xs.length hi - HT.sIx xs.length 0 lo)
theorem cutV_length (xs : List V) (lo hi : Option Int) : (cutV xs lo hi).length ≤ xs.length := by
  unfold cutV
  rw [List.length_take, List.length_drop]
  omega
/-- t[lo:hi], not the whole of it (the whole would be t itself) -/
def rSlT (K : PySem.W.Frag) : V → Option Int → Option Int → Hp → VK → Prop := fun x lo hi H Q => ∃ a xs, x = .ref a ∧ SqT K H a xs ∧
  ¬ (HT.sIx xs.length 0 lo = 0 ∧ HT.sIx xs.length xs.length hi = xs.length) ∧ ∀ p, H p = none → Q (.ref p) (upd H p (.tup (cutV xs lo hi)))
theorem sl_tup : SlR X (rSlT X.K) := by
  intro pins s σ H x v vl vu lo hi sl Q I rx hs pl pu h
  obtain ⟨a, xs, rfl, hx, hw, q⟩ := h
  cases rx
  obtain ⟨its, r, ht, hz⟩ := I.tuple hx
  have hlen : its.toArray.size = xs.length := by rw [List.size_toArray]; exact r.length.symm
  refine ⟨"tuple", _, PyProof.Rows.slot_tuple_getitem.lookup, ht.typeIs, ?_⟩
  refine HT.getItem_tuple_cut ht hs pl pu (by rw [hlen]; exact hw) ?_ (by rw [hlen]; exact hz)
  rw [hlen]
  refine ⟨.ref s.heap.objs.size, _, I.laid (t' := s.toks) (o := .tup (cutV xs lo hi)) (fun b ob q => Heap.get?_push_of_some _ q) (Nat.le_refl _) ?_, rfl, q _ (I.hok.fresh (Nat.le_refl _))⟩
  exact ⟨Nat.le_trans (cutV_length xs lo hi) hz, _, (r.drop (HT.sIx xs.length 0 lo)).take (HT.sIx xs.length xs.length hi - HT.sIx xs.length 0 lo), IsTup.new _ _⟩

/-! ### t < u, t + u -/
def rLtT (K : PySem.W.Frag) : R2 := fun x y H Q => ∃ a b ns ms, x = .ref a ∧ y = .ref b ∧ SqT K H a (ns.map V.int) ∧ SqT K H b (ms.map V.int) ∧ Q (.bl (HT.lexLt ns ms)) H
theorem op_ltT (hu : X.A.units < cLine) : OpR X (compareOp .Lt) (rLtT X.K) := by
  intro pins s σ H x y v u Q I rx ry h
  obtain ⟨a, b, ns, ms, rfl, rfl, ha, hb, q⟩ := h
  cases rx
  cases ry
  obtain ⟨its, r1, p1, _⟩ := I.tuple ha
  obtain ⟨its2, r2, p2, _⟩ := I.tuple hb
  have i1 : IntsAre its.toArray.toList ns := intsAre_of r1
  have i2 : IntsAre its2.toArray.toList ms := intsAre_of r2
  exact HT.lt_tupInts p1 p2 i1 i2 hu ⟨.bl (HT.lexLt ns ms), H, I, rfl, q⟩
/-- t + u, t not empty: u empty gives t itself -/
def rCatT (K : PySem.W.Frag) : R2 := fun x y H Q => ∃ a b xs ys, x = .ref a ∧ y = .ref b ∧ SqT K H a xs ∧ SqT K H b ys ∧ xs ≠ [] ∧ xs.length + ys.length ≤ sizeLine ∧
  (ys = [] → Q (.ref a) H) ∧ (ys ≠ [] → ∀ p, H p = none → Q (.ref p) (upd H p (.tup (xs ++ ys))))
theorem Vals.nil_iff {xs : List V} {us : List Value} (r : Vals xs us) : us = [] ↔ xs = [] := by
  cases r with
  | nil => simp
  | cons _ _ => simp
theorem op_catT : OpR X (binaryOp .Add) (rCatT X.K) := by
  intro pins s σ H x y v u Q I rx ry h
  obtain ⟨a, b, xs, ys, rfl, rfl, ha, hb, hx, hz, q1, q2⟩ := h
  cases rx
  cases ry
  obtain ⟨its, r1, p1, _⟩ := I.tuple ha
  obtain ⟨its2, r2, p2, _⟩ := I.tuple hb
  refine HT.cat_tup p1 p2 (fun z => hx (r1.nil_iff.mp z)) (fun z => ⟨.ref a, H, I, rfl, q1 (r2.nil_iff.mp z)⟩) (fun z => ?_) (by rw [← r1.length, ← r2.length]; exact hz)
  refine ⟨.ref s.heap.objs.size, _, I.laid (t' := s.toks) (o := .tup (xs ++ ys)) (fun b ob q => Heap.get?_push_of_some _ q) (Nat.le_refl _) ?_, rfl, q2 (fun w => z (r2.nil_iff.mpr w)) _ (I.hok.fresh (Nat.le_refl _))⟩
  exact ⟨by rw [List.length_append]; exact hz, _, r1.append r2, IsTup.new _ _⟩
/-- tuple(t) -/
theorem call_tupleT : CallR X (.type "tuple") (fun xs H Q => ∃ a ys, xs = [.ref a] ∧ SqT X.K H a ys ∧ Q (.ref a) H) := by
  intro pins s σ H xs us Q I r h
  obtain ⟨a, ys, rfl, ha, q⟩ := h
  obtain ⟨u, rfl, ru⟩ := vals1 r
  cases ru
  obtain ⟨its, _, p1, _⟩ := I.tuple ha
  exact call_tuple_same (items := its.toArray) p1 ⟨.ref a, H, I, rfl, q⟩
end
end L2

namespace L2
open PySem PySem.Spec PyProof.Rows

/-! ### places -/
/-- the place that an index of any sign means -/
def ixN (n : Nat) (i : Int) : Option Nat := if 0 ≤ i then (if i < n then some i.toNat else none) else if -(n : Int) ≤ i then some (i + n).toNat else none
def atI {α : Type} (xs : List α) (i : Int) : Option α := (ixN xs.length i).bind fun j => xs[j]?
theorem ixN_seq {n : Nat} {i : Int} {j : Nat} (h : ixN n i = some j) : seqIndex? i n = some j ∧ j < n ∧ -(n : Int) ≤ i ∧ i < n := by
  unfold ixN at h
  by_cases h0 : 0 ≤ i
  · rw [if_pos h0] at h
    by_cases h1 : i < n
    · rw [if_pos h1] at h
      have e : i.toNat = j := Option.some.inj h
      exact ⟨by rw [seqIndex_of h0 h1, e], by omega, by omega, h1⟩
    · rw [if_neg h1] at h; cases h
  · rw [if_neg h0] at h
    by_cases h1 : -(n : Int) ≤ i
    · rw [if_pos h1] at h
      have e : (i + n).toNat = j := Option.some.inj h
      exact ⟨by rw [seqIndex_neg (by omega) h1, e], by omega, h1, by omega⟩
    · rw [if_neg h1] at h; cases h
theorem atI_get {α : Type} {xs : List α} {i : Int} {v : α} (h : atI xs i = some v) : ∃ j, seqIndex? i xs.length = some j ∧ xs[j]? = some v ∧ j < xs.length ∧ -(xs.length : Int) ≤ i ∧ i < xs.length := by
  unfold atI at h
  cases e : ixN xs.length i with
  | none => rw [e] at h; cases h
  | some j =>
    rw [e] at h
    obtain ⟨h1, h2, h3, h4⟩ := ixN_seq e
    exact ⟨j, h1, h, h2, h3, h4⟩
theorem atI_nat {α : Type} {xs : List α} {j : Nat} {v : α} (h : xs[j]? = some v) : atI xs (j : Int) = some v := by
  have hj : j < xs.length := (List.getElem?_eq_some_iff.mp h).1
  have e : ixN xs.length (j : Int) = some j := by
    unfold ixN
    rw [if_pos (by omega), if_pos (by omega)]; simp
  unfold atI; rw [e]; exact h
theorem atI_last {α : Type} (xs : List α) (v : α) : atI (xs ++ [v]) (-1) = some v := by
  have hl : (xs ++ [v]).length = xs.length + 1 := by simp
  have e : ixN (xs ++ [v]).length (-1) = some xs.length := by
    unfold ixN
    rw [hl, if_neg (by decide), if_pos (by omega)]
    congr 1
    omega
  unfold atI
  rw [e]
  show (xs ++ [v])[xs.length]? = some v
  simp

/-! ### what may be subscripted -/
/-- what stands as an index of a plain subscript -/
def PlainIx (b : Expr) : Prop := ∀ o i, subscripted b false o i = operate [o, i] (getItem o i)
/-- a subscript by values -/
def IxR (X : Cx) (r : R2) : Prop :=
  ∀ (value slice : Expr) (pins : List (Addr × Obj)) (s : Shared) (σ : St) (H : Hp) (x y : V) (v u : Value) (Q : VK), Inv X pins σ H s → RelV x v → RelV y u → r x y H Q →
    subscripted slice false v u = operate [v, u] (getItem v u) → wpAny (model X.prog X.w) X.A (subscriptTail value slice v u) (EP X pins σ Q) X.xe s
/-- a call of a builtin's method by values: the receiver, the arguments -/
def MtR (X : Cx) (id : String) (r : V → List V → Hp → VK → Prop) : Prop :=
  ∀ (pins : List (Addr × Obj)) (s : Shared) (σ : St) (H : Hp) (x : V) (xs : List V) (v : Value) (us : List Value) (Q : VK), Inv X pins σ H s → RelV x v → Vals xs us → r x xs H Q →
    wpAny (model X.prog X.w) X.A (call (.builtin id) (v :: us)) (EP X pins σ Q) X.xe s
section
variable {X : Cx} {a b : Expr} {ta tb : TE} {pos : Pos}
theorem IxR.or {r r' : R2} (h : IxR X r) (h' : IxR X r') : IxR X (fun x y H Q => r x y H Q ∨ r' x y H Q) := by
  intro value slice pins s σ H x y v u Q I rx ry q hs
  rcases q with q | q
  · exact h value slice pins s σ H x y v u Q I rx ry q hs
  · exact h' value slice pins s σ H x y v u Q I rx ry q hs
theorem MtR.or {id : String} {r r' : V → List V → Hp → VK → Prop} (h : MtR X id r) (h' : MtR X id r') : MtR X id (fun x xs H Q => r x xs H Q ∨ r' x xs H Q) := by
  intro pins s σ H x xs v us Q I rx rs q
  rcases q with q | q
  · exact h pins s σ H x xs v us Q I rx rs q
  · exact h' pins s σ H x xs v us Q I rx rs q
/-- a[b] -/
theorem pe_ix {r : R2} (hr : IxR X r) (ha : PE X a ta) (hb : PE X b tb) (hs : PlainIx b) : PE X (.Subscript a b pos) (tOp r ta tb) := by
  intro pins s σ H Q I h
  exact Subscript_ (binT ha hb I h fun v u s2 x y H2 I2 rx ry q => hr a b pins s2 σ H2 x y v u Q I2 rx ry q (hs _ _))

def rIxL (K : PySem.W.Frag) : R2 := fun x y H Q => ∃ p xs i v, x = .ref p ∧ y = .int i ∧ SqL K H p xs ∧ atI xs i = some v ∧ Q v H
def rIxT (K : PySem.W.Frag) : R2 := fun x y H Q => ∃ p xs i v, x = .ref p ∧ y = .int i ∧ SqT K H p xs ∧ atI xs i = some v ∧ Q v H
def rIxS : R2 := fun x y H Q => ∃ z i c, x = .str z ∧ y = .int i ∧ z.length ≤ sizeLine ∧ atI z.cps.toList i = some c ∧ Q (.str ⟨#[c]⟩) H
theorem ix_list : IxR X (rIxL X.K) := by
  intro value slice pins s σ H x y v u Q I rx ry h hs
  obtain ⟨p, xs, i, z, rfl, rfl, hq, he, q⟩ := h
  cases rx
  obtain ⟨t, rfl⟩ := ry
  obtain ⟨its, r, pl, hz⟩ := I.list hq
  obtain ⟨j, h1, h2, h3, h4, h5⟩ := atI_get he
  obtain ⟨w, ew, rw'⟩ := r.get h2
  have hl := r.length
  have hn := line63
  have fin : EP X pins σ Q w s := ⟨z, H, I, rw', q⟩
  by_cases h0 : 0 ≤ i
  · have hj : i.toNat = j := by
      rw [seqIndex_of h0 h5] at h1
      exact Option.some.inj h1
    exact item_listR pl.isList h0 (by omega) (by rw [hj]; simpa using ew) fin hs
  · have hj : (i + (its.toArray.size : Int)).toNat = j := by
      rw [seqIndex_neg (by omega) h4] at h1
      rw [List.size_toArray, ← hl]
      exact Option.some.inj h1
    exact subscriptTail_builtinR (x := w) pl.isList.typeIs slot_list_getitem.lookup
      (wpAny_getItem_list_neg (Q := fun r s' => r = w ∧ EP X pins σ Q r s') pl.isList (by omega) (by rw [List.size_toArray] <;> omega) (by omega) (by rw [hj]; simpa using ew) ⟨rfl, fin⟩) hs
theorem ix_tup : IxR X (rIxT X.K) := by
  intro value slice pins s σ H x y v u Q I rx ry h hs
  obtain ⟨p, xs, i, z, rfl, rfl, hq, he, q⟩ := h
  cases rx
  obtain ⟨t, rfl⟩ := ry
  obtain ⟨its, r, pl, hz⟩ := I.tuple hq
  obtain ⟨j, h1, h2, h3, h4, h5⟩ := atI_get he
  obtain ⟨w, ew, rw'⟩ := r.get h2
  have hl := r.length
  have hn := line63
  have fin : EP X pins σ Q w s := ⟨z, H, I, rw', q⟩
  exact subscriptTail_builtinR (x := w) pl.typeIs slot_tuple_getitem.lookup
    (getItem_tuple (j := j) (Q := fun r s' => r = w ∧ EP X pins σ Q r s') pl (by omega) (by omega) (by rw [List.size_toArray, ← hl]; exact h1) (by simpa using ew) ⟨rfl, fin⟩) hs
theorem ix_str : IxR X rIxS := by
  intro value slice pins s σ H x y v u Q I rx ry h hs
  obtain ⟨z, i, c, rfl, rfl, hz, he, q⟩ := h
  obtain ⟨t, rfl⟩ := rx
  obtain ⟨t', rfl⟩ := ry
  obtain ⟨j, h1, h2, h3, h4, h5⟩ := atI_get he
  have hl : z.cps.toList.length = z.length := by simp [Str.length]
  rw [hl] at h1 h4 h5
  have hn := line63
  exact tail_any (typeIs_str s z t) slot_str_getitem.lookup (getItem_str (c := c) (by
    have e1 : decide (i < -(2 ^ 63 : Int)) = false := decide_eq_false (by omega)
    have e2 : decide (i ≥ 2 ^ 63) = false := decide_eq_false (by omega)
    rw [e1, e2, Bool.or_false]) (by rw [h1]; simpa using h2) ⟨.str ⟨#[c]⟩, H, I.tok _, ⟨_, rfl⟩, q⟩) hs
/-- list, tuple or str -/
def rIx (K : PySem.W.Frag) : R2 := fun x y H Q => rIxL K x y H Q ∨ rIxT K x y H Q ∨ rIxS x y H Q
theorem ix_seq : IxR X (rIx X.K) := ix_list.or (ix_tup.or ix_str)

/-! ### xs[i] = v, any sign -/
/-- the list's object behind a store -/
theorem mapSeq_set (its : List Value) (n j : Nat) (u : Value) : Obj.mapSeq (·.setIfInBounds j u) { cls := .type "list", data := .seq its.toArray n } = { cls := .type "list", data := .seq (its.set j u).toArray n } := by
  simp [Obj.mapSeq]
theorem Inv.lst {pins : List (Addr × Obj)} {σ : St} {H : Hp} {s : Shared} {p : Addr} {xs : List V} (I : Inv X pins σ H s) (h : H p = some (.lst xs)) :
    ∃ (its : List Value) (n : Nat), Vals xs its ∧ s.heap.get? p = some { cls := .type "list", data := .seq its.toArray n } ∧ xs.length ≤ sizeLine := by
  obtain ⟨z, its, n, r, e⟩ := I.hok p _ h
  exact ⟨its, n, r, e, z⟩
/-- the list at p is written by an update of its object -/
theorem Inv.lstUpd {pins : List (Addr × Obj)} {σ : St} {H : Hp} {s : Shared} {p : Addr} {xs ys : List V} {its its' : List Value} {n n' : Nat} {f : Obj → Obj} (I : Inv X pins σ H s) (h : H p = some (.lst xs))
    (ho : s.heap.get? p = some { cls := .type "list", data := .seq its.toArray n }) (hf : f { cls := .type "list", data := .seq its.toArray n } = { cls := .type "list", data := .seq its'.toArray n' }) (r : Vals ys its') (hz : ys.length ≤ sizeLine) (t : Nat) :
    Inv X pins σ (upd H p (.lst ys)) { s with heap := s.heap.update p f, toks := t } := by
  have e : (s.heap.update p f).get? p = some { cls := .type "list", data := .seq its'.toArray n' } := by
    rw [Heap.get?_update_self f ho (by rw [hf] <;> rfl), hf]
  refine I.write (x := p) (e := p) (by rw [h]; trivial) (.inl rfl) (fun b u hb q => (Heap.get?_update_other _ _ (Ne.symm hb)).trans q) ⟨_, e⟩ ?_
  exact ⟨hz, its', n', r, e⟩
def rSetL : V → V → V → Hp → (Hp → Prop) → Prop := fun o i v H Q => ∃ p xs k j, o = .ref p ∧ i = .int k ∧ H p = some (.lst xs) ∧ ixN xs.length k = some j ∧ Q (upd H p (.lst (xs.set j v)))
theorem set_list : PSet X rSetL := by
  intro pins s σ H o i v ov iv u Q I ro ri rv h
  obtain ⟨p, xs, k, j, rfl, rfl, hp, hj, q⟩ := h
  cases ro
  obtain ⟨t, rfl⟩ := ri
  obtain ⟨its, n, r, ho, hz⟩ := I.lst hp
  obtain ⟨h1, h2, h3, h4⟩ := ixN_seq hj
  have hl := r.length
  have hn := line63
  have I' : Inv X pins σ (upd H p (.lst (xs.set j v))) { s with heap := s.heap.update p (Obj.mapSeq (·.setIfInBounds j u)) } :=
    I.lstUpd hp ho (mapSeq_set its n j u) (r.set rv j) (by rw [List.length_set]; exact hz) s.toks
  by_cases h0 : 0 ≤ k
  · have hk : k.toNat = j := by
      rw [seqIndex_of h0 h4] at h1
      exact Option.some.inj h1
    exact PySem.W.ki_setAt ho h0 (by omega) (by rw [List.size_toArray, ← hl]; exact h4) (by rw [hk]; exact ⟨_, I', q⟩)
  · have hk : (k + (its.toArray.size : Int)).toNat = j := by
      rw [seqIndex_neg (by omega) h3] at h1
      rw [List.size_toArray, ← hl]
      exact Option.some.inj h1
    exact PySem.W.ki_setBack ho (by omega) (by rw [List.size_toArray, ← hl]; exact h3) (by omega) (by rw [hk]; exact ⟨_, I', q⟩)

/-! ### slices -/
theorem slice_bounds (lo hi : Option Int) (n : Nat) : (sliceBounds lo hi none n).1 = ((HT.sIx n 0 lo : Nat) : Int) ∧ (sliceBounds lo hi none n).2.1 = ((HT.sIx n n hi : Nat) : Int) ∧ (sliceBounds lo hi none n).2.2 = 1 := by
  refine ⟨?_, ?_, rfl⟩
  · cases lo with
    | none => simp [sliceBounds, HT.sIx]
    | some i =>
      simp only [sliceBounds, HT.sIx, Option.getD_none, show (1 : Int) > 0 by decide, if_true]
      by_cases h : i < 0
      · simp only [h, if_true] <;> omega
      · simp only [h, if_false] <;> omega
  · cases hi with
    | none => simp [sliceBounds, HT.sIx]
    | some i =>
      simp only [sliceBounds, HT.sIx, Option.getD_none, show (1 : Int) > 0 by decide, if_true]
      by_cases h : i < 0
      · simp only [h, if_true] <;> omega
      · simp only [h, if_false] <;> omega
theorem slicePick_cut (its : List Value) (lo hi : Option Int) : slicePick its.toArray lo hi none = ((its.drop (HT.sIx its.length 0 lo)).take (HT.sIx its.length its.length hi - HT.sIx its.length 0 lo)).toArray := by
  obtain ⟨h1, h2, h3⟩ := slice_bounds lo hi its.toArray.size
  unfold slicePick
  rw [h1, h2, h3]
  simp only [sliceRange_one, pick_run, List.size_toArray] <;> rfl
/-- xs[lo:hi] of a list: a new list -/
def rSlL (K : PySem.W.Frag) : V → Option Int → Option Int → Hp → VK → Prop := fun x lo hi H Q => ∃ a xs, x = .ref a ∧ SqL K H a xs ∧ ∀ p, H p = none → Q (.ref p) (upd H p (.lst (cutV xs lo hi)))
theorem sl_list : SlR X (rSlL X.K) := by
  intro pins s σ H x v vl vu lo hi sl Q I rx hs pl pu h
  obtain ⟨a, xs, rfl, hx, q⟩ := h
  cases rx
  obtain ⟨its, r, ht, hz⟩ := I.list hx
  have hlen := r.length
  refine ⟨"list", _, slot_list_getitem.lookup, ht.isList.typeIs, ?_⟩
  refine wpAny_getItem_list_slice ht.isList hs pl pu .none (by simp) ?_ (by rw [List.size_toArray] <;> omega)
  rw [slicePick_cut, ← hlen]
  refine ⟨.ref s.heap.objs.size, _, I.laid (t' := s.toks) (o := .lst (cutV xs lo hi)) (fun b ob q => Heap.get?_push_of_some _ q) (Nat.le_refl _) ?_, rfl, q _ (I.hok.fresh (Nat.le_refl _))⟩
  exact ⟨Nat.le_trans (cutV_length xs lo hi) hz, _, 0, (r.drop (HT.sIx xs.length 0 lo)).take (HT.sIx xs.length xs.length hi - HT.sIx xs.length 0 lo), Heap.get?_push_size _ rfl⟩

/-! ### in, not in: flat items -/
def flatV : V → Bool
  | .non => true
  | .bl _ => true
  | .int _ => true
  | .str _ => true
  | _ => false
/-- == of flat values -/
def eqV : V → V → Bool
  | .non, .non => true
  | .bl a, .bl b => a == b
  | .bl a, .int b => (if a then 1 else 0) == b
  | .int a, .bl b => a == (if b then 1 else 0)
  | .int a, .int b => a == b
  | .str a, .str b => a == b
  | _, _ => false
theorem eqAt_V {A : Around} {s : Shared} {y x : V} {u v : Value} (ry : RelV y u) (rx : RelV x v) (fy : flatV y = true) (fx : flatV x = true) : SeqAt.EqAt A s u v (eqV y x) := by
  cases y with
  | non =>
    cases ry
    cases x with
    | non => cases rx; exact SeqAt.EqAt.same _
    | bl b => cases rx; exact SeqAt.EqAt.none_bool b
    | int b => obtain ⟨t, rfl⟩ := rx; exact SeqAt.EqAt.none_int b t
    | str b => obtain ⟨t, rfl⟩ := rx; exact SeqAt.EqAt.none_str b t
    | _ => exact absurd (show false = true from fx) Bool.false_ne_true
  | bl a =>
    cases ry
    cases x with
    | non => cases rx; exact SeqAt.EqAt.bool_none a
    | bl b => cases rx; exact SeqAt.EqAt.bool_bool a b
    | int b => obtain ⟨t, rfl⟩ := rx; exact SeqAt.EqAt.bool_int a b t
    | str b => obtain ⟨t, rfl⟩ := rx; exact SeqAt.EqAt.bool_str a b t
    | _ => exact absurd (show false = true from fx) Bool.false_ne_true
  | int a =>
    obtain ⟨t', rfl⟩ := ry
    cases x with
    | non => cases rx; exact SeqAt.EqAt.int_none a t'
    | bl b => cases rx; exact SeqAt.EqAt.int_bool a t' b
    | int b => obtain ⟨t, rfl⟩ := rx; exact SeqAt.EqAt.int_int a t' b t
    | str b => obtain ⟨t, rfl⟩ := rx; exact SeqAt.EqAt.int_str a t' b t
    | _ => exact absurd (show false = true from fx) Bool.false_ne_true
  | str a =>
    obtain ⟨t', rfl⟩ := ry
    cases x with
    | non => cases rx; exact SeqAt.EqAt.str_none a t'
    | bl b => cases rx; exact SeqAt.EqAt.str_bool a t' b
    | int b => obtain ⟨t, rfl⟩ := rx; exact SeqAt.EqAt.str_int a t' b t
    | str b => obtain ⟨t, rfl⟩ := rx; exact SeqAt.EqAt.str_str a t' b t
    | _ => exact absurd (show false = true from fx) Bool.false_ne_true
  | _ => exact absurd (show false = true from fy) Bool.false_ne_true
/-- the items' answers, read off the values (a value's own answer does not lean on its token) -/
def eqU (x : V) (u : Value) : Bool := match u with
  | .none => eqV .non x
  | .bool b => eqV (.bl b) x
  | .int i _ => eqV (.int i) x
  | .str z _ => eqV (.str z) x
  | _ => false
theorem eqU_of {x y : V} {u : Value} (r : RelV y u) (f : flatV y = true) : eqU x u = eqV y x := by
  cases y with
  | non => cases r; rfl
  | bl b => cases r; rfl
  | int i => obtain ⟨t, rfl⟩ := r; rfl
  | str z => obtain ⟨t, rfl⟩ := r; rfl
  | _ => exact absurd (show false = true from f) Bool.false_ne_true
theorem any_eqU {x : V} : ∀ {xs : List V} {us : List Value}, Vals xs us → xs.all flatV = true → us.any (eqU x) = xs.any fun y => eqV y x
  | _, _, .nil, _ => rfl
  | y :: xs, u :: us, .cons r t, f => by
    rw [List.all_cons, Bool.and_eq_true] at f
    rw [List.any_cons, List.any_cons, eqU_of r f.1, any_eqU t f.2]
theorem mem_eqAt {A : Around} {s : Shared} {x : V} {v : Value} (rx : RelV x v) (fx : flatV x = true) : ∀ {xs : List V} {us : List Value}, Vals xs us → xs.all flatV = true → ∀ u ∈ us, SeqAt.EqAt A s u v (eqU x u)
  | _, _, .nil, _ => fun u hu => by cases hu
  | y :: xs, u :: us, .cons r t, f => fun u' hu => by
    rw [List.all_cons, Bool.and_eq_true] at f
    rcases List.mem_cons.mp hu with rfl | hu
    · rw [eqU_of r f.1]; exact eqAt_V r rx f.1 fx
    · exact mem_eqAt rx fx t f.2 u' hu
def inV (x : V) (xs : List V) : Bool := xs.any fun y => eqV y x
/-- x in a list or tuple of flat items -/
def rIn (K : PySem.W.Frag) (neg : Bool) : R2 := fun x y H Q => ∃ p xs, y = .ref p ∧ (SqL K H p xs ∨ SqT K H p xs) ∧ flatV x = true ∧ xs.all flatV = true ∧ Q (.bl (if neg then !inV x xs else inV x xs)) H
theorem op_in_seq : OpR X (compareOp .In) (rIn X.K false) := by
  intro pins s σ H x y v u Q I rx ry h
  obtain ⟨p, xs, rfl, hq, fx, fs, q⟩ := h
  cases ry
  rcases hq with hq | hq
  · obtain ⟨its, r, pl, hz⟩ := I.list hq
    refine SeqAt.in_listAt (eqU x) pl.isList (fun w hw => mem_eqAt rx fx r fs w (by simpa using hw)) ⟨.bl _, H, I, rfl, ?_⟩
    rw [show its.toArray.any (eqU x) = its.any (eqU x) by simp, any_eqU r fs]
    exact q
  · obtain ⟨its, r, pl, hz⟩ := I.tuple hq
    refine SeqAt.in_tupleAt (eqU x) pl (fun w hw => mem_eqAt rx fx r fs w (by simpa using hw)) ⟨.bl _, H, I, rfl, ?_⟩
    rw [show its.toArray.any (eqU x) = its.any (eqU x) by simp, any_eqU r fs]
    exact q
theorem op_notIn_seq : OpR X (compareOp .NotIn) (rIn X.K true) := by
  intro pins s σ H x y v u Q I rx ry h
  obtain ⟨p, xs, rfl, hq, fx, fs, q⟩ := h
  cases ry
  rcases hq with hq | hq
  · obtain ⟨its, r, pl, hz⟩ := I.list hq
    refine SeqAt.notIn_listAt (eqU x) pl.isList (fun w hw => mem_eqAt rx fx r fs w (by simpa using hw)) ⟨.bl _, H, I, rfl, ?_⟩
    rw [show its.toArray.any (eqU x) = its.any (eqU x) by simp, any_eqU r fs]
    exact q
  · obtain ⟨its, r, pl, hz⟩ := I.tuple hq
    refine SeqAt.notIn_tupleAt (eqU x) pl (fun w hw => mem_eqAt rx fx r fs w (by simpa using hw)) ⟨.bl _, H, I, rfl, ?_⟩
    rw [show its.toArray.any (eqU x) = its.any (eqU x) by simp, any_eqU r fs]
    exact q
theorem op_notIn_str : OpR X (compareOp .NotIn) (fun x y H Q => ∃ i j, x = .str i ∧ y = .str j ∧ Q (.bl (!(!(Builtin.Str.occurrences j i 0 j.length 1).isEmpty))) H) := by
  intro pins s σ H x y v u Q I rx ry h
  obtain ⟨i, j, rfl, rfl, q⟩ := h
  obtain ⟨t, rfl⟩ := rx
  obtain ⟨t', rfl⟩ := ry
  exact notIn_str ⟨.bl _, H, I, rfl, q⟩

/-! ### len, list(x), tuple(x) of any list or tuple that is read -/
theorem call_len_seq : CallR X (.builtin "len") (fun xs H Q => ∃ p ys, xs = [.ref p] ∧ (SqL X.K H p ys ∨ SqT X.K H p ys) ∧ Q (.int ys.length) H) := by
  intro pins s σ H xs us Q I r h
  obtain ⟨p, ys, rfl, hq, q⟩ := h
  obtain ⟨u, rfl, rx⟩ := vals1 r
  cases rx
  have hn := line63
  rcases hq with hq | hq
  · obtain ⟨its, r', pl, hz⟩ := I.list hq
    have hlen := r'.length
    exact Calls.call_len_list pl.isList (by simp only [List.size_toArray] <;> omega) ⟨.int ys.length, H, I.tok _, ⟨s.toks + 1, by rw [List.size_toArray, hlen]⟩, q⟩
  · obtain ⟨its, r', pl, hz⟩ := I.tuple hq
    have hlen := r'.length
    exact len_tuple pl (by simp only [List.size_toArray] <;> omega) ⟨.int ys.length, H, I.tok _, ⟨s.toks + 1, by rw [List.size_toArray, hlen]⟩, q⟩
theorem call_len_str : CallR X (.builtin "len") (fun xs H Q => ∃ z, xs = [.str z] ∧ z.length ≤ sizeLine ∧ Q (.int z.length) H) := by
  intro pins s σ H xs us Q I r h
  obtain ⟨z, rfl, hz, q⟩ := h
  obtain ⟨u, rfl, t, rfl⟩ := vals1 r
  have hn := line63
  exact len_str (by omega) ⟨.int z.length, H, I.tok _, ⟨_, rfl⟩, q⟩
theorem CallR.or {f : Value} {r r' : List V → Hp → VK → Prop} (h : CallR X f r) (h' : CallR X f r') : CallR X f (fun xs H Q => r xs H Q ∨ r' xs H Q) := by
  intro pins s σ H xs us Q I rs q
  rcases q with q | q
  · exact h pins s σ H xs us Q I rs q
  · exact h' pins s σ H xs us Q I rs q
theorem call_list_of : CallR X (.type "list") (fun xs H Q => ∃ p ys, xs = [.ref p] ∧ (SqL X.K H p ys ∨ SqT X.K H p ys) ∧ ∀ l, H l = none → Q (.ref l) (upd H l (.lst ys))) := by
  intro pins s σ H xs us Q I r h
  obtain ⟨p, ys, rfl, hq, q⟩ := h
  obtain ⟨u, rfl, rx⟩ := vals1 r
  cases rx
  have fin : ∀ (its : List Value), Vals ys its → ys.length ≤ sizeLine → ∀ (h' : Heap) (c' : Nat), (∀ b o', s.heap.get? b = some o' → h'.get? b = some o') →
      h'.get? s.heap.objs.size = some { cls := .type "list", dict := none, data := .seq its.toArray c', slots := #[] } → EP X pins σ Q (.ref s.heap.objs.size) { s with heap := h' } := fun its r' hz h' c' kp e =>
    ⟨.ref s.heap.objs.size, _, I.laid (t' := s.toks) kp (Nat.le_refl _) (show ObjOk X.prog X.w _ h' _ (.lst ys) from ⟨hz, its, c', r', e⟩), rfl, q _ (I.hok.fresh (Nat.le_refl _))⟩
  rcases hq with hq | hq
  · obtain ⟨its, r', pl, hz⟩ := I.list hq
    have hlen := r'.length
    obtain ⟨o, ho, hc, n, hd⟩ := pl.isList
    exact call_list_seq p (.inl rfl) ho hc hd (fun h' c' kp e => fin its r' hz h' c' kp e) (by simp only [List.size_toArray] <;> omega)
  · obtain ⟨its, r', pl, hz⟩ := I.tuple hq
    have hlen := r'.length
    obtain ⟨o, ho, hc, n, hd⟩ := pl
    exact call_list_seq p (.inr rfl) ho hc hd (fun h' c' kp e => fin its r' hz h' c' kp e) (by simp only [List.size_toArray] <;> omega)
theorem call_tuple_of : CallR X (.type "tuple") (fun xs H Q => ∃ p ys, xs = [.ref p] ∧ ((SqL X.K H p ys ∧ ∀ l, H l = none → Q (.ref l) (upd H l (.tup ys))) ∨ (SqT X.K H p ys ∧ Q (.ref p) H))) := by
  intro pins s σ H xs us Q I r h
  obtain ⟨p, ys, rfl, h⟩ := h
  obtain ⟨u, rfl, rx⟩ := vals1 r
  cases rx
  rcases h with ⟨hq, q⟩ | ⟨hq, q⟩
  · obtain ⟨its, r', pl, hz⟩ := I.list hq
    have hlen := r'.length
    refine call_tuple_list pl.isList (fun h' kp => ?_) (by simp only [List.size_toArray] <;> omega)
    have I1 : Inv X pins σ H { s with heap := h' } := I.kept (t' := s.toks) kp
    have I2 : Inv X pins σ (upd H h'.objs.size (.tup ys)) { s with heap := h'.push { cls := .type "tuple", data := .seq its.toArray } } :=
      I1.laid (t' := s.toks) (fun b o e => Heap.get?_push_of_some _ e) (Nat.le_refl _) (show ObjOk X.prog X.w _ _ _ (.tup ys) from ⟨hz, its, r', IsTup.new _ _⟩)
    exact ⟨.ref h'.objs.size, _, I2, rfl, q _ (I1.hok.fresh (Nat.le_refl _))⟩
  · obtain ⟨its, r', pl, hz⟩ := I.tuple hq
    exact call_tuple_same pl ⟨.ref p, H, I, rfl, q⟩

/-! ### the call of a builtin's method: o.m(..) -/
/-- the value is of that builtin type -/
def tyV (K : PySem.W.Frag) (T : String) (x : V) (H : Hp) : Prop := match x with
  | .str _ => T = "str"
  | .int _ => T = "int"
  | .ref p => (T = "list" ∧ ∃ xs, SqL K H p xs) ∨ (T = "tuple" ∧ ∃ o, K.lookup p = some o ∧ o.cls = .type "tuple" ∧ o.dict = none) ∨
      (T = "dict" ∧ ((∃ kvs, H p = some (.dK kvs)) ∨ ∃ kvs, H p = some (.dT kvs))) ∨ (T = "set" ∧ ∃ S n, H p = some (.set S n))
  | _ => False
theorem tyV_is {pins : List (Addr × Obj)} {σ : St} {H : Hp} {s : Shared} {T : String} {x : V} {v : Value} (I : Inv X pins σ H s) (r : RelV x v) (ty : tyV X.K T x H) :
    s.TypeIs v T ∧ ∀ a, v = .ref a → ∃ ob, s.heap.get? a = some ob ∧ ob.dict = none := by
  cases x with
  | str z =>
    obtain ⟨t, rfl⟩ := r
    cases (show T = "str" from ty)
    exact ⟨typeIs_str s z t, fun _ e => nomatch e⟩
  | int i =>
    obtain ⟨t, rfl⟩ := r
    cases (show T = "int" from ty)
    exact ⟨typeIs_int s i t, fun _ e => nomatch e⟩
  | ref p =>
    cases r
    rcases ty with ⟨rfl, xs, hq⟩ | ⟨rfl, o, hk, hc, hd⟩ | ⟨rfl, hk⟩ | ⟨rfl, S, n, hk⟩
    · obtain ⟨its, _, pl, _⟩ := I.list hq
      refine ⟨pl.isList.typeIs, fun a e => ?_⟩
      cases e
      obtain ⟨o, n, e, c, hd, _⟩ := pl
      exact ⟨o, e, hd⟩
    · refine ⟨⟨o, I.kIn p o hk, hc⟩, fun a e => ?_⟩
      cases e
      exact ⟨o, I.kIn _ o hk, hd⟩
    · have z : ∃ o, s.heap.get? p = some o ∧ o.ExactDict := by
        rcases hk with ⟨kvs, hk⟩ | ⟨kvs, hk⟩
        · obtain ⟨_, _, _, _, o, _, _, e, ex, _⟩ := I.hok p _ hk
          exact ⟨o, e, ex⟩
        · obtain ⟨_, _, _, _, o, _, _, e, ex, _⟩ := I.hok p _ hk
          exact ⟨o, e, ex⟩
      obtain ⟨o, e, ex⟩ := z
      refine ⟨⟨o, e, ex.1⟩, fun a e2 => ?_⟩
      cases e2
      exact ⟨o, e, ex.2.1⟩
    · obtain ⟨o, _, _, _, e, ex, _⟩ := I.hok p _ hk
      refine ⟨⟨o, e, ex.1⟩, fun a e2 => ?_⟩
      cases e2
      exact ⟨o, e, ex.2.1⟩
  | _ => exact False.elim ty
def tBM0 (K : PySem.W.Frag) (T : String) (r : V → List V → Hp → VK → Prop) (to : TE) : TE := fun σ H Q => to σ H fun x H1 => tyV K T x H1 ∧ r x [] H1 Q
def tBM (K : PySem.W.Frag) (T : String) (r : V → List V → Hp → VK → Prop) (to : TE) (t : TA) : TE := fun σ H Q => to σ H fun x H1 => tyV K T x H1 ∧ t σ H1 fun xs H2 => r x xs H2 Q
variable {o e : Expr} {es : List Expr} {to : TE} {t : TA} {name : Str} {apos cpos : Pos} {T id : String} {r : V → List V → Hp → VK → Prop}
theorem pe_bm0 (pa : PlainAttrs T) (slot : Slot T name id) (hty : typeOf (.builtin id) = pure (.type "method_descriptor")) (hm : MtR X id r) (ho : PE X o to)
    (hbase : attributeBase o name X.env (eval o X.env) = eval o X.env := by rfl) (hline : (apos.endLine == cpos.line) = true := by rfl) : PE X (.Call (.Attribute o name apos) [] [] cpos) (tBM0 X.K T r to) := by
  intro pins s σ H Q I h
  refine wpAny_Call_method0_late hbase hline (thn (ho pins s σ H _ I h) fun v s1 ⟨x, H1, I1, r1, ty, q1⟩ => ?_)
  obtain ⟨h1, h2⟩ := tyV_is I1 r1 ty
  exact ⟨T, id, pa, slot, hty, h1, h2, Calls.callWith_builtin rfl (PySem.evalArgs_none (hm pins s1 σ H1 x [] v [] Q I1 r1 .nil q1))⟩
theorem pe_bm (pa : PlainAttrs T) (slot : Slot T name id) (hty : typeOf (.builtin id) = pure (.type "method_descriptor")) (hm : MtR X id r) (ho : PE X o to) (ha : PA X (e :: es) t)
    (hbase : attributeBase o name X.env (eval o X.env) = eval o X.env := by rfl)
    (hfew : ((backTo cpos (starEach (e :: es) X.env)).all (fun x => !x.1) && (backToKw cpos (keywordEach [] X.env)).all (fun x => x.1.isSome)
      && decide ((e :: es).length + ([] : List Keyword).length + (if ([] : List Keyword).isEmpty then 0 else 1) < 30)) = true := by rfl)
    (hline : (apos.endLine == cpos.line) = true := by rfl) (hs : starEach (e :: es) X.env = (false, eval e X.env) :: starEach es X.env := by rfl) (hplain : (backTo cpos (starEach es X.env)).any (·.1) = false := by rfl) :
    PE X (.Call (.Attribute o name apos) (e :: es) [] cpos) (tBM X.K T r to t) := by
  intro pins s σ H Q I h
  refine wpAny_Call_method_late hbase hfew hline rfl (thn (ho pins s σ H _ I h) fun v s1 ⟨x, H1, I1, r1, ty, q1⟩ => ?_)
  obtain ⟨h1, h2⟩ := tyV_is I1 r1 ty
  refine ⟨T, id, pa, slot, hty, h1, h2, ?_⟩
  have hA := ha cpos pins s1 σ H1 _ I1 q1
  rw [hs] at hA ⊢
  refine Calls.callWith_builtin (by show (false || (backTo cpos (starEach es X.env)).any (·.1)) = false; rw [hplain] <;> rfl) (Calls.evalArgs_plain ?_)
  exact thn hA fun us s2 ⟨vs, H2, I2, r2, q2⟩ => hm pins s2 σ H2 x vs v us Q I2 r1 r2 q2
/- xs.append(e), list.index on a module's tuple .. are MtR facts of 06m -/
end
end L2

namespace L2
open PySem PySem.Spec PyProof.Rows

def MtM (X : Cx) (id : String) (r : V → List V → Hp → VK → Prop) : Prop :=
  ∀ (pins : List (Addr × Obj)) (s : Shared) (σ : St) (H : Hp) (x : V) (xs : List V) (v : Value) (us : List Value) (Q : VK), Inv X pins σ H s → RelV x v → Vals xs us → r x xs H Q →
    wpAny (model X.prog X.w) X.A (call (.builtin id) (v :: us)) (EP X pins σ Q) X.xe s

/-! ### lists of values -/
theorem Vals.one : ∀ {x : V} {us : List Value}, Vals [x] us → ∃ u, us = [u] ∧ RelV x u
  | _, _, .cons r .nil => ⟨_, rfl, r⟩
theorem Vals.two : ∀ {x y : V} {us : List Value}, Vals [x, y] us → ∃ u v, us = [u, v] ∧ RelV x u ∧ RelV y v
  | _, _, _, .cons r (.cons q .nil) => ⟨_, _, rfl, r, q⟩
theorem Vals.zero : ∀ {us : List Value}, Vals [] us → us = []
  | _, .nil => rfl
theorem Vals.dropLast {xs : List V} {us : List Value} (h : Vals xs us) : Vals xs.dropLast us.dropLast := by
  induction h with
  | nil => exact .nil
  | cons r t ih =>
    cases t with
    | nil => exact .nil
    | cons q t' => exact .cons r ih
theorem Vals.eraseIdx : ∀ {xs : List V} {us : List Value} (i : Nat), Vals xs us → Vals (xs.eraseIdx i) (us.eraseIdx i)
  | _, _, _, .nil => .nil
  | _, _, 0, .cons _ t => t
  | _, _, i + 1, .cons r t => .cons r (Vals.eraseIdx i t)
theorem Vals.reverse {xs : List V} {us : List Value} (h : Vals xs us) : Vals xs.reverse us.reverse := by
  induction h with
  | nil => exact .nil
  | cons r t ih => rw [List.reverse_cons, List.reverse_cons]; exact Vals.append ih (.cons r .nil)
theorem Vals.rep {xs : List V} {us : List Value} (h : Vals xs us) : ∀ k : Nat, Vals (List.replicate k xs).flatten (List.replicate k us).flatten
  | 0 => .nil
  | k + 1 => by
    rw [List.replicate_succ, List.replicate_succ, List.flatten_cons, List.flatten_cons]
    exact Vals.append h (Vals.rep h k)
theorem erase_last {α : Type} (l : List α) : l.eraseIdx (l.length - 1) = l.dropLast := by
  induction l with
  | nil => rfl
  | cons a r ih =>
    cases r with
    | nil => rfl
    | cons b r =>
      have e : (a :: b :: r).length - 1 = ((b :: r).length - 1) + 1 := by
        have h1 : (a :: b :: r).length = r.length + 2 := rfl
        have h2 : (b :: r).length = r.length + 1 := rfl
        omega
      rw [e, List.eraseIdx_cons_succ, ih]
      all_goals rfl
theorem len_erase {α : Type} : ∀ (l : List α) (i : Nat), (l.eraseIdx i).length ≤ l.length
  | [], _ => Nat.le_refl _
  | _ :: _, 0 => Nat.le_succ _
  | _ :: r, i + 1 => Nat.succ_le_succ (len_erase r i)
theorem foldl_rep (its : List Value) : ∀ (k : Nat) (acc : List Value),
    List.foldl (fun x1 x2 => x1 ++ x2) acc.toArray (List.replicate k its.toArray) = (acc ++ (List.replicate k its).flatten).toArray
  | 0, acc => by simp
  | k + 1, acc => by
    have e : acc.toArray ++ its.toArray = (acc ++ its).toArray := by simp
    have e2 : (acc ++ its) ++ (List.replicate k its).flatten = acc ++ (List.replicate (k + 1) its).flatten := by
      rw [List.replicate_succ, List.flatten_cons, List.append_assoc]
    rw [← e2, ← foldl_rep its k (acc ++ its), ← e, List.replicate_succ, List.foldl_cons]

section
variable {X : Cx} {pins : List (Addr × Obj)} {σ : St} {H : Hp} {s : Shared} {l b : Addr} {xs ys zs : List V}

/-! ### the two steps: a tracked list is rewritten, a new list is laid -/
theorem Inv.lset {its its' : List Value} {n : Nat} {f : Array Value → Array Value} {t' : Nat} (I : Inv X pins σ H s) (hH : H l = some (.lst xs))
    (e : s.heap.get? l = some { cls := .type "list", data := .seq its.toArray n }) (hf : f its.toArray = its'.toArray) (hv : Vals ys its') (hz : ys.length ≤ sizeLine) :
    Inv X pins σ (upd H l (.lst ys)) { s with heap := s.heap.update l (Obj.mapSeq f), toks := t' } := by
  have q := PySem.IsL.update e f
  rw [hf] at q
  refine I.write (x := l) (e := l) (by rw [hH]; exact trivial) (.inl rfl) (fun b' u hb hu => (Heap.get?_update_other s.heap (Obj.mapSeq f) (Ne.symm hb)).trans hu) ⟨_, q⟩ ?_
  exact ⟨hz, its', _, hv, q⟩
theorem Inv.lnew {its : List Value} {t' : Nat} (I : Inv X pins σ H s) (hv : Vals ys its) (hz : ys.length ≤ sizeLine) :
    Inv X pins σ (upd H s.heap.objs.size (.lst ys)) { s with heap := s.heap.push { cls := .type "list", data := .seq its.toArray }, toks := t' } :=
  I.laid (fun _ _ q => Heap.get?_push_of_some _ q) (Nat.le_refl _) ⟨hz, its, 0, hv, Heap.get?_push_size _ rfl⟩
theorem Inv.fresh (I : Inv X pins σ H s) : H s.heap.objs.size = none := I.hok.fresh (Nat.le_refl _)
theorem Inv.lstM (I : Inv X pins σ H s) (hH : H l = some (.lst xs)) : xs.length ≤ sizeLine ∧ ∃ (its : List Value) (n : Nat), Vals xs its ∧ xs.length = its.length ∧ s.heap.get? l = some { cls := .type "list", data := .seq its.toArray n } := by
  obtain ⟨z, its, n, r, e⟩ := I.hok l _ hH
  exact ⟨z, its, n, r, r.length, e⟩

theorem notLongL {n : Nat} (h : n ≤ sizeLine) : Builtin.List.listTooLong n = false := by
  unfold Builtin.List.listTooLong
  exact decide_eq_false (by omega)
end

section
variable {X : Cx}

/-! ### methods -/
def rAppend : V → List V → Hp → VK → Prop := fun x vs H Q => ∃ l xs y, x = .ref l ∧ vs = [y] ∧ H l = some (.lst xs) ∧ xs.length < sizeLine ∧ Q .non (upd H l (.lst (xs ++ [y])))
theorem mt_append : MtM X "list.append" rAppend := by
  intro pins s σ H x vs v us Q I rx rv h
  obtain ⟨l, xs, y, rfl, rfl, hH, hz, q⟩ := h
  cases rx
  obtain ⟨u, rfl, ru⟩ := rv.one
  obtain ⟨z, its, n, r, hl, e⟩ := I.lstM hH
  refine call_meets F.slot_list_append ⟨_, e, rfl⟩ F.entry_list_append (F.args_list_append_2 _ _) (PySem.list_append l its.toArray n u (by rw [List.size_toArray]; omega)) ⟨e, ?_⟩
  refine ⟨.non, _, I.lset (its' := its ++ [u]) hH e (by simp) (r.append (.cons ru .nil)) ?_, rfl, q⟩
  rw [List.length_append, List.length_singleton]
  omega

def rExtend : V → List V → Hp → VK → Prop := fun x vs H Q => ∃ l b xs zs, x = .ref l ∧ vs = [.ref b] ∧ H l = some (.lst xs) ∧ H b = some (.lst zs) ∧ xs.length + zs.length ≤ sizeLine ∧ Q .non (upd H l (.lst (xs ++ zs)))
theorem mt_extend : MtM X "list.extend" rExtend := by
  intro pins s σ H x vs v us Q I rx rv h
  obtain ⟨l, b, xs, zs, rfl, rfl, hH, hB, hz, q⟩ := h
  cases rx
  obtain ⟨u, rfl, ru⟩ := rv.one
  cases ru
  obtain ⟨z, its, n, r, hl, e⟩ := I.lstM hH
  obtain ⟨z2, its2, n2, r2, hl2, e2⟩ := I.lstM hB
  have hsz : its.toArray.size + its2.toArray.size ≤ sizeLine := by rw [List.size_toArray, List.size_toArray]; omega
  have hlong : ¬ (!its.toArray.isEmpty && Builtin.List.listTooLong (its.toArray.size + its2.toArray.size)) = true := by
    rw [notLongL hsz, Bool.and_false]
    exact Bool.false_ne_true
  refine call_meets F.slot_list_extend ⟨_, e, rfl⟩ F.entry_list_extend (F.args_list_extend_2 _ _)
    (AutoSeq1.list_extend_list_list_0 l its.toArray n b its2.toArray n2 hlong (by rw [List.size_toArray]; omega) (by omega)) ⟨e, e2, ?_⟩
  refine ⟨.non, _, I.lset (its' := its ++ its2) hH e (by simp) (r.append r2) ?_, rfl, q⟩
  rw [List.length_append]
  omega

def rPop : V → List V → Hp → VK → Prop := fun x vs H Q => ∃ l xs y, x = .ref l ∧ vs = [] ∧ H l = some (.lst xs) ∧ xs[xs.length - 1]? = some y ∧ Q y (upd H l (.lst xs.dropLast))
theorem mt_pop : MtM X "list.pop" rPop := by
  intro pins s σ H x vs v us Q I rx rv h
  obtain ⟨l, xs, y, rfl, rfl, hH, hy, q⟩ := h
  cases rx
  have hus := rv.zero
  subst hus
  obtain ⟨z, its, n, r, hl, e⟩ := I.lstM hH
  obtain ⟨u, hu, ru⟩ := r.get hy
  have hy' : its.toArray[its.toArray.size - 1]? = some u := by
    show its.toArray[its.length - 1]? = some u
    rw [← Array.getElem?_toList, ← hl]
    exact hu
  refine call_meets F.slot_list_pop ⟨_, e, rfl⟩ F.entry_list_pop (F.args_list_pop_1 _) (MeetsSeq.list_pop_last l its.toArray n u hy' (by rw [List.size_toArray]; omega)) ⟨e, ?_⟩
  refine ⟨y, _, I.lset (its' := its.dropLast) hH e ?_ r.dropLast ?_, ru, q⟩
  · show its.toArray.eraseIdxIfInBounds (its.toArray.size - 1) = its.dropLast.toArray
    rw [List.size_toArray, List.eraseIdxIfInBounds_toArray, erase_last]
  · rw [List.length_dropLast]
    omega

def rPopAt : V → List V → Hp → VK → Prop := fun x vs H Q => ∃ l xs i k y, x = .ref l ∧ vs = [.int i] ∧ H l = some (.lst xs) ∧ -(2 ^ 63) ≤ i ∧ i < 2 ^ 63 ∧ seqIndex? i xs.length = some k ∧ xs[k]? = some y ∧ Q y (upd H l (.lst (xs.eraseIdx k)))
theorem mt_popAt : MtM X "list.pop" rPopAt := by
  intro pins s σ H x vs v us Q I rx rv h
  obtain ⟨l, xs, i, k, y, rfl, rfl, hH, h1, h2, hk, hy, q⟩ := h
  cases rx
  obtain ⟨u, rfl, ru⟩ := rv.one
  obtain ⟨t, rfl⟩ := ru
  obtain ⟨z, its, n, r, hl, e⟩ := I.lstM hH
  obtain ⟨w, hw, rw'⟩ := r.get hy
  refine call_meets F.slot_list_pop ⟨_, e, rfl⟩ F.entry_list_pop (F.args_list_pop_2 _ _)
    (MeetsSeq.list_pop_at l its.toArray n i t k w (fitsIndex_both h1 h2) (by rw [List.size_toArray, ← hl]; exact hk) (by rw [← Array.getElem?_toList]; exact hw) (by rw [List.size_toArray]; omega)) ⟨e, ?_⟩
  refine ⟨y, _, I.lset (its' := its.eraseIdx k) hH e ?_ (r.eraseIdx k) ?_, rw', q⟩
  · show its.toArray.eraseIdxIfInBounds k = (its.eraseIdx k).toArray
    rw [List.eraseIdxIfInBounds_toArray]
  · have := len_erase xs k
    omega

def rReverse : V → List V → Hp → VK → Prop := fun x vs H Q => ∃ l xs, x = .ref l ∧ vs = [] ∧ H l = some (.lst xs) ∧ Q .non (upd H l (.lst xs.reverse))
theorem mt_reverse : MtM X "list.reverse" rReverse := by
  intro pins s σ H x vs v us Q I rx rv h
  obtain ⟨l, xs, rfl, rfl, hH, q⟩ := h
  cases rx
  have hus := rv.zero
  subst hus
  obtain ⟨z, its, n, r, hl, e⟩ := I.lstM hH
  refine call_meets F.slot_list_reverse ⟨_, e, rfl⟩ F.entry_list_reverse (F.args_list_reverse_1 _) (AutoSeq1.list_reverse_list_0 l its.toArray n (by rw [List.size_toArray]; omega)) ⟨e, ?_⟩
  refine ⟨.non, _, I.lset (its' := its.reverse) hH e (by simp) r.reverse ?_, rfl, q⟩
  rw [List.length_reverse]
  omega

def rClear : V → List V → Hp → VK → Prop := fun x vs H Q => ∃ l xs, x = .ref l ∧ vs = [] ∧ H l = some (.lst xs) ∧ Q .non (upd H l (.lst []))
theorem mt_clear : MtM X "list.clear" rClear := by
  intro pins s σ H x vs v us Q I rx rv h
  obtain ⟨l, xs, rfl, rfl, hH, q⟩ := h
  cases rx
  have hus := rv.zero
  subst hus
  obtain ⟨z, its, n, r, hl, e⟩ := I.lstM hH
  refine call_meets F.slot_list_clear ⟨_, e, rfl⟩ F.entry_list_clear (F.args_list_clear_1 _) (AutoSeq1.list_clear_list_0 l its.toArray n (by rw [List.size_toArray]; omega)) ⟨e, ?_⟩
  exact ⟨.non, _, I.lset (its' := []) (ys := []) hH e rfl .nil (Nat.zero_le _), rfl, q⟩

/-! ### list + list, list += list, list * int -/
def rCat : R2 := fun x y H Q => ∃ l b xs zs, x = .ref l ∧ y = .ref b ∧ H l = some (.lst xs) ∧ H b = some (.lst zs) ∧ xs.length + zs.length ≤ sizeLine ∧ ∀ p, H p = none → Q (.ref p) (upd H p (.lst (xs ++ zs)))
theorem op_cat : OpR X (binaryOp .Add) rCat := by
  intro pins s σ H x y v u Q I rx ry h
  obtain ⟨l, b, xs, zs, rfl, rfl, hH, hB, hz, q⟩ := h
  cases rx
  cases ry
  obtain ⟨z, its, n, r, hl, e⟩ := I.lstM hH
  obtain ⟨z2, its2, n2, r2, hl2, e2⟩ := I.lstM hB
  refine PySem.P.add_list e e2 ?_ (by rw [List.size_toArray, List.size_toArray]; omega)
  have ea : its.toArray ++ its2.toArray = (its ++ its2).toArray := by simp
  rw [ea]
  exact ⟨.ref _, _, I.lnew (t' := s.toks) (r.append r2) (by rw [List.length_append]; omega), rfl, q _ I.fresh⟩
/-- a list times an int (a negative one is nothing) -/
def rRep : R2 := fun x y H Q => ∃ l k xs, x = .ref l ∧ y = .int k ∧ H l = some (.lst xs) ∧ -(2 ^ 63) ≤ k ∧ k < 2 ^ 63 ∧ xs.length * k.toNat ≤ sizeLine ∧
  ∀ p, H p = none → Q (.ref p) (upd H p (.lst (List.replicate k.toNat xs).flatten))
theorem len_rep {α : Type} (xs : List α) (k : Nat) : (List.replicate k xs).flatten.length = k * xs.length := by
  induction k with
  | zero => simp
  | succ k ih => rw [List.replicate_succ, List.flatten_cons, List.length_append, ih, Nat.succ_mul, Nat.add_comm]
theorem op_rep : OpR X (binaryOp .Mult) rRep := by
  intro pins s σ H x y v u Q I rx ry h
  obtain ⟨l, k, xs, rfl, rfl, hH, h1, h2, hz, q⟩ := h
  cases rx
  obtain ⟨t, rfl⟩ := ry
  obtain ⟨z, its, n, r, hl, e⟩ := I.lstM hH
  have hlen : its.toArray.size * k.toNat ≤ sizeLine := by rw [List.size_toArray, ← hl]; exact hz
  have hcap : ¬ its.toArray.size * k.toNat > (2 ^ 63 - 1) / 8 := by
    have : (sizeLine : Nat) ≤ (2 ^ 63 - 1) / 8 := by decide
    omega
  have hfit : ¬ (!Builtin.List.listFitsIndex k) = true := by
    rw [fitsIndex_both h1 h2]
    exact Bool.false_ne_true
  have hlong : ¬ Builtin.List.listTooLong (its.toArray.size * k.toNat) = true := by
    rw [notLongL hlen]
    exact Bool.false_ne_true
  have hnew : List.foldl (fun x1 x2 => x1 ++ x2) #[] (List.replicate (if its.toArray.isEmpty = true then 0 else k.toNat) its.toArray) = (List.replicate k.toNat its).flatten.toArray := by
    have f0 : ∀ m : Nat, List.foldl (fun x1 x2 => x1 ++ x2) #[] (List.replicate m its.toArray) = (List.replicate m its).flatten.toArray := fun m => by
      have := foldl_rep its m []
      rw [List.nil_append] at this
      exact this
    rw [f0]
    cases its with
    | nil => simp
    | cons a r' => rw [if_neg (by simp)]
  refine wpAny_binaryOp_repeat_ref (T := "list") (U := "int") (by decide) ⟨_, e, rfl⟩ (fun s' => typeIs_int s' k t) noFill_list_mul F.fills_int_mul F.slot_int_rmul repeat_list F.slot_int_index.lookup
    (call_meets F.slot_int_rmul (typeIs_int s k t) F.entry_int_rmul (F.args_int_rmul_2 _ _) (int___rmul___int_list k t l its.toArray n)
      ⟨e, rfl, ⟨_, e, rfl⟩, call_meets F.slot_list_mul ⟨_, e, rfl⟩ F.entry_list_mul (F.args_list_mul_2 _ _) (AutoListH.list___mul___list_int_3 l its.toArray n k t hfit hcap hlong) ⟨e, ?_⟩⟩)
  rw [hnew]
  exact ⟨.ref _, _, I.lnew (t' := s.toks) (r.rep k.toNat) (by rw [len_rep, Nat.mul_comm]; exact hz), rfl, q _ I.fresh⟩

/-! ### del xs[i] -/
theorem del_list {pins : List (Addr × Obj)} {s : Shared} {σ : St} {H : Hp} {l : Addr} {xs : List V} {i : Int} {t : Tok} {k : Nat} {Q : Unit → Shared → Prop} (I : Inv X pins σ H s) (hH : H l = some (.lst xs))
    (h1 : -(2 ^ 63) ≤ i) (h2 : i < 2 ^ 63) (hk : seqIndex? i xs.length = some k) (h : ∀ s', Inv X pins σ (upd H l (.lst (xs.eraseIdx k))) s' → Q () s') :
    wpAny (model X.prog X.w) X.A (delItem (.ref l) (.int i t)) Q X.xe s := by
  obtain ⟨z, its, n, r, hl, e⟩ := I.lstM hH
  refine PySem.P.delItem_list (k := k) e (fitsIndex_both h1 h2) (by rw [List.size_toArray, ← hl]; exact hk) (h _ ?_) (by rw [List.size_toArray]; omega)
  refine I.lset (its' := its.eraseIdx k) (t' := s.toks) hH e ?_ (r.eraseIdx k) ?_
  · show its.toArray.eraseIdxIfInBounds k = (its.eraseIdx k).toArray
    rw [List.eraseIdxIfInBounds_toArray]
  · have := len_erase xs k
    omega
end

/-! ### xs[a:b] = ys -/
section
variable {prog : Program} {w : World} {A : Around} {E : Value → Shared → Prop} {s : Shared}
theorem splice_eq (its its2 : List Value) (a c : Nat) : its.toArray.extract 0 a ++ its2.toArray ++ its.toArray.extract c its.toArray.size = (its.take a ++ its2 ++ its.drop c).toArray := by
  apply Array.toList_inj.mp
  first
    | (simp
       exact List.take_of_length_le (by simp))
    | simp [List.take_of_length_le]
    | simp
theorem bounds_run {a c n : Nat} (hac : a ≤ c) (hc : c ≤ n) : sliceBounds (some (a : Int)) (some (c : Int)) none n = ((a : Int), (c : Int), 1) := by
  simp only [sliceBounds, Option.getD_none]
  have h1 : ¬ ((a : Int) < 0) := by omega
  have h2 : ¬ ((c : Int) < 0) := by omega
  simp only [h1, h2, if_false, show (1 : Int) > 0 by decide, if_true]
  congr 1
  · omega
  · congr 1; omega
set_option maxRecDepth 100000 in
/-- list.__setitem__ with a slice of step one and another list -/
theorem setItem_slice {l b sl : Addr} {items new : Array Value} {n n2 : Nat} {vl vu : Value} {a c : Nat} {Q : Unit → Shared → Prop}
    (e : s.heap.get? l = some { cls := .type "list", data := .seq items n }) (e2 : s.heap.get? b = some { cls := .type "list", data := .seq new n2 }) (hne : l ≠ b)
    (hs : s.heap.IsSliceOf sl vl vu .none) (pl : IsPart vl (some (a : Int))) (pu : IsPart vu (some (c : Int))) (hac : a ≤ c) (hc : c ≤ items.size)
    (hsz : items.size + new.size ≤ sizeLine) (h : Q () { s with heap := s.heap.update l (Obj.mapSeq fun xs => xs.extract 0 a ++ new ++ xs.extract c xs.size) }) :
    wpAny (model prog w) A (setItem (.ref l) (.ref sl) (.ref b)) Q E s := by
  have hl : s.heap.IsList l items := PySem.IsL.isList e
  have hb : s.heap.IsList b new := PySem.IsL.isList e2
  obtain ⟨os, hos, hcs, hds⟩ := id hs
  have hTs : s.TypeIs (.ref sl) "slice" := ⟨os, hos, hcs⟩
  have hstep : ¬ ((rawPart none == rawInt 0) = true) := Bool.false_ne_true
  have hsame : Builtin.List.listSameRef (.ref l) (.ref b) = false := by
    unfold Builtin.List.listSameRef
    exact beq_eq_false_iff_ne.mpr hne
  have hmax : (max (a : Int) (c : Int)).toNat = c := by omega
  have hz' : ((fun xs : Array Value => xs.extract 0 a ++ new ++ xs.extract c xs.size) items).size ≤ sizeLine + 1 := by
    simp only [Array.size_append, Array.size_extract]
    omega
  unfold setItem
  try with_reducible refine wpAny_holding ?_
  first | refine wpAny_bind (wpAny_pure ?_) | skip
  refine wpAny_bind (wpAny_sequenceKey hl.typeIs (by decide) ?_)
  refine wpAny_bind (wpAny_callSpecial?_slot (name := Str.ofString "__setitem__") hl.typeIs slot_list_setitem
    (wpAny_call_entry slot_list_setitem hl.typeIs entry_list_setitem ?_ (args_list_setitem _ _ _)))
  show wpAny _ _ (Builtin.List.listSubscript? (.ref sl) >>= _) _ _ s
  refine wpAny_bind ?_
  unfold Builtin.List.listSubscript?
  refine wpAny_bind (wpAny_specialOf hTs slice_no_index ?_)
  simp only [Option.isNone_none, if_true]
  refine wpAny_pure ?_
  show wpAny _ _ (typeOf (.ref sl) >>= _) _ _ s
  refine wpAny_bind (wpAny_typeOf hTs ?_)
  first
    | rw [if_neg (by decide)]
    | refine PySem.W.KFB.if_not (by decide) ?_
  rw [listSliceParts_eq]
  refine wpAny_bind (wpAny_bind (wpAny_field hos hds (x := .none) rfl (wpAny_bind (wpAny_listPart .none ?_))))
  rw [if_neg hstep]
  refine wpAny_bind (wpAny_field hos hds (x := vl) rfl (wpAny_bind (wpAny_listPart pl ?_)))
  refine wpAny_bind (wpAny_field hos hds (x := vu) rfl (wpAny_bind (wpAny_listPart pu (wpAny_pure ?_))))
  first
    | simp only [hsame, Bool.false_eq_true, if_false]
    | refine PySem.W.KFB.if_not hsame ?_
    | (dsimp only
       rw [if_neg (by rw [hsame]; exact Bool.false_ne_true)])
  refine wpAny_bind (m := Builtin.List.listAllItems (.ref b) "must assign iterable to extended slice") ?_
  unfold Builtin.List.listAllItems
  refine wpAny_bind (wpAny_typeOf hb.typeIs ?_)
  first
    | refine PySem.W.KFB.if_so (by decide) ?_
    | rw [if_pos (by decide)]
    | simp only [beq_self_eq_true, Bool.true_or, if_true]
  unfold Builtin.List.listItems
  refine wpAny_bind (wpAny_seqItems e2 rfl (wpAny_pure ?_))
  refine wpAny_bind (wpAny_bind (wpAny_seqItems e rfl (wpAny_pure ?_)))
  refine wpAny_bind (wpAny_of_eq ((sliceIndices_raw (some (a : Int)) (some (c : Int)) none items.size (by simp)).trans (congrArg (pure : Int × Int × Int → Sem (Int × Int × Int)) (bounds_run hac hc))) ?_)
  show wpAny _ _ (if ((1 : Int) == 1) = true then _ else _) _ _ s
  rw [if_pos (by decide)]
  refine wpAny_bind (wpAny_rule ?_)
  first
    | simp only [notLongL hsz, Bool.false_eq_true, if_false]
    | refine PySem.W.KFB.if_not (notLongL hsz) ?_
  first | refine wpAny_bind (wpAny_pure ?_) | skip
  show wpAny _ _ (updateSeq l (fun xs => xs.extract 0 ((a : Int)).toNat ++ new ++ xs.extract (max (a : Int) (c : Int)).toNat xs.size) >>= _) _ _ s
  rw [hmax, Int.toNat_natCast]
  refine wpAny_bind (wpAny_updateSeq (hz := Nat.le_trans (Nat.le_add_right _ _) hsz) (_hz' := hz') e rfl ?_)
  refine wpAny_bind (wpAny_letGo ?_)
  first
    | exact wpAny_bind (wpAny_pure (wpAny_pure ⟨.none, rfl, wpAny_pure h⟩))
    | exact wpAny_pure ⟨.none, rfl, wpAny_pure h⟩
end

section
variable {X : Cx}
/-- xs[a:c] = ys of another list, at the value level: sl is the slice object that was just made -/
theorem set_slice {pins : List (Addr × Obj)} {s : Shared} {σ : St} {H : Hp} {l b sl : Addr} {xs ys : List V} {a c : Int} {vl vu : Value} {Q : Unit → Shared → Prop} (I : Inv X pins σ H s)
    (hH : H l = some (.lst xs)) (hB : H b = some (.lst ys)) (hne : l ≠ b) (hs : s.heap.IsSliceOf sl vl vu .none) (ra : RelV (.int a) vl) (rc : RelV (.int c) vu) (h0 : 0 ≤ a) (hac : a ≤ c) (hc : c ≤ xs.length)
    (hz : xs.length + ys.length ≤ sizeLine) (h : ∀ s', Inv X pins σ (upd H l (.lst (xs.take a.toNat ++ ys ++ xs.drop c.toNat))) s' → Q () s') :
    wpAny (model X.prog X.w) X.A (setItem (.ref l) (.ref sl) (.ref b)) Q X.xe s := by
  obtain ⟨ta, rfl⟩ := ra
  obtain ⟨tc, rfl⟩ := rc
  obtain ⟨z, its, n, r, hl, e⟩ := I.lstM hH
  obtain ⟨z2, its2, n2, r2, hl2, e2⟩ := I.lstM hB
  obtain ⟨a', rfl⟩ := Int.eq_ofNat_of_zero_le h0
  obtain ⟨c', rfl⟩ := Int.eq_ofNat_of_zero_le (Int.le_trans h0 hac)
  simp only [Int.toNat_natCast] at h
  refine setItem_slice (a := a') (c := c') e e2 hne hs (.int _ _) (.int _ _) (by omega) (by rw [List.size_toArray]; omega) (by rw [List.size_toArray, List.size_toArray]; omega) (h _ ?_)
  refine I.lset (its' := its.take a' ++ its2 ++ its.drop c') (t' := s.toks) hH e ?_ (Vals.append (Vals.append (r.take _) r2) (r.drop _)) ?_
  · exact splice_eq its its2 a' c'
  · rw [List.length_append, List.length_append, List.length_take, List.length_drop]
    omega
end
end L2

namespace Att
open PySem PySem.W PySem.Calls PyProof.Rows

/-! ### the script -/
theorem ints_of_wellAll {P : Params} {h : Heap} : ∀ (ns : List Int) (vs : List Value), WellAll P h vs (ns.map WData.int) → IntsAre vs ns := by
  intro ns
  induction ns with
  | nil =>
    intro vs w
    rw [List.map_nil] at w
    cases w
    exact .nil
  | cons n ns ih =>
    intro vs w
    rw [List.map_cons] at w
    cases w with
    | cons a b =>
      cases a
      exact .cons _ _ (ih _ b)

theorem script_of {l : OpenLaw} {n : Nat} (hn : l.most = some n) {P : Params} {h : Heap} {args : List WData} {vals : List Value}
    (hpre : l.row.toRowW.claim.pre args = true) (hwl : WellAll P h vals args) :
    ∃ a vs ns, vals = [Value.ref a] ∧ args = [WData.list (ns.map WData.int)] ∧ h.get? a = some { cls := .type "list", data := .seq vs.toArray } ∧ IntsAre vs ns ∧ ns.length ≤ n := by
  have hsh : WShape.hasAll [] args [.list .int] = true := (pre_splitW hpre).1
  have hc : l.pre.holds [] { args := args } = true := (pre_splitW hpre).2
  obtain ⟨d, r, rfl, h1, h2⟩ := hasAllW_cons hsh
  obtain rfl := hasAllW_nil h2
  obtain ⟨xs, rfl, h3⟩ := hasW_list h1
  obtain ⟨ns, rfl⟩ := items_int h3
  have hlen : ns.length ≤ n := by
    unfold OpenLaw.pre at hc
    have h4 : (WTm.not (.lt (.lit (.int (n : Int))) (.len (.arg 0)))).holds [] { args := [.list (ns.map .int)] } = true := by
      have h4 := (holds_andW hc).1
      rw [hn] at h4
      exact h4
    have h5 := condW_of h4 (w_not (w_lt w_lit (w_len_list (w_arg rfl))))
    rw [List.length_map] at h5
    refine Nat.le_of_not_lt fun q => ?_
    have q' : (n : Int) < ((ns.length : Nat) : Int) := by omega
    first
      | (rw [decide_eq_true q'] at h5; exact absurd h5 (by decide))
      | (simp at h5; omega)
  cases hwl with
  | cons w1 w2 =>
    cases w2
    cases w1 with
    | list ho hall => exact ⟨_, _, ns, rfl, rfl, ho, ints_of_wellAll ns _ hall, hlen⟩

theorem post_true (l : OpenLaw) (args : List WData) : l.row.toRowW.claim.post args (.bool true) args = true :=
  postW_of (r := l.row.toRowW) (X := (true == true))
    (show WShape.has [] (.bool true) .bool = true by first | rfl | decide | simp [WShape.has, WShape.arms, WShape.armsAll])
    (show (WTm.eq .res (.lit (.bool true))).value [] { args := args, res := some (.bool true), after := args } = some (.bool (true == true)) from w_eq_bool (w_res rfl) w_lit) rfl

/-! ### the attachment: holds_open's last premise (the goal 'hc' behind k_head) from a wpAny of the law's body -/
theorem attach {l : OpenLaw} {n : Nat} {q : Program} {loose : List Str} {XP : (Str → Option Value) → Heap → Prop} {YP : World → Heap → Prop} {d : DefRec} {x : Str}
    (hn : l.most = some n) (hdf : d.params.defaults = [])
    (hbind : ∀ pm cd doc v : Value, bindArgs (docDef d.name d.params d.body d.scope pm cd doc) ⟨[v], []⟩ = pure [(x, v)])
    (hx : d.scope.names.lookup x = some .local ∨ d.scope.names.lookup x = some .cell)
    (hk : d.scope.kind = .function) (hco : d.scope.isCoroutine = false) (hgen : d.scope.isGenerator = false)
    (body : ∀ (w : World) (s₀ s₁ s : Shared) (mg mb : Str → Option Value) (fa : Addr) (o : Obj) (pm cd doc : Value) (a : Addr) (vs : List Value) (ns : List Int),
      Ground q loose [] XP w s₀ mg mb s₁.heap → YP w s₁.heap →
      s₁.heap.get? fa = some o → o.data = .func (docDef d.name d.params d.body d.scope pm cd doc) → s₁.heap.CodeRec cd d.name → mg d.name = some (.ref fa) →
      s₁.heap.get? a = some { cls := .type "list", data := .seq vs.toArray } → IntsAre vs ns → ns.length ≤ n →
      s.gens = #[] → s.os = s₁.os →
      Fr s₁.heap s₁.heap.objs.size s.heap (bindL (envOfC d.name d.scope s₁.heap.objs.size fa cd).kindOf [(x, .ref a)] fun _ => none) →
      Cl s₁.heap.objs.size (cellsFrom (s₁.heap.objs.size + 1) d.scope.names []) s.heap (bindC (envOfC d.name d.scope s₁.heap.objs.size fa cd).kindOf [(x, .ref a)] fun _ => none) →
      wpAny (model l.prog w) (callerA.deeper (envOfC d.name d.scope s₁.heap.objs.size fa cd)) (execs d.body (envOfC d.name d.scope s₁.heap.objs.size fa cd))
        (fun f s' => f = .ret (.bool true) ∧ OldK s₁.heap s'.heap ∧ s'.os = s₁.os ∧ AllBare s'.gens) (fun _ _ => False) s) :
    WalkO q loose XP YP l.row.toRowW d [] (fun f vs => PySem.call f vs) := by
  intro w s₀ s₁ mg mb G Y fa o pm cd doc dV kV ho hd hcd hD hmg hg args vals as hpre hlay hrd hwl hlo
  obtain rfl : dV = .none := Dflts.none hD hdf
  obtain rfl : kV = .none := Dflts.noKw hD
  obtain ⟨a, vs, ns, rfl, rfl, hobj, hints, hlen⟩ := script_of hn hpre hwl
  refine enter_call ?_
  refine call_cells_ret (o := o) (by rw [depth_caller]; decide) ho (fd_plain hd) G.T.nolimit hcd (hbind pm cd doc (.ref a)) (fun y hy => ?_) (fun h₁ tk F X => ?_) hco hgen hk
  · obtain rfl : y = (x, Value.ref a) := List.mem_singleton.mp hy
    rcases hx with e | e
    · exact .inl e
    · exact .inr ⟨e, cellsFrom_some _ _ _ (.inl e)⟩
  · refine wpAny_mono (body w s₀ s₁ { s₁ with heap := h₁, toks := tk } mg mb fa o pm cd doc a vs ns G Y ho (fd_plain hd) hcd hmg hobj hints hlen hg rfl F X) (fun f s' hq => ?_) (fun _ _ hq => hq)
    obtain ⟨rfl, h2, h3, h4⟩ := hq
    exact ⟨.inl ⟨.bool true, .bool true, [], rfl, fun _ => rfl, .bool true, post_true l _, fun _ => ⟨List.Pairwise.nil, fun _ hm => (nomatch hm)⟩⟩, h2, h3, h4⟩

/-- the same from a codeAny of the CALL (for a layer whose function contracts speak of calls) -/
theorem attach_call {l : OpenLaw} {n : Nat} {q : Program} {loose : List Str} {XP : (Str → Option Value) → Heap → Prop} {YP : World → Heap → Prop} {d : DefRec}
    (hn : l.most = some n) (hdf : d.params.defaults = [])
    (call : ∀ (w : World) (s₀ s₁ : Shared) (mg mb : Str → Option Value) (fa : Addr) (o : Obj) (pm cd doc : Value) (a : Addr) (vs : List Value) (ns : List Int),
      Ground q loose [] XP w s₀ mg mb s₁.heap → YP w s₁.heap →
      s₁.heap.get? fa = some o → o.data = .func (docDef d.name d.params d.body d.scope pm cd doc) → s₁.heap.CodeRec cd d.name → mg d.name = some (.ref fa) →
      s₁.heap.get? a = some { cls := .type "list", data := .seq vs.toArray } → IntsAre vs ns → ns.length ≤ n → s₁.gens = #[] →
      codeAny (model l.prog w) callerA (.call (.ref fa) ⟨[.ref a], []⟩) (fun r s' => r = .ok (.ret (.bool true)) ∧ OldK s₁.heap s'.heap ∧ s'.os = s₁.os ∧ AllBare s'.gens) s₁) :
    WalkO q loose XP YP l.row.toRowW d [] (fun f vs => PySem.call f vs) := by
  intro w s₀ s₁ mg mb G Y fa o pm cd doc dV kV ho hd hcd hD hmg hg args vals as hpre hlay hrd hwl hlo
  obtain rfl : dV = .none := Dflts.none hD hdf
  obtain rfl : kV = .none := Dflts.noKw hD
  obtain ⟨a, vs, ns, rfl, rfl, hobj, hints, hlen⟩ := script_of hn hpre hwl
  refine enter_call (codeAny_mono (call w s₀ s₁ mg mb fa o pm cd doc a vs ns G Y ho (fd_plain hd) hcd hmg hobj hints hlen hg) fun r s' hq => ?_)
  obtain ⟨rfl, h2, h3, h4⟩ := hq
  exact ⟨.inl ⟨.bool true, .bool true, [], rfl, fun _ => rfl, .bool true, post_true l _, fun _ => ⟨List.Pairwise.nil, fun _ hm => (nomatch hm)⟩⟩, h2, h3, h4⟩

/-- the same where the top left finished generators (o_head chose holds_openN): nothing may have changed at all and no generator may be left -/
theorem attachN {l : OpenLaw} {n : Nat} {q : Program} {loose : List Str} {XP : (Str → Option Value) → Heap → Prop} {YP : World → Heap → Prop} {d : DefRec} {x : Str}
    (hn : l.most = some n) (hdf : d.params.defaults = [])
    (hbind : ∀ pm cd doc v : Value, bindArgs (docDef d.name d.params d.body d.scope pm cd doc) ⟨[v], []⟩ = pure [(x, v)])
    (hx : d.scope.names.lookup x = some .local ∨ d.scope.names.lookup x = some .cell)
    (hk : d.scope.kind = .function) (hco : d.scope.isCoroutine = false) (hgen : d.scope.isGenerator = false)
    (body : ∀ (w : World) (s₀ s₁ s : Shared) (mg mb : Str → Option Value) (fa : Addr) (o : Obj) (pm cd doc : Value) (a : Addr) (vs : List Value) (ns : List Int),
      Ground q loose [] XP w s₀ mg mb s₁.heap → YP w s₁.heap →
      s₁.heap.get? fa = some o → o.data = .func (docDef d.name d.params d.body d.scope pm cd doc) → s₁.heap.CodeRec cd d.name → mg d.name = some (.ref fa) →
      s₁.heap.get? a = some { cls := .type "list", data := .seq vs.toArray } → IntsAre vs ns → ns.length ≤ n →
      s.gens = #[] → s.os = s₁.os →
      Fr s₁.heap s₁.heap.objs.size s.heap (bindL (envOfC d.name d.scope s₁.heap.objs.size fa cd).kindOf [(x, .ref a)] fun _ => none) →
      Cl s₁.heap.objs.size (cellsFrom (s₁.heap.objs.size + 1) d.scope.names []) s.heap (bindC (envOfC d.name d.scope s₁.heap.objs.size fa cd).kindOf [(x, .ref a)] fun _ => none) →
      wpAny (model l.prog w) (callerA.deeper (envOfC d.name d.scope s₁.heap.objs.size fa cd)) (execs d.body (envOfC d.name d.scope s₁.heap.objs.size fa cd))
        (fun f s' => f = .ret (.bool true) ∧ (∀ b o, s₁.heap.get? b = some o → s'.heap.get? b = some o) ∧ s'.os = s₁.os ∧ s'.gens = #[]) (fun _ _ => False) s) :
    WalkN q loose XP YP l.row.toRowW d [] (fun f vs => PySem.call f vs) := by
  intro w s₀ s₁ mg mb G Y fa o pm cd doc dV kV ho hd hcd hD hmg hg args vals as hpre hlay hrd hwl hlo
  obtain rfl : dV = .none := Dflts.none hD hdf
  obtain rfl : kV = .none := Dflts.noKw hD
  obtain ⟨a, vs, ns, rfl, rfl, hobj, hints, hlen⟩ := script_of hn hpre hwl
  refine enter_callW ?_
  refine call_cells_ret (o := o) (by rw [depth_caller]; decide) ho (fd_plain hd) G.T.nolimit hcd (hbind pm cd doc (.ref a)) (fun y hy => ?_) (fun h₁ tk F X => ?_) hco hgen hk
  · obtain rfl : y = (x, Value.ref a) := List.mem_singleton.mp hy
    rcases hx with e | e
    · exact .inl e
    · exact .inr ⟨e, cellsFrom_some _ _ _ (.inl e)⟩
  · refine wpAny_mono (body w s₀ s₁ { s₁ with heap := h₁, toks := tk } mg mb fa o pm cd doc a vs ns G Y ho (fd_plain hd) hcd hmg hobj hints hlen hg rfl F X) (fun f s' hq => ?_) (fun _ _ hq => hq)
    obtain ⟨rfl, h2, h3, h4⟩ := hq
    exact ⟨.inl ⟨.bool true, .bool true, [], rfl, fun _ => rfl, .bool true, post_true l _, fun _ => ⟨List.Pairwise.nil, fun _ hm => (nomatch hm)⟩⟩, h2, h3, h4⟩

/-! ### rules over ANY heap (no ledger) from facts about the written part K: the library's own take a ledger (News) for what they write -/
section
variable {prog : Program} {w : World} {A : Around} {E : Value → Shared → Prop} {s : Shared} {K : Frag}

/-- a def of the module, or a method (qual 'C.m'), entered: the frame is the next address; cells behind it -/
theorem call_fn {R : Result → Shared → Prop} {name qual : Str} {params : Arguments} {body : List Stmt} {scope : Scope} {dV kV doc pm cdv ct oc : Value} {an od : Option Addr} {osl : Array (Option Value)} {f : Addr} {args : Args} {binds : List (Str × Value)}
    (X : K.In s.heap) (hlim : s.heap.NoLimit) (ho : K.lookup f = some ⟨oc, od, .func (fnOf name qual params body scope dV kV doc pm an cdv ct), osl⟩) (hcd : codeIn K cdv qual = true) (hroom : A.depth < recursionLimit)
    (hbind : BindsTo s (fnOf name qual params body scope dV kV doc pm an cdv ct) args binds)
    (hkind : (binds.all fun y => scope.names.lookup y.1 == some .local || scope.names.lookup y.1 == some .cell) = true)
    (h : ∀ s₁, InCallC s s.heap.objs.size (bindL (envOfC qual scope s.heap.objs.size f cdv).kindOf binds fun _ => none) (cellsFrom (s.heap.objs.size + 1) scope.names [])
        (bindC (envOfC qual scope s.heap.objs.size f cdv).kindOf binds fun _ => none) s₁ →
      wpAny (model prog w) (A.deeper (envOfC qual scope s.heap.objs.size f cdv)) (execs body (envOfC qual scope s.heap.objs.size f cdv))
        (fun fl s' => R (.ok (.ret (match fl with | .ret v => v | _ => .none))) s')
        (fun e s' => wpAny (model prog w) (A.deeper (envOfC qual scope s.heap.objs.size f cdv)) (leaving (envOfC qual scope s.heap.objs.size f cdv) e) (fun _ s'' => R (.error e) s'') (fun e' s'' => R (.error e') s'') s') s₁)
    (hco : scope.isCoroutine = false) (hgen : scope.isGenerator = false) (hk : scope.kind = .function) : codeAny (model prog w) A (.call (.ref f) args) R s := by
  refine codeAny_call_function hroom (X _ _ ho) rfl hco hgen rfl (codeRec_of X hcd) (hbind _ _ _ _ ?_)
  refine wpAny_newFunctionEnv_cells hk (kindsX hkind _) fun env he s₁ x => ?_
  subst he
  exact ⟨hlim.keeps x.toInCall.keep, codeAny_func (h s₁ x)⟩

/-- C(..): dict at size, instance at size + 1, then __init__ -/
theorem make_obj {R : Result → Shared → Prop} {C fI : Addr} {rest : List Value} {kw : List (Str × Value)}
    (X : K.In s.heap) (hm : makesIn K C = true) (hi : findIn K (.ref C) "__init__" = some (some (.ref fI))) (hf : isFn K (.ref fI) = true)
    (h : codeAny (model prog w) (A.under (.builtin "type.__call__" ⟨.ref C :: rest, kw⟩)) (.call (.ref fI) ⟨.ref (s.heap.objs.size + 1) :: rest, kw⟩) (InitBack (s.heap.objs.size + 1) R)
      { s with heap := (s.heap.push emptyDict).push (instObj C s.heap.objs.size) }) : codeAny (model prog w) A (.call (.ref C) ⟨rest, kw⟩) R s := by
  obtain ⟨hh, g, d, t, os⟩ := s
  exact make_core (makes_of X hm) (looks_findIn X hi) (fun self => bind_fn X self (beq_iff_eq.mp hf)) (.inl rfl) h

/-- x.name where the instance's dict holds the name and the class does not -/
theorem get_field {x C : Addr} {ox : Obj} {es : List DictEntry} {n : Nat} {name : Str} {expr : Bool} {v : Value} {Q : Value → Shared → Prop}
    (X : K.In s.heap) (I : PySem.W.InstAt s.heap x ox C (some (dictOf es n))) (hg : plainGet K C name = true) (hh : hasDictIn K C = true) (ha : findIn K (.ref C) name = some none)
    (hl : getL name es = some (some v)) (hv : handedIn v = true) (h : Q v { s with toks := s.toks + 1 }) : wpAny (model prog w) A (getAttr (.ref x) name expr) Q E s :=
  get_value X I (plainGet_of hg).1 (findObj_own hh ha rfl hl) hv h

/-- x.m(..): the method found in the class -/
theorem get_method {x C f : Addr} {ox : Obj} {es : List DictEntry} {n : Nat} {name : Str} {pl : Sem Bool} {Q : Value × List Value → Shared → Prop}
    (X : K.In s.heap) (I : PySem.W.InstAt s.heap x ox C (some (dictOf es n))) (hg : plainGet K C name = true) (hf : findIn K (.ref C) name = some (some (.ref f))) (ht : isFn K (.ref f) = true)
    (hl : getL name es = some none) (h : Q (.ref f, [.ref x]) s) : wpAny (model prog w) A (getMethod (.ref x) name pl) Q E s :=
  method_fn X I (plainGet_of hg).1 (plainGet_of hg).2 hf (beq_iff_eq.mp ht) (by show (lookIn name (dictOf es n)).map _ = _; rw [lookIn_dict, hl]; rfl) h

/-! the whole heap as the ledger: makes every rule that writes through a ledger a rule over any heap -/
def noObjs (h : Heap) : Heap := { h with objs := #[] }
theorem noObjs_get (h : Heap) (b : Addr) : (noObjs h).get? b = none := by
  cases e : (noObjs h).get? b with
  | none => rfl
  | some o => exact absurd (Heap.lt_size e) (Nat.not_lt_zero _)
def ledger (h : Heap) (L d : Addr) : List (Addr × Obj) := (List.range h.objs.size).filterMap fun a => if a = L ∨ a = d then none else (h.get? a).map fun o => (a, o)
theorem mem_ledger {h : Heap} {L d a : Addr} {o : Obj} : (a, o) ∈ ledger h L d ↔ a ≠ L ∧ a ≠ d ∧ h.get? a = some o := by
  unfold ledger
  rw [List.mem_filterMap]
  constructor
  · rintro ⟨b, _, e⟩
    split at e
    · cases e
    · rename_i hb
      obtain ⟨o', ho, e'⟩ := Option.map_eq_some_iff.mp e
      cases e'
      exact ⟨fun q => hb (.inl q), fun q => hb (.inr q), ho⟩
  · rintro ⟨n1, n2, ho⟩
    refine ⟨a, List.mem_range.mpr (Heap.lt_size ho), ?_⟩
    rw [if_neg (show ¬ (a = L ∨ a = d) from fun q => q.elim n1 n2), ho] <;> rfl
theorem news_ledger {h : Heap} {L d : Addr} {od : Obj} (hne : d ≠ L) (ho : h.get? d = some od) : News (noObjs h) L h ([] ++ (d, od) :: ledger h L d) := by
  rintro ⟨a, o⟩ hp
  rcases List.mem_cons.mp hp with e | hp
  · cases e
    exact ⟨ho, hne, noObjs_get _ _⟩
  · obtain ⟨n1, n2, e⟩ := mem_ledger.mp hp
    exact ⟨e, n1, noObjs_get _ _⟩
theorem fr_all {h : Heap} {L : Addr} {m : Str → Option Value} (n : h.Ns L m) : Fr (noObjs h) L h m :=
  ⟨n, fun b o e => (by rw [noObjs_get] at e; cases e), Nat.zero_le _⟩
/-- Upd of the head entry (for append_K, setItem_K ..) -/
theorem upd_ledger {h : Heap} {L d : Addr} {o o' : Obj} : Upd d o o' ((d, o) :: ledger h L d) ((d, o') :: ledger h L d) :=
  .head fun ⟨_, _⟩ hp => (mem_ledger.mp hp).2.1

/-- x.name = v over any heap: L is any namespace of the heap (the frame's, say): its map stays, its object is not told; all else but the dict stays -/
theorem set_field {x C dx L : Addr} {ox : Obj} {m : Str → Option Value} {es es' : List DictEntry} {n n' : Nat} {name : Str} {v : Value} {Q : Unit → Shared → Prop}
    (X : K.In s.heap) (I : PySem.W.InstAt s.heap x ox C (some (dictOf es n))) (hd : ox.dict = some dx) (hL : s.heap.Ns L m) (hne : dx ≠ L)
    (hs : findIn K (.ref C) "__setattr__" = some (some (.builtin "object.__setattr__"))) (hp : plainOver K C = true) (ht : takerIn K C name = some none) (hh : hasDictIn K C = true) (hl : (getL name es).isSome = true)
    (e : (putL name (PyData.keyHash w.params name) (.str name (s.toks + 1)) v es, putN name es n) = (es', n')) (hz : es'.length ≤ 1000)
    (h : ∀ h' : Heap, h'.Ns L m → h'.get? dx = some (dictOf es' n') → (∀ b o, b ≠ dx → b ≠ L → s.heap.get? b = some o → h'.get? b = some o) → Q () { s with heap := h', toks := s.toks + 2 }) :
    wpAny (model prog w) A (setAttr (.ref x) name v) Q E s := by
  obtain ⟨e1, e2⟩ := Prod.mk.inj e
  have hdx : s.heap.get? dx = some (dictOf es n) := by
    have := I.dict
    rw [hd] at this
    exact this
  refine set_plain X I hs (osa_dict (s := { s with toks := s.toks + 1 }) (h₀ := noObjs s.heap) (L := L) (m := m) (od := dictOf es n) (od' := dictOf es' n') (es := es') (n := n') (pre := []) (post := ledger s.heap L dx)
    (fr_all hL) (news_ledger hne hdx) X I hd hp ht hh hl (fun _ q => nomatch q) (fun ⟨_, _⟩ q => (mem_ledger.mp q).2.1) (by rw [putName_dict, e1, e2]) rfl hz fun h' F' N' => ?_)
  exact h h' F'.ns (N'.get (List.Mem.head _)) fun b o n1 n2 ho => N'.get (List.Mem.tail _ (mem_ledger.mpr ⟨n2, n1, ho⟩))
end
end Att

namespace L2
open PySem PySem.Spec PyProof.Rows

theorem vals_ints : ∀ {vs : List Value} {ns : List Int}, IntsAre vs ns → Vals (ns.map V.int) vs
  | _, _, .nil => .nil
  | _, _, .cons n t h => .cons ⟨t, rfl⟩ (vals_ints h)

/-- nothing is tracked but the script, known to the object (or it is an object of the module) -/
def Only (H : Hp) : Prop := ∀ b, H b = none ∨ ∃ o xs, H b = some (.frz o (.lst xs))

/-- THE HEAD: the law's promise, at the heap behind the top. F, the promise of the law's def, may use that base is part of the heap (so K.In base, base.Ns mainGlobals mg stand in Mod) -/
theorem law_call {P : Program} {w : World} {K : PySem.W.Frag} {mg mb : Str → Option Value} {CX : CXT} {k : Nat} {fa a : Addr} {fd : FuncData} {x : Str} {sp : Sp} {s₁ : Shared} {vs : List Value} {ns : List Int}
    (KX : K.In s₁.heap) (hns : s₁.heap.Ns mainGlobals mg) (hb : s₁.heap.Ns builtinsNs mb) (hbb : ∀ x : Str, x ≠ "__name__" → mb x = bootBuiltins x) (hlim : s₁.heap.NoLimit) (hg : s₁.gens = #[])
    (ha : s₁.heap.get? a = some { cls := .type "list", data := .seq vs.toArray }) (hi : IntsAre vs ns) (hl : ns.length ≤ sizeLine) (hr : Room k callerA)
    (F : ∀ base : Heap, K.In base → base.Ns mainGlobals mg → FnOk P w K mg base CX k fa fd [x] sp) (hbind : ∀ (s : Shared) (u : Value), BindsTo s fd ⟨[u], []⟩ [(x, u)])
    (hsp : ∀ H : Hp, Only H → SqL K H a (ns.map V.int) → sp [.ref a] H (fun v _ => v = .bl true) fun _ _ _ => False)
    (hCX : ∀ H e s', CX [] H s₁ (fun _ _ _ => False) e s' → False) :
    codeAny (model P w) callerA (.call (.ref fa) ⟨[.ref a], []⟩) (fun r s' => r = .ok (.ret (.bool true)) ∧ OldK s₁.heap s'.heap ∧ s'.os = s₁.os ∧ AllBare s'.gens) s₁ := by
  have rv := vals_ints hi
  have lenV := hi.length
  -- from an abstract heap in which nothing but the script may be tracked
  have core : ∀ H : Hp, Only H → SqL K H a (ns.map V.int) → HOk P w H s₁.heap → (∀ b, H b ≠ none → b = a) → (H a ≠ none → K.lookup a = none) →
      codeAny (model P w) callerA (.call (.ref fa) ⟨[.ref a], []⟩) (fun r s' => r = .ok (.ret (.bool true)) ∧ OldK s₁.heap s'.heap ∧ s'.os = s₁.os ∧ AllBare s'.gens) s₁ := by
    intro H hO hS hok hA hK
    have base_of : ∀ {b : Addr} {o : Obj}, s₁.heap.get? b = some o → H b = none → (hidT s₁.heap H).get? b = some o := fun e n => hidT_get e n
    have noA : ∀ {b : Addr} {o : Obj} {es : Array DictEntry} {ep : Nat}, s₁.heap.get? b = some o → o.data = .dict es ep → H b = none := fun {b o es ep} e d => by
      cases q : H b with
      | none => rfl
      | some u =>
        have e' : b = a := hA b (by rw [q]; simp)
        subst e'
        rw [ha] at e; cases e
        have d' : Data.seq vs.toArray _ = Data.dict es ep := d
        cases d'
    have nsK : ∀ {b : Addr} {m : Str → Option Value}, s₁.heap.Ns b m → (hidT s₁.heap H).Ns b m := fun {b m} ⟨o, es, ep, e, d, r⟩ => ⟨o, es, ep, base_of e (noA e d), d, r⟩
    have hKb : K.In (hidT s₁.heap H) := fun b o e => base_of (KX b o e) (by
      cases q : H b with
      | none => rfl
      | some u =>
        have e' : b = a := hA b (by rw [q]; simp)
        subst e'
        rw [hK (by rw [q]; simp)] at e; cases e)
    have hM : Mod K mg (hidT s₁.heap H) := ⟨hKb, nsK hns, ⟨mb, nsK hb, hbb⟩, let ⟨mc, h1, h2⟩ := hlim; ⟨mc, nsK h1, h2⟩⟩
    have e0 : Env0 P w K mg (hidT s₁.heap H) callerA [] s₁ H := ⟨rfl, hM, fun b o e => of_hidT e, Nat.le_of_eq (hidT_size _ _), trivial, fun b hb => absurd (show b ∈ ([] : List Addr) from hb) (by simp), hok, .of_eq hg⟩
    refine codeAny_mono ((F _ hKb (nsK hns)).run callerA [] s₁ H ⟨[.ref a], []⟩ [.ref a] [.ref a] _ _ hr e0 (hbind s₁ (.ref a)) (.cons rfl .nil) (hsp H hO hS)) fun r s' h => ?_
    cases r with
    | error e => exact (hCX H e s' h).elim
    | ok fl =>
      cases fl with
      | next => exact False.elim h
      | brk => exact False.elim h
      | cont => exact False.elim h
      | ret u =>
        obtain ⟨v, H', os, bare, un, hok', r', q⟩ := h
        have q' : v = .bl true := q
        subst q'
        obtain rfl : u = Value.bool true := r'
        refine ⟨rfl, OldK.of_keep fun b o e => ?_, os, bare⟩
        cases q : H b with
        | none => exact un.keep b o e q (by intro z; exact absurd (show b ∈ ([] : List Addr) from z) (by simp)) (by simp)
        | some u =>
          rcases hO b with z | ⟨ob, xs, z⟩
          · rw [q] at z; cases z
          · have z2 := un.frzs b ob _ z
            obtain ⟨e1, _⟩ := hok b _ z
            obtain ⟨e2, _⟩ := hok' b _ z2
            rw [e] at e1; cases e1
            exact e2
  cases hk : K.lookup a with
  | some o =>
    -- the script is one of the module's own objects
    have e := KX a o hk
    rw [ha] at e
    cases e
    refine core (fun _ => none) (fun _ => .inl rfl) (.inr ⟨_, vs.toArray, _, hk, rfl, rfl, rfl, by rw [List.size_toArray, lenV]; exact hl, by simpa using rv⟩) (fun b u z => by have z' : (none : Option HO) = some u := z; cases z') (fun b z => absurd rfl z) fun z => absurd rfl z
  | none =>
    refine core (fun b => if b = a then some (.frz { cls := .type "list", data := .seq vs.toArray } (.lst (ns.map V.int))) else none) (fun b => ?_) (.inl (.inr ⟨{ cls := .type "list", data := .seq vs.toArray }, if_pos rfl⟩)) (fun b u z => ?_) (fun b z => ?_) fun _ => hk
    · by_cases hb : b = a
      · exact .inr ⟨_, _, if_pos hb⟩
      · exact .inl (if_neg hb)
    · by_cases hb : b = a
      · have z' := (if_pos hb).symm.trans z
        cases z'
        subst hb
        exact ⟨ha, by rw [List.length_map]; exact hl, vs, _, rv, ha⟩
      · have z' := (if_neg hb).symm.trans z
        cases z'
    · by_cases hb : b = a
      · exact hb
      · exact absurd (if_neg hb) z
end L2

namespace L2
open PySem PySem.Spec PyProof.Rows

abbrev KOf {K : PySem.W.Frag} {h : Heap} (_ : K.In h) : PySem.W.Frag := K

/-- the goal that k_head leaves (case hc), from the law's promise. F gives the function object fd (K's own) once, then the promise over every base -/
theorem walk_of {l : PySem.W.OpenLaw} {n k : Nat} {q : Program} {loose : List Str} {XP : (Str → Option Value) → Heap → Prop} {YP : World → Heap → Prop} {d : DefRec} {K : Params → PySem.W.Frag} {CX : World → CXT} {sp : World → Sp} {x : Str}
    (hn : l.most = some n) (hn2 : n ≤ sizeLine) (hdf : d.params.defaults = []) (hr : Room k callerA)
    (hY : ∀ (w : World) (h : Heap), YP w h → (K w.params).In h)
    (F : ∀ (w : World) (mg : Str → Option Value) (fa : Addr) (h : Heap), (K w.params).In h → h.Ns mainGlobals mg → mg d.name = some (.ref fa) →
      ∃ fd : FuncData, (∀ (s : Shared) (u : Value), BindsTo s fd ⟨[u], []⟩ [(x, u)]) ∧
        ∀ base : Heap, (K w.params).In base → base.Ns mainGlobals mg → FnOk l.prog w (K w.params) mg base (CX w) k fa fd [x] (sp w))
    (hsp : ∀ (w : World) (H : Hp) (a : Addr) (ns : List Int), ns.length ≤ n → Only H → SqL (K w.params) H a (ns.map V.int) → sp w [.ref a] H (fun v _ => v = .bl true) fun _ _ _ => False)
    (hCX : ∀ (w : World) (H : Hp) (s : Shared) (e : Value) (s' : Shared), CX w [] H s (fun _ _ _ => False) e s' → False) :
    PySem.W.WalkO q loose XP YP l.row.toRowW d [] (fun f vs => PySem.call f vs) := by
  refine Att.attach_call hn hdf fun w s₀ s₁ mg mb fa o pm cd doc a vs ns G Y ho hd hcd hmg hobj hints hlen hg => ?_
  have KX := hY w _ Y
  obtain ⟨fd, hb, hF⟩ := F w mg fa _ KX G.T.g hmg
  exact law_call KX G.T.g G.T.b G.T.builtins G.T.nolimit hg hobj hints (Nat.le_trans hlen hn2) hr hF hb (fun H hO hS => hsp w H a ns hlen hO hS) fun H e s' => hCX w H s₁ e s'
/-- the same where the promise hangs on the written part alone: (sp := My.sp_law), no hole under a binder -/
theorem walk_ofK {l : PySem.W.OpenLaw} {n k : Nat} {q : Program} {loose : List Str} {XP : (Str → Option Value) → Heap → Prop} {YP : World → Heap → Prop} {d : DefRec} {K : Params → PySem.W.Frag} {CX : CXT} {sp : PySem.W.Frag → Sp} {x : Str}
    (hn : l.most = some n) (hn2 : n ≤ sizeLine) (hdf : d.params.defaults = []) (hr : Room k callerA)
    (hY : ∀ (w : World) (h : Heap), YP w h → (K w.params).In h)
    (F : ∀ (w : World) (mg : Str → Option Value) (fa : Addr) (h : Heap), (K w.params).In h → h.Ns mainGlobals mg → mg d.name = some (.ref fa) →
      ∃ fd : FuncData, (∀ (s : Shared) (u : Value), BindsTo s fd ⟨[u], []⟩ [(x, u)]) ∧
        ∀ base : Heap, (K w.params).In base → base.Ns mainGlobals mg → FnOk l.prog w (K w.params) mg base CX k fa fd [x] (sp (K w.params)))
    (hsp : ∀ (K : PySem.W.Frag) (H : Hp) (a : Addr) (ns : List Int), ns.length ≤ n → Only H → SqL K H a (ns.map V.int) → sp K [.ref a] H (fun v _ => v = .bl true) fun _ _ _ => False)
    (hCX : ∀ (H : Hp) (s : Shared) (e : Value) (s' : Shared), CX [] H s (fun _ _ _ => False) e s' → False) :
    PySem.W.WalkO q loose XP YP l.row.toRowW d [] (fun f vs => PySem.call f vs) :=
  walk_of (K := K) (CX := fun _ => CX) (sp := fun w => sp (K w.params)) hn hn2 hdf hr hY F (fun w H a ns h1 h2 h3 => hsp (K w.params) H a ns h1 h2 h3) fun _ H s e s' => hCX H s e s'
end L2

/- THE LAST THEOREM (shape; LID, My.* are yours):
   My.Adr: a structure of the addresses that your layer names (classes, functions); My.Txt K t: a structure (Prop) of the equations over K;
   My.txt_mk : {K} {implicit addresses ..} (e1 : nsIn K mainGlobals "law" = some (some (.ref f))) (e2 : K.lookup f = some ⟨oc, od, .func (fnOf "law" "law" params body scope dV kV doc pm an cdv ct), sl⟩) (e3 : codeIn K cdv "law" = true) .. : ∃ t, My.Txt K t

set_option maxRecDepth 100000 in
set_option maxHeartbeats 0 in
theorem PySem.Challenge.cw_LID_holds : PySem.Challenge.rw_LID.Holds := by
  w_on; o_law; k_head; (case hw => w_witness2)
  k_fill
  refine L2.walk_of (l := PySem.Challenge.rw_LID) (n := 63) (k := 40) (x := "script") (CX := fun w => ..) (sp := fun _ => My.sp_law) rfl (by decide) rfl ⟨rfl, by decide, by decide⟩ (fun w h Y => PySem.W.kIn_of Y) ?F ?S ?C
  case F =>
    intro w mg fa h KX G hmg
    have T : ∃ t, My.Txt (L2.KOf KX) t := by
      dsimp only [L2.KOf]                          -- K must stand as «<heap const> w.params» for k_is
      refine' My.txt_mk ?e1 ?e2 ?e3 ..
      (case e1 => PySem.W.k_is)                    -- in the order: a name -> its address -> its object -> its parts
      (case e2 => PySem.W.k_is)
      ..
    obtain ⟨t, T⟩ := T
    have e0 := hmg.symm.trans (PySem.W.mg_of KX G T.law)
    cases e0                                       -- fa is the law's own address
    exact ⟨_, fun s u => .of_eq rfl, fun base kb nb => My.law_fn T kb nb⟩     -- if «.of_eq rfl» comes too early: refine' ⟨_, ?b, fun base kb nb => My.law_fn T kb nb⟩; exact fun s u => .of_eq rfl
  case S => exact fun w H a ns hl hO hS => ..
  case C => exact ..
(the tactic k_is has no namespace: write k_is) -/

/-! SHORT WORDS over the layer: a def of the text, its body, what a loop and a test want. -/
namespace L2
open PySem PySem.Spec PyProof.Rows

/-! ### the text by places -/
/-- the j-th statement of a class's body -/
def inClass (s : Stmt) (j : Nat) : Stmt := match s with
  | .ClassDef _ _ _ body _ _ _ _ _ _ _ => body.getD j (.Pass ⟨0, 0, 0, 0⟩)
  | _ => .Pass ⟨0, 0, 0, 0⟩
def defArgs (s : Stmt) : Arguments := match s with
  | .FunctionDef _ a _ _ _ _ _ _ _ _ => a
  | _ => { posonlyargs := [], args := [], vararg := none, kwonlyargs := [], kw_defaults := [], kwarg := none, defaults := [] }
def defBody (s : Stmt) : List Stmt := match s with
  | .FunctionDef _ _ b _ _ _ _ _ _ _ => b
  | _ => []
def defScope (s : Stmt) : Scope := match s with
  | .FunctionDef _ _ _ _ _ _ sc _ _ _ => sc
  | _ => { kind := .function, names := [], isGenerator := false, isCoroutine := false }

/-! ### no exception leaves a def -/
abbrev CX0 : CXT := fun _ _ _ _ _ _ => False
abbrev E0 : XK := fun _ _ _ => False
theorem pass0 {X : Cx} : Passes CX0 X E0 := fun _ _ _ _ _ _ _ h => h.elim

/-! ### a def (or method) of the text as it stands behind the top -/
structure Fun (K : PySem.W.Frag) (x qual : Str) (st : Stmt) (f : Addr) (fd : FuncData) : Prop where
  ex : ∃ (oc : Value) (od : Option Addr) (kV doc pm : Value) (an : Option Addr) (cdv ct : Value) (osl : Array (Option Value)),
    fd = PySem.W.fnOf x qual (defArgs st) (defBody st) (defScope st) .none kV doc pm an cdv ct ∧ K.lookup f = some ⟨oc, od, .func fd, osl⟩ ∧ PySem.W.codeIn K cdv qual = true
  kp : PySem.W.keepIn K (.ref f) = true
section
variable {P : Program} {w : World} {K : PySem.W.Frag} {mg : Str → Option Value} {base : Heap}
/-- THE RULE for a def: its body as a term of rules, and the reading of that term -/
theorem Fun.ok {x qual : Str} {st : Stmt} {f : Addr} {fd : FuncData} {N ps : List Str} {k : Nat} {sp : Sp} (F : Fun K x qual st f fd) (S : FnScope N ps (defScope st)) (len : ∀ vs H Q E, sp vs H Q E → vs.length = ps.length)
    (hbody : ∀ (cdv : Value) (A : Around) (outer : List Env) (s : Shared) (H : Hp) (vs : List V) (Q : VK) (E : XK), Room k (A.deeper (envOfC qual (defScope st) s.heap.objs.size f cdv)) → sp vs H Q E →
      ∃ t, PSs (cxOf CX0 P w K mg base N qual (defScope st) f cdv A outer s H E).nox (defBody st) t ∧ t { nx := fun _ H' => Q .non H', rt := Q } (start N vs) H) : FnOk P w K mg base CX0 (k + 1) f fd ps sp := by
  obtain ⟨oc, od, kV, doc, pm, an, cdv, ct, osl, rfl, lk, hcd⟩ := F.ex
  refine fn_of lk hcd S len fun A outer s H vs Q E hr hsp => ?_
  obtain ⟨t, h, q⟩ := hbody cdv A outer s H vs Q E hr hsp
  exact ⟨t, h.nox, q⟩
/-- how its arguments bind (no defaults): h is «fun _ _ _ _ _ _ us hl => match us, hl with | [_, _], _ => rfl», one _ a parameter -/
theorem Fun.binds {x qual : Str} {st : Stmt} {f : Addr} {fd : FuncData} {ps : List Str} (F : Fun K x qual st f fd)
    (h : ∀ (kV doc pm : Value) (an : Option Addr) (cdv ct : Value) (us : List Value), us.length = ps.length → bindArgs (PySem.W.fnOf x qual (defArgs st) (defBody st) (defScope st) .none kV doc pm an cdv ct) ⟨us, []⟩ = pure (ps.zip us)) : Binds K fd ps [] := by
  obtain ⟨oc, od, kV, doc, pm, an, cdv, ct, osl, rfl, lk, hcd⟩ := F.ex
  exact .all (h kV doc pm an cdv ct)
theorem fun_mk {x qual : Str} {st : Stmt} {f : Addr} {oc : Value} {od an : Option Addr} {osl : Array (Option Value)} {kV doc pm cdv ct : Value} (l : K.lookup f = some ⟨oc, od, .func (PySem.W.fnOf x qual (defArgs st) (defBody st) (defScope st) .none kV doc pm an cdv ct), osl⟩)
    (c : PySem.W.codeIn K cdv qual = true) (k : PySem.W.keepIn K (.ref f) = true) : Fun K x qual st f (PySem.W.fnOf x qual (defArgs st) (defBody st) (defScope st) .none kV doc pm an cdv ct) := ⟨⟨oc, od, kV, doc, pm, an, cdv, ct, osl, rfl, l, c⟩, k⟩
end
theorem hu_of {A : Around} {k : Nat} (hr : Room k A) : A.units + 1 < cLine := Nat.lt_of_le_of_lt (Nat.add_le_add_left (by decide : 1 ≤ 64) _) hr.units
theorem small1000 {n : Nat} (h : n ≤ 1000) : n < sizeLine := Nat.lt_of_le_of_lt h (by decide)

/-! ### expressions in short: the name that stands in the i-th slot -/
section
variable {X : Cx}
theorem pv (i : Nat) {x : Str} {pos : Pos} (hN : X.N[i]? = some x := by rfl) (hv : Vis X.env.scope x := by first | exact Or.inl rfl | exact Or.inr (Or.inl rfl) | exact Or.inr (Or.inr rfl)) (hd : (x == ("__debug__" : Str)) = false := by decide)
    (hcd : (x == ("__classdict__" : Str)) = false := by decide) : PE X (.Name x pos) (tVar i) := pe_var hN hv hd hcd
end

/-! ### tests -/
theorem iteF {A B : Prop} (h : B) : if false = true then A else B := by
  rw [if_neg Bool.false_ne_true]
  exact h
theorem iteT {A B : Prop} (h : A) : if true = true then A else B := by
  rw [if_pos rfl]
  exact h
theorem ite2 {c A B : Prop} [Decidable c] (h1 : c → A) (h2 : ¬ c → B) : if c then A else B := by
  by_cases h : c
  · rw [if_pos h]
    exact h1 h
  · rw [if_neg h]
    exact h2 h
theorem iteNS {c A B : Prop} [Decidable c] (hc : c) (h : B) : if (!decide c) = true then A else B := by
  rw [decide_eq_true hc]
  exact iteF h

/-! ### heaps -/
/-- all that was tracked is as it was -/
def Same (H H' : Hp) : Prop := ∀ b o, H b = some o → H' b = some o
theorem Same.refl (H : Hp) : Same H H := fun _ _ h => h
theorem Same.trans {H H1 H2 : Hp} (a : Same H H1) (b : Same H1 H2) : Same H H2 := fun c o h => b c o (a c o h)
theorem Same.free {H H' : Hp} (e : Same H H') {l : Addr} (h : H' l = Option.none) : H l = Option.none := by
  cases q : H l with
  | none => rfl
  | some o =>
    rw [e l o q] at h
    cases h
theorem Same.seq {K : PySem.W.Frag} {H H' : Hp} {a : Addr} {xs : List V} (e : Same H H') (h : SqL K H a xs) : SqL K H' a xs := by
  rcases h with (h | ⟨o, h⟩) | h
  · exact .inl (.inl (e _ _ h))
  · exact .inl (.inr ⟨o, e _ _ h⟩)
  · exact .inr h

end L2

namespace L2
open PySem PySem.Spec PyProof.Rows
section
variable {X : Cx}
/-- a product that fits -/
theorem op_mulK : OpR X (binaryOp .Mult) (rI IntMulOk fun i j => .int (i * j)) := opI fun _ _ _ _ _ _ _ hc q => mul_int q hc
/-- isinstance with one built-in class -/
def rIsi (K : PySem.W.Frag) : List V → Hp → VK → Prop := fun xs H Q => ∃ (x : V) (t : Value) (c : String) (b : Bool), xs = [x, .ty c] ∧ TyOf K H x t ∧ PySem.W.kitOne K t (.type c) = some b ∧ Q (.bl b) H
theorem call_isi : CallR X (.builtin "isinstance") (rIsi X.K) := by
  intro pins s σ H xs us Q I r h
  obtain ⟨x, t, c, b, rfl, ty, e, q⟩ := h
  obtain ⟨u, v, rfl, ru, rv⟩ := vals2 r
  cases (show v = Value.type c from rv)
  exact isinst_ok I ru ty e fun tk => ⟨.bl b, H, I.tok tk, rfl, q⟩
/-- xs.index(y), the first place where it stands -/
def rIndex : V → List V → Hp → VK → Prop := fun x vs H Q => ∃ (l : Addr) (xs : List V) (y z : V) (j : Nat), x = .ref l ∧ vs = [y] ∧ H l = some (.lst xs) ∧ flatV y = true ∧ xs.all flatV = true ∧
  xs[j]? = some z ∧ eqV z y = true ∧ (∀ (m : Nat) v, m < j → xs[m]? = some v → eqV v y = false) ∧ Q (.int j) H
theorem all_get {xs : List V} (h : xs.all flatV = true) {i : Nat} {v : V} (e : xs[i]? = some v) : flatV v = true := List.all_eq_true.mp h v (List.mem_of_getElem? e)
theorem mt_index : MtR X "list.index" rIndex := by
  intro pins s σ H x vs v us Q I rx rv h
  obtain ⟨l, xs, y, z, j, rfl, rfl, hH, fy, fx, hj, ej, hno, q⟩ := h
  cases rx
  obtain ⟨u, rfl, ru⟩ := rv.one
  obtain ⟨hz, its, n, r, hl, e⟩ := I.lstM hH
  have jl : j < xs.length := (List.getElem?_eq_some_iff.mp hj).1
  have js : j < its.toArray.size := by rw [List.size_toArray]; omega
  have at_ : ∀ (m : Nat) (hm : m < its.toArray.size), ∃ a, xs[m]? = some a ∧ eqU y its.toArray[m] = eqV a y := fun m hm => by
    have hm' : m < xs.length := by rw [List.size_toArray] at hm; omega
    have e1 : xs[m]? = some xs[m] := List.getElem?_eq_getElem hm'
    obtain ⟨u', e2, r2⟩ := r.get e1
    have e3 : its.toArray[m] = u' := by
      rw [List.getElem_toArray]
      exact Option.some.inj ((List.getElem?_eq_getElem (by omega)).symm.trans e2)
    exact ⟨_, e1, by rw [e3]; exact eqU_of r2 (all_get fx e1)⟩
  refine call_meets F.slot_list_index ⟨_, e, rfl⟩ F.entry_list_index (F.args_list_index_2 _ _) (SeqAt.list_indexAt l its.toArray n none #[] u (eqU y) j js ?_ ?_ ?_) ⟨e, fun w hw => ?_, ?_⟩
  · rw [sizeLine_eq] at hz; omega
  · obtain ⟨a, e1, e2⟩ := at_ j js
    rw [hj] at e1; cases e1
    rw [e2]; exact ej
  · intro m hm hmj
    obtain ⟨a, e1, e2⟩ := at_ m hm
    rw [e2]; exact hno m a hmj e1
  · exact mem_eqAt ru fy r fx w (by simpa using hw)
  · exact ⟨.int j, H, I.tok _, ⟨_, rfl⟩, q⟩
end
section
variable {X : Cx}
/-- len, with the length said -/
def rLenN (K : PySem.W.Frag) : List V → Hp → VK → Prop := fun xs H Q => ∃ (p : Addr) (ys : List V) (n : Nat), xs = [.ref p] ∧ (SqL K H p ys ∨ SqT K H p ys) ∧ ys.length = n ∧ Q (.int n) H
theorem call_lenN : CallR X (.builtin "len") (rLenN X.K) := by
  intro pins s σ H xs us Q I r h
  obtain ⟨p, ys, n, rfl, hq, rfl, q⟩ := h
  exact call_len_seq pins s σ H _ us Q I r ⟨p, ys, rfl, hq, q⟩
end
/-- a block: what holds between -/
theorem seq_mid {t u : TS} {D : Ends} {σ : St} {H : Hp} (M : St → Hp → Prop) (hm : ∀ N : St → Hp → Prop, (∀ σ' H', M σ' H' → N σ' H') → t { D with nx := N } σ H) (hu : ∀ σ' H', M σ' H' → u D σ' H') : tSeq t u D σ H := hm _ hu
/-- ints under P -/
inductive IntsP (P : Int → Prop) : List V → Prop where
  | nil : IntsP P []
  | cons {i : Int} {xs : List V} (h : P i) (t : IntsP P xs) : IntsP P (.int i :: xs)
theorem IntsP.get {P : Int → Prop} : ∀ {xs : List V} (j : Nat), IntsP P xs → j < xs.length → ∃ i, xs[j]? = some (.int i) ∧ P i
  | _, _, .nil, h => absurd h (Nat.not_lt_zero _)
  | _, 0, .cons h t, _ => ⟨_, rfl, h⟩
  | _, j + 1, .cons h t, l => by
    obtain ⟨i, e, p⟩ := IntsP.get j t (Nat.lt_of_succ_lt_succ l)
    exact ⟨i, by simpa using e, p⟩
theorem IntsP.pick {P : Int → Prop} {xs : List V} (h : IntsP P xs) {n : Int} (hn : n = (xs.length : Int)) (h0 : 0 < n) (x : Int) : ∃ i, atI xs (x % n) = some (.int i) ∧ P i := by
  have h1 := Int.emod_nonneg x (show n ≠ 0 by omega)
  have h2 := Int.emod_lt_of_pos x h0
  obtain ⟨i, e, p⟩ := h.get (x % n).toNat (by omega)
  have := atI_nat e
  rw [Int.toNat_of_nonneg h1] at this
  exact ⟨i, this, p⟩
/-- a def of the text that may be called by its name -/
structure Cal (P : Program) (w : World) (K : PySem.W.Frag) (mg : Str → Option Value) (base : Heap) (k : Nat) (x : Str) (ps : List Str) (sp : Sp) : Prop where
  ex : ∃ (f : Addr) (fd : FuncData), mg x = some (.ref f) ∧ PySem.W.keepIn K (.ref f) = true ∧ Binds K fd ps [] ∧ FnOk P w K mg base CX0 k f fd ps sp
theorem pe_fn {X : Cx} {k : Nat} {x : Str} {ps : List Str} {sp : Sp} {e : Expr} {es : List Expr} {t : TA} {p pos : Pos} (c : Cal X.prog X.w X.K X.mg X.base k x ps sp) (hr : Room k X.A) (ha : PA X (e :: es) t) (hg : Gl X x := by rfl)
    (hdb : (x == ("__debug__" : Str)) = false := by decide) (he : starEach (e :: es) X.env = (false, eval e X.env) :: starEach es X.env := by rfl) (hpl : (backTo pos (starEach es X.env)).any (·.1) = false := by rfl) :
    PE X (.Call (.Name x p) (e :: es) [] pos) (tCall sp [] E0 t) := by
  obtain ⟨f, fd, hm, hk, hb, F⟩ := c.ex
  exact pe_call F hr hg hm hk hb .nil pass0 ha hdb he hpl
/-! the script's ints have few bits -/
theorem bits_script {ns : List Int} (h : PySem.W.WData.layableAll [PySem.W.WData.list (ns.map PySem.W.WData.int)] = true) : ∀ n ∈ ns, Builtin.Int.intBits n ≤ 2 ^ 20 := fun n hn => by
  have h1 := PySem.W.layableW_arg h _ List.mem_cons_self
  have h2 := PySem.W.layableW_item h1 (PySem.W.WData.int n) (List.mem_map.mpr ⟨n, hn, rfl⟩)
  have h3 := (PySem.W.layableW_iff.mp h2).2.2
  simpa only [PySem.W.WData.weight, Builtin.Int.intBits] using h3
end L2
namespace Att
open PySem PySem.W PySem.Calls PyProof.Rows
theorem attach_bits {l : OpenLaw} {n : Nat} {q : Program} {loose : List Str} {XP : (Str → Option Value) → Heap → Prop} {YP : World → Heap → Prop} {d : DefRec}
    (hn : l.most = some n) (hdf : d.params.defaults = [])
    (call : ∀ (w : World) (s₀ s₁ : Shared) (mg mb : Str → Option Value) (fa : Addr) (o : Obj) (pm cd doc : Value) (a : Addr) (vs : List Value) (ns : List Int),
      Ground q loose [] XP w s₀ mg mb s₁.heap → YP w s₁.heap →
      s₁.heap.get? fa = some o → o.data = .func (docDef d.name d.params d.body d.scope pm cd doc) → s₁.heap.CodeRec cd d.name → mg d.name = some (.ref fa) →
      s₁.heap.get? a = some { cls := .type "list", data := .seq vs.toArray } → IntsAre vs ns → ns.length ≤ n → (∀ m ∈ ns, Builtin.Int.intBits m ≤ 2 ^ 20) → s₁.gens = #[] →
      codeAny (model l.prog w) callerA (.call (.ref fa) ⟨[.ref a], []⟩) (fun r s' => r = .ok (.ret (.bool true)) ∧ OldK s₁.heap s'.heap ∧ s'.os = s₁.os ∧ AllBare s'.gens) s₁) :
    WalkO q loose XP YP l.row.toRowW d [] (fun f vs => PySem.call f vs) := by
  intro w s₀ s₁ mg mb G Y fa o pm cd doc dV kV ho hd hcd hD hmg hg args vals as hpre hlay hrd hwl hlo
  obtain rfl : dV = .none := Dflts.none hD hdf
  obtain rfl : kV = .none := Dflts.noKw hD
  obtain ⟨a, vs, ns, rfl, rfl, hobj, hints, hlen⟩ := script_of hn hpre hwl
  refine enter_call (codeAny_mono (call w s₀ s₁ mg mb fa o pm cd doc a vs ns G Y ho (fd_plain hd) hcd hmg hobj hints hlen (L2.bits_script hlay) hg) fun r s' hq => ?_)
  obtain ⟨rfl, h2, h3, h4⟩ := hq
  exact ⟨.inl ⟨.bool true, .bool true, [], rfl, fun _ => rfl, .bool true, post_true l _, fun _ => ⟨List.Pairwise.nil, fun _ hm => (nomatch hm)⟩⟩, h2, h3, h4⟩
end Att
namespace L2
open PySem PySem.Spec PyProof.Rows
/-- law's promise: a list of at most 63 ints of few bits is handed in, True comes out -/
def spLaw (K : PySem.W.Frag) : Sp := fun vs H Q _ => ∃ (a : Addr) (ns : List Int), vs = [.ref a] ∧ SqL K H a (ns.map V.int) ∧ ns.length ≤ 63 ∧ (∀ m ∈ ns, Builtin.Int.intBits m ≤ 2 ^ 20) ∧ ∀ H', Q (.bl true) H'
theorem walk_bits {l : PySem.W.OpenLaw} {k : Nat} {q : Program} {loose : List Str} {XP : (Str → Option Value) → Heap → Prop} {YP : World → Heap → Prop} {d : DefRec} {K : Params → PySem.W.Frag} {x : Str}
    (hn : l.most = some 63) (hdf : d.params.defaults = []) (hr : Room k callerA)
    (hY : ∀ (w : World) (h : Heap), YP w h → (K w.params).In h)
    (F : ∀ (w : World) (mg : Str → Option Value) (fa : Addr) (h : Heap), (K w.params).In h → h.Ns mainGlobals mg → mg d.name = some (.ref fa) →
      ∃ fd : FuncData, (∀ (s : Shared) (u : Value), BindsTo s fd ⟨[u], []⟩ [(x, u)]) ∧
        ∀ base : Heap, (K w.params).In base → base.Ns mainGlobals mg → FnOk l.prog w (K w.params) mg base CX0 k fa fd [x] (spLaw (K w.params))) :
    PySem.W.WalkO q loose XP YP l.row.toRowW d [] (fun f vs => PySem.call f vs) := by
  refine Att.attach_bits hn hdf fun w s₀ s₁ mg mb fa o pm cd doc a vs ns G Y ho hd hcd hmg hobj hints hlen hb hg => ?_
  have KX := hY w _ Y
  obtain ⟨fd, hbd, hF⟩ := F w mg fa _ KX G.T.g hmg
  exact law_call KX G.T.g G.T.b G.T.builtins G.T.nolimit hg hobj hints (Nat.le_trans hlen (by decide)) hr hF hbd (fun H hO hS => ⟨a, ns, rfl, hS, hlen, hb, fun _ => rfl⟩) fun H e s' => fun z => z
end L2
namespace L2
open PySem PySem.Spec PyProof.Rows
section
variable {X : Cx}
/-- xs != [] -/
def rNeE (K : PySem.W.Frag) : R2 := fun x y H Q => ∃ (a b : Addr) (xs : List V), x = .ref a ∧ y = .ref b ∧ SqL K H a xs ∧ SqL K H b [] ∧ Q (.bl (!xs.isEmpty)) H
theorem op_neE (hu : X.A.units < cLine) : OpR X (compareOp .NotEq) (rNeE X.K) := by
  intro pins s σ H x y v u Q I rx ry h
  obtain ⟨a, b, xs, rfl, rfl, ha, hb, q⟩ := h
  cases rx
  cases ry
  obtain ⟨its, r, pl, hz⟩ := I.list ha
  obtain ⟨its2, r2, pl2, hz2⟩ := I.list hb
  obtain rfl := r2.zero
  cases xs with
  | nil =>
    obtain rfl := r.zero
    refine SeqAt.RcNeAt.lists (e := fun _ => true) pl.isList pl2.isList rfl hu (fun j h1 _ => absurd h1 (by simp)) X.prog X.w _ _ ?_
    exact ⟨.bl false, H, I, rfl, q⟩
  | cons z zs =>
    have hl := r.length
    refine SeqAt.RcNeAt.lists_lengths pl.isList pl2.isList ?_ hu X.prog X.w _ _ ?_
    · rw [List.size_toArray, List.size_toArray, ← hl]
      simp
    · exact ⟨.bl true, H, I, rfl, q⟩
theorem eqV_self {v : V} (f : flatV v = true) : eqV v v = true := by
  cases v with
  | non => rfl
  | bl b => simp [eqV]
  | int i => simp [eqV]
  | str x => simp [eqV]
  | _ => exact absurd (show false = true from f) Bool.false_ne_true
theorem pair_eqAt {A : Around} {s : Shared} {xs : List V} {us ws : List Value} (r : Vals xs us) (q : Vals xs ws) (f : xs.all flatV = true) (j : Nat) (h1 : j < us.toArray.size) (h2 : j < ws.toArray.size) : SeqAt.EqAt A s us.toArray[j] ws.toArray[j] true := by
  have hj : j < xs.length := by rw [List.size_toArray] at h1; rw [r.length]; exact h1
  have e1 : xs[j]? = some xs[j] := List.getElem?_eq_getElem hj
  obtain ⟨u, a1, a2⟩ := r.get e1
  obtain ⟨v, b1, b2⟩ := q.get e1
  have c1 : us.toArray[j] = u := by
    rw [List.getElem_toArray]
    exact Option.some.inj ((List.getElem?_eq_getElem (by simpa using h1)).symm.trans a1)
  have c2 : ws.toArray[j] = v := by
    rw [List.getElem_toArray]
    exact Option.some.inj ((List.getElem?_eq_getElem (by simpa using h2)).symm.trans b1)
  have fx : flatV xs[j] = true := List.all_eq_true.mp f _ (List.getElem_mem hj)
  rw [c1, c2]
  have := eqAt_V (A := A) (s := s) a2 b2 fx fx
  rw [eqV_self fx] at this
  exact this
/-- two lists that hold the same flat values -/
def rEqLL (K : PySem.W.Frag) : R2 := fun x y H Q => ∃ (a b : Addr) (xs : List V), x = .ref a ∧ y = .ref b ∧ SqL K H a xs ∧ SqL K H b xs ∧ xs.all flatV = true ∧ Q (.bl true) H
theorem op_eqLL (hu : X.A.units < cLine) : OpR X (compareOp .Eq) (rEqLL X.K) := by
  intro pins s σ H x y v u Q I rx ry h
  obtain ⟨a, b, xs, rfl, rfl, ha, hb, f, q⟩ := h
  cases rx
  cases ry
  obtain ⟨its, r, pl, hz⟩ := I.list ha
  obtain ⟨its2, r2, pl2, hz2⟩ := I.list hb
  have hsz : its.toArray.size = its2.toArray.size := by rw [List.size_toArray, List.size_toArray, ← r.length, ← r2.length]
  refine SeqAt.eq_listAt (e := fun _ => true) pl.isList pl2.isList hsz hu (fun j h1 h2 => pair_eqAt r r2 f j h1 h2) ?_
  refine ⟨.bl true, H, I, ?_, q⟩
  show Value.bool _ = Value.bool true
  congr 1
  simp
/-- two tuples that hold the same flat values differ not -/
def rNeTT (K : PySem.W.Frag) : R2 := fun x y H Q => ∃ (a b : Addr) (xs : List V), x = .ref a ∧ y = .ref b ∧ SqT K H a xs ∧ SqT K H b xs ∧ xs.all flatV = true ∧ Q (.bl false) H
theorem op_neTT (hu : X.A.units < cLine) : OpR X (compareOp .NotEq) (rNeTT X.K) := by
  intro pins s σ H x y v u Q I rx ry h
  obtain ⟨a, b, xs, rfl, rfl, ha, hb, f, q⟩ := h
  cases rx
  cases ry
  obtain ⟨its, r, pl, hz⟩ := I.tuple ha
  obtain ⟨its2, r2, pl2, hz2⟩ := I.tuple hb
  have hsz : its.toArray.size = its2.toArray.size := by rw [List.size_toArray, List.size_toArray, ← r.length, ← r2.length]
  refine SeqAt.RcNeAt.tuples (e := fun _ => true) pl pl2 hu (fun j h1 h2 => pair_eqAt r r2 f j h1 h2) X.prog X.w _ _ ?_
  refine ⟨.bl false, H, I, ?_, q⟩
  show Value.bool _ = Value.bool false
  congr 1
  rw [hsz]
  simp
end
end L2

namespace Peg
abbrev Rack := List (Option Int)
/-- what hangs at peg i, counted on round the hall -/
def lk (r : Rack) (i : Int) : Option Int := r.getD (i % (r.length : Int)).toNat none

theorem lk_emod (r : Rack) (i : Int) : lk r (i % (r.length : Int)) = lk r i := by
  unfold lk; rw [Int.emod_emod]
theorem lk_congr {r : Rack} {i j : Int} (h : i % (r.length : Int) = j % (r.length : Int)) : lk r i = lk r j := by
  rw [← lk_emod r i, h, lk_emod]
theorem ix_lt {n : Nat} (h : 0 < n) (i : Int) : (i % (n : Int)).toNat < n := by
  have h1 := Int.emod_nonneg i (show (n : Int) ≠ 0 by omega)
  have h2 := Int.emod_lt_of_pos i (show (0 : Int) < n by omega)
  omega
theorem ix_cast {n : Nat} (h : 0 < n) (i : Int) : (((i % (n : Int)).toNat : Nat) : Int) = i % (n : Int) := by
  have h1 := Int.emod_nonneg i (show (n : Int) ≠ 0 by omega)
  omega
theorem get_ix {r : Rack} (h : 0 < r.length) (i : Int) : r[(i % (r.length : Int)).toNat]? = some (lk r i) := by
  have := ix_lt h i
  unfold lk
  rw [List.getD_eq_getElem?_getD, List.getElem?_eq_getElem this]; rfl
theorem lk_nat {r : Rack} {j : Nat} (h : j < r.length) : lk r (j : Int) = r.getD j none := by
  unfold lk
  have : ((j : Int) % (r.length : Int)).toNat = j := by
    rw [Int.emod_eq_of_lt (by omega) (by omega)]; omega
  rw [this]
theorem get_nat {r : Rack} {j : Nat} (h : j < r.length) : r[j]? = some (lk r (j : Int)) := by
  rw [lk_nat h, List.getD_eq_getElem?_getD, List.getElem?_eq_getElem h]; rfl
theorem ext_lk {r r' : Rack} (hl : r.length = r'.length) (h : ∀ i, lk r i = lk r' i) : r = r' := by
  refine List.ext_getElem? fun j => ?_
  by_cases hj : j < r.length
  · rw [get_nat hj, get_nat (hl ▸ hj), h]
  · rw [List.getElem?_eq_none (by omega), List.getElem?_eq_none (by omega)]
def st (r : Rack) (i : Int) (v : Option Int) : Rack := r.set (i % (r.length : Int)).toNat v
theorem st_length (r : Rack) (i : Int) (v : Option Int) : (st r i v).length = r.length := by unfold st; simp
theorem lk_st {r : Rack} (h : 0 < r.length) (i : Int) (v : Option Int) (j : Int) :
    lk (st r i v) j = if j % (r.length : Int) = i % (r.length : Int) then v else lk r j := by
  unfold lk
  rw [st_length]
  unfold st
  have h1 := ix_cast h i
  have h2 := ix_cast h j
  have h3 := ix_lt h i
  rw [List.getD_eq_getElem?_getD, List.getElem?_set]
  by_cases e : j % (r.length : Int) = i % (r.length : Int)
  · rw [if_pos e, e, if_pos rfl, if_pos h3]; rfl
  · rw [if_neg e, if_neg (by omega), List.getD_eq_getElem?_getD]
theorem lk_st_same {r : Rack} (h : 0 < r.length) (i : Int) (v : Option Int) : lk (st r i v) i = v := by rw [lk_st h, if_pos rfl]
theorem lk_st_eq {r : Rack} (h : 0 < r.length) {i j : Int} (v : Option Int) (e : j % (r.length : Int) = i % (r.length : Int)) : lk (st r i v) j = v := by rw [lk_st h, if_pos e]
theorem lk_st_ne {r : Rack} (h : 0 < r.length) {i j : Int} (v : Option Int) (e : j % (r.length : Int) ≠ i % (r.length : Int)) : lk (st r i v) j = lk r j := by rw [lk_st h, if_neg e]
theorem st_emod (r : Rack) (i : Int) (v : Option Int) : st r (i % (r.length : Int)) v = st r i v := by unfold st; rw [Int.emod_emod]

/-! the first free peg from p on -/
structure IsFar (r : Rack) (p : Int) (d : Nat) : Prop where
  tk : ∀ e : Nat, e < d → lk r (p + e) ≠ none
  fr : lk r (p + d) = none
theorem IsFar.uniq {r : Rack} {p : Int} {d d' : Nat} (h : IsFar r p d) (h' : IsFar r p d') : d = d' := by
  rcases Nat.lt_trichotomy d d' with q | q | q
  · exact absurd h.fr (h'.tk _ q)
  · exact q
  · exact absurd h'.fr (h.tk _ q)
def farK (r : Rack) : Int → Nat → Nat
  | _, 0 => 0
  | p, k + 1 => if lk r p = none then 0 else farK r (p + 1) k + 1
theorem farK_tk (r : Rack) : ∀ (k : Nat) (p : Int) (e : Nat), e < farK r p k → lk r (p + e) ≠ none := by
  intro k
  induction k with
  | zero => intro p e h; exact absurd h (Nat.not_lt_zero _)
  | succ k ih =>
    intro p e h
    unfold farK at h
    by_cases q : lk r p = none
    · rw [if_pos q] at h; exact absurd h (Nat.not_lt_zero _)
    · rw [if_neg q] at h
      cases e with
      | zero => simpa using q
      | succ e =>
        have := ih (p + 1) e (by omega)
        have e1 : p + 1 + (e : Int) = p + ((e + 1 : Nat) : Int) := by omega
        rw [e1] at this; exact this
theorem farK_fr (r : Rack) : ∀ (k : Nat) (p : Int) (e : Nat), e < k → lk r (p + e) = none → lk r (p + (farK r p k : Nat)) = none := by
  intro k
  induction k with
  | zero => intro p e h; exact absurd h (Nat.not_lt_zero _)
  | succ k ih =>
    intro p e h hn
    unfold farK
    by_cases q : lk r p = none
    · rw [if_pos q]; simpa using q
    · rw [if_neg q]
      cases e with
      | zero => simp at hn; exact absurd hn q
      | succ e =>
        have e1 : p + 1 + (e : Int) = p + ((e + 1 : Nat) : Int) := by omega
        have := ih (p + 1) e (by omega) (by rw [e1]; exact hn)
        have e2 : p + ((farK r (p + 1) k + 1 : Nat) : Int) = p + 1 + (farK r (p + 1) k : Nat) := by omega
        rw [e2]; exact this
def far (r : Rack) (p : Int) : Nat := farK r p r.length
/-- some peg is free -/
def Free (r : Rack) : Prop := 0 < r.length ∧ ∃ i, lk r i = none
theorem way_ex {n : Nat} (h : 0 < n) (p i : Int) : ∃ e : Nat, e < n ∧ (p + e) % (n : Int) = i % (n : Int) := by
  refine ⟨((i - p) % (n : Int)).toNat, ix_lt h _, ?_⟩
  rw [ix_cast h, Int.add_emod_emod]
  congr 1; omega
theorem far_is {r : Rack} (h : Free r) (p : Int) : IsFar r p (far r p) := by
  obtain ⟨h0, i, hi⟩ := h
  obtain ⟨e, he, hp⟩ := way_ex h0 p i
  exact ⟨farK_tk r _ p, farK_fr r _ p e he (by rw [lk_congr hp]; exact hi)⟩
theorem IsFar.lt {r : Rack} {p : Int} {d : Nat} (h : IsFar r p d) (h0 : Free r) : d < r.length := by
  obtain ⟨h0, i, hi⟩ := h0
  obtain ⟨e, he, hp⟩ := way_ex h0 p i
  refine Nat.lt_of_le_of_lt ?_ he
  refine Nat.le_of_not_lt fun q => h.tk e q (by rw [lk_congr hp]; exact hi)
theorem IsFar.congr {r : Rack} {p q : Int} {d : Nat} (h : IsFar r p d) (e : p % (r.length : Int) = q % (r.length : Int)) : IsFar r q d := by
  have k : ∀ x : Int, (q + x) % (r.length : Int) = (p + x) % (r.length : Int) := fun x => by
    rw [Int.add_emod q x, ← e, ← Int.add_emod]
  exact ⟨fun i hi => by rw [lk_congr (k i)]; exact h.tk i hi, by rw [lk_congr (k d)]; exact h.fr⟩
/-- a coat is hung -/
def put (r : Rack) (c : Int) : Rack := st r (c + far r c) (some c)
theorem put_length (r : Rack) (c : Int) : (put r c).length = r.length := st_length ..
theorem put_of {r : Rack} {c : Int} {d : Nat} (h : Free r) (hd : IsFar r c d) : put r c = st r (c + d) (some c) := by
  unfold put; rw [(far_is h c).uniq hd]

/-! a sound rack -/
structure Sound (r : Rack) : Prop where
  free : Free r
  uniq : ∀ i j c, lk r i = some c → lk r j = some c → i % (r.length : Int) = j % (r.length : Int)
  walk : ∀ i c, lk r i = some c → ∀ e : Nat, (e : Int) < (i - c) % (r.length : Int) → lk r (c + e) ≠ none
def Hangs (r : Rack) (c : Int) : Prop := ∃ i, lk r i = some c
theorem Sound.pos {r : Rack} (h : Sound r) : 0 < r.length := h.free.1
/-- the way of a coat that hangs -/
theorem way_at {n : Nat} (h : 0 < n) (i c : Int) : ∃ w : Nat, w < n ∧ (w : Int) = (i - c) % (n : Int) ∧ (c + w) % (n : Int) = i % (n : Int) := by
  refine ⟨((i - c) % (n : Int)).toNat, ix_lt h _, ix_cast h _, ?_⟩
  rw [ix_cast h, Int.add_emod_emod]
  congr 1; omega
/-- two steps from a peg, within a round, are one where they end on one peg -/
theorem step_inj {n : Nat} {c : Int} {d e : Nat} (hd : d < n) (he : e < n) (h : (c + d) % (n : Int) = (c + e) % (n : Int)) : d = e := by
  have h1 := Int.emod_emod_of_dvd
  have : ((c + d) - (c + e)) % (n : Int) = 0 := Int.emod_eq_emod_iff_emod_sub_eq_zero.mp h
  have h2 : ((d : Int) - e) % (n : Int) = 0 := by rw [← this]; congr 1; omega
  have h3 : (n : Int) ∣ (d : Int) - e := Int.dvd_of_emod_eq_zero h2
  obtain ⟨k, hk⟩ := h3
  have : k = 0 := by
    rcases Int.lt_trichotomy k 0 with q | q | q
    · have : (n : Int) * k ≤ (n : Int) * (-1) := Int.mul_le_mul_of_nonneg_left (by omega) (by omega)
      omega
    · exact q
    · have : (n : Int) * 1 ≤ (n : Int) * k := Int.mul_le_mul_of_nonneg_left (by omega) (by omega)
      omega
  subst this
  omega
/-- putting a new coat keeps a rack sound where another peg stays free -/
theorem put_sound {r : Rack} (h : Sound r) {c : Int} (hc : ¬ Hangs r c) (h2 : ∃ i, lk (put r c) i = none) : Sound (put r c) := by
  have h0 := h.pos
  have F := far_is h.free c
  have hl : (put r c).length = r.length := put_length r c
  have key : ∀ j, lk (put r c) j = if j % (r.length : Int) = (c + far r c) % (r.length : Int) then some c else lk r j := fun j => lk_st h0 _ _ j
  refine ⟨⟨by rw [hl]; exact h0, h2⟩, ?_, ?_⟩
  · intro i j x hi hj
    rw [hl]
    rw [key] at hi hj
    by_cases ei : i % (r.length : Int) = (c + far r c) % (r.length : Int)
    · rw [if_pos ei] at hi
      by_cases ej : j % (r.length : Int) = (c + far r c) % (r.length : Int)
      · rw [ei, ej]
      · rw [if_neg ej] at hj
        cases hi
        exact absurd ⟨j, hj⟩ hc
    · rw [if_neg ei] at hi
      by_cases ej : j % (r.length : Int) = (c + far r c) % (r.length : Int)
      · rw [if_pos ej] at hj
        cases hj
        exact absurd ⟨i, hi⟩ hc
      · rw [if_neg ej] at hj
        exact h.uniq i j x hi hj
  · intro i x hi e he
    rw [hl] at he
    rw [key]
    rw [key] at hi
    by_cases ee : (x + e) % (r.length : Int) = (c + far r c) % (r.length : Int)
    · rw [if_pos ee]; simp
    · rw [if_neg ee]
      by_cases ei : i % (r.length : Int) = (c + far r c) % (r.length : Int)
      · rw [if_pos ei] at hi
        cases hi
        refine F.tk e ?_
        -- (i - c) % n = far
        have hf := F.lt h.free
        have : (i - c) % (r.length : Int) = far r c := by
          rw [Int.sub_emod, ei, ← Int.sub_emod]
          have : c + (far r c : Int) - c = far r c := by omega
          rw [this]
          exact Int.emod_eq_of_lt (by omega) (by omega)
        omega
      · rw [if_neg ei] at hi
        exact h.walk i x hi e he
/-! taking -/
/-- from i on m pegs are cleared -/
def clr (r : Rack) (i : Int) : Nat → Rack
  | 0 => r
  | m + 1 => st (clr r i m) (i + m) none
theorem clr_length (r : Rack) (i : Int) : ∀ m, (clr r i m).length = r.length
  | 0 => rfl
  | m + 1 => by unfold clr; rw [st_length, clr_length r i m]
theorem lk_clr {r : Rack} (h : 0 < r.length) (i j : Int) : ∀ m : Nat, (∃ k : Nat, k < m ∧ j % (r.length : Int) = (i + k) % (r.length : Int)) → lk (clr r i m) j = none
  | 0, ⟨k, hk, _⟩ => absurd hk (Nat.not_lt_zero _)
  | m + 1, ⟨k, hk, e⟩ => by
    unfold clr
    rw [lk_st (by rw [clr_length]; exact h), clr_length]
    by_cases q : j % (r.length : Int) = (i + m) % (r.length : Int)
    · rw [if_pos q]
    · rw [if_neg q]
      refine lk_clr h i j m ⟨k, ?_, e⟩
      rcases Nat.lt_or_ge k m with z | z
      · exact z
      · have : k = m := by omega
        subst this; exact absurd e q
theorem lk_clr_out {r : Rack} (h : 0 < r.length) (i j : Int) : ∀ m : Nat, (∀ k : Nat, k < m → j % (r.length : Int) ≠ (i + k) % (r.length : Int)) → lk (clr r i m) j = lk r j
  | 0, _ => rfl
  | m + 1, hk => by
    unfold clr
    rw [lk_st (by rw [clr_length]; exact h), clr_length, if_neg (hk m (Nat.lt_succ_self _))]
    exact lk_clr_out h i j m fun k z => hk k (Nat.lt_succ_of_lt z)
/-- the coat at i + e -/
def coat (r : Rack) (i : Int) (e : Nat) : Int := (lk r (i + e)).getD 0
theorem coat_of {r : Rack} {i : Int} {e : Nat} (h : lk r (i + e) ≠ none) : lk r (i + e) = some (coat r i e) := by
  unfold coat
  cases q : lk r (i + e) with
  | none => exact absurd q h
  | some x => rfl
/-- the coats of the run -/
def run (r : Rack) (i : Int) (m : Nat) : List Int := (List.range m).map (coat r i)
theorem run_length (r : Rack) (i : Int) (m : Nat) : (run r i m).length = m := by unfold run; simp
/-- the law's way: the whole run off, then hung anew -/
def lawL (r : Rack) (i : Int) (m : Nat) : Nat → Rack
  | 0 => clr r i m
  | j + 1 => put (lawL r i m j) (coat r i (j + 1))
theorem lawL_length (r : Rack) (i : Int) (m : Nat) : ∀ j, (lawL r i m j).length = r.length
  | 0 => clr_length ..
  | j + 1 => by unfold lawL; rw [put_length, lawL_length r i m j]
/-- the program's way: one by one -/
def proR (r : Rack) (i : Int) : Nat → Rack
  | 0 => st r i none
  | j + 1 => put (st (proR r i j) (i + (j + 1 : Nat)) none) (coat r i (j + 1))
theorem proR_length (r : Rack) (i : Int) : ∀ j, (proR r i j).length = r.length
  | 0 => st_length ..
  | j + 1 => by unfold proR; rw [put_length, st_length, proR_length r i j]
structure Rel (r : Rack) (i : Int) (m j : Nat) : Prop where
  later : ∀ k : Nat, j < k → k < m → lk (proR r i j) (i + k) = lk r (i + k) ∧ lk (lawL r i m j) (i + k) = none
  else_ : ∀ q : Int, (∀ k : Nat, j < k → k < m → q % (r.length : Int) ≠ (i + k) % (r.length : Int)) → lk (proR r i j) q = lk (lawL r i m j) q
  end_ : lk (proR r i j) (i + m) = none
/-- a later peg of the run, and its end, lie not on the way of a coat of the run -/
theorem off_way {r : Rack} (S : Sound r) {i : Int} {m : Nat} (M : IsFar r i m) {j k e : Nat} {c : Int} (hj : j < m) (hc : lk r (i + j) = some c) (hk : j < k) (hkm : k ≤ m)
    (he : (e : Int) ≤ (i + j - c) % (r.length : Int)) : (c + e) % (r.length : Int) ≠ (i + k) % (r.length : Int) := by
  have h0 := S.pos
  have hm := M.lt S.free
  intro q
  obtain ⟨w, hw, ew, cw⟩ := way_at h0 (i + j) c
  -- c + e = i + k, c + w = i + j (round): so from c + e it is m - k on to the end, and that is ahead of c + w
  have hew : e ≤ w := by omega
  -- e + (m - k) < w : else
  have fe : lk r (c + (e + (m - k) : Nat)) = none := by
    have : (c + ((e + (m - k) : Nat) : Int)) % (r.length : Int) = (i + m) % (r.length : Int) := by
      have e1 : c + ((e + (m - k) : Nat) : Int) = (c + e) + ((m - k : Nat) : Int) := by omega
      have e2 : i + (m : Int) = (i + k) + ((m - k : Nat) : Int) := by omega
      rw [e1, e2, Int.add_emod, q, ← Int.add_emod]
    rw [lk_congr this]; exact M.fr
  rcases Nat.lt_or_ge (e + (m - k)) w with z | z
  · exact S.walk (i + j) c hc _ (by rw [← ew]; omega) fe
  · -- then w is within e .. e + (m - k): so i + j is i + k + (w - e) with w - e ≤ m - k
    have e3 : (c + (w : Int)) % (r.length : Int) = (i + ((k + (w - e) : Nat) : Int)) % (r.length : Int) := by
      have e1 : c + (w : Int) = (c + e) + ((w - e : Nat) : Int) := by omega
      have e2 : i + ((k + (w - e) : Nat) : Int) = (i + k) + ((w - e : Nat) : Int) := by omega
      rw [e1, e2, Int.add_emod, q, ← Int.add_emod]
    rw [cw] at e3
    have := step_inj (n := r.length) (c := i) (d := j) (e := k + (w - e)) (by omega) (by omega) e3
    omega
theorem add_emod_left {n : Int} {a b : Int} (h : a % n = b % n) (x : Int) : (a + x) % n = (b + x) % n := by
  rw [Int.add_emod, h, ← Int.add_emod]
theorem rel_zero {r : Rack} (S : Sound r) {i : Int} {m : Nat} (M : IsFar r i m) (h1 : 0 < m) : Rel r i m 0 := by
  have h0 := S.pos
  have hm := M.lt S.free
  refine ⟨fun k hk hkm => ⟨?_, ?_⟩, fun q hq => ?_, ?_⟩
  · unfold proR
    refine lk_st_ne h0 _ fun z => ?_
    have z' : (i + ((k : Nat) : Int)) % (r.length : Int) = (i + ((0 : Nat) : Int)) % (r.length : Int) := by simpa using z
    have := step_inj (by omega) (by omega) z'
    omega
  · exact lk_clr h0 _ _ _ ⟨k, hkm, rfl⟩
  · unfold proR
    unfold lawL
    rw [lk_st h0]
    by_cases z : q % (r.length : Int) = i % (r.length : Int)
    · rw [if_pos z, lk_clr h0 i q m ⟨0, h1, by simpa using z⟩]
    · rw [if_neg z, lk_clr_out h0 i q m fun k hk => ?_]
      cases k with
      | zero => simpa using z
      | succ k => exact hq _ (by omega) hk
  · unfold proR
    rw [lk_st_ne h0 _ fun z => ?_]
    · exact M.fr
    · have z' : (i + ((m : Nat) : Int)) % (r.length : Int) = (i + ((0 : Nat) : Int)) % (r.length : Int) := by simpa using z
      have := step_inj (by omega) (by omega) z'
      omega
theorem rel_next {r : Rack} (S : Sound r) {i : Int} {m : Nat} (M : IsFar r i m) {j : Nat} (hj : j + 1 < m) (R : Rel r i m j) : Rel r i m (j + 1) := by
  have h0 := S.pos
  have hm := M.lt S.free
  have lp : (proR r i j).length = r.length := proR_length ..
  have ll : (lawL r i m j).length = r.length := lawL_length ..
  have hc := coat_of (M.tk (j + 1) hj)
  obtain ⟨w, hw, ew, cw⟩ := way_at h0 (i + ((j + 1 : Nat) : Int)) (coat r i (j + 1))
  have n0 : 0 < (st (proR r i j) (i + ((j + 1 : Nat) : Int)) none).length := by rw [st_length, lp]; exact h0
  have ls : (st (proR r i j) (i + ((j + 1 : Nat) : Int)) none).length = r.length := by rw [st_length, lp]
  -- the old peg is free in both
  have f1 : lk (st (proR r i j) (i + ((j + 1 : Nat) : Int)) none) (coat r i (j + 1) + w) = none :=
    lk_st_eq (by rw [lp]; exact h0) _ (by rw [lp]; exact cw)
  have f2 : lk (lawL r i m j) (coat r i (j + 1) + w) = none := by
    rw [lk_congr (j := i + ((j + 1 : Nat) : Int)) (by rw [ll]; exact cw)]
    exact (R.later (j + 1) (Nat.lt_succ_self _) hj).2
  have F1 : Free (st (proR r i j) (i + ((j + 1 : Nat) : Int)) none) := ⟨n0, _, f1⟩
  have F2 : Free (lawL r i m j) := ⟨by rw [ll]; exact h0, _, f2⟩
  have D1 := far_is F1 (coat r i (j + 1))
  have d1 : far (st (proR r i j) (i + ((j + 1 : Nat) : Int)) none) (coat r i (j + 1)) ≤ w := by
    refine Nat.le_of_not_lt fun z => ?_
    exact D1.tk w z f1
  -- on the way both agree
  have agree : ∀ e : Nat, e ≤ w → lk (st (proR r i j) (i + ((j + 1 : Nat) : Int)) none) (coat r i (j + 1) + e) = lk (lawL r i m j) (coat r i (j + 1) + e) := by
    intro e he
    have out : ∀ k : Nat, j + 1 < k → k ≤ m → (coat r i (j + 1) + e) % (r.length : Int) ≠ (i + k) % (r.length : Int) := fun k hk hkm =>
      off_way S M hj hc hk hkm (by rw [← ew]; omega)
    rw [lk_st (by rw [lp]; exact h0), lp]
    by_cases z : (coat r i (j + 1) + e) % (r.length : Int) = (i + ((j + 1 : Nat) : Int)) % (r.length : Int)
    · rw [if_pos z, lk_congr (r := lawL r i m j) (j := i + ((j + 1 : Nat) : Int)) (by rw [ll]; exact z)]
      exact (R.later (j + 1) (Nat.lt_succ_self _) hj).2.symm
    · rw [if_neg z]
      refine R.else_ _ fun k hk hkm => ?_
      rcases Nat.lt_or_ge (j + 1) k with y | y
      · exact out k y (Nat.le_of_lt hkm)
      · have : k = j + 1 := by omega
        subst this; exact z
  have D2 : IsFar (lawL r i m j) (coat r i (j + 1)) (far (st (proR r i j) (i + ((j + 1 : Nat) : Int)) none) (coat r i (j + 1))) :=
    ⟨fun e he => by rw [← agree e (by omega)]; exact D1.tk e he, by rw [← agree _ d1]; exact D1.fr⟩
  generalize hd : far (st (proR r i j) (i + ((j + 1 : Nat) : Int)) none) (coat r i (j + 1)) = d at D1 D2 d1
  have P1 : proR r i (j + 1) = st (st (proR r i j) (i + ((j + 1 : Nat) : Int)) none) (coat r i (j + 1) + d) (some (coat r i (j + 1))) := put_of F1 D1
  have P2 : lawL r i m (j + 1) = st (lawL r i m j) (coat r i (j + 1) + d) (some (coat r i (j + 1))) := put_of F2 D2
  have out : ∀ k : Nat, j + 1 < k → k ≤ m → (i + k) % (r.length : Int) ≠ (coat r i (j + 1) + d) % (r.length : Int) := fun k hk hkm z =>
    off_way S M hj hc hk hkm (e := d) (by rw [← ew]; omega) z.symm
  have out1 : ∀ k : Nat, j + 1 < k → k ≤ m → (i + k) % (r.length : Int) ≠ (i + ((j + 1 : Nat) : Int)) % (r.length : Int) := fun k hk hkm z => by
    have := step_inj (by omega) (by omega) z
    omega
  refine ⟨fun k hk hkm => ⟨?_, ?_⟩, fun q hq => ?_, ?_⟩
  · rw [P1, lk_st_ne n0 _ (by rw [ls]; exact out k hk (Nat.le_of_lt hkm)), lk_st_ne (by rw [lp]; exact h0) _ (by rw [lp]; exact out1 k hk (Nat.le_of_lt hkm))]
    exact (R.later k (by omega) hkm).1
  · rw [P2, lk_st_ne (by rw [ll]; exact h0) _ (by rw [ll]; exact out k hk (Nat.le_of_lt hkm))]
    exact (R.later k (by omega) hkm).2
  · rw [P1, P2, lk_st n0, lk_st (r := lawL r i m j) (by rw [ll]; exact h0), ls, ll]
    by_cases z : q % (r.length : Int) = (coat r i (j + 1) + d) % (r.length : Int)
    · rw [if_pos z, if_pos z]
    · rw [if_neg z, if_neg z, lk_st (by rw [lp]; exact h0), lp]
      by_cases y : q % (r.length : Int) = (i + ((j + 1 : Nat) : Int)) % (r.length : Int)
      · rw [if_pos y, lk_congr (r := lawL r i m j) (j := i + ((j + 1 : Nat) : Int)) (by rw [ll]; exact y)]
        exact (R.later (j + 1) (Nat.lt_succ_self _) hj).2.symm
      · rw [if_neg y]
        refine R.else_ q fun k hk hkm => ?_
        rcases Nat.lt_or_ge (j + 1) k with x | x
        · exact hq k x hkm
        · have : k = j + 1 := by omega
          subst this; exact y
  · rw [P1, lk_st_ne n0 _ (by rw [ls]; exact out m hj (Nat.le_refl _)), lk_st_ne (by rw [lp]; exact h0) _ (by rw [lp]; exact out1 m hj (Nat.le_refl _))]
    exact R.end_
theorem rel_all {r : Rack} (S : Sound r) {i : Int} {m : Nat} (M : IsFar r i m) (h1 : 0 < m) : ∀ j, j < m → Rel r i m j
  | 0, _ => rel_zero S M h1
  | j + 1, h => rel_next S M h (rel_all S M h1 j (Nat.lt_of_succ_lt h))
/-- both ways end at one rack -/
theorem pro_law {r : Rack} (S : Sound r) {i : Int} {m : Nat} (M : IsFar r i m) (h1 : 0 < m) : proR r i (m - 1) = lawL r i m (m - 1) := by
  have R := rel_all S M h1 (m - 1) (by omega)
  exact ext_lk (by rw [proR_length, lawL_length]) fun q => R.else_ q fun k h1 h2 => by omega
/-- the rack behind a taking of the coat at i -/
def take (r : Rack) (i : Int) : Rack := lawL r i (far r i) (far r i - 1)
theorem take_length (r : Rack) (i : Int) : (take r i).length = r.length := lawL_length ..
/-- lawL by a fold -/
theorem lawL_fold (r : Rack) (i : Int) (m : Nat) : ∀ j, lawL r i m j = ((List.range j).map fun e => coat r i (e + 1)).foldl put (clr r i m)
  | 0 => rfl
  | j + 1 => by
    rw [List.range_succ, List.map_append, List.foldl_append, ← lawL_fold r i m j]
    rfl
/-! the coats of a rack -/
def coats (r : Rack) : List Int := r.filterMap id
theorem mem_coats {r : Rack} {c : Int} : c ∈ coats r ↔ Hangs r c := by
  unfold coats Hangs
  rw [List.mem_filterMap]
  constructor
  · rintro ⟨a, ha, e⟩
    cases e
    obtain ⟨j, hj, e⟩ := List.getElem_of_mem ha
    refine ⟨(j : Int), ?_⟩
    rw [lk_nat hj, List.getD_eq_getElem?_getD, List.getElem?_eq_getElem hj, e]; rfl
  · rintro ⟨i, hi⟩
    have h0 : 0 < r.length := by
      cases r with
      | nil => simp [lk] at hi
      | cons a r => simp
    have := get_ix h0 i
    rw [hi] at this
    exact ⟨some c, List.mem_of_getElem? this, rfl⟩
theorem coats_nodup {r : Rack} (S : Sound r) : (coats r).Nodup := by
  unfold coats List.Nodup
  rw [List.pairwise_filterMap, List.pairwise_iff_getElem]
  intro i j hi hj hij b hb b' hb' e
  subst e
  have h1 : lk r (i : Int) = some b := by rw [lk_nat hi, List.getD_eq_getElem?_getD, List.getElem?_eq_getElem hi]; exact hb
  have h2 : lk r (j : Int) = some b := by rw [lk_nat hj, List.getD_eq_getElem?_getD, List.getElem?_eq_getElem hj]; exact hb'
  have := S.uniq _ _ _ h1 h2
  rw [Int.emod_eq_of_lt (by omega) (by omega), Int.emod_eq_of_lt (by omega) (by omega)] at this
  omega
theorem perm_of {xs ys : List Int} (hx : xs.Nodup) (hy : ys.Nodup) (h : ∀ c, c ∈ xs ↔ c ∈ ys) : xs.Perm ys := by
  rw [List.perm_iff_count]
  intro a
  rw [hx.count, hy.count]
  simp [h a]
theorem coats_free {r : Rack} (h : (coats r).length < r.length) : ∃ i, lk r i = none := by
  have : ∃ a ∈ r, a = none := by
    refine Classical.byContradiction fun q => ?_
    have : ∀ a ∈ r, (id a).isSome := fun a ha => by
      cases a with
      | none => exact absurd ⟨none, ha, rfl⟩ q
      | some x => rfl
    have : (coats r).length = r.length := by
      unfold coats
      clear q h
      induction r with
      | nil => rfl
      | cons a r ih =>
        have h1 := this a List.mem_cons_self
        cases a with
        | none => cases h1
        | some x =>
          rw [List.filterMap_cons]
          show (x :: List.filterMap id r).length = _
          rw [List.length_cons, List.length_cons, ih fun b hb => this b (List.mem_cons_of_mem _ hb)]
    omega
  obtain ⟨a, ha, rfl⟩ := this
  obtain ⟨j, hj, e⟩ := List.getElem_of_mem ha
  refine ⟨(j : Int), ?_⟩
  rw [lk_nat hj, List.getD_eq_getElem?_getD, List.getElem?_eq_getElem hj, e]; rfl
theorem free_coats {r : Rack} (h : Free r) : (coats r).length < r.length := by
  obtain ⟨h0, i, hi⟩ := h
  have hm : none ∈ r := List.mem_of_getElem? (hi ▸ get_ix h0 i)
  unfold coats
  clear h0 hi
  induction r with
  | nil => cases hm
  | cons a r ih =>
    rw [List.filterMap_cons]
    cases a with
    | none =>
      show (List.filterMap id r).length < _
      have := List.length_filterMap_le id r
      rw [List.length_cons]; omega
    | some x =>
      show (x :: List.filterMap id r).length < _
      have := ih (by simpa using hm)
      rw [List.length_cons, List.length_cons]; omega
theorem st_split {r : Rack} (h : 0 < r.length) (i : Int) (v : Option Int) : ∃ a b, r = a ++ lk r i :: b ∧ st r i v = a ++ v :: b := by
  have hi := ix_lt h i
  refine ⟨r.take (i % (r.length : Int)).toNat, r.drop ((i % (r.length : Int)).toNat + 1), ?_, ?_⟩
  · have e : lk r i = r[(i % (r.length : Int)).toNat] := by
      have := get_ix h i
      rw [List.getElem?_eq_getElem hi] at this
      exact (Option.some.inj this).symm
    rw [e, List.getElem_cons_drop, List.take_append_drop]
  · unfold st
    rw [List.set_eq_take_append_cons_drop, if_pos hi]
theorem coats_some {r : Rack} (h : 0 < r.length) {i : Int} (e : lk r i = none) (c : Int) : (coats (st r i (some c))).length = (coats r).length + 1 := by
  obtain ⟨a, b, h1, h2⟩ := st_split h i (some c)
  rw [h2]
  rw [e] at h1
  rw [h1]
  unfold coats
  simp [List.filterMap_append, List.filterMap_cons]
  omega
theorem coats_none {r : Rack} (h : 0 < r.length) {i c : Int} (e : lk r i = some c) : (coats (st r i none)).length + 1 = (coats r).length := by
  obtain ⟨a, b, h1, h2⟩ := st_split h i none
  rw [h2]
  rw [e] at h1
  rw [h1]
  unfold coats
  simp [List.filterMap_append, List.filterMap_cons]
  omega
theorem coats_put {r : Rack} (h : Free r) (c : Int) : (coats (put r c)).length = (coats r).length + 1 := coats_some h.1 (far_is h c).fr c
theorem hangs_put {r : Rack} (h : Free r) (c x : Int) : Hangs (put r c) x ↔ Hangs r x ∨ x = c := by
  have F := far_is h c
  constructor
  · rintro ⟨i, hi⟩
    unfold put at hi
    rw [lk_st h.1] at hi
    by_cases q : i % (r.length : Int) = (c + far r c) % (r.length : Int)
    · rw [if_pos q] at hi; cases hi; exact .inr rfl
    · rw [if_neg q] at hi; exact .inl ⟨i, hi⟩
  · rintro (⟨i, hi⟩ | rfl)
    · refine ⟨i, ?_⟩
      unfold put
      rw [lk_st_ne h.1 _ fun q => ?_]
      · exact hi
      · rw [lk_congr q] at hi; rw [F.fr] at hi; cases hi
    · exact ⟨_, lk_st_same h.1 _ _⟩
theorem fold_sound : ∀ (cs : List Int) (r : Rack), Sound r → cs.Nodup → (∀ c ∈ cs, ¬ Hangs r c) → (coats r).length + cs.length < r.length →
    Sound (cs.foldl put r) ∧ (∀ c, Hangs (cs.foldl put r) c ↔ Hangs r c ∨ c ∈ cs) ∧ (cs.foldl put r).length = r.length
  | [], r, S, _, _, _ => ⟨S, fun c => by simp, rfl⟩
  | x :: cs, r, S, hn, hc, hl => by
    rw [List.nodup_cons] at hn
    have hx := hc x List.mem_cons_self
    rw [List.length_cons] at hl
    have e := coats_put S.free x
    have S' : Sound (put r x) := put_sound S hx (coats_free (by rw [put_length]; omega))
    obtain ⟨a, b, d⟩ := fold_sound cs (put r x) S' hn.2 (fun c hm hh => by
      rcases (hangs_put S.free x c).mp hh with z | z
      · exact hc c (List.mem_cons_of_mem _ hm) z
      · subst z; exact hn.1 hm) (by rw [put_length]; omega)
    refine ⟨a, fun c => ?_, d.trans (put_length ..)⟩
    rw [List.foldl_cons, b c, hangs_put S.free x c, List.mem_cons]
    constructor
    · rintro ((h | h) | h)
      · exact .inl h
      · exact .inr (.inl h)
      · exact .inr (.inr h)
    · rintro (h | h | h)
      · exact .inl (.inl h)
      · exact .inl (.inr h)
      · exact .inr h
/-- a rack without coats -/
def empty (n : Nat) : Rack := List.replicate n none
theorem lk_empty (n : Nat) (i : Int) : lk (empty n) i = none := by
  unfold lk empty
  rw [List.getD_eq_getElem?_getD, List.getElem?_replicate]
  split <;> rfl
theorem empty_sound {n : Nat} (h : 0 < n) : Sound (empty n) :=
  ⟨⟨by unfold empty; simpa using h, 0, lk_empty n 0⟩, fun i j c e => absurd e (by rw [lk_empty]; simp), fun i c e => absurd e (by rw [lk_empty]; simp)⟩
theorem coats_empty (n : Nat) : coats (empty n) = [] := by
  unfold coats empty
  induction n with
  | zero => rfl
  | succ n ih => rw [List.replicate_succ, List.filterMap_cons]; exact ih
theorem empty_length (n : Nat) : (empty n).length = n := by unfold empty; simp
/-- a rack is changed -/
def change (r : Rack) (n : Nat) : Rack := (coats r).foldl put (empty n)
theorem change_sound {r : Rack} (S : Sound r) {n : Nat} (h : (coats r).length < n) : Sound (change r n) ∧ (∀ c, Hangs (change r n) c ↔ Hangs r c) ∧ (change r n).length = n := by
  obtain ⟨a, b, d⟩ := fold_sound (coats r) (empty n) (empty_sound (by omega)) (coats_nodup S) (fun c _ ⟨i, e⟩ => by rw [lk_empty] at e; cases e) (by rw [coats_empty, empty_length]; simpa using h)
  refine ⟨a, fun c => ?_, d.trans (empty_length n)⟩
  unfold change
  rw [b c, mem_coats]
  constructor
  · rintro (⟨i, e⟩ | e)
    · rw [lk_empty] at e; cases e
    · exact e
  · exact .inr
/-! taking keeps a rack sound -/
theorem clr_coats {r : Rack} (h0 : 0 < r.length) {i : Int} : ∀ {m : Nat}, m ≤ r.length → (∀ e : Nat, e < m → lk r (i + e) ≠ none) → (coats (clr r i m)).length + m = (coats r).length
  | 0, _, _ => rfl
  | m + 1, hm, ht => by
    have ih := clr_coats h0 (i := i) (m := m) (by omega) fun e he => ht e (by omega)
    have : lk (clr r i m) (i + m) = lk r (i + m) := lk_clr_out h0 _ _ _ fun k hk z => by
      have := step_inj (by omega) (by omega) z
      omega
    have c1 := coat_of (ht m (Nat.lt_succ_self _))
    have := coats_none (r := clr r i m) (by rw [clr_length]; exact h0) (this.trans c1)
    show (coats (st (clr r i m) (i + m) none)).length + (m + 1) = _
    omega
theorem clr_sound {r : Rack} (S : Sound r) {i : Int} {m : Nat} (M : IsFar r i m) : Sound (clr r i m) := by
  have h0 := S.pos
  have hm := M.lt S.free
  have sub : ∀ j c, lk (clr r i m) j = some c → lk r j = some c ∧ ∀ k : Nat, k < m → j % (r.length : Int) ≠ (i + k) % (r.length : Int) := fun j c h => by
    have out : ∀ k : Nat, k < m → j % (r.length : Int) ≠ (i + k) % (r.length : Int) := fun k hk z => by
      rw [lk_clr h0 i j m ⟨k, hk, z⟩] at h; cases h
    rw [lk_clr_out h0 i j m out] at h
    exact ⟨h, out⟩
  refine ⟨⟨by rw [clr_length]; exact h0, i + m, ?_⟩, ?_, ?_⟩
  · rw [lk_clr_out h0 _ _ _ fun k hk z => ?_]
    · exact M.fr
    · have := step_inj (by omega) (by omega) z
      omega
  · intro a b c ha hb
    rw [clr_length]
    exact S.uniq _ _ _ (sub _ _ ha).1 (sub _ _ hb).1
  · intro j c hj e he
    rw [clr_length] at he
    obtain ⟨h1, out⟩ := sub j c hj
    rw [lk_clr_out h0 _ _ _ fun k hk z => ?_]
    · exact S.walk j c h1 e he
    · -- c + e = i + k, in the run; on from there to j all pegs are taken, so the run's end is behind j: j lies in the run
      obtain ⟨w, hw, ew, cw⟩ := way_at h0 j c
      have fe : lk r (c + (e + (m - k) : Nat)) = none := by
        have : (c + ((e + (m - k) : Nat) : Int)) % (r.length : Int) = (i + m) % (r.length : Int) := by
          have e1 : c + ((e + (m - k) : Nat) : Int) = (c + e) + ((m - k : Nat) : Int) := by omega
          have e2 : i + (m : Int) = (i + k) + ((m - k : Nat) : Int) := by omega
          rw [e1, e2, Int.add_emod, z, ← Int.add_emod]
        rw [lk_congr this]; exact M.fr
      rcases Nat.lt_or_ge (e + (m - k)) w with y | y
      · exact S.walk j c h1 _ (by rw [← ew]; omega) fe
      · have e3 : (c + (w : Int)) % (r.length : Int) = (i + ((k + (w - e) : Nat) : Int)) % (r.length : Int) := by
          have e1 : c + (w : Int) = (c + e) + ((w - e : Nat) : Int) := by omega
          have e2 : i + ((k + (w - e) : Nat) : Int) = (i + k) + ((w - e : Nat) : Int) := by omega
          rw [e1, e2, Int.add_emod, z, ← Int.add_emod]
        rw [cw] at e3
        rcases Nat.lt_or_ge (k + (w - e)) m with x | x
        · exact out _ x e3
        · have : k + (w - e) = m := by omega
          rw [this] at e3
          rw [lk_congr e3, M.fr] at h1
          cases h1
theorem take_sound {r : Rack} (S : Sound r) {i c : Int} (hc : lk r i = some c) : Sound (take r i) ∧ (∀ x, Hangs (take r i) x ↔ Hangs r x ∧ x ≠ c) := by
  have h0 := S.pos
  have M := far_is S.free i
  have hm := M.lt S.free
  unfold take
  generalize far r i = m at M hm
  have h1 : 0 < m := by
    rcases Nat.eq_zero_or_pos m with z | z
    · subst z
      have := M.fr
      simp at this
      rw [hc] at this; cases this
    · exact z
  rw [lawL_fold]
  have inj : ∀ a b : Nat, a < m → b < m → coat r i a = coat r i b → a = b := fun a b ha hb e => by
    have c1 := coat_of (M.tk a ha)
    have c2 := coat_of (M.tk b hb)
    rw [e] at c1
    exact step_inj (by omega) (by omega) (S.uniq _ _ _ c1 c2)
  have hin : ∀ x, Hangs (clr r i m) x ↔ Hangs r x ∧ ∀ k : Nat, k < m → x ≠ coat r i k := fun x => by
    constructor
    · rintro ⟨j, hj⟩
      have out : ∀ k : Nat, k < m → j % (r.length : Int) ≠ (i + k) % (r.length : Int) := fun k hk z => by
        rw [lk_clr h0 i j m ⟨k, hk, z⟩] at hj; cases hj
      rw [lk_clr_out h0 i j m out] at hj
      refine ⟨⟨j, hj⟩, fun k hk e => ?_⟩
      subst e
      exact out k hk (S.uniq _ _ _ hj (coat_of (M.tk k hk)))
    · rintro ⟨⟨j, hj⟩, h⟩
      refine ⟨j, ?_⟩
      rw [lk_clr_out h0 i j m fun k hk z => ?_]
      · exact hj
      · refine h k hk ?_
        rw [lk_congr z, coat_of (M.tk k hk)] at hj
        exact (Option.some.inj hj).symm
  have c0 : coat r i 0 = c := by
    have := coat_of (M.tk 0 h1)
    simp at this
    rw [hc] at this
    exact (Option.some.inj this).symm
  have cl := clr_coats h0 (i := i) (m := m) (by omega) M.tk
  have fc := free_coats S.free
  obtain ⟨a, b, d⟩ := fold_sound ((List.range (m - 1)).map fun e => coat r i (e + 1)) (clr r i m) (clr_sound S M)
    (by
      unfold List.Nodup
      rw [List.pairwise_map]
      refine List.Pairwise.imp_of_mem ?_ (List.nodup_range (n := m - 1))
      intro x y hx hy hne e
      rw [List.mem_range] at hx hy
      have := inj (x + 1) (y + 1) (by omega) (by omega) e
      omega)
    (fun x hx hh => by
      rw [List.mem_map] at hx
      obtain ⟨k, hk, rfl⟩ := hx
      rw [List.mem_range] at hk
      exact ((hin _).mp hh).2 (k + 1) (by omega) rfl)
    (by rw [List.length_map, List.length_range, clr_length]; omega)
  refine ⟨a, fun x => ?_⟩
  rw [b x, hin x, List.mem_map]
  constructor
  · rintro (⟨h, k⟩ | ⟨k, hk, rfl⟩)
    · exact ⟨h, fun e => k 0 h1 (by rw [c0]; exact e)⟩
    · rw [List.mem_range] at hk
      refine ⟨⟨_, coat_of (M.tk (k + 1) (by omega))⟩, fun e => ?_⟩
      have := inj (k + 1) 0 (by omega) h1 (by rw [c0]; exact e)
      omega
  · rintro ⟨h, hne⟩
    by_cases q : ∃ k : Nat, k < m ∧ x = coat r i k
    · obtain ⟨k, hk, rfl⟩ := q
      cases k with
      | zero => exact absurd c0 hne
      | succ k => exact .inr ⟨k, List.mem_range.mpr (by omega), rfl⟩
    · exact .inl ⟨h, fun k hk e => q ⟨k, hk, e⟩⟩
theorem fold_free : ∀ (cs : List Int) (r : Rack), (coats r).length + cs.length < r.length → Free (cs.foldl put r) ∧ (coats (cs.foldl put r)).length = (coats r).length + cs.length ∧ (cs.foldl put r).length = r.length
  | [], r, h => ⟨⟨by show 0 < r.length; simp at h; omega, coats_free (by simpa using h)⟩, rfl, rfl⟩
  | c :: cs, r, h => by
    rw [List.length_cons] at h
    have hf : Free r := ⟨by omega, coats_free (by omega)⟩
    have e := coats_put hf c
    obtain ⟨a, b, d⟩ := fold_free cs (put r c) (by rw [put_length, e]; omega)
    refine ⟨a, ?_, d.trans (put_length ..)⟩
    rw [List.foldl_cons, b, e, List.length_cons]; omega
theorem coats_take {r : Rack} {i : Nat} {o : Option Int} (h : r[i]? = some o) : coats (r.take (i + 1)) = coats (r.take i) ++ o.toList := by
  unfold coats
  rw [List.take_add_one, h, List.filterMap_append]
  cases o <;> rfl
theorem coats_take_len (r : Rack) (i : Nat) : (coats (r.take i)).length ≤ (coats r).length := by
  have : coats r = coats (r.take i) ++ coats (r.drop i) := by
    unfold coats
    rw [← List.filterMap_append, List.take_append_drop]
  rw [this, List.length_append]; omega
theorem coats_le (r : Rack) : (coats r).length ≤ r.length := List.length_filterMap_le id r
theorem change_length {r : Rack} {n : Nat} (h : (coats r).length < n) : (change r n).length = n := by
  have := (fold_free (coats r) (empty n) (by rw [coats_empty, empty_length]; simpa using h)).2.2
  rw [empty_length] at this
  exact this
end Peg

namespace Peg
open PySem L2
/-! racks as lists of values -/
def oV : Option Int → V
  | none => .non
  | some i => .int i
def rk (r : Rack) : List V := r.map oV
theorem rk_length (r : Rack) : (rk r).length = r.length := by unfold rk; rw [List.length_map]
theorem ixN_emod {n : Nat} (h : 0 < n) (i : Int) : ixN n (i % (n : Int)) = some (i % (n : Int)).toNat := by
  have h1 := Int.emod_nonneg i (show (n : Int) ≠ 0 by omega)
  have h2 := Int.emod_lt_of_pos i (show (0 : Int) < n by omega)
  unfold ixN
  rw [if_pos h1, if_pos h2]
theorem atI_rk {r : Rack} (h : 0 < r.length) (i : Int) : atI (rk r) (i % (r.length : Int)) = some (oV (lk r i)) := by
  unfold atI
  rw [rk_length, ixN_emod h]
  show (rk r)[(i % (r.length : Int)).toNat]? = _
  unfold rk
  rw [List.getElem?_map, get_ix h]
  rfl
theorem ixN_rk {r : Rack} (h : 0 < r.length) (i : Int) : ixN (rk r).length (i % (r.length : Int)) = some (i % (r.length : Int)).toNat := by
  rw [rk_length]; exact ixN_emod h i
theorem set_rk (r : Rack) (i : Int) (v : Option Int) : (rk r).set (i % (r.length : Int)).toNat (oV v) = rk (st r i v) := by
  unfold rk st
  rw [List.map_set]
theorem oV_non {x : Option Int} (h : oV x = .non) : x = none := by
  cases x with
  | none => rfl
  | some i => cases h
theorem iteSome {x : Option Int} (h : x ≠ none) {A B : Prop} (a : A) : if (!decide (oV x = V.non)) = true then A else B := by
  have : ¬ oV x = V.non := fun z => h (oV_non z)
  rw [decide_eq_false this]
  exact iteT a
theorem iteNone {x : Option Int} (h : x = none) {A B : Prop} (b : B) : if (!decide (oV x = V.non)) = true then A else B := by
  subst h
  exact iteNS rfl b
theorem rk_flat (r : Rack) : (rk r).all flatV = true := by
  rw [List.all_eq_true]
  intro v hv
  unfold rk at hv
  obtain ⟨o, _, rfl⟩ := List.mem_map.mp hv
  cases o <;> rfl
theorem ints_flat (ns : List Int) : (ns.map V.int).all flatV = true := by
  rw [List.all_eq_true]
  intro v hv
  obtain ⟨o, _, rfl⟩ := List.mem_map.mp hv
  rfl
theorem inV_ints {c : Int} {ns : List Int} : inV (.int c) (ns.map V.int) = true ↔ c ∈ ns := by
  unfold inV
  rw [List.any_map, List.any_eq_true]
  constructor
  · rintro ⟨x, hx, e⟩
    have : (x == c) = true := e
    rw [beq_iff_eq] at this
    subst this; exact hx
  · intro h
    exact ⟨c, h, show (c == c) = true by simp⟩
theorem inV_rk {c : Int} {r : Rack} : inV (.int c) (rk r) = true ↔ Hangs r c := by
  rw [← mem_coats]
  unfold inV rk coats
  rw [List.any_map, List.any_eq_true, List.mem_filterMap]
  constructor
  · rintro ⟨x, hx, e⟩
    cases x with
    | none => exact absurd (show (false : Bool) = true from e) Bool.false_ne_true
    | some y =>
      have : (y == c) = true := e
      rw [beq_iff_eq] at this
      subst this; exact ⟨_, hx, rfl⟩
  · rintro ⟨x, hx, e⟩
    cases e
    exact ⟨_, hx, show (c == c) = true by simp⟩
/-! heaps -/
theorem Same.upd {H H1 : Hp} {p : Addr} {o : HO} (s : Same H H1) (h : H p = none) : Same H (upd H1 p o) := fun b u e => by
  rw [upd_ne (ne_of_none e h)]; exact s b u e
theorem Same.new {H : Hp} {p : Addr} {o : HO} (h : H p = none) : Same H (L2.upd H p o) := Same.upd (Same.refl H) h
/-- all but a -/
def But (a : Addr) (H H' : Hp) : Prop := ∀ b o, H b = some o → b ≠ a → H' b = some o
theorem But.refl (a : Addr) (H : Hp) : But a H H := fun _ _ e _ => e
theorem But.upd {a : Addr} {H H1 : Hp} (s : But a H H1) (o : HO) : But a H (upd H1 a o) := fun b u e hb => by
  rw [upd_ne hb]; exact s b u e hb
theorem But.updN {a p : Addr} {H H1 : Hp} (s : But a H H1) (h : H p = none) (o : HO) : But a H (L2.upd H1 p o) := fun b u e hb => by
  rw [upd_ne (ne_of_none e h)]; exact s b u e hb
theorem But.trans {a : Addr} {H H1 H2 : Hp} (s : But a H H1) (t : But a H1 H2) : But a H H2 := fun b o e hb => t b o (s b o e hb) hb
theorem But.free {a l : Addr} {H H1 : Hp} (s : But a H H1) (hl : l ≠ a) (h : H1 l = none) : H l = none := by
  cases q : H l with
  | none => rfl
  | some o => rw [s l o q hl] at h; cases h
theorem SqL.same {K : PySem.W.Frag} {H H' : Hp} {a : Addr} {xs : List V} (h : SqL K H a xs) (e : Same H H') : SqL K H' a xs := e.seq h
/-! pegs -/
theorem emod_succ (x n : Int) : (x % n + 1) % n = (x + 1) % n := Int.emod_add_emod x n 1
/-- the peg of a coat, or none -/
def PegIs (r : Rack) (c : Int) : Option Int → Prop
  | some i => 0 ≤ i ∧ i < r.length ∧ lk r i = some c
  | none => ∀ i, lk r i ≠ some c
end Peg

namespace Peg
open PySem L2
/-! ### peg_of -/
theorem peg_walk {r : Rack} (S : Sound r) (c : Int) : ∃ (D : Nat) (o : Option Int), PegIs r c o ∧ (∀ e : Nat, e < D → ∃ x, lk r (c + e) = some x ∧ x ≠ c) ∧ lk r (c + D) = (o.map fun _ => c) ∧ ∀ i, o = some i → (c + D) % (r.length : Int) = i := by
  have h0 := S.pos
  by_cases h : Hangs r c
  · obtain ⟨i, hi⟩ := h
    obtain ⟨D, hD, eD, cD⟩ := way_at h0 i c
    have b1 := Int.emod_nonneg i (show (r.length : Int) ≠ 0 by omega)
    have b2 := Int.emod_lt_of_pos i (show (0 : Int) < r.length by omega)
    refine ⟨D, some (i % (r.length : Int)), ⟨b1, b2, by rw [lk_emod]; exact hi⟩, fun e he => ?_, ?_, fun j hj => ?_⟩
    · have hn := S.walk i c hi e (by omega)
      cases q : lk r (c + e) with
      | none => exact absurd q hn
      | some x =>
        refine ⟨x, rfl, fun z => ?_⟩
        subst z
        have := S.uniq _ _ _ q hi
        rw [← cD] at this
        have := step_inj (by omega) (by omega) this
        omega
    · rw [lk_congr cD]; exact hi
    · cases hj; exact cD
  · have F := far_is S.free c
    refine ⟨far r c, none, fun i hi => h ⟨i, hi⟩, fun e he => ?_, F.fr, fun i hi => by cases hi⟩
    cases q : lk r (c + e) with
    | none => exact absurd q (F.tk e he)
    | some x => exact ⟨x, rfl, fun z => h ⟨_, by rw [q, z]⟩⟩
theorem isN_none {A B : Prop} (a : A) : if decide (oV none = V.non) = true then A else B := iteT a
theorem isN_some {i : Int} {A B : Prop} (b : B) : if decide (oV (some i) = V.non) = true then A else B := by
  rw [decide_eq_false (by intro h; cases h)]
  exact iteF b
theorem atI_rk_nat {r : Rack} {i : Nat} (h : i < r.length) : atI (rk r) (0 + (i : Int)) = some (oV (lk r i)) := by
  have e : (i : Int) % (r.length : Int) = 0 + (i : Int) := by rw [Int.emod_eq_of_lt (by omega) (by omega)]; omega
  rw [← e]
  exact atI_rk (by omega) _
theorem rep_empty (n : Nat) : (List.replicate n [V.non]).flatten = rk (empty n) := by
  unfold rk empty
  rw [List.map_replicate]
  show _ = List.replicate n V.non
  induction n with
  | zero => rfl
  | succ n ih => rw [List.replicate_succ, List.flatten_cons, ih, List.replicate_succ]; rfl
theorem wrap_one {x s : Int} (hs : 0 < s) : (x % s + 1 = s → (x + 1) % s = 0) ∧ (¬ x % s + 1 = s → (x + 1) % s = x % s + 1) := by
  have h1 := Int.emod_nonneg x (show s ≠ 0 by omega)
  have h2 := Int.emod_lt_of_pos x hs
  rw [← emod_succ]
  constructor
  · intro e; rw [e, Int.emod_self]
  · intro e; exact Int.emod_eq_of_lt (by omega) (by omega)
/-- the law's rack: the coats cs hang on r -/
structure Filled (r : Rack) (cs : List Int) : Prop where
  S : Sound r
  nd : cs.Nodup
  mem : ∀ c, Hangs r c ↔ c ∈ cs
theorem Filled.perm {r : Rack} {cs : List Int} (f : Filled r cs) : (coats r).Perm cs := perm_of (coats_nodup f.S) f.nd fun c => by rw [mem_coats, f.mem]
theorem Filled.len {r : Rack} {cs : List Int} (f : Filled r cs) : (coats r).length = cs.length := f.perm.length_eq
theorem Filled.put {r : Rack} {cs : List Int} (f : Filled r cs) {c : Int} (hc : c ∉ cs) (hl : cs.length + 1 < r.length) : Filled (put r c) (cs ++ [c]) := by
  have e := coats_put f.S.free c
  refine ⟨put_sound f.S (fun h => hc ((f.mem c).mp h)) (coats_free (by rw [e, f.len, put_length]; omega)), ?_, fun x => ?_⟩
  · rw [List.nodup_append]
    refine ⟨f.nd, by simp, fun a ha b hb => ?_⟩
    rw [List.mem_singleton] at hb
    subst hb
    intro z; subst z; exact hc ha
  · rw [hangs_put f.S.free, f.mem, List.mem_append, List.mem_singleton]
theorem run_get {r : Rack} {i : Int} {m k : Nat} (h : k < m) : (run r i m)[k]? = some (coat r i k) := by
  unfold run
  rw [List.getElem?_map, List.getElem?_range h]
  rfl
theorem run_succ (r : Rack) (i : Int) (m : Nat) : run r i (m + 1) = run r i m ++ [coat r i m] := by
  unfold run
  rw [List.range_succ, List.map_append]
  rfl
theorem lk_clr_next {r : Rack} (h0 : 0 < r.length) {i : Int} {m k : Nat} (hm : m < r.length) (hk : k ≤ m) : lk (clr r i k) (i + m) = lk r (i + m) :=
  lk_clr_out h0 _ _ _ fun e he z => by
    have := step_inj (by omega) (by omega) z
    omega
end Peg
namespace Peg
open PySem L2
theorem size_pick (x : Int) : ∃ n : Nat, 3 ≤ n ∧ n ≤ 384 ∧ atI [V.int (3 + x % 98), V.int 384] (if (decide (V.int (x % 8) = V.int 3)) = true then 1 else 0) = some (.int (n : Int)) := by
  have h1 := Int.emod_nonneg x (show (98 : Int) ≠ 0 by decide)
  have h2 := Int.emod_lt_of_pos x (show (0 : Int) < 98 by decide)
  by_cases h : (decide (V.int (x % 8) = V.int 3)) = true
  · rw [if_pos h]
    exact ⟨384, by decide, by decide, rfl⟩
  · rw [if_neg h]
    refine ⟨(3 + x % 98).toNat, by omega, by omega, ?_⟩
    rw [Int.toNat_of_nonneg (by omega)]
    rfl
theorem cut_from (ns : List Int) (k : Nat) : cutV (ns.map V.int) (some (k : Int)) none = (ns.drop k).map V.int := by
  unfold cutV
  rw [HT.sIx_nat, HT.sIx_none, List.length_map]
  rcases Nat.lt_or_ge k ns.length with h | h
  · rw [Nat.min_eq_left (Nat.le_of_lt h), List.take_of_length_le (by rw [List.length_drop, List.length_map]; omega), List.map_drop]
  · rw [Nat.min_eq_right h, List.drop_of_length_le (by rw [List.length_map]; omega), List.drop_of_length_le h]
    simp
theorem cut_from2 (ns : List Int) : cutV (ns.map V.int) (some 2) none = (ns.drop 2).map V.int := cut_from ns 2
theorem ints_P : ∀ (ns : List Int), IntsP (fun _ => True) (ns.map V.int)
  | [] => .nil
  | _ :: r => .cons trivial (ints_P r)
theorem bits_at {ns : List Int} (h : ∀ m ∈ ns, Builtin.Int.intBits m ≤ 2 ^ 20) (k : Nat) : Builtin.Int.intBits (ns.getD k 0) ≤ 2 ^ 20 := by
  rw [List.getD_eq_getElem?_getD]
  cases e : ns[k]? with
  | none => show Builtin.Int.intBits 0 ≤ 2 ^ 20; decide
  | some n => exact h n (List.mem_of_getElem? e)
theorem bits_ediv {x j : Int} {m : Nat} (h : Builtin.Int.intBits x ≤ m) (hj : 0 ≤ j) : Builtin.Int.intBits (x / j) ≤ m := by
  rw [← Int.fdiv_eq_ediv_of_nonneg x hj]
  exact PyProof.Rows.bits_fdiv h
theorem bits_div_add {x j y : Int} (h : Builtin.Int.intBits x ≤ 2 ^ 20) (hj : 0 ≤ j) (h1 : -(2 ^ 64) < y) (h2 : y < 2 ^ 64) : Builtin.Int.intBits (x / j + y) ≤ 2 ^ 21 :=
  Nat.le_trans (PyProof.Rows.bits_add (bits_ediv h hj) (PySem.intBits_le_64 h1 h2)) (by decide)
theorem PegIs.uniq {r : Rack} (S : Sound r) {c : Int} {o o' : Option Int} (h : PegIs r c o) (h' : PegIs r c o') : o = o' := by
  cases o with
  | none =>
    cases o' with
    | none => rfl
    | some j => exact absurd h'.2.2 (h j)
  | some i =>
    cases o' with
    | none => exact absurd h.2.2 (h' i)
    | some j =>
      have := S.uniq _ _ _ h.2.2 h'.2.2
      rw [Int.emod_eq_of_lt h.1 h.2.1, Int.emod_eq_of_lt h'.1 h'.2.1] at this
      rw [this]
end Peg
namespace Peg
open PySem L2
theorem kit_same (K : PySem.W.Frag) (T : String) : PySem.W.kitOne K (.type T) (.type T) = some true := by
  unfold PySem.W.kitOne
  rw [if_pos (beq_self_eq_true _)]
theorem kit_int_int (K : PySem.W.Frag) : PySem.W.kitOne K (.type "int") (.type "int") = some true := kit_same K _
theorem kit_list_list (K : PySem.W.Frag) : PySem.W.kitOne K (.type "list") (.type "list") = some true := kit_same K _
theorem kit_tuple_tuple (K : PySem.W.Frag) : PySem.W.kitOne K (.type "tuple") (.type "tuple") = some true := kit_same K _
theorem kit_str_str (K : PySem.W.Frag) : PySem.W.kitOne K (.type "str") (.type "str") = some true := kit_same K _
theorem kit_int_bool (K : PySem.W.Frag) : PySem.W.kitOne K (.type "int") (.type "bool") = some false := by
  have h1 : PySem.W.kitMeta "bool" = true := by decide +kernel
  have h2 : (fastBuiltinMro "int").map (fun l => l.contains (Value.type "bool")) = some false := by decide +kernel
  unfold PySem.W.kitOne PySem.W.kitCls
  rw [if_neg (by decide)]
  show (if PySem.W.kitMeta "bool" = true then _ else none) = _
  rw [if_pos h1]
  exact h2
end Peg
namespace Peg
open PySem L2
/-- the first place of a coat among the values -/
theorem rk_first {r : Rack} (S : Sound r) {c : Int} {j : Nat} (hj : j < r.length) (e : lk r (j : Int) = some c) : (rk r)[j]? = some (.int c) ∧ ∀ (m : Nat) v, m < j → (rk r)[m]? = some v → eqV v (.int c) = false := by
  have get : ∀ m : Nat, m < r.length → (rk r)[m]? = some (oV (lk r (m : Int))) := fun m hm => by
    unfold rk
    rw [List.getElem?_map, get_nat hm]
    rfl
  refine ⟨by rw [get j hj, e]; rfl, fun m v hm hv => ?_⟩
  rw [get m (by omega)] at hv
  cases hv
  cases q : lk r (m : Int) with
  | none => rfl
  | some x =>
    show (x == c) = false
    rw [beq_eq_false_iff_ne]
    intro z
    subst z
    have := S.uniq _ _ _ q e
    rw [Int.emod_eq_of_lt (by omega) (by omega), Int.emod_eq_of_lt (by omega) (by omega)] at this
    omega
end Peg

namespace L2
open PySem PySem.Spec PyProof.Rows
/-- the context of a comprehension's block: its own frame at C; the iterator's records are at ex; s, H: the entry -/
def cxComp (X : Cx) (scope : Scope) (N : List Str) (C : Addr) (s : Shared) (H : Hp) (ex : List Addr) (pn : List (Addr × Obj)) : Cx :=
  { X with N := N, s₀ := s, H₀ := H, env := compEnvC scope [] C X.env, outer := X.stack, stack := X.stack, ex := ex, fn := fun _ => false, pn := pn, xe := fun _ _ => False }
/-- the tests of a comprehension -/
def PTs (X : Cx) (ifs : List Expr) (t : TT) : Prop :=
  ∀ (pins : List (Addr × Obj)) (s : Shared) (σ : St) (H : Hp) (Q : Bool → Hp → Prop), Inv X pins σ H s → t σ H Q →
    wpAny (model X.prog X.w) X.A (forIn ifs true fun c r => if r = true then do let ok ← isTrue c X.env (eval c X.env); pure (ForInStep.yield ok) else pure (ForInStep.yield r)) (TP X pins σ Q) X.xe s
theorem pts_nil {X : Cx} : PTs X [] (fun _ H Q => Q true H) := fun _ _ _ H _ I h => wpAny_tests_nil ⟨H, I, h⟩
theorem pts_one {X : Cx} {c : Expr} {t : TT} (h : PT X c t) : PTs X [c] t := fun pins s σ H Q I q => wpAny_tests_one (h pins s σ H Q I q)
/-- the turns of a comprehension: W i m ys H: i items have come, m is what is left, ys stands in the new list at D -/
def cTurns (J : It) (tc : TT) (te : TE) (D : Addr) (Q : VK) (W : Nat → Nat → List V → Hp → Prop) : Prop :=
  ∀ i m ys H, W i m ys H → H D = some (.lst ys) ∧ ((J.stop i H ∧ Q (.ref D) H) ∨ (J.go i H ∧ ∀ x H', J.yld i H x H' → tc [some x] H' fun b H2 =>
    if b = true then te [some x] H2 fun y H3 => H3 D = some (.lst ys) ∧ ys.length < sizeLine ∧ ∃ m', m' < m ∧ W (i + 1) m' (ys ++ [y]) (upd H3 D (.lst (ys ++ [y]))) else ∃ m', m' < m ∧ W (i + 1) m' ys H2))
def tComp (wi : TI) (tc : TT) (te : TE) : TE := fun σ H Q => wi σ H fun J H1 => ∀ D, H1 D = none → ∃ W, (∃ m, W 0 m [] (upd H1 D (.lst []))) ∧ cTurns J tc te D Q W
theorem Un.but {fs ex : List Addr} {H H' : Hp} {h h1 h2 : Heap} {C : Addr} (u : Un fs ex H H' h h1) (hC : h.objs.size ≤ C) (k : ∀ b o, b ≠ C → h1.get? b = some o → h2.get? b = some o) : Un fs ex H H' h h2 := by
  have ne : ∀ {b o}, h.get? b = some o → b ≠ C := fun e => Nat.ne_of_lt (Nat.lt_of_lt_of_le (Heap.lt_size e) hC)
  refine ⟨fun b o e n hb hx => k b o (ne e) (u.keep b o e n hb hx), fun b o e n hb hx => ?_, u.free, fun b o e hx => ?_, u.tups, u.frzs, u.tbls⟩
  · obtain ⟨sl, q⟩ := u.slot b o e n hb hx
    exact ⟨sl, k b _ (ne e) q⟩
  · obtain ⟨o', q⟩ := u.there b o e hx
    exact ⟨o', k b o' (ne e) q⟩
theorem HOk.but {P : Program} {w : World} {H : Hp} {h h' : Heap} {C : Addr} (ok : HOk P w H h) (hC : H C = none) (k : ∀ b o, b ≠ C → h.get? b = some o → h'.get? b = some o) : HOk P w H h' := fun a o e => by
  refine (ok a o e).stay (fun b u hb q => k b u (fun z => ?_) q) (fun _ q => q) fun _ _ q => q
  subst z
  rcases hb with z | z
  · subst z; rw [hC] at e; cases e
  · rw [hC] at z; cases z
theorem now_of {M : Model} {A : Around} {E : Value → Shared → Prop} {s : Shared} {x : Str} {px : Pos} {it u : Value} {env : Env} {Q : Unit → Shared → Prop} (h : wpAny M A (letOwnedTupleGo (.Name x px) it u >>= fun _ => assign (.Name x px) env u) Q E s) :
    wpAny M A (assign (.Name x px) env u) Q E s := h
/-- a name of a scope without free names and cells is neither -/
theorem relabel_plain {scope : Scope} {env : Env} (hfree : ∀ y ∈ scope.names, y.2 ≠ NameKind.free) (hcell : ∀ y ∈ scope.names, y.2 ≠ NameKind.cell) : ∀ y z, (relabel scope env).names.lookup y = some z → z ≠ .cell ∧ z ≠ .free := by
  intro y z hz
  unfold relabel at hz
  dsimp only at hz
  generalize scope.names = l at hfree hcell hz
  induction l with
  | nil => cases hz
  | cons p l ih =>
    obtain ⟨n, k⟩ := p
    have kf : k ≠ NameKind.free := hfree _ List.mem_cons_self
    have kc : k ≠ NameKind.cell := hcell _ List.mem_cons_self
    have kb : (k == NameKind.free) = false := by simpa using kf
    rw [List.map_cons, List.lookup_cons] at hz
    simp only [kb, Bool.false_and, Bool.false_eq_true, if_false] at hz
    cases e : y == n with
    | true =>
      rw [e] at hz
      cases hz
      exact ⟨kc, kf⟩
    | false =>
      rw [e] at hz
      exact ih (fun y hy => hfree y (List.mem_cons_of_mem _ hy)) (fun y hy => hcell y (List.mem_cons_of_mem _ hy)) hz
theorem comp_core {X : Cx} {elt iter : Expr} {x : Str} {px : Pos} {ifs : List Expr} {scope : Scope} {pos : Pos} {tc : TT} {te : TE} (hcalm : X.calm = true)
    (hfree : ∀ y ∈ scope.names, y.2 ≠ .free) (hcell : ∀ y ∈ scope.names, y.2 ≠ .cell) (hkind : scope.kind = .function) (hx : scope.names.lookup x = some .local)
    (hc : ∀ C s H ex pn, PTs (cxComp X scope [x] C s H ex pn) ifs tc) (he : ∀ C s H ex pn, PE (cxComp X scope [x] C s H ex pn) elt te)
    {pins : List (Addr × Obj)} {σ : St} {H2 : Hp} {s2 : Shared} {it : Addr} {fp : List Addr} {tn : Nat → Heap → Prop} {J : It} {Q : VK} {W : Nat → Nat → List V → Hp → Prop} {m0 : Nat}
    (I2 : Inv X pins σ H2 s2) (T : Turn X.prog X.w X.K (.Name x px) J fp it tn) (st2 : tn 0 s2.heap) (f2 : ∀ b ∈ fp, FpOk X pins H2 b) (w0 : W 0 m0 [] (upd H2 s2.heap.objs.size (.lst []))) (turns : cTurns J tc te s2.heap.objs.size Q W)
    {RR : Value → Addr → Result → Shared → Prop} {E : Value → Shared → Prop}
    (hstop : ∀ (C : Addr) (s4 : Shared) (H3 : Hp), s2.heap.objs.size ≤ C → s4.os = s2.os → AllBare s4.gens → Un (frs X.stack) fp H2 H3 s2.heap s4.heap → HOk X.prog X.w H3 s4.heap → H3 C = none → (∃ m, s4.heap.Ns C m) → Q (.ref s2.heap.objs.size) H3 → RR (.ref s2.heap.objs.size) C (.ok .next) s4) :
    wpAny (model X.prog X.w) X.A (newList []) (fun acc s₃ => wpAny (model X.prog X.w) X.A (newFunctionEnv scope X.env.globals [] [] X.env.qual none .none (some X.env)) (fun cenv s₄ =>
      codeAny (model X.prog X.w) X.A (.compStart (.ListComp elt [⟨.Name x px, iter, ifs, 0⟩] scope pos) 0 (.ref it) acc { cenv with scope := relabel scope X.env }) (RR acc cenv.locals) s₄) E s₃) E s2 := by
  have fr2 : H2 s2.heap.objs.size = none := I2.hok.fresh (Nat.le_refl _)
  refine wpAny_newObj_type (wpAny_newFunctionEnv hcell (by intro y hy; simp at hy) (fun h₁ hns₁ hsb₁ => ?_) hkind)
  dsimp only at hns₁ hsb₁ ⊢
  generalize hG : s2.heap.push { cls := .type "list", dict := none, data := .seq ([] : List Value).toArray } = G at hns₁ hsb₁ ⊢
  have hC : G.objs.size = s2.heap.objs.size + 1 := by rw [← hG, Heap.size_push]
  have lt : ∀ {b o}, s2.heap.get? b = some o → b < s2.heap.objs.size := fun e => Heap.lt_size e
  have oldG : ∀ b o, s2.heap.get? b = some o → G.get? b = some o := fun b o e => hG ▸ Heap.get?_push_of_some _ e
  have old : ∀ b o, s2.heap.get? b = some o → h₁.get? b = some o := fun b o e =>
    hsb₁.extBut b o (by have := lt e; rw [hC]; exact Nat.ne_of_lt (Nat.lt_succ_of_lt this)) (Heap.get?_push_of_some _ (oldG b o e))
  have hacc : h₁.get? s2.heap.objs.size = some { cls := .type "list", dict := none, data := .seq ([] : List Value).toArray } :=
    hsb₁.extBut _ _ (by rw [hC]; exact Nat.ne_of_lt (Nat.lt_succ_self _)) (Heap.get?_push_of_some _ (hG ▸ Heap.get?_push_size _ rfl))
  have neC : ∀ {b : Nat}, b < s2.heap.objs.size → b ≠ G.objs.size := fun h => by rw [hC]; exact Nat.ne_of_lt (Nat.lt_succ_of_lt h)
  have neD : ∀ {b : Nat}, b < s2.heap.objs.size → b ≠ s2.heap.objs.size := fun h => Nat.ne_of_lt h
  have leC : s2.heap.objs.size ≤ G.objs.size := by rw [hC]; exact Nat.le_succ _
  -- the block's context
  generalize hX' : cxComp X scope [x] G.objs.size s2 H2 fp (X.pn ++ pins) = Y
  have Ye : Y.env = compEnvC scope [] G.objs.size X.env := by rw [← hX']; rfl
  have Yp : Y.prog = X.prog := by rw [← hX']; rfl
  have Yw : Y.w = X.w := by rw [← hX']; rfl
  have YK : Y.K = X.K := by rw [← hX']; rfl
  have YA : Y.A = X.A := by rw [← hX']; rfl
  have Yc : Y.calm = true := by rw [← hX']; exact hcalm
  have nfs : ∀ b, b ≠ X.env.locals → b ∉ X.fs → b ∉ frs X.stack := fun b h1 h2 hb => (List.mem_cons.mp (I2.stkSub b hb)).elim h1 h2
  have ok : Y.Ok := by
    rw [← hX']
    refine ⟨I2.ok.mod, ?_, I2.ok.glob, I2.ok.blt, ?_, ?_, ?_, ?_, I2.ok.hd, I2.ok.frames, .inl rfl, ?_, I2.bs, ?_, ?_, ?_, I2.stack, I2.stkFree⟩
    · show (relabel scope X.env).kind = .function
      exact hkind
    · exact leC
    · intro y z c e1 _
      have e1' : ([] : List (Str × Addr)).lookup y = some c := e1
      cases e1'
    · intro y hy
      exfalso
      have := relabel_plain (env := X.env) hfree hcell y
      rcases hy with z | z
      · exact (this _ z).1 rfl
      · exact (this _ z).2 rfl
    · intro y c e
      cases (show false = true from e)
    · intro b hb
      obtain ⟨g0, g1, g2, g3, g4, g5⟩ := f2 b hb
      obtain ⟨o, eo, _⟩ := T.obj _ _ st2 b hb
      refine ⟨?_, fun y c e => ?_⟩
      · exact neC (lt eo)
      · have e' : ([] : List (Str × Addr)).lookup y = some c := e
        cases e'
    · exact Nat.le_trans I2.ok.bsz I2.sz
    · intro b o e hb
      have hb' : b ∈ fp := hb
      obtain ⟨g0, g1, g2, g3, g4, g5⟩ := f2 b hb'
      rcases g3 with z | z
      · exact I2.ok.noex b o e z
      · exact absurd (Nat.lt_of_lt_of_le (Heap.lt_size e) (Nat.le_trans I2.ok.bsz z)) (Nat.lt_irrefl _)
    · intro b hb
      have hb' : b ∈ fp := hb
      obtain ⟨g0, g1, g2, g3, g4, g5⟩ := f2 b hb'
      exact nfs b g1 g2
  have I4 : Inv Y [] [none] (upd H2 s2.heap.objs.size (.lst [])) { s2 with heap := h₁, toks := s2.toks + ([] : List (Str × Value)).length } := by
    subst hX'
    refine ⟨ok, rfl, I2.bare, Un.laid old (Nat.le_refl _) fr2, ⟨_, hns₁, fun i y v e1 e2 _ => ?_⟩, fun y c e => ?_, ?_, fun y c e => ?_, fun p hp => ?_, ?_, rfl⟩
    · cases i with
      | zero => have e2' : some (none : Option V) = some (some v) := e2; cases e2'
      | succ i => have e2' : (none : Option (Option V)) = some (some v) := e2; cases e2'
    · have e' : ([] : List (Str × Addr)).lookup y = some c := e
      cases e'
    · show upd H2 s2.heap.objs.size (.lst []) G.objs.size = none
      rw [upd_ne (by rw [hC]; exact Nat.ne_of_gt (Nat.lt_succ_self _))]
      exact I2.hok.fresh leC
    · have e' : ([] : List (Str × Addr)).lookup y = some c := e
      cases e'
    · have hp' : p ∈ X.pn ++ pins := by
        rw [List.append_nil] at hp
        exact hp
      obtain ⟨p1, p2, p3, p4, p5⟩ := I2.pin p hp'
      exact ⟨old _ _ p1, by rw [upd_ne (neD (lt p1))]; exact p2, neC (lt p1), nfs _ p3 p4, p5⟩
    · exact HOk.laid I2.hok old (Nat.le_refl _) ⟨Nat.zero_le _, [], 0, .nil, hacc⟩
  have f2' : ∀ {H' : Hp} {pins' : List (Addr × Obj)}, (∀ p ∈ pins', False) → (∀ b ∈ fp, H' b = none) → ∀ b ∈ fp, FpOk Y pins' H' b := fun {H' pins'} hpn hn b hb => by
    obtain ⟨g0, g1, g2, g3, g4, g5⟩ := f2 b hb
    obtain ⟨o, eo, _⟩ := T.obj _ _ st2 b hb
    subst hX'
    refine ⟨hn b hb, neC (lt eo), nfs b g1 g2, .inl hb, fun y c e => ?_, fun p hp => ?_⟩
    · have e' : ([] : List (Str × Addr)).lookup y = some c := e
      cases e'
    · rcases List.mem_append.mp hp with z | z
      · exact g5 p z
      · exact (hpn p z).elim
  have T' : Turn Y.prog Y.w Y.K (.Name x px) J fp it tn := by rw [Yp, Yw, YK]; exact T
  have hgN : PG Y (.Name x px) (gName 0) := by
    subst hX'
    exact pg_name (i := 0) (by simp [cxComp]) rfl (Or.inl (lookup_relabel_local hx)) (.inr (lookup_relabel_local hx))
  have hcY : PTs Y ifs tc := by subst hX'; exact hc _ _ _ _ _
  have heY : PE Y elt te := by subst hX'; exact he _ _ _ _ _
  have xeY : ∀ e s', Y.xe e s' → False := by subst hX'; exact fun _ _ z => z
  have st4 : tn 0 h₁ := T.keep _ _ _ st2 fun b _ o e => old b o e
  have n4 : ∀ b ∈ fp, (upd H2 s2.heap.objs.size (.lst [])) b = none := fun b hb => by
    obtain ⟨o, eo, _⟩ := T.obj _ _ st2 b hb
    rw [upd_ne (neD (lt eo))]
    exact (f2 b hb).1
  have loop : codeAny (model X.prog X.w) X.A (.compLoop (.ListComp elt [⟨.Name x px, iter, ifs, 0⟩] scope pos) 0 (.ref it) (.ref s2.heap.objs.size) (compEnvC scope [] G.objs.size X.env))
      (RR (.ref s2.heap.objs.size) G.objs.size) { s2 with heap := h₁, toks := s2.toks + ([] : List (Str × Value)).length } := by
    refine codeAny_compLoop_tests (fun n s' => ∃ i ys σ' H', Inv Y [] σ' H' s' ∧ σ'.length = 1 ∧ tn i s'.heap ∧ (∀ b ∈ fp, H' b = none) ∧ W i n ys H') ?_ m0 ⟨0, [], [none], _, I4, rfl, st4, n4, w0⟩
    rintro n s3 ⟨i, ys, σ3, H3, I3, l3, st3, fr3, w3⟩
    obtain ⟨hD, alt⟩ := turns i n ys H3 w3
    rcases alt with ⟨stop, qn⟩ | ⟨go, step⟩
    · have hd := T'.done Y rfl rfl rfl Yc i [] s3 σ3 H3 (notedBy (model X.prog X.w) X.A (compEnvC scope [] G.objs.size X.env) fun e s' => RR (.ref s2.heap.objs.size) G.objs.size (.error e) s') I3 (f2' (fun _ z => nomatch z) fr3) st3 stop
      rw [Yp, Yw, YA] at hd
      refine thn hd fun r s4 ⟨hr, I5⟩ => ?_
      subst hr
      have nsC : ∃ m, s4.heap.Ns G.objs.size m := by
        obtain ⟨m, hm, _⟩ := I5.loc
        rw [Ye] at hm
        exact ⟨m, hm⟩
      have uB : Un (frs X.stack) fp H2 H3 s2.heap s4.heap := by
        have := I5.base
        subst hX'
        exact this
      have fC : H3 G.objs.size = none := by
        have := I5.free
        rw [Ye] at this
        exact this
      have okH : HOk X.prog X.w H3 s4.heap := by
        have := I5.hok
        rw [Yp, Yw] at this
        exact this
      have os : s4.os = s2.os := by
        have := I5.os
        subst hX'
        exact this
      exact hstop _ _ _ leC os I5.bare uB okH fC nsC qn
    · have hd := T'.item Y rfl rfl rfl Yc i [] s3 σ3 H3 (notedBy (model X.prog X.w) X.A (compEnvC scope [] G.objs.size X.env) fun e s' => RR (.ref s2.heap.objs.size) G.objs.size (.error e) s') I3 (f2' (fun _ z => nomatch z) fr3) st3 go
      rw [Yp, Yw, YA] at hd
      refine thn hd fun r s4 ⟨u, hr, h4⟩ => ?_
      subst hr
      refine now_of (wpAny_bind (m := letOwnedTupleGo (.Name x px) (.ref it) u) (f := fun _ => assign (.Name x px) (compEnvC scope [] G.objs.size X.env) u) (thn h4 fun _ s5 ⟨y, H5, I5, r5, y5, st5, fr5⟩ => ?_))
      have I5' := I5.pinned (f2' (fun _ z => nomatch z) fr5) (T'.obj _ _ st5)
      have ha := hgN _ s5 σ3 H5 y u (fun σ6 H6 => σ6 = σ3.set 0 (some y) ∧ H6 = H5) I5' r5 ⟨rfl, rfl⟩
      rw [Yp, Yw, YA, Ye] at ha
      refine wpAny_mono ha (fun _ s6 ⟨σ6, H6, I6, e6, e7⟩ => ?_) (fun e s' z => (xeY e s' z).elim)
      subst e7
      have eσ : σ6 = [some y] := by
        rw [e6]
        match σ3, l3 with
        | [_], _ => rfl
      subst eσ
      have back : ∀ {σ7 : St} {H7 : Hp} {s7 : Shared} {m' : Nat} {zs : List V}, Inv Y ([] ++ pinsAt fp s5.heap) σ7 H7 s7 → σ7.length = 1 → m' < n → W (i + 1) m' zs H7 → ∃ m, m < n ∧ ∃ i ys σ' H', Inv Y [] σ' H' s7 ∧ σ'.length = 1 ∧ tn i s7.heap ∧ (∀ b ∈ fp, H' b = none) ∧ W i m ys H' := fun {σ7 H7 s7 m' zs} I7 l7 hm w7 => by
        refine ⟨m', hm, i + 1, zs, σ7, H7, I7.unpinned, l7, T'.keep _ _ _ st5 fun b hb o e => (I7.pin (b, o) (List.mem_append_right _ (List.mem_append_right _ (mem_pinsAt hb e)))).1, fun b hb => ?_, w7⟩
        obtain ⟨o, e, d⟩ := T'.obj _ _ st5 b hb
        exact (I7.pin (b, o) (List.mem_append_right _ (List.mem_append_right _ (mem_pinsAt hb e)))).2.1
      have hcc := hcY _ s6 _ H6 _ I6 (step y H6 y5)
      rw [Yp, Yw, YA, Ye] at hcc
      refine wpAny_mono hcc (fun b s7 ⟨H7, I7, q7⟩ => ?_) (fun e s' z => (xeY e s' z).elim)
      cases b with
      | false =>
        rw [if_neg Bool.false_ne_true]
        obtain ⟨m', hm, w7⟩ := (show ∃ m', m' < n ∧ W (i + 1) m' ys H7 by simpa using q7)
        exact back I7 rfl hm w7
      | true =>
        rw [if_pos rfl]
        have q7' : te [some y] H7 fun y' H3 => H3 s2.heap.objs.size = some (.lst ys) ∧ ys.length < sizeLine ∧ ∃ m', m' < n ∧ W (i + 1) m' (ys ++ [y']) (upd H3 s2.heap.objs.size (.lst (ys ++ [y']))) := by simpa using q7
        have hee := heY _ s7 _ H7 _ I7 q7'
        rw [Yp, Yw, YA, Ye] at hee
        refine wpAny_mono hee (fun u8 s8 ⟨y8, H8, I8, r8, hD8, hz8, m', hm, w8⟩ => ?_) (fun e s' z => (xeY e s' z).elim)
        have hap := mt_append (X := Y) _ s8 _ H8 (.ref s2.heap.objs.size) [y8] (.ref s2.heap.objs.size) [u8] (fun _ H9 => H9 = upd H8 s2.heap.objs.size (.lst (ys ++ [y8]))) I8 rfl (.cons r8 .nil) ⟨_, ys, y8, rfl, rfl, hD8, hz8, rfl⟩
        rw [Yp, Yw, YA] at hap
        refine wpAny_mono hap (fun _ s9 ⟨_, H9, I9, _, e9⟩ => ?_) (fun e s' z => (xeY e s' z).elim)
        subst e9
        exact back I9 rfl hm w8
  exact codeAny_compStart_list loop (T.self _ 0 _ _ _ st4 loop)
theorem pe_comp {X : Cx} {elt iter : Expr} {x : Str} {px : Pos} {ifs : List Expr} {scope : Scope} {pos : Pos} {wi : TI} {tc : TT} {te : TE} (hcalm : X.calm = true) (hi : PI X (.Name x px) iter wi)
    (hfree : ∀ y ∈ scope.names, y.2 ≠ .free) (hcell : ∀ y ∈ scope.names, y.2 ≠ .cell) (hkind : scope.kind = .function) (hnames : ∀ y ∈ scope.names, y.2 = .local → scope.names.lookup y.1 = some .local) (hx : scope.names.lookup x = some .local)
    (hc : ∀ C s H ex pn, PTs (cxComp X scope [x] C s H ex pn) ifs tc) (he : ∀ C s H ex pn, PE (cxComp X scope [x] C s H ex pn) elt te) (hs : ∀ v, foldedSetIterable iter X.env v = pure v := by intro _; rfl) :
    PE X (.ListComp elt [⟨.Name x px, iter, ifs, 0⟩] scope pos) (tComp wi tc te) := by
  intro pins s σ H Q I h
  rw [eval_ListComp]
  refine wpAny_comprehension_free (use := none) rfl hs (closureFor_none hfree) hkind hnames (thn (hi pins s σ H _ I h) fun v s1 h1 => thn h1 fun itv s2 h2 => ?_)
  obtain ⟨it, fp, tn, J, H2, e, I2, T, st2, f2, hW⟩ := h2
  subst e
  obtain ⟨W, ⟨m0, w0⟩, turns⟩ := hW _ (I2.hok.fresh (Nat.le_refl _))
  refine comp_core (RR := fun acc C => compPost (model X.prog X.w) X.A X.xe none (EP X pins σ Q) acc C) hcalm hfree hcell hkind hx hc he I2 T st2 f2 w0 turns fun C s4 H3 hC os bare uB okH fC ⟨m, hm⟩ q => ?_
  refine ⟨m, hm, fun h' sb => ?_⟩
  have k : ∀ b o, b ≠ C → s4.heap.get? b = some o → h'.get? b = some o := fun b o hb e => sb.extBut b o hb e
  refine ⟨.ref s2.heap.objs.size, H3, ?_, rfl, q⟩
  exact I2.call' (s' := { s4 with heap := h' }) os (uB.but hC k) (okH.but fC k) bare fun b hb => by
    obtain ⟨g0, g1, g2, g3, g4, g5⟩ := f2 b hb
    exact ⟨g3, g1, g4, g5⟩
/-- name = [.. for ..] -/
theorem ps_setComp {X : Cx} {i : Nat} {elt iter : Expr} {x z : Str} {px pz : Pos} {ifs : List Expr} {scope : Scope} {pos spos : Pos} {wi : TI} {tc : TT} {te : TE} (hN : X.N.Nodup) (hi' : X.N[i]? = some z) (hz : Loc X.env.scope z) (hcalm : X.calm = true) (hi : PI X (.Name x px) iter wi)
    (hfree : ∀ y ∈ scope.names, y.2 ≠ .free) (hcell : ∀ y ∈ scope.names, y.2 ≠ .cell) (hkind : scope.kind = .function) (hnames : ∀ y ∈ scope.names, y.2 = .local → scope.names.lookup y.1 = some .local) (hx : scope.names.lookup x = some .local)
    (hc : ∀ C s H ex pn, PTs (cxComp X scope [x] C s H ex pn) ifs tc) (he : ∀ C s H ex pn, PE (cxComp X scope [x] C s H ex pn) elt te) (hs : ∀ v, foldedSetIterable iter X.env v = pure v := by intro _; rfl)
    (hsw : swapsWith (.ListComp elt [⟨.Name x px, iter, ifs, 0⟩] scope pos) (some (.Name z pz)) spos.line X.env = pure true := by rfl)
    (hf : X.fn z = true ∨ X.env.scope.names.lookup z = some .local := by first | exact .inl rfl | exact .inr rfl | assumption) :
    PS X (.Assign [.Name z pz] (.ListComp elt [⟨.Name x px, iter, ifs, 0⟩] scope pos) spos) (tAsg (tComp wi tc te) (gName i)) := by
  intro pins s σ H D I h
  rw [exec_Assign_Name_used _ _ _ _ hsw]
  refine wpAny_bind (wpAny_standAt (wpAny_bind ?_))
  have main : wpAny (model X.prog X.w) X.A (comprehension (.ListComp elt [⟨.Name x px, iter, ifs, 0⟩] scope pos) scope X.env (firstIterPos [⟨.Name x px, iter, ifs, 0⟩] pos) (newList []) false (eval iter X.env) (some (assign (.Name z pz) X.env))) (fun _ s' => SP X pins D .next s') X.xe s := by
    refine wpAny_comprehension_free (use := some (assign (.Name z pz) X.env)) rfl hs (closureFor_none hfree) hkind hnames (thn (hi pins s σ H _ I h) fun v s1 h1 => thn h1 fun itv s2 h2 => ?_)
    obtain ⟨it, fp, tn, J, H2, e, I2, T, st2, f2, hW⟩ := h2
    subst e
    obtain ⟨W, ⟨m0, w0⟩, turns⟩ := hW _ (I2.hok.fresh (Nat.le_refl _))
    refine comp_core (RR := fun acc C => compPost (model X.prog X.w) X.A X.xe (some (assign (.Name z pz) X.env)) (fun _ s' => SP X pins D .next s') acc C) hcalm hfree hcell hkind hx hc he I2 T st2 f2 w0 turns fun C s4 H3 hC os bare uB okH fC ⟨m, hm⟩ q => ?_
    show wpAny (model X.prog X.w) X.A (assign (.Name z pz) X.env (.ref s2.heap.objs.size)) _ _ s4
    have I4 : Inv X pins σ H3 s4 := I2.call' os uB okH bare fun b hb => by
      obtain ⟨g0, g1, g2, g3, g4, g5⟩ := f2 b hb
      exact ⟨g3, g1, g4, g5⟩
    have old : ∀ {b : Addr} {o : Obj}, s2.heap.get? b = some o → b ≠ C := fun e => Nat.ne_of_lt (Nat.lt_of_lt_of_le (Heap.lt_size e) hC)
    have nL : C ≠ X.env.locals := by
      obtain ⟨m', ⟨o, _, _, ho, _⟩, _⟩ := I2.loc
      exact (old ho).symm
    have nF : C ∉ X.fs := I2.nofs hC
    have nC : ∀ y c, X.env.cells.lookup y = some c → c ≠ C := fun y c e => by
      obtain ⟨v', o, ho, _⟩ := I2.cell y c e
      exact old ho
    have nP : ∀ p ∈ X.pn ++ pins, p.1 ≠ C := fun p hp => old (I2.pin p hp).1
    obtain ⟨oC, esC, epC, hoC, dC, rC⟩ := hm
    have I5 : Inv X (pins ++ [(C, oC)]) σ H3 s4 := I4.pins_of fun p hp => by
      rcases List.mem_append.mp hp with z1 | z1
      · exact I4.pin p (List.mem_append_right _ z1)
      · rw [List.mem_singleton] at z1
        subst z1
        exact ⟨hoC, fC, nL, nF, fun v' e => by rw [dC] at e; cases e⟩
    refine thn (pg_name hN hi' hz hf _ s4 σ H3 (.ref s2.heap.objs.size) (.ref s2.heap.objs.size) (fun σ6 H6 => σ6 = σ.set i (some (.ref s2.heap.objs.size)) ∧ H6 = H3) I5 rfl ⟨rfl, rfl⟩) fun _ s6 ⟨σ6, H6, I6, e6, e7⟩ => ?_
    subst e6 e7
    have hC6 : s6.heap.get? C = some oC := (I6.pin (C, oC) (List.mem_append_right _ (List.mem_append_right _ List.mem_cons_self))).1
    refine ⟨m, ⟨oC, esC, epC, hC6, dC, rC⟩, fun h' sb => ?_⟩
    have I7 : Inv X pins (σ.set i (some (.ref s2.heap.objs.size))) H6 s6 := I6.unpinned
    refine ⟨σ.set i (some (.ref s2.heap.objs.size)), H6, ?_, q⟩
    exact I7.turned (t' := s6.toks) (fun b o hb e => sb.extBut b o hb e) fC nL (.inr (Nat.le_trans I2.sz hC)) nC nP
  exact wpAny_bind (thn main fun _ s' q => wpAny_pure (wpAny_pure q))
/-- over a list that the block leaves as it is; N: what is wanted behind a turn -/
theorem comp_list {K : PySem.W.Frag} {a D : Addr} {xs : List V} {tc : TT} {te : TE} {Q : VK} {H : Hp} (Pv : Nat → List V → Hp → Prop) (h0 : Pv 0 [] H) (hl : ∀ i ys H, i ≤ xs.length → Pv i ys H → SqL K H a xs ∧ H D = some (.lst ys))
    (hs : ∀ i x ys H, xs[i]? = some x → Pv i ys H → ∀ N : List V → Hp → Prop, (∀ zs H', Pv (i + 1) zs H' → N zs H') →
      tc [some x] H fun b H2 => if b = true then te [some x] H2 fun y H3 => H3 D = some (.lst ys) ∧ ys.length < sizeLine ∧ N (ys ++ [y]) (upd H3 D (.lst (ys ++ [y]))) else N ys H2)
    (hd : ∀ ys H, Pv xs.length ys H → Q (.ref D) H) : ∃ W, (∃ m, W 0 m [] H) ∧ cTurns (Itl K a) tc te D Q W := by
  refine ⟨fun i m ys H => m = xs.length - i ∧ i ≤ xs.length ∧ Pv i ys H, ⟨xs.length, by simp, Nat.zero_le _, h0⟩, ?_⟩
  rintro i m ys H ⟨rfl, hi, p⟩
  obtain ⟨q1, q2⟩ := hl i ys H hi p
  refine ⟨q2, ?_⟩
  by_cases hlt : i < xs.length
  · refine .inr ⟨⟨xs, xs[i], q1, by simp [hlt]⟩, fun x H' y => ?_⟩
    obtain ⟨e, y⟩ := y
    subst e
    exact hs i x ys _ (y xs q1) p (fun zs H' => ∃ m', m' < xs.length - i ∧ m' = xs.length - (i + 1) ∧ i + 1 ≤ xs.length ∧ Pv (i + 1) zs H') fun zs H' z => ⟨_, by omega, rfl, hlt, z⟩
  · have e : i = xs.length := by omega
    subst e
    exact .inl ⟨⟨xs, q1, Nat.le_refl _⟩, hd ys H p⟩
theorem comp_range {lo : Int} {n : Nat} {D : Addr} {tc : TT} {te : TE} {Q : VK} {H : Hp} (Pv : Nat → List V → Hp → Prop) (h0 : Pv 0 [] H) (hl : ∀ i ys H, i ≤ n → Pv i ys H → H D = some (.lst ys))
    (hs : ∀ i ys H, i < n → Pv i ys H → ∀ N : List V → Hp → Prop, (∀ zs H', Pv (i + 1) zs H' → N zs H') →
      tc [some (.int (lo + i))] H fun b H2 => if b = true then te [some (.int (lo + i))] H2 fun y H3 => H3 D = some (.lst ys) ∧ ys.length < sizeLine ∧ N (ys ++ [y]) (upd H3 D (.lst (ys ++ [y]))) else N ys H2)
    (hd : ∀ ys H, Pv n ys H → Q (.ref D) H) : ∃ W, (∃ m, W 0 m [] H) ∧ cTurns (Itr lo n) tc te D Q W := by
  refine ⟨fun i m ys H => m = n - i ∧ i ≤ n ∧ Pv i ys H, ⟨n, by simp, Nat.zero_le _, h0⟩, ?_⟩
  rintro i m ys H ⟨rfl, hi, p⟩
  refine ⟨hl i ys H hi p, ?_⟩
  by_cases hlt : i < n
  · refine .inr ⟨hlt, fun x H' y => ?_⟩
    obtain ⟨e, y⟩ := y
    subst e y
    exact hs i ys _ hlt p (fun zs H' => ∃ m', m' < n - i ∧ m' = n - (i + 1) ∧ i + 1 ≤ n ∧ Pv (i + 1) zs H') fun zs H' z => ⟨_, by omega, rfl, hlt, z⟩
  · have e : i = n := by omega
    subst e
    exact .inl ⟨Nat.le_refl _, hd ys H p⟩
end L2

namespace Peg
/-! ### a day -/
/-- the peg of a coat, as a number -/
def pegI (r : Rack) (c : Int) : Int := (r.findIdx (fun o => o == some c) : Nat)
theorem pegI_is {r : Rack} {c : Int} (h : Hangs r c) : 0 ≤ pegI r c ∧ pegI r c < r.length ∧ lk r (pegI r c) = some c := by
  have hm : some c ∈ r := by
    have := mem_coats.mpr h
    unfold coats at this
    rw [List.mem_filterMap] at this
    obtain ⟨o, ho, e⟩ := this
    cases e
    exact ho
  have hlt : r.findIdx (fun o => o == some c) < r.length := List.findIdx_lt_length_of_exists ⟨_, hm, by simp⟩
  have hp : r[r.findIdx (fun o => o == some c)] == some c := List.findIdx_getElem (w := hlt)
  unfold pegI
  refine ⟨by omega, by omega, ?_⟩
  rw [lk_nat hlt, List.getD_eq_getElem?_getD, List.getElem?_eq_getElem hlt]
  simpa using hp
def pegO (r : Rack) (c : Int) : Option Int := if c ∈ coats r then some (pegI r c) else none
/-- the rack behind a hanging: more pegs where they are scarce -/
def grown (b : Rack) : Rack := if 2 * b.length < 3 * (coats b).length then change b (2 * b.length + 1) else b
abbrev Deed := Nat × Int
/-- the rack behind a deed: 0 hang, 1 take, 2 look -/
def after (r : Rack) (d : Deed) : Rack :=
  if d.2 ∈ coats r then (if d.1 = 1 then take r (pegI r d.2) else r) else (if d.1 = 0 then grown (put r d.2) else r)
def told (r : Rack) (d : Deed) : Option Int :=
  if d.2 ∈ coats r then (if d.1 = 0 then none else some (pegI r d.2)) else (if d.1 = 0 then some (pegI (grown (put r d.2)) d.2) else none)
def rackAt (ds : List Deed) : Rack := ds.foldl after (empty 5)
/-- the coats behind a deed, as the document counts them -/
def coatsAfter (cs : List Int) (d : Deed) : List Int := if d.1 = 0 then (if d.2 ∈ cs then cs else cs ++ [d.2]) else if d.1 = 1 then cs.erase d.2 else cs
def coatsAt (ds : List Deed) : List Int := ds.foldl coatsAfter []
theorem rackAt_snoc (ds : List Deed) (d : Deed) : rackAt (ds ++ [d]) = after (rackAt ds) d := by unfold rackAt; rw [List.foldl_append]; rfl
theorem coatsAt_snoc (ds : List Deed) (d : Deed) : coatsAt (ds ++ [d]) = coatsAfter (coatsAt ds) d := by unfold coatsAt; rw [List.foldl_append]; rfl
/-- what holds of the rack at any time of a day; cs the coats, n the deeds done -/
structure Ready (r : Rack) (cs : List Int) (n : Nat) : Prop where
  S : Sound r
  nd : cs.Nodup
  mem : ∀ c, Hangs r c ↔ c ∈ cs
  few : 3 * cs.length ≤ 2 * r.length
  five : 5 ≤ r.length
  cn : cs.length ≤ n
  rn : r.length ≤ 3 * n + 5
theorem Ready.perm {r : Rack} {cs : List Int} {n : Nat} (R : Ready r cs n) : (coats r).Perm cs := perm_of (coats_nodup R.S) R.nd fun c => by rw [mem_coats, R.mem]
theorem Ready.len {r : Rack} {cs : List Int} {n : Nat} (R : Ready r cs n) : (coats r).length = cs.length := R.perm.length_eq
theorem Ready.mem' {r : Rack} {cs : List Int} {n : Nat} (R : Ready r cs n) (c : Int) : c ∈ coats r ↔ c ∈ cs := by rw [mem_coats, R.mem]
theorem Ready.mono {r : Rack} {cs : List Int} {n m : Nat} (R : Ready r cs n) (h : n ≤ m) : Ready r cs m := ⟨R.S, R.nd, R.mem, R.few, R.five, Nat.le_trans R.cn h, by have := R.rn; omega⟩
theorem ready_empty : Ready (empty 5) [] 0 := ⟨empty_sound (by decide), List.nodup_nil, fun c => ⟨fun ⟨i, e⟩ => absurd e (by rw [lk_empty]; simp), fun h => absurd h (by simp)⟩, by simp, by rw [empty_length]; decide, Nat.le_refl _, by rw [empty_length]; decide⟩
/-- the rack with one coat more, ahead of a change -/
theorem Ready.putS {r : Rack} {cs : List Int} {n : Nat} (R : Ready r cs n) {c : Int} (hc : c ∉ cs) : Sound (put r c) ∧ (coats (put r c)).length = cs.length + 1 ∧ ∀ x, Hangs (put r c) x ↔ x ∈ cs ∨ x = c := by
  have e := coats_put R.S.free c
  rw [R.len] at e
  have h1 := R.few
  have h2 := R.five
  exact ⟨put_sound R.S (fun h => hc ((R.mem c).mp h)) (coats_free (by rw [e, put_length]; omega)), e, fun x => by rw [hangs_put R.S.free, R.mem]⟩
theorem Ready.hang {r : Rack} {cs : List Int} {n : Nat} (R : Ready r cs n) {c : Int} (hc : c ∉ cs) : Ready (grown (put r c)) (cs ++ [c]) (n + 1) := by
  obtain ⟨S, e, hm⟩ := R.putS hc
  have h1 := R.few
  have h2 := R.five
  have h3 := R.cn
  have h4 := R.rn
  have nd : (cs ++ [c]).Nodup := by
    rw [List.nodup_append]
    refine ⟨R.nd, by simp, fun a ha b hb => ?_⟩
    rw [List.mem_singleton] at hb
    subst hb
    intro z; subst z; exact hc ha
  unfold grown
  by_cases h : 2 * (put r c).length < 3 * (coats (put r c)).length
  · rw [if_pos h]
    obtain ⟨S2, m2, l2⟩ := change_sound S (n := 2 * (put r c).length + 1) (by rw [e, put_length]; omega)
    rw [put_length] at *
    refine ⟨S2, nd, fun x => ?_, ?_, ?_, ?_, ?_⟩
    · rw [m2, hm, List.mem_append, List.mem_singleton]
    · rw [l2, List.length_append, List.length_singleton]; omega
    · rw [l2]; omega
    · rw [List.length_append, List.length_singleton]; omega
    · rw [l2]; omega
  · rw [if_neg h]
    rw [put_length] at h
    refine ⟨S, nd, fun x => ?_, ?_, ?_, ?_, ?_⟩
    · rw [hm, List.mem_append, List.mem_singleton]
    · rw [put_length, List.length_append, List.length_singleton]; omega
    · rw [put_length]; omega
    · rw [List.length_append, List.length_singleton]; omega
    · rw [put_length]; omega
theorem Ready.take {r : Rack} {cs : List Int} {n : Nat} (R : Ready r cs n) {c : Int} (hc : c ∈ cs) : Ready (take r (pegI r c)) (cs.erase c) n := by
  obtain ⟨_, _, h⟩ := pegI_is ((R.mem c).mpr hc)
  obtain ⟨S, hm⟩ := take_sound R.S h
  have h1 := R.few
  have el := List.length_erase_of_mem hc
  refine ⟨S, R.nd.erase c, fun x => ?_, by rw [take_length]; omega, by rw [take_length]; exact R.five, by have := R.cn; omega, by rw [take_length]; exact R.rn⟩
  rw [hm, R.mem, R.nd.mem_erase_iff]
  exact And.comm
theorem Ready.after {r : Rack} {cs : List Int} {n : Nat} (R : Ready r cs n) (d : Deed) : Ready (after r d) (coatsAfter cs d) (n + 1) := by
  unfold Peg.after coatsAfter
  by_cases h : d.2 ∈ cs
  · rw [if_pos ((R.mem' _).mpr h)]
    by_cases h0 : d.1 = 0
    · rw [if_neg (by omega), if_pos h0, if_pos h]
      exact R.mono (by omega)
    · rw [if_neg h0]
      by_cases h1 : d.1 = 1
      · rw [if_pos h1, if_pos h1]
        exact (R.take h).mono (by omega)
      · rw [if_neg h1, if_neg h1]
        exact R.mono (by omega)
  · rw [if_neg (fun z => h ((R.mem' _).mp z))]
    by_cases h0 : d.1 = 0
    · rw [if_pos h0, if_pos h0, if_neg h]
      exact R.hang h
    · rw [if_neg h0, if_neg h0]
      by_cases h1 : d.1 = 1
      · rw [if_pos h1, List.erase_of_not_mem h]
        exact R.mono (by omega)
      · rw [if_neg h1]
        exact R.mono (by omega)
theorem ready_fold : ∀ (ds : List Deed) (r : Rack) (cs : List Int) (n : Nat), Ready r cs n → Ready (ds.foldl after r) (ds.foldl coatsAfter cs) (n + ds.length)
  | [], _, _, _, R => R
  | d :: ds, _, _, n, R => by
    have := ready_fold ds _ _ (n + 1) (R.after d)
    rw [List.length_cons, show n + (ds.length + 1) = n + 1 + ds.length by omega]
    exact this
theorem ready_at (ds : List Deed) : Ready (rackAt ds) (coatsAt ds) ds.length := by
  have := ready_fold ds _ _ 0 ready_empty
  rw [Nat.zero_add] at this
  exact this
end Peg

namespace Peg
open PySem L2
theorem pegO_is (r : Rack) (c : Int) : PegIs r c (pegO r c) := by
  unfold pegO
  by_cases h : c ∈ coats r
  · rw [if_pos h]
    exact pegI_is (mem_coats.mp h)
  · rw [if_neg h]
    exact fun i hi => h (mem_coats.mpr ⟨i, hi⟩)
/-- the deeds' words -/
def kS : Nat → Str
  | 0 => "hang"
  | 1 => "take"
  | _ => "look"
theorem kS_th : ¬ ("take" : Str) = "hang" := by decide +kernel
theorem kS_lh : ¬ ("look" : Str) = "hang" := by decide +kernel
theorem kS_lt : ¬ ("look" : Str) = "take" := by decide +kernel
theorem kS_hang (k : Nat) : decide (V.str (kS k) = V.str "hang") = decide (k = 0) := by
  match k with
  | 0 => exact (decide_eq_true rfl).trans (decide_eq_true rfl).symm
  | 1 => exact (decide_eq_false fun z => kS_th (V.str.inj z)).trans (decide_eq_false (by decide)).symm
  | n + 2 => exact (decide_eq_false fun z => kS_lh (V.str.inj z)).trans (decide_eq_false (by omega)).symm
theorem kS_take (k : Nat) : decide (V.str (kS k) = V.str "take") = decide (k = 1) := by
  match k with
  | 0 => exact (decide_eq_false fun z => kS_th (V.str.inj z).symm).trans (decide_eq_false (by decide)).symm
  | 1 => exact (decide_eq_true rfl).trans (decide_eq_true rfl).symm
  | n + 2 => exact (decide_eq_false fun z => kS_lt (V.str.inj z)).trans (decide_eq_false (by omega)).symm
theorem str_ne {x y : Str} (h : ¬ x = y) : ¬ (decide (V.str x = V.str y)) = true := fun z => h (by have := of_decide_eq_true z; injection this)
/-- a deed's tuple -/
def dT (d : Deed) : List V := [.str (kS d.1), .int d.2]
/-- the deeds ds stand at the addresses das -/
structure DeedsAt (K : PySem.W.Frag) (H : Hp) (das : List Addr) (ds : List Deed) : Prop where
  len : das.length = ds.length
  get : ∀ (j : Nat) a d, das[j]? = some a → ds[j]? = some d → SqT K H a (dT d)
  kind : ∀ d ∈ ds, d.1 < 3
theorem Same.tup {K : PySem.W.Frag} {H H' : Hp} {a : Addr} {xs : List V} (e : Same H H') (h : SqT K H a xs) : SqT K H' a xs := by
  rcases h with (h | ⟨o, h⟩) | h
  · exact .inl (.inl (e _ _ h))
  · exact .inl (.inr ⟨o, e _ _ h⟩)
  · exact .inr h
theorem DeedsAt.same {K : PySem.W.Frag} {H H' : Hp} {das : List Addr} {ds : List Deed} (D : DeedsAt K H das ds) (e : Same H H') : DeedsAt K H' das ds := ⟨D.len, fun j a d h1 h2 => Same.tup e (D.get j a d h1 h2), D.kind⟩
def toldAt (ds : List Deed) : Nat → Option Int
  | 0 => none
  | j + 1 => match ds[j]? with
    | some d => told (rackAt (ds.take j)) d
    | none => none
theorem toldAt_succ {ds : List Deed} {j : Nat} {d : Deed} (h : ds[j]? = some d) : toldAt ds (j + 1) = told (rackAt (ds.take j)) d := by
  show (match ds[j]? with | some d => told (rackAt (ds.take j)) d | none => none) = _
  rw [h]
def tolds (ds : List Deed) : List (Option Int) := (List.range ds.length).map fun j => toldAt ds (j + 1)
/-- the list of steps at wl -/
def Walked (H : Hp) (ds : List Deed) (ts : List Addr) (wl : Addr) : Prop := ∀ (j : Nat) t, ts[j]? = some t → t ≠ wl ∧ ∃ a, a ≠ wl ∧ H t = some (.tup [.ref a, oV (toldAt ds j)]) ∧ H a = some (.lst (rk (rackAt (ds.take j))))
theorem Walked.same {H H' : Hp} {ds : List Deed} {ts : List Addr} {wl : Addr} (W : Walked H ds ts wl) (e : Same H H') : Walked H' ds ts wl := fun j t h => by
  obtain ⟨h1, a, h2, h3, h4⟩ := W j t h
  exact ⟨h1, a, h2, e _ _ h3, e _ _ h4⟩
theorem Walked.upd {H : Hp} {ds : List Deed} {ts : List Addr} {wl : Addr} (W : Walked H ds ts wl) (o : HO) : Walked (upd H wl o) ds ts wl := fun j t h => by
  obtain ⟨h1, a, h2, h3, h4⟩ := W j t h
  exact ⟨h1, a, h2, by rw [upd_ne h1]; exact h3, by rw [upd_ne h2]; exact h4⟩
theorem rk_ne_refs {r : Rack} (h : 0 < r.length) (ts : List Addr) : rk r ≠ ts.map V.ref := fun e => by
  cases r with
  | nil => cases h
  | cons o r =>
    cases ts with
    | nil => cases e
    | cons t ts =>
      have : oV o = V.ref t := by injection e
      cases o <;> cases this
theorem refs_get {ts : List Addr} {i : Nat} {y : V} (h : (ts.map V.ref)[i]? = some y) : ∃ t, ts[i]? = some t ∧ y = V.ref t := by
  rw [List.getElem?_map] at h
  cases e : ts[i]? with
  | none => rw [e] at h; cases h
  | some z => rw [e] at h; exact ⟨z, rfl, (Option.some.inj h).symm⟩
theorem cut_tail (ts : List Addr) : cutV (ts.map V.ref) (some 1) none = (ts.drop 1).map V.ref := by
  unfold cutV
  rw [show (some (1 : Int)) = some ((1 : Nat) : Int) from rfl, HT.sIx_nat, HT.sIx_none, List.length_map]
  rcases Nat.lt_or_ge 1 ts.length with h | h
  · rw [Nat.min_eq_left (Nat.le_of_lt h), List.take_of_length_le (by rw [List.length_drop, List.length_map]; omega), List.map_drop]
  · rw [Nat.min_eq_right h, List.drop_of_length_le (by rw [List.length_map]; omega), List.drop_of_length_le h]
    simp
theorem tolds_get {ds : List Deed} {j : Nat} (h : j < ds.length) : (tolds ds)[j]? = some (toldAt ds (j + 1)) := by
  unfold tolds
  rw [List.getElem?_map, List.getElem?_range h]
  rfl
theorem tolds_length (ds : List Deed) : (tolds ds).length = ds.length := by unfold tolds; simp
end Peg
namespace Peg
open PySem L2
/-- the deeds ds stand at the addresses das, tracked -/
structure DeedsTr (H : Hp) (das : List Addr) (ds : List Deed) : Prop where
  len : das.length = ds.length
  get : ∀ (j : Nat) a d, das[j]? = some a → ds[j]? = some d → H a = some (.tup (dT d))
  kind : ∀ d ∈ ds, d.1 < 3
theorem DeedsTr.at {K : PySem.W.Frag} {H : Hp} {das : List Addr} {ds : List Deed} (D : DeedsTr H das ds) : DeedsAt K H das ds := ⟨D.len, fun j a d h1 h2 => SqT.of (D.get j a d h1 h2), D.kind⟩
theorem DeedsTr.same {H H' : Hp} {das : List Addr} {ds : List Deed} (D : DeedsTr H das ds) (e : Same H H') : DeedsTr H' das ds := ⟨D.len, fun j a d h1 h2 => e _ _ (D.get j a d h1 h2), D.kind⟩
theorem DeedsTr.has {H : Hp} {das : List Addr} {ds : List Deed} (D : DeedsTr H das ds) {j : Nat} {a : Addr} (h : das[j]? = some a) : ∃ d, ds[j]? = some d ∧ H a = some (.tup (dT d)) := by
  have hl := (List.getElem?_eq_some_iff.mp h).1
  rw [D.len] at hl
  exact ⟨ds[j], List.getElem?_eq_getElem hl, D.get j a _ h (List.getElem?_eq_getElem hl)⟩
theorem DeedsTr.upd {H : Hp} {das : List Addr} {ds : List Deed} (D : DeedsTr H das ds) {p : Addr} {xs : List V} (hp : H p = some (.lst xs)) (o : HO) : DeedsTr (upd H p o) das ds := ⟨D.len, fun j a d h1 h2 => by
  have e := D.get j a d h1 h2
  rw [upd_ne (ne_of e hp (by intro z; cases z))]; exact e, D.kind⟩
theorem DeedsTr.snoc {H : Hp} {das : List Addr} {ds : List Deed} (D : DeedsTr H das ds) {t : Addr} {d : Deed} (ht : H t = some (.tup (dT d))) (hd : d.1 < 3) : DeedsTr H (das ++ [t]) (ds ++ [d]) := by
  refine ⟨by rw [List.length_append, List.length_append, D.len]; rfl, fun j a e h1 h2 => ?_, fun e he => ?_⟩
  · rcases Nat.lt_or_ge j das.length with hj | hj
    · rw [List.getElem?_append_left hj] at h1
      rw [List.getElem?_append_left (by rw [← D.len]; exact hj)] at h2
      exact D.get j a e h1 h2
    · rw [List.getElem?_append_right hj] at h1
      rw [List.getElem?_append_right (by rw [← D.len]; exact hj), ← D.len] at h2
      have hz : j - das.length = 0 := by
        have := (List.getElem?_eq_some_iff.mp h1).1
        simp at this
        omega
      rw [hz] at h1 h2
      obtain rfl : t = a := by simpa using h1
      obtain rfl : d = e := by simpa using h2
      exact ht
  · rcases List.mem_append.mp he with z | z
    · exact D.kind e z
    · rw [List.mem_singleton] at z
      subst z; exact hd
theorem deeds_nil (H : Hp) : DeedsTr H [] [] := ⟨rfl, fun j a d h => by simp at h, fun d h => by cases h⟩
theorem refs_pick {das : List Addr} {n : Int} (hn : n = (das.length : Int)) (h0 : 0 < n) (x : Int) : ∃ (da : Addr) (j : Nat), atI (das.map V.ref) (x % n) = some (.ref da) ∧ das[j]? = some da := by
  have h1 := Int.emod_nonneg x (show n ≠ 0 by omega)
  have h2 := Int.emod_lt_of_pos x h0
  have hl : (x % n).toNat < das.length := by omega
  refine ⟨das[(x % n).toNat], (x % n).toNat, ?_, List.getElem?_eq_getElem hl⟩
  have := atI_nat (xs := das.map V.ref) (j := (x % n).toNat) (v := .ref das[(x % n).toNat]) (by rw [List.getElem?_map, List.getElem?_eq_getElem hl]; rfl)
  rw [Int.toNat_of_nonneg h1] at this
  exact this
theorem atI_ints {ns : List Int} {i : Nat} (h : i < ns.length) : atI (ns.map V.int) (0 + (i : Int)) = some (.int ns[i]) := by
  rw [show (0 : Int) + (i : Int) = (i : Int) by omega]
  exact atI_nat (by rw [List.getElem?_map, List.getElem?_eq_getElem h]; rfl)
theorem atI_refs {ts : List Addr} {i : Nat} {t : Addr} (h : ts[i]? = some t) : atI (ts.map V.ref) (0 + (i : Int)) = some (.ref t) := by
  rw [show (0 : Int) + (i : Int) = (i : Int) by omega]
  exact atI_nat (by rw [List.getElem?_map, h]; rfl)
theorem cut_to200 (ns : List Int) (h : ns.length ≤ 200) : cutV (ns.map V.int) none (some 200) = ns.map V.int := by
  unfold cutV
  rw [HT.sIx_none, show (some (200 : Int)) = some ((200 : Nat) : Int) from rfl, HT.sIx_nat, List.length_map, Nat.min_eq_right h, List.drop_zero, Nat.sub_zero, List.take_of_length_le (by rw [List.length_map]; exact Nat.le_refl _)]
end Peg
namespace Peg
open PySem L2
/-- [c for c in rack if c is not None] -/
theorem comp_coats {K : PySem.W.Frag} {i : Nat} {σ : St} {H : Hp} {Q : VK} {a : Addr} {r : Rack} (h1 : σ[i]? = some (some (.ref a))) (hS : SqL K H a (rk r)) (hn : r.length ≤ 1000000)
    (q : ∀ (p : Addr) (H' : Hp), H p = none → Same H H' → H' p = some (.lst ((coats r).map V.int)) → Q (.ref p) H') : tComp (iList K (tVar i)) (tB (tNotN (tVar 0))) (tVar 0) σ H Q := by
  refine ⟨_, h1, a, rfl, ⟨_, hS⟩, fun D hD => ?_⟩
  refine comp_list (K := K) (a := a) (xs := rk r) (fun i ys H1 => Same H H1 ∧ ys = (coats (r.take i)).map V.int ∧ H1 D = some (.lst ys)) ⟨Same.new hD, rfl, upd_same⟩ (fun i ys H1 _ ⟨s1, _, e⟩ => ⟨s1.seq hS, e⟩) ?_ ?_
  · rintro i x ys H1 hi ⟨s1, rfl, hDD⟩ N hN
    obtain ⟨o, ho, rfl⟩ : ∃ o, r[i]? = some o ∧ x = oV o := by
      unfold rk at hi
      rw [List.getElem?_map] at hi
      cases e : r[i]? with
      | none => rw [e] at hi; cases hi
      | some z => rw [e] at hi; exact ⟨z, rfl, (Option.some.inj hi).symm⟩
    have hc := coats_take ho
    refine ⟨_, rfl, _, rfl, ?_⟩
    cases o with
    | none =>
      refine iteNone rfl ?_
      refine hN _ _ ⟨s1, ?_, hDD⟩
      rw [hc]; simp
    | some c =>
      refine iteSome (by simp) ?_
      refine ⟨_, rfl, hDD, ?_, hN _ _ ⟨Same.upd s1 hD, ?_, upd_same⟩⟩
      · have h1 := coats_take_len r i
        have h2 := coats_le r
        rw [List.length_map, sizeLine_eq]; omega
      · rw [hc, List.map_append]; rfl
  · rintro ys H1 ⟨s1, rfl, hDD⟩
    rw [rk_length, List.take_length] at hDD
    exact q D H1 hD s1 hDD
/-- the place that index gives -/
theorem pegI_first {r : Rack} (S : Sound r) {c : Int} (h : c ∈ coats r) : ∃ j : Nat, pegI r c = (j : Int) ∧ j < r.length ∧ lk r (j : Int) = some c ∧ (rk r)[j]? = some (.int c) ∧ ∀ (m : Nat) v, m < j → (rk r)[m]? = some v → eqV v (.int c) = false := by
  obtain ⟨i0, i1, hi⟩ := pegI_is (mem_coats.mp h)
  obtain ⟨j, ej⟩ : ∃ j : Nat, pegI r c = (j : Int) := ⟨(pegI r c).toNat, by omega⟩
  rw [ej] at hi
  obtain ⟨g1, g2⟩ := rk_first S (by omega) hi
  exact ⟨j, ej, by omega, hi, g1, g2⟩
theorem eqV_int (c : Int) : eqV (.int c) (.int c) = true := by simp [eqV]
theorem inV_false {c : Int} {r : Rack} (h : c ∉ coats r) : inV (.int c) (rk r) = false := by
  cases e : inV (.int c) (rk r) with
  | false => rfl
  | true => exact absurd (mem_coats.mpr (inV_rk.mp e)) h
end Peg

namespace L2
open PySem PySem.Spec PyProof.Rows
theorem erase_map_int (ns : List Int) (j : Nat) : (ns.map V.int).eraseIdx j = (ns.eraseIdx j).map V.int := by
  induction ns generalizing j with
  | nil => rfl
  | cons n ns ih =>
    cases j with
    | zero => rfl
    | succ j => rw [List.map_cons, List.eraseIdx_cons_succ, List.eraseIdx_cons_succ, List.map_cons, ih]
section
variable {X : Cx}
/-- ns.remove(c), of ints, where it is there -/
def rRemove : V → List V → Hp → VK → Prop := fun x vs H Q => ∃ (l : Addr) (ns : List Int) (c : Int), x = .ref l ∧ vs = [.int c] ∧ H l = some (.lst (ns.map V.int)) ∧ c ∈ ns ∧ Q .non (upd H l (.lst ((ns.erase c).map V.int)))
theorem mt_remove : MtR X "list.remove" rRemove := by
  intro pins s σ H x vs v us Q I rx rv h
  obtain ⟨l, ns, c, rfl, rfl, hH, hc, q⟩ := h
  cases rx
  obtain ⟨u, rfl, ru⟩ := rv.one
  obtain ⟨tu, rfl⟩ := ru
  obtain ⟨hz, its, n, r, hl, e⟩ := I.lstM hH
  rw [List.length_map] at hl hz
  have hj : ns.idxOf c < ns.length := List.idxOf_lt_length_of_mem hc
  have get : ∀ (m : Nat) (hm : m < its.length), ∃ t, its[m] = Value.int (ns[m]'(by omega)) t := fun m hm => by
    have hm' : m < ns.length := by omega
    have e1 : (ns.map V.int)[m]? = some (V.int ns[m]) := by rw [List.getElem?_map, List.getElem?_eq_getElem hm']; rfl
    obtain ⟨u', e2, t, e3⟩ := r.get e1
    rw [List.getElem?_eq_getElem hm] at e2
    exact ⟨t, (Option.some.inj e2).trans e3⟩
  refine call_meets F.slot_list_remove ⟨_, e, rfl⟩ F.entry_list_remove (F.args_list_remove_2 _ _) (PySem.MeetsSeq.list_remove l its.toArray n (.int c tu) (fun y => match y with | .int i _ => i == c | _ => false) ?_ (ns.idxOf c) (by rw [List.size_toArray]; omega) ?_ ?_ (by rw [List.size_toArray]; omega)) ⟨e, ?_⟩
  · intro y hy
    obtain ⟨m, hm, rfl⟩ := List.getElem_of_mem (show y ∈ its by simpa using hy)
    obtain ⟨t, et⟩ := get m hm
    rw [et]
    exact PySem.MeetsSeq.EqGives.int _ _ _ _
  · obtain ⟨t, et⟩ := get (ns.idxOf c) (by omega)
    rw [List.getElem_toArray, et]
    show (ns[ns.idxOf c] == c) = true
    rw [List.getElem_idxOf hj]
    exact beq_self_eq_true c
  · intro m hm hmj
    rw [List.size_toArray] at hm
    obtain ⟨t, et⟩ := get m hm
    rw [List.getElem_toArray, et]
    show (ns[m] == c) = false
    exact List.not_of_lt_findIdx (p := (· == c)) hmj
  · have er : ns.erase c = ns.eraseIdx (ns.idxOf c) := List.erase_eq_eraseIdx_of_idxOf rfl
    rw [er] at q
    refine ⟨.non, _, I.lset (its' := its.eraseIdx (ns.idxOf c)) hH e (by simp) ?_ ?_, rfl, q⟩
    · rw [← erase_map_int]
      exact r.eraseIdx _
    · rw [List.length_map]
      exact Nat.le_trans (len_erase _ _) hz
theorem firstMet_nodup {ns : List Int} (hn : ns.Nodup) : ∀ i, i ≤ ns.length → (firstMet (fun j => ns.getD j 0) i).length = i
  | 0, _ => rfl
  | i + 1, h => by
    have ih := firstMet_nodup hn i (by omega)
    rw [firstMet_succ]
    have hf : (firstMet (fun j => ns.getD j 0) i).any (· == ns.getD i 0) = false := by
      rw [firstMet_any]
      cases q : ((List.range i).map fun j => ns.getD j 0).any (· == ns.getD i 0) with
      | false => rfl
      | true =>
        rw [List.any_eq_true] at q
        obtain ⟨x, hx, e⟩ := q
        rw [List.mem_map] at hx
        obtain ⟨j, hj, rfl⟩ := hx
        rw [List.mem_range] at hj
        have e' : ns.getD j 0 = ns.getD i 0 := by simpa using e
        have hj' : j < ns.length := by omega
        have hi' : i < ns.length := by omega
        rw [List.getD_eq_getElem?_getD, List.getD_eq_getElem?_getD, List.getElem?_eq_getElem hj', List.getElem?_eq_getElem hi'] at e'
        have := (List.pairwise_iff_getElem.mp hn) j i hj' hi' hj
        exact absurd (by simpa using e') this
    unfold step_dedup
    simp only [hf, Bool.false_eq_true, ↓reduceIte, List.length_append, List.length_singleton, ih]
/-- set(ns), ns ints that are all different -/
def rSetI (K : PySem.W.Frag) : List V → Hp → VK → Prop := fun xs H Q => ∃ (p : Addr) (ns : List Int), xs = [.ref p] ∧ SqL K H p (ns.map V.int) ∧ ns.Nodup ∧ ns.length ≤ 1000 ∧ ∀ (l : Addr) (S : Int → Bool), H l = none → Q (.ref l) (upd H l (.set S ns.length))
theorem call_setI (hc : X.calm = true) : CallR X (.type "set") (rSetI X.K) := by
  intro pins s σ H xs us Q I r h
  obtain ⟨p, ns, rfl, hS, hn, hl, q⟩ := h
  obtain ⟨u, rfl, ru⟩ := vals1 r
  cases ru
  obtain ⟨its, rv, pl, hz⟩ := I.list hS
  have len : its.length = ns.length := by
    have := rv.length
    rw [List.length_map] at this
    exact this.symm
  refine PySem.call_set_list (I.ok.hd hc) pl.isList (by simpa using intsAre_of rv) (by rw [List.size_toArray]; unfold scanBound; omega) fun h' tk hset hk => ?_
  have es : its.toArray.size = ns.length := by rw [List.size_toArray]; exact len
  rw [es, firstMet_nodup hn _ (Nat.le_refl _)] at hset
  have k : ∀ b o, s.heap.get? b = some o → h'.get? b = some o := fun b o e => hk b o (Heap.lt_size e) e
  exact ⟨.ref s.heap.objs.size, _, I.laid (t' := tk) (o := .set (fun k' => (firstMet (fun i => ns.getD i 0) ns.length).any (· == k')) ns.length) k (Nat.le_refl _) hset, rfl, q _ _ I.fresh⟩
/-- len of a set -/
def rLenS : List V → Hp → VK → Prop := fun xs H Q => ∃ (p : Addr) (S : Int → Bool) (n : Nat), xs = [.ref p] ∧ H p = some (.set S n) ∧ Q (.int n) H
theorem call_lenS : CallR X (.builtin "len") rLenS := by
  intro pins s σ H xs us Q I r h
  obtain ⟨p, S, n, rfl, hp, q⟩ := h
  obtain ⟨u, rfl, ru⟩ := vals1 r
  cases ru
  obtain ⟨o, es, ep, t, ho, hex, hd, _, _, hb, hf, rfl⟩ := (show s.heap.SetOf (intKind X.prog X.w) p S n from I.hok p _ hp)
  exact PySem.call_len_set ho hex hd hf (by unfold scanBound at hb; omega) ⟨.int es.size, H, I.tok _, ⟨_, rfl⟩, q⟩
end
end L2

namespace Peg
open PySem L2
def look (c : Int) : Deed := (2, c)
theorem after_look (r : Rack) (c : Int) : after r (look c) = r := by
  unfold after look
  by_cases h : c ∈ coats r
  · rw [if_pos h, if_neg (by simp)]
  · rw [if_neg h, if_neg (by simp)]
theorem fold_look (r : Rack) : ∀ cs : List Int, (cs.map look).foldl after r = r
  | [] => rfl
  | c :: cs => by rw [List.map_cons, List.foldl_cons, after_look]; exact fold_look r cs
theorem rackAt_looks (ds : List Deed) (cs : List Int) (more : List Deed) {j : Nat} (hj : j ≤ cs.length) : rackAt ((ds ++ cs.map look ++ more).take (ds.length + j)) = rackAt ds := by
  have e : (ds ++ cs.map look ++ more).take (ds.length + j) = ds ++ (cs.take j).map look := by
    rw [List.append_assoc, List.take_append, List.take_of_length_le (by omega), Nat.add_sub_cancel_left, List.take_append_of_le_length (by rw [List.length_map]; exact hj), List.map_take]
  rw [e]
  unfold rackAt
  rw [List.foldl_append, fold_look]
theorem pegI_inj {r : Rack} {c c' : Int} (h : c ∈ coats r) (h' : c' ∈ coats r) (e : pegI r c = pegI r c') : c = c' := by
  have a := (pegI_is (mem_coats.mp h)).2.2
  have b := (pegI_is (mem_coats.mp h')).2.2
  rw [e, b] at a
  exact (Option.some.inj a).symm
theorem cut_mid (xs : List V) (a m : Nat) (h : a + m ≤ xs.length) : cutV xs (some (a : Int)) (some ((a + m : Nat) : Int)) = (xs.drop a).take m := by
  unfold cutV
  rw [HT.sIx_nat, HT.sIx_nat, Nat.min_eq_left h, Nat.min_eq_left (show a ≤ xs.length by omega), Nat.add_sub_cancel_left]
/-- the last looks -/
theorem last_looks (ds : List Deed) {cs : List Int} (hc : ∀ c ∈ cs, c ∈ coats (rackAt ds)) (more : List Deed) :
    ((rk (tolds (ds ++ cs.map look ++ more))).drop ds.length).take cs.length = (cs.map (pegI (rackAt ds))).map V.int := by
  have hl : (ds ++ cs.map look ++ more).length = ds.length + cs.length + more.length := by rw [List.length_append, List.length_append, List.length_map]
  refine List.ext_getElem? fun j => ?_
  by_cases hj : j < cs.length
  · rw [List.getElem?_take, if_pos hj, List.getElem?_drop]
    unfold rk
    have hd : (ds ++ cs.map look ++ more)[ds.length + j]? = some (look cs[j]) := by
      rw [List.append_assoc, List.getElem?_append_right (by omega), Nat.add_sub_cancel_left, List.getElem?_append_left (by rw [List.length_map]; exact hj), List.getElem?_map, List.getElem?_eq_getElem hj]
      rfl
    rw [List.getElem?_map, tolds_get (by rw [hl]; omega), toldAt_succ hd, rackAt_looks ds cs more (Nat.le_of_lt hj), List.getElem?_map, List.getElem?_map, List.getElem?_eq_getElem hj]
    have : told (rackAt ds) (look cs[j]) = some (pegI (rackAt ds) cs[j]) := by
      unfold told look
      rw [if_pos (hc _ (List.getElem_mem hj)), if_neg (by simp)]
    rw [this]
    rfl
  · rw [List.getElem?_take, if_neg hj, List.getElem?_map, List.getElem?_map, List.getElem?_eq_none (by omega)]
    rfl
theorem told_none {r : Rack} {cs : List Int} {n : Nat} (R : Ready r cs n) (k : Nat) (c : Int) : decide (oV (told r (k, c)) = V.non) = decide (V.bl (decide (c ∈ cs)) = V.bl (decide (k = 0))) := by
  unfold told
  by_cases h : c ∈ cs
  · rw [if_pos ((R.mem' c).mpr h), decide_eq_true h]
    by_cases k0 : k = 0
    · rw [if_pos k0, decide_eq_true k0]
      exact (decide_eq_true rfl).trans (decide_eq_true rfl).symm
    · rw [if_neg k0, decide_eq_false k0]
      exact (decide_eq_false (by intro z; cases z)).trans (decide_eq_false (by intro z; cases z)).symm
  · rw [if_neg (fun z => h ((R.mem' c).mp z)), decide_eq_false h]
    by_cases k0 : k = 0
    · rw [if_pos k0, decide_eq_true k0]
      exact (decide_eq_false (by intro z; cases z)).trans (decide_eq_false (by intro z; cases z)).symm
    · rw [if_neg k0, decide_eq_false k0]
      exact (decide_eq_true rfl).trans (decide_eq_true rfl).symm
theorem told_nonneg (r : Rack) (d : Deed) {i : Int} (h : told r d = some i) : 0 ≤ i := by
  unfold told at h
  have p : ∀ (r : Rack) (c : Int), 0 ≤ pegI r c := fun r c => by unfold pegI; omega
  split at h
  · split at h
    · cases h
    · cases h; exact p _ _
  · split at h
    · cases h; exact p _ _
    · cases h
theorem inV_dec (c : Int) (cs : List Int) : inV (.int c) (cs.map V.int) = decide (c ∈ cs) := by
  by_cases h : c ∈ cs
  · rw [decide_eq_true h]; exact inV_ints.mpr h
  · rw [decide_eq_false h]
    cases e : inV (.int c) (cs.map V.int) with
    | false => rfl
    | true => exact absurd (inV_ints.mp e) h
/-- the deeds of a list of coats, looked for -/
theorem DeedsTr.append {H : Hp} {das das' : List Addr} {ds ds' : List Deed} (D : DeedsTr H das ds) (D' : DeedsTr H das' ds') : DeedsTr H (das ++ das') (ds ++ ds') := by
  refine ⟨by rw [List.length_append, List.length_append, D.len, D'.len], fun j a d h1 h2 => ?_, fun d hd => ?_⟩
  · rcases Nat.lt_or_ge j das.length with hj | hj
    · rw [List.getElem?_append_left hj] at h1
      rw [List.getElem?_append_left (by rw [← D.len]; exact hj)] at h2
      exact D.get j a d h1 h2
    · rw [List.getElem?_append_right hj] at h1
      rw [List.getElem?_append_right (by rw [← D.len]; exact hj), ← D.len] at h2
      exact D'.get _ a d h1 h2
  · rcases List.mem_append.mp hd with z | z
    · exact D.kind d z
    · exact D'.kind d z
end Peg

namespace Srt
open PySem PyProof.Rows
def gallop' : Bool → Keyed → Array Keyed → Nat → Nat → Nat → StateT SortSt Sem (Option Nat) := sortPriv% PySem.Builtin.gallop
section
variable {prog : Program} {w : World} {A : Around} {E : Value → Shared → Prop} {s : Shared}
theorem wpS_lt {st : SortSt} {x y : Keyed} {a b : Int} {t u : Tok} {Q : Option Bool → SortSt → Prop} (hk : kindOf st = oneType') (hx : x.1 = .int a t) (hy : y.1 = .int b u) (h : Q (some (decide (a < b))) st) : wpS (model prog w) A E s (lt' x y) Q st := by
  rw [lt'_eq]
  refine wpS_bind (wpS_get ?_)
  rw [hk, keyLt'_oneType, hx, hy]
  exact wpS_bind (wpS_lift (wpAny_attempt (oneLt_int ⟨rfl, wpS_pure h⟩)))
theorem wpS_elem {st : SortSt} {arr : Array Keyed} {i : Nat} {p : Keyed} {Q : Keyed → SortSt → Prop} (hp : arr[i]? = some p) (h : Q p st) : wpS (model prog w) A E s (elem' arr i) Q st := by
  rw [elem'_eq, hp]
  exact wpS_pure h
/-- the key of a pair -/
def key (p : Keyed) : Int := numOf p.1
def IsInt (p : Keyed) : Prop := ∃ n t, p.1 = .int n t
theorem IsInt.eq {p : Keyed} (h : IsInt p) : ∃ t, p.1 = .int (key p) t := by
  obtain ⟨n, t, e⟩ := h
  refine ⟨t, ?_⟩
  unfold key
  rw [e]
  rfl
theorem lt_of {st : SortSt} {x y : Keyed} {Q : Option Bool → SortSt → Prop} (hk : kindOf st = oneType') (hx : IsInt x) (hy : IsInt y) (h : Q (some (decide (key x < key y))) st) : wpS (model prog w) A E s (lt' x y) Q st := by
  obtain ⟨t, ex⟩ := hx.eq
  obtain ⟨u, ey⟩ := hy.eq
  exact wpS_lt hk ex ey h
theorem bey {left : Bool} {ky p : Keyed} {arr : Array Keyed} {i : Nat} {st : SortSt} {Q : Option Bool → SortSt → Prop} (hk : kindOf st = oneType') (hky : IsInt ky) (hp : arr[i]? = some p) (hi : IsInt p)
    (h : Q (some (if left = true then decide (key p < key ky) else !decide (key ky < key p))) st) :
    wpS (model prog w) A E s (do let x ← elem' arr i; if left = true then lt' x ky else do let r ← lt' ky x; pure (Option.map (fun x => !x) r)) Q st := by
  refine wpS_bind (wpS_elem hp ?_)
  cases left with
  | true =>
    rw [if_pos rfl] at h ⊢
    exact lt_of hk hi hky h
  | false =>
    rw [if_neg Bool.false_ne_true] at h ⊢
    exact wpS_bind (lt_of hk hky hi (wpS_pure h))
/-- gallop finds the place where B turns -/
theorem wpS_gallop {left : Bool} {ky : Keyed} {arr : Array Keyed} {base n hint : Nat} {st : SortSt} {Q : Option Nat → SortSt → Prop} {B : Nat → Bool} (hk : kindOf st = oneType') (hky : IsInt ky)
    (hB : ∀ i, i < n → ∃ p, arr[base + i]? = some p ∧ IsInt p ∧ (if left = true then decide (key p < key ky) else !decide (key ky < key p)) = B i)
    (mono : ∀ i j, i < j → j < n → B j = true → B i = true) (hh : hint < n)
    (q : ∀ k, k ≤ n → (∀ i, i < k → B i = true) → (∀ i, k ≤ i → i < n → B i = false) → Q (some k) st) : wpS (model prog w) A E s (gallop' left ky arr base n hint) Q st := by
  have bey' : ∀ {i : Nat} {R : Option Bool → SortSt → Prop}, i < n → R (some (B i)) st → wpS (model prog w) A E s (do let x ← elem' arr (base + i); if left = true then lt' x ky else do let r ← lt' ky x; pure (Option.map (fun x => !x) r)) R st := fun {i R} hi hR => by
    obtain ⟨p, hp, ip, e⟩ := hB i hi
    rw [← e] at hR
    exact bey hk hky hp ip hR
  have monoF : ∀ i j, i < j → j < n → B i = false → B j = false := fun i j hij hj h => by
    cases e : B j with
    | false => rfl
    | true => rw [mono i j hij hj e] at h; cases h
  -- the halving
  have half : ∀ lo hi : Nat, lo ≤ hi → hi ≤ n → (∀ i, i < lo → B i = true) → (∀ i, hi ≤ i → i < n → B i = false) →
      wpS (model prog w) A E s (forIn [:n] ((none, lo, hi) : Option (Option Nat) × Nat × Nat) fun x r => if r.2.1 ≥ r.2.2 then pure (ForInStep.done (none, r.2.1, r.2.2)) else (do let x ← elem' arr (base + (r.2.1 + (r.2.2 - r.2.1) / 2)); if left = true then lt' x ky else do let r ← lt' ky x; pure (Option.map (fun x => !x) r)) >>= fun z => match z with
        | some more => if more = true then pure (ForInStep.yield (none, r.2.1 + (r.2.2 - r.2.1) / 2 + 1, r.2.2)) else pure (ForInStep.yield (none, r.2.1, r.2.1 + (r.2.2 - r.2.1) / 2))
        | x => pure (ForInStep.done (some none, r.2.1, r.2.2)))
        (fun r st' => st' = st ∧ r.1 = none ∧ ∃ k, r.2.2 = k ∧ k ≤ n ∧ (∀ i, i < k → B i = true) ∧ (∀ i, k ≤ i → i < n → B i = false)) st := by
    intro lo hi h1 h2 h3 h4
    refine wpS_forRange (I := fun x r st' => st' = st ∧ r.1 = none ∧ r.2.1 ≤ r.2.2 ∧ r.2.2 ≤ n ∧ r.2.2 - r.2.1 + x ≤ n ∧ (∀ i, i < r.2.1 → B i = true) ∧ (∀ i, r.2.2 ≤ i → i < n → B i = false)) ?_ ?_ ⟨rfl, rfl, h1, h2, by show hi - lo + 0 ≤ n; omega, h3, h4⟩
    · rintro x ⟨r, lo, hi⟩ st' _ hx ⟨rfl, rfl, a1, a2, a3, a4, a5⟩
      dsimp only at a1 a2 a3 a4 a5 ⊢
      by_cases hle : lo ≥ hi
      · rw [if_pos hle]
        have : lo = hi := by omega
        subst this
        exact wpS_pure ⟨rfl, rfl, lo, rfl, a2, a4, a5⟩
      · rw [if_neg hle]
        refine wpS_bind (bey' (by omega) ?_)
        cases e : B (lo + (hi - lo) / 2) with
        | true =>
          refine wpS_pure ⟨rfl, rfl, ?_, a2, ?_, fun i hi' => ?_, a5⟩
          · show lo + (hi - lo) / 2 + 1 ≤ hi; omega
          · show hi - (lo + (hi - lo) / 2 + 1) + (x + 1) ≤ n; omega
          · have hi'' : i < lo + (hi - lo) / 2 + 1 := hi'
            rcases Nat.lt_or_ge i (lo + (hi - lo) / 2) with z | z
            · exact mono _ _ z (by omega) e
            · have : i = lo + (hi - lo) / 2 := by omega
              rw [this]; exact e
        | false =>
          refine wpS_pure ⟨rfl, rfl, ?_, ?_, ?_, a4, fun i hi' hin => ?_⟩
          · show lo ≤ lo + (hi - lo) / 2; omega
          · show lo + (hi - lo) / 2 ≤ n; omega
          · show lo + (hi - lo) / 2 - lo + (x + 1) ≤ n; omega
          · have hi'' : lo + (hi - lo) / 2 ≤ i := hi'
            rcases Nat.lt_or_ge (lo + (hi - lo) / 2) i with z | z
            · exact monoF _ _ z hin e
            · have : i = lo + (hi - lo) / 2 := by omega
              rw [this]; exact e
    · rintro ⟨r, lo, hi⟩ st' ⟨rfl, rfl, a1, a2, a3, a4, a5⟩
      dsimp only at a1 a2 a3 a4 a5 ⊢
      have : lo = hi := by omega
      subst this
      exact ⟨rfl, rfl, lo, rfl, a2, a4, a5⟩
  refine wpS_bind (bey' hh ?_)
  cases e : B hint with
  | true =>
    refine wpS_bind (wpS_mono (wpS_forRange (I := fun x (r : Option (Option Nat) × Nat × Nat) st' => st' = st ∧ r.1 = none ∧ r.2.1 < r.2.2 ∧ hint + r.2.1 < n ∧ B (hint + r.2.1) = true ∧ x < r.2.2)
      (Q := fun (r : Option (Option Nat) × Nat × Nat) st' => st' = st ∧ r.1 = none ∧ r.2.1 < r.2.2 ∧ hint + r.2.1 < n ∧ B (hint + r.2.1) = true ∧ (n - hint ≤ r.2.2 ∨ B (hint + r.2.2) = false)) ?_ ?_ ⟨rfl, rfl, by decide, by simpa using hh, by simpa using e, by decide⟩) ?_)
    · rintro x ⟨r, la, of⟩ st' _ hx ⟨rfl, rfl, a1, a2, a3, a4⟩
      dsimp only at a1 a2 a3 a4 ⊢
      by_cases hle : of ≥ n - hint
      · rw [if_pos hle]
        exact wpS_pure ⟨rfl, rfl, a1, a2, a3, .inl hle⟩
      · rw [if_neg hle]
        refine wpS_bind (bey' (by omega) ?_)
        cases e2 : B (hint + of) with
        | false => exact wpS_pure ⟨rfl, rfl, a1, a2, a3, .inr e2⟩
        | true =>
          refine wpS_pure ⟨rfl, rfl, ?_, ?_, e2, ?_⟩
          · show of < 2 * of + 1; omega
          · show hint + of < n; omega
          · show x + 1 < 2 * of + 1; omega
    · rintro ⟨r, la, of⟩ st' ⟨rfl, rfl, a1, a2, a3, a4⟩
      dsimp only at a1 a2 a3 a4 ⊢
      exact ⟨rfl, rfl, a1, a2, a3, .inl (by omega)⟩
    · rintro ⟨r, la, of⟩ st' ⟨rfl, rfl, a1, a2, a3, a4⟩
      dsimp only at a1 a2 a3 a4 ⊢
      refine wpS_bind (wpS_mono (half (hint + la + 1) (hint + min of (n - hint)) (by omega) (by omega) (fun i hi => ?_) (fun i hi hin => ?_)) ?_)
      · rcases Nat.lt_or_ge i (hint + la) with z | z
        · exact mono _ _ z a2 a3
        · have : i = hint + la := by omega
          rw [this]; exact a3
      · rcases a4 with z | z
        · omega
        · rcases Nat.lt_or_ge of (n - hint) with y | y
          · rw [Nat.min_eq_left (Nat.le_of_lt y)] at hi
            rcases Nat.lt_or_ge (hint + of) i with x | x
            · exact monoF _ _ x hin z
            · have : i = hint + of := by omega
              rw [this]; exact z
          · omega
      · rintro ⟨r, lo, hi⟩ st' ⟨rfl, rfl, k, rfl, b1, b2, b3⟩
        exact wpS_pure (q _ b1 b2 b3)
  | false =>
    refine wpS_bind (wpS_mono (wpS_forRange (I := fun x (r : Option (Option Nat) × Nat × Nat) st' => st' = st ∧ r.1 = none ∧ r.2.1 < r.2.2 ∧ r.2.1 ≤ hint ∧ B (hint - r.2.1) = false ∧ x < r.2.2)
      (Q := fun (r : Option (Option Nat) × Nat × Nat) st' => st' = st ∧ r.1 = none ∧ r.2.1 < r.2.2 ∧ r.2.1 ≤ hint ∧ B (hint - r.2.1) = false ∧ (hint + 1 ≤ r.2.2 ∨ B (hint - r.2.2) = true)) ?_ ?_ ⟨rfl, rfl, by decide, by simp, by simpa using e, by decide⟩) ?_)
    · rintro x ⟨r, la, of⟩ st' _ hx ⟨rfl, rfl, a1, a2, a3, a4⟩
      dsimp only at a1 a2 a3 a4 ⊢
      by_cases hle : of ≥ hint + 1
      · rw [if_pos hle]
        exact wpS_pure ⟨rfl, rfl, a1, a2, a3, .inl hle⟩
      · rw [if_neg hle]
        refine wpS_bind (bey' (by omega) ?_)
        cases e2 : B (hint - of) with
        | true => exact wpS_pure ⟨rfl, rfl, a1, a2, a3, .inr e2⟩
        | false =>
          refine wpS_pure ⟨rfl, rfl, ?_, ?_, e2, ?_⟩
          · show of < 2 * of + 1; omega
          · show of ≤ hint; omega
          · show x + 1 < 2 * of + 1; omega
    · rintro ⟨r, la, of⟩ st' ⟨rfl, rfl, a1, a2, a3, a4⟩
      dsimp only at a1 a2 a3 a4 ⊢
      exact ⟨rfl, rfl, a1, a2, a3, .inl (by omega)⟩
    · rintro ⟨r, la, of⟩ st' ⟨rfl, rfl, a1, a2, a3, a4⟩
      dsimp only at a1 a2 a3 a4 ⊢
      refine wpS_bind (wpS_mono (half (hint + 1 - min of (hint + 1)) (hint - la) (by omega) (by omega) (fun i hi => ?_) (fun i hi hin => ?_)) ?_)
      · rcases a4 with z | z
        · omega
        · rcases Nat.lt_or_ge of (hint + 1) with y | y
          · rw [Nat.min_eq_left (Nat.le_of_lt y)] at hi
            rcases Nat.lt_or_ge i (hint - of) with x | x
            · exact mono _ _ x (by omega) z
            · have : i = hint - of := by omega
              rw [this]; exact z
          · omega
      · rcases Nat.lt_or_ge (hint - la) i with x | x
        · exact monoF _ _ x hin a3
        · have : i = hint - la := by omega
          rw [this]; exact a3
      · rintro ⟨r, lo, hi⟩ st' ⟨rfl, rfl, k, rfl, b1, b2, b3⟩
        exact wpS_pure (q _ b1 b2 b3)
end
end Srt

namespace Srt
open PySem PyProof.Rows
def Asc (f : Keyed → Int) (l : List Keyed) : Prop := l.Pairwise (fun x y => f x < f y)
/-- all of both, in order -/
def Merged (f : Keyed → Int) (r a b : List Keyed) : Prop := r.Perm (a ++ b) ∧ Asc f r
structure MS (f : Keyed → Int) (a b o : List Keyed) (i j : Nat) : Prop where
  ia : i ≤ a.length
  jb : j ≤ b.length
  perm : o.Perm (a.take i ++ b.take j)
  asc : Asc f o
  low : ∀ x ∈ o, ∀ y ∈ a.drop i ++ b.drop j, f x < f y
section
variable {f : Keyed → Int}
theorem take_snoc {a : List Keyed} {i : Nat} (h : i < a.length) : a.take (i + 1) = a.take i ++ [a[i]] := by rw [List.take_add_one, List.getElem?_eq_getElem h]; rfl
theorem Asc.lt {a : List Keyed} (h : Asc f a) {i j : Nat} (hij : i < j) (hj : j < a.length) : f a[i] < f a[j] := (List.pairwise_iff_getElem.mp h) i j (by omega) hj hij
theorem Asc.drop_lt {a : List Keyed} (h : Asc f a) {i : Nat} (hi : i < a.length) {y : Keyed} (hy : y ∈ a.drop (i + 1)) : f a[i] < f y := by
  obtain ⟨j, hj, rfl⟩ := List.getElem_of_mem hy
  rw [List.getElem_drop]
  rw [List.length_drop] at hj
  exact h.lt (by omega) (by omega)
theorem mem_drop_of {a : List Keyed} {i : Nat} (h : i < a.length) : a[i] ∈ a.drop i := by
  rw [List.drop_eq_getElem_cons h]; exact List.mem_cons_self
theorem drop_sub {a : List Keyed} {i k : Nat} {y : Keyed} (h : y ∈ a.drop (i + k)) : y ∈ a.drop i := by
  rw [← List.drop_drop] at h
  exact List.mem_of_mem_drop h
theorem MS.pushA {a b o : List Keyed} {i j : Nat} (h : MS f a b o i j) (ha : Asc f a) (hi : i < a.length) (hlt : ∀ y ∈ b.drop j, f a[i] < f y) : MS f a b (o ++ [a[i]]) (i + 1) j := by
  refine ⟨hi, h.jb, ?_, ?_, ?_⟩
  · rw [take_snoc hi, List.append_assoc]
    refine (h.perm.append_right _).trans ?_
    rw [List.append_assoc]
    exact List.Perm.append_left _ List.perm_append_comm
  · unfold Asc
    rw [List.pairwise_append]
    refine ⟨h.asc, List.pairwise_singleton _ _, fun x hx y hy => ?_⟩
    rw [List.mem_singleton] at hy
    subst hy
    exact h.low x hx _ (List.mem_append_left _ (mem_drop_of hi))
  · intro x hx y hy
    rcases List.mem_append.mp hx with hx | hx
    · refine h.low x hx y ?_
      rcases List.mem_append.mp hy with hy | hy
      · exact List.mem_append_left _ (drop_sub hy)
      · exact List.mem_append_right _ hy
    · rw [List.mem_singleton] at hx
      subst hx
      rcases List.mem_append.mp hy with hy | hy
      · exact ha.drop_lt hi hy
      · exact hlt y hy
theorem MS.swap {a b o : List Keyed} {i j : Nat} (h : MS f a b o i j) : MS f b a o j i := ⟨h.jb, h.ia, h.perm.trans List.perm_append_comm, h.asc, fun x hx y hy => h.low x hx y (List.mem_append.mpr (List.mem_append.mp hy).symm)⟩
theorem MS.pushB {a b o : List Keyed} {i j : Nat} (h : MS f a b o i j) (hb : Asc f b) (hj : j < b.length) (hlt : ∀ y ∈ a.drop i, f b[j] < f y) : MS f a b (o ++ [b[j]]) i (j + 1) := (h.swap.pushA hb hj hlt).swap
theorem MS.runA {a b : List Keyed} {i j : Nat} (ha : Asc f a) : ∀ (k : Nat) {o : List Keyed}, MS f a b o i j → i + k ≤ a.length → (∀ m, m < k → ∀ y ∈ b.drop j, ∀ z, a[i + m]? = some z → f z < f y) → MS f a b (o ++ (a.drop i).take k) (i + k) j
  | 0, o, h, _, _ => by simpa using h
  | k + 1, o, h, hk, hlt => by
    have ih := MS.runA ha k h (by omega) fun m hm => hlt m (by omega)
    have hi : i + k < a.length := by omega
    have := ih.pushA ha hi (fun y hy => hlt k (Nat.lt_succ_self _) y hy _ (List.getElem?_eq_getElem hi))
    have e : (a.drop i).take (k + 1) = (a.drop i).take k ++ [a[i + k]] := by
      rw [List.take_add_one, List.getElem?_drop, List.getElem?_eq_getElem hi]; rfl
    rw [e, ← List.append_assoc]
    exact this
theorem MS.runB {a b : List Keyed} {i j : Nat} (hb : Asc f b) (k : Nat) {o : List Keyed} (h : MS f a b o i j) (hk : j + k ≤ b.length) (hlt : ∀ m, m < k → ∀ y ∈ a.drop i, ∀ z, b[j + m]? = some z → f z < f y) : MS f a b (o ++ (b.drop j).take k) i (j + k) := (MS.runA hb k h.swap hk hlt).swap
theorem Asc.drop {a : List Keyed} (h : Asc f a) (i : Nat) : Asc f (a.drop i) := List.Pairwise.sublist (List.drop_sublist i a) h
theorem MS.done {a b o : List Keyed} {i j : Nat} (h : MS f a b o i j) (ha : Asc f a) (hb : Asc f b) (hij : i = a.length ∨ j = b.length) : Merged f (o ++ a.drop i ++ b.drop j) a b := by
  constructor
  · rw [List.append_assoc]
    refine (h.perm.append_right _).trans ?_
    have : (a.take i ++ b.take j ++ (a.drop i ++ b.drop j)).Perm ((a.take i ++ a.drop i) ++ (b.take j ++ b.drop j)) := by
      rw [List.append_assoc, List.append_assoc]
      refine List.Perm.append_left _ ?_
      rw [← List.append_assoc, ← List.append_assoc]
      exact List.Perm.append_right _ List.perm_append_comm
    rw [List.take_append_drop, List.take_append_drop] at this
    exact this
  · unfold Asc
    rw [List.pairwise_append, List.pairwise_append]
    refine ⟨⟨h.asc, ha.drop i, fun x hx y hy => h.low x hx y (List.mem_append_left _ hy)⟩, hb.drop j, fun x hx y hy => ?_⟩
    rcases List.mem_append.mp hx with hx | hx
    · exact h.low x hx y (List.mem_append_right _ hy)
    · rcases hij with z | z
      · rw [z, List.drop_length] at hx; cases hx
      · rw [z, List.drop_length] at hy; cases hy
theorem MS.last {a b o : List Keyed} {i j : Nat} (h : MS f a b o i j) (ha : Asc f a) (hb : Asc f b) (hi : i + 1 = a.length) (hl : ∀ y ∈ b, f y < f (a[i]'(by omega))) : Merged f (o ++ b.drop j ++ a.drop i) a b := by
  have hd : a.drop i = [a[i]'(by omega)] := by rw [List.drop_eq_getElem_cons (by omega), List.drop_of_length_le (by omega)]
  constructor
  · rw [List.append_assoc]
    refine (h.perm.append_right _).trans ?_
    have : (a.take i ++ b.take j ++ (b.drop j ++ a.drop i)).Perm ((a.take i ++ a.drop i) ++ (b.take j ++ b.drop j)) := by
      rw [List.append_assoc, List.append_assoc]
      refine List.Perm.append_left _ ?_
      rw [← List.append_assoc]
      exact List.perm_append_comm
    rw [List.take_append_drop, List.take_append_drop] at this
    exact this
  · unfold Asc
    rw [List.pairwise_append, List.pairwise_append]
    refine ⟨⟨h.asc, hb.drop j, fun x hx y hy => h.low x hx y (List.mem_append_right _ hy)⟩, ha.drop i, fun x hx y hy => ?_⟩
    rcases List.mem_append.mp hx with hx | hx
    · exact h.low x hx y (List.mem_append_left _ hy)
    · rw [hd, List.mem_singleton] at hy
      subst hy
      exact hl x (List.mem_of_mem_drop hx)
theorem MS.len {a b o : List Keyed} {i j : Nat} (h : MS f a b o i j) : o.length = i + j := by
  rw [h.perm.length_eq, List.length_append, List.length_take, List.length_take, Nat.min_eq_left h.ia, Nat.min_eq_left h.jb]
theorem ms_start {a b : List Keyed} (ha : Asc f a) (hb : Asc f b) (h1 : 0 < b.length) (hlt : ∀ y ∈ a, f b[0] < f y) : MS f a b [b[0]] 0 1 := by
  have : MS f a b [] 0 0 := ⟨Nat.zero_le _, Nat.zero_le _, by simp, List.Pairwise.nil, fun x hx => by cases hx⟩
  exact this.pushB hb h1 (by simpa using hlt)
end
end Srt

namespace Srt
open PySem PyProof.Rows
/-- but for the gallop's measure nothing has changed -/
structure Gal (st st' : SortSt) : Prop where
  kind : kindOf st' = kindOf st
  arr : arrOf st' = arrOf st
  pend : pendingOf st' = pendingOf st
  fail : failedOf st' = failedOf st
theorem Gal.refl (st : SortSt) : Gal st st := ⟨rfl, rfl, rfl, rfl⟩
theorem Gal.trans {a b c : SortSt} (h : Gal a b) (k : Gal b c) : Gal a c := ⟨k.kind.trans h.kind, k.arr.trans h.arr, k.pend.trans h.pend, k.fail.trans h.fail⟩
def setMinGallop' : Nat → StateT SortSt Sem Unit := sortPriv% PySem.Builtin.setMinGallop
def mergeLo' : Array Keyed → Array Keyed → StateT SortSt Sem (Array Keyed) := sortPriv% PySem.Builtin.mergeLo
def mergeHi' : Array Keyed → Array Keyed → StateT SortSt Sem (Array Keyed) := sortPriv% PySem.Builtin.mergeHi
theorem arr_get {a : Array Keyed} {i : Nat} (h : i < a.toList.length) : a[i]? = some a.toList[i] := by
  rw [← Array.getElem?_toList, List.getElem?_eq_getElem h]
theorem Asc.le_drop {f : Keyed → Int} {a : List Keyed} (h : Asc f a) {i : Nat} (hi : i < a.length) {y : Keyed} (hy : y ∈ a.drop i) : f a[i] ≤ f y := by
  rw [List.drop_eq_getElem_cons hi] at hy
  rcases List.mem_cons.mp hy with e | e
  · rw [e]; exact Int.le_refl _
  · exact Int.le_of_lt (h.drop_lt hi e)
theorem ex_to (a : Array Keyed) (i : Nat) : (a.extract i).toList = a.toList.drop i := by
  simp
  exact List.take_of_length_le (by simp)
theorem ex_mid (a : Array Keyed) (i k : Nat) : (a.extract i (i + k)).toList = (a.toList.drop i).take k := by
  rw [Array.toList_extract]
  simp [List.extract]
section
variable {prog : Program} {w : World} {A : Around} {E : Value → Shared → Prop} {s : Shared}
theorem wpS_setMin {st : SortSt} {g : Nat} {Q : Unit → SortSt → Prop} (h : ∀ st', Gal st st' → Q () st') : wpS (model prog w) A E s (setMinGallop' g) Q st :=
  wpS_modify (h _ ⟨rfl, rfl, rfl, rfl⟩)
/-- gallop over the rest of a list -/
theorem gallop_at {left : Bool} {ky : Keyed} {a : Array Keyed} {i : Nat} {st : SortSt} {Q : Option Nat → SortSt → Prop} (hk : kindOf st = oneType') (hky : IsInt ky) (ia : ∀ p ∈ a.toList, IsInt p) (ha : Asc key a.toList)
    (hne : ∀ p ∈ a.toList, key p ≠ key ky) (hi : i < a.toList.length)
    (q : ∀ k, i + k ≤ a.toList.length → (∀ m, m < k → ∀ z, a.toList[i + m]? = some z → key z < key ky) → (∀ m, k ≤ m → ∀ z, a.toList[i + m]? = some z → key ky < key z) → Q (some k) st) : wpS (model prog w) A E s (gallop' left ky a i (a.size - i) 0) Q st := by
  have el : a.size = a.toList.length := by simp
  have get : ∀ m, i + m < a.toList.length → ∃ z, a.toList[i + m]? = some z ∧ z ∈ a.toList := fun m hm => ⟨_, List.getElem?_eq_getElem hm, List.getElem_mem hm⟩
  have key_of : ∀ {m : Nat} {z : Keyed}, a.toList[i + m]? = some z → z ∈ a.toList := fun h => List.mem_of_getElem? h
  refine wpS_gallop (B := fun m => match a.toList[i + m]? with | some z => decide (key z < key ky) | none => false) hk hky ?_ ?_ (by omega) ?_
  · intro m hm
    obtain ⟨z, hz, hm'⟩ := get m (by omega)
    refine ⟨z, by rw [← Array.getElem?_toList]; exact hz, ia z hm', ?_⟩
    try dsimp only
    rw [hz]
    try dsimp only
    have hn := hne z hm'
    cases left with
    | true => rfl
    | false =>
      rw [if_neg Bool.false_ne_true]
      by_cases h : key z < key ky
      · rw [decide_eq_true h, decide_eq_false (by omega)]; rfl
      · rw [decide_eq_false h, decide_eq_true (by omega)]; rfl
  · intro m m' hmm hm' h
    obtain ⟨z', hz', _⟩ := get m' (by omega)
    obtain ⟨z, hz, _⟩ := get m (by omega)
    try dsimp only at h ⊢
    rw [hz'] at h
    rw [hz]
    try dsimp only at h ⊢
    have h1 := of_decide_eq_true h
    have h2 := ha.lt (show i + m < i + m' by omega) (by omega)
    rw [List.getElem?_eq_getElem (by omega)] at hz hz'
    rw [Option.some.inj hz] at h2
    rw [Option.some.inj hz'] at h2
    exact decide_eq_true (by omega)
  · intro k hk' h1 h2
    refine q k (by omega) (fun m hm z hz => ?_) (fun m hm z hz => ?_)
    · have := h1 m hm
      try dsimp only at this
      rw [hz] at this
      exact of_decide_eq_true this
    · have hl := (List.getElem?_eq_some_iff.mp hz).1
      have := h2 m hm (by omega)
      try dsimp only at this
      rw [hz] at this
      have h3 : ¬ key z < key ky := of_decide_eq_false this
      have := hne z (key_of hz)
      omega
theorem wpS_mergeLo {st : SortSt} {a b : Array Keyed} {Q : Array Keyed → SortSt → Prop} (hk : kindOf st = oneType') (ia : ∀ p ∈ a.toList, IsInt p) (ib : ∀ p ∈ b.toList, IsInt p) (ha : Asc key a.toList) (hb : Asc key b.toList)
    (na : 0 < a.toList.length) (nb : 0 < b.toList.length) (hne : ∀ x ∈ a.toList, ∀ y ∈ b.toList, key x ≠ key y) (h0 : ∀ y ∈ a.toList, key b.toList[0] < key y) (hl : ∀ y ∈ b.toList, ∀ z, a.toList[a.toList.length - 1]? = some z → key y < key z)
    (q : ∀ r st', Gal st st' → Merged key r.toList a.toList b.toList → Q r st') : wpS (model prog w) A E s (mergeLo' a b) Q st := by
  have ea : a.size = a.toList.length := by simp
  have eb : b.size = b.toList.length := by simp
  have fin1 : ∀ {o : Array Keyed} {i j : Nat}, MS key a.toList b.toList o.toList i j → (i = a.toList.length ∨ j = b.toList.length) → Merged key (o ++ a.extract i ++ b.extract j).toList a.toList b.toList := fun {o i j} M h => by
    rw [Array.toList_append, Array.toList_append, ex_to, ex_to]
    exact M.done ha hb h
  have fin2 : ∀ {o : Array Keyed} {i j : Nat}, MS key a.toList b.toList o.toList i j → i + 1 = a.toList.length → Merged key (o ++ b.extract j ++ a.extract i).toList a.toList b.toList := fun {o i j} M h => by
    rw [Array.toList_append, Array.toList_append, ex_to, ex_to]
    refine M.last ha hb h fun y hy => hl y hy _ ?_
    rw [show a.toList.length - 1 = i by omega]
    exact List.getElem?_eq_getElem _
  have M0 : MS key a.toList b.toList (#[b.toList[0]] : Array Keyed).toList 0 1 := ms_start ha hb nb h0
  refine wpS_bind (wpS_lift (wpAny_rule ⟨rfl, ?_⟩))
  refine wpS_bind (wpS_elem (arr_get nb) ?_)
  try dsimp only
  by_cases h1 : (1 == b.size) = true
  · rw [if_pos h1]
    refine wpS_pure (q _ st (Gal.refl st) (fin1 M0 (.inr ?_)))
    rw [← eb]; simpa using h1
  rw [if_neg h1]
  have h1' : 1 < b.toList.length := by
    have : ¬ 1 = b.size := by simpa using h1
    omega
  by_cases h2 : (0 + 1 == a.size) = true
  · rw [if_pos h2]
    refine wpS_pure (q _ st (Gal.refl st) (fin2 M0 ?_))
    rw [← ea]; simpa using h2
  rw [if_neg h2]
  have h2' : 1 < a.toList.length := by
    have : ¬ 0 + 1 = a.size := by simpa using h2
    omega
  refine wpS_bind (wpS_get ?_)
  try dsimp only
  refine wpS_bind (wpS_mono (wpS_forRange (I := fun x (r : Option (Array Keyed) × Array Keyed × Nat × Nat × Nat) st' => Gal st st' ∧ r.1 = none ∧ MS key a.toList b.toList r.2.1.toList r.2.2.1 r.2.2.2.1 ∧ r.2.2.1 + 1 < a.toList.length ∧ r.2.2.2.1 < b.toList.length ∧ x < r.2.1.size)
    (Q := fun r st' => Gal st st' ∧ ∃ z, r.1 = some z ∧ Merged key z.toList a.toList b.toList) ?step ?fin ⟨Gal.refl st, rfl, M0, h2', h1', Nat.zero_lt_one⟩) ?post)
  case post =>
    rintro ⟨r, _⟩ st' ⟨g, z, e, hm⟩
    try dsimp only at e ⊢
    subst e
    exact wpS_pure (q z st' g hm)
  case fin =>
    rintro ⟨r, out, i, j, mg⟩ st' ⟨g, _, M, hi, hj, hx⟩
    have := M.len
    try dsimp only at this hi hj hx
    rw [Array.length_toList] at this
    omega
  case step =>
    rintro x ⟨r, out, i, j, mg⟩ st' _ hx ⟨g, rfl, M, hi, hj, hx2⟩
    try dsimp only at M hi hj hx2 ⊢
    have hk' : kindOf st' = oneType' := g.kind.trans hk
    -- one by one
    refine wpS_bind (wpS_mono (wpS_forRange (I := fun y (r : Option (Array Keyed) × Array Keyed × Nat × Nat × Nat × Nat) st'' => st'' = st' ∧ r.1 = none ∧ MS key a.toList b.toList r.2.1.toList r.2.2.1 r.2.2.2.1 ∧ r.2.2.1 + 1 < a.toList.length ∧ r.2.2.2.1 < b.toList.length ∧ out.size + y ≤ r.2.1.size)
      (Q := fun r st'' => st'' = st' ∧ ((∃ z, r.1 = some z ∧ Merged key z.toList a.toList b.toList) ∨ (r.1 = none ∧ MS key a.toList b.toList r.2.1.toList r.2.2.1 r.2.2.2.1 ∧ r.2.2.1 + 1 < a.toList.length ∧ r.2.2.2.1 < b.toList.length ∧ out.size < r.2.1.size))) ?s1 ?f1 ⟨rfl, rfl, M, hi, hj, Nat.le_refl _⟩) ?p1)
    case s1 =>
      rintro y ⟨r, o, i, j, ac, bc⟩ st'' _ hy ⟨rfl, rfl, M, hi, hj, ho⟩
      try dsimp only at M hi hj ho ⊢
      have hi' : i < a.toList.length := by omega
      have iA := ia _ (List.getElem_mem hi')
      have iB := ib _ (List.getElem_mem hj)
      refine wpS_bind (wpS_elem (arr_get hj) (wpS_bind (wpS_elem (arr_get hi') (wpS_bind (lt_of hk' iB iA ?_)))))
      try dsimp only
      by_cases hlt : key b.toList[j] < key a.toList[i]
      · rw [decide_eq_true hlt, if_pos rfl]
        refine wpS_bind (wpS_elem (arr_get hj) ?_)
        have M' : MS key a.toList b.toList (o.push b.toList[j]).toList i (j + 1) := by
          rw [Array.toList_push]
          exact M.pushB hb hj fun y hy => Int.lt_of_lt_of_le hlt (ha.le_drop hi' hy)
        try dsimp only
        by_cases hj1 : (j + 1 == b.size) = true
        · rw [if_pos hj1]
          exact wpS_pure ⟨rfl, .inl ⟨_, rfl, fin1 M' (.inr (by rw [← eb]; simpa using hj1))⟩⟩
        · rw [if_neg hj1]
          have hj1' : ¬ j + 1 = b.size := by simpa using hj1
          have hs : (o.push b.toList[j]).size = o.size + 1 := Array.size_push ..
          by_cases hg : bc + 1 ≥ mg
          · rw [if_pos hg]
            exact wpS_pure ⟨rfl, .inr ⟨rfl, M', hi, by show j + 1 < _; omega, by show out.size < (o.push b.toList[j]).size; omega⟩⟩
          · rw [if_neg hg]
            exact wpS_pure ⟨rfl, rfl, M', hi, by show j + 1 < _; omega, by show out.size + (y + 1) ≤ (o.push b.toList[j]).size; omega⟩
      · rw [decide_eq_false hlt, if_neg Bool.false_ne_true]
        refine wpS_bind (wpS_elem (arr_get hi') ?_)
        have hlt' : key a.toList[i] < key b.toList[j] := by
          have := hne _ (List.getElem_mem hi') _ (List.getElem_mem hj)
          omega
        have M' : MS key a.toList b.toList (o.push a.toList[i]).toList (i + 1) j := by
          rw [Array.toList_push]
          exact M.pushA ha hi' fun y hy => Int.lt_of_lt_of_le hlt' (hb.le_drop hj hy)
        try dsimp only
        by_cases hi1 : (i + 1 + 1 == a.size) = true
        · rw [if_pos hi1]
          exact wpS_pure ⟨rfl, .inl ⟨_, rfl, fin2 M' (by rw [← ea]; simpa using hi1)⟩⟩
        · rw [if_neg hi1]
          have hi1' : ¬ i + 1 + 1 = a.size := by simpa using hi1
          have hs : (o.push a.toList[i]).size = o.size + 1 := Array.size_push ..
          by_cases hg : ac + 1 ≥ mg
          · rw [if_pos hg]
            exact wpS_pure ⟨rfl, .inr ⟨rfl, M', by show i + 1 + 1 < _; omega, hj, by show out.size < (o.push a.toList[i]).size; omega⟩⟩
          · rw [if_neg hg]
            exact wpS_pure ⟨rfl, rfl, M', by show i + 1 + 1 < _; omega, hj, by show out.size + (y + 1) ≤ (o.push a.toList[i]).size; omega⟩
    case f1 =>
      rintro ⟨r, o, i, j, ac, bc⟩ st'' ⟨rfl, rfl, M, hi, hj, ho⟩
      try dsimp only at M hi hj ho ⊢
      exact ⟨rfl, .inr ⟨rfl, M, hi, hj, by omega⟩⟩
    case p1 =>
      rintro ⟨r, o, i, j, ac, bc⟩ st'' ⟨rfl, ⟨z, e, hm⟩ | ⟨e, M, hi, hj, ho⟩⟩
      · dsimp only at e ⊢
        subst e
        exact wpS_pure ⟨g, z, rfl, hm⟩
      · dsimp only at e M hi hj ho ⊢
        subst e
        try dsimp only
        refine wpS_bind (wpS_lift (wpAny_rule ⟨rfl, ?_⟩))
        -- by gallops
        refine wpS_bind (wpS_mono (wpS_forRange (I := fun y (r : Option (Array Keyed) × Array Keyed × Nat × Nat × Nat × Nat × Nat) st3 => Gal st'' st3 ∧ r.1 = none ∧ MS key a.toList b.toList r.2.1.toList r.2.2.1 r.2.2.2.1 ∧ r.2.2.1 + 1 < a.toList.length ∧ r.2.2.2.1 < b.toList.length ∧ out.size < r.2.1.size)
          (Q := fun r st3 => Gal st'' st3 ∧ ((∃ z, r.1 = some z ∧ Merged key z.toList a.toList b.toList) ∨ (r.1 = none ∧ MS key a.toList b.toList r.2.1.toList r.2.2.1 r.2.2.2.1 ∧ r.2.2.1 + 1 < a.toList.length ∧ r.2.2.2.1 < b.toList.length ∧ out.size < r.2.1.size))) ?s2 ?f2 ⟨Gal.refl _, rfl, M, hi, hj, ho⟩) ?p2)
        case f2 =>
          rintro ⟨r, o, i, j, mg, ac, bc⟩ st3 ⟨g3, e, M, hi, hj, ho⟩
          exact ⟨g3, .inr ⟨e, M, hi, hj, ho⟩⟩
        case p2 =>
          rintro ⟨r, o, i, j, mg, ac, bc⟩ st3 ⟨g3, ⟨z, e, hm⟩ | ⟨e, M, hi, hj, ho⟩⟩
          · dsimp only at e ⊢
            subst e
            exact wpS_pure ⟨g.trans g3, z, rfl, hm⟩
          · dsimp only at e M hi hj ho ⊢
            subst e
            try dsimp only
            refine wpS_bind (wpS_setMin fun st4 g4 => ?_)
            exact wpS_pure ⟨(g.trans g3).trans g4, rfl, M, hi, hj, by show x + 1 < o.size; omega⟩
        case s2 =>
          rintro y ⟨r, o, i, j, mg, ac, bc⟩ st3 _ hy ⟨g3, rfl, M, hi, hj, ho⟩
          try dsimp only at M hi hj ho ⊢
          have hi' : i < a.toList.length := by omega
          by_cases hmg : mg > 1
          · rw [if_pos hmg]
            refine wpS_bind (wpS_setMin fun st4 g4 => ?_)
            refine wpS_bind (wpS_elem (arr_get hj) ?_)
            have hk4 : kindOf st4 = oneType' := g4.kind.trans (g3.kind.trans hk')
            refine wpS_bind (gallop_at hk4 (ib _ (List.getElem_mem hj)) ia ha (fun p hp => hne p hp _ (List.getElem_mem hj)) hi' fun k hk1 hk2 hk3 => ?_)
            try dsimp only
            have g5 := g3.trans g4
            by_cases hk0 : k > 0
            · rw [if_pos hk0]
              have M1 : MS key a.toList b.toList (o ++ a.extract i (i + k)).toList (i + k) j := by
                rw [Array.toList_append, ex_mid]
                exact M.runA ha k hk1 fun m hm y hy z hz => Int.lt_of_lt_of_le (hk2 m hm z hz) (hb.le_drop hj hy)
              have ho1 : out.size < (o ++ a.extract i (i + k)).size := by rw [Array.size_append]; omega
              by_cases e1 : (i + k + 1 == a.size) = true
              · rw [if_pos e1]
                exact wpS_pure ⟨g5, .inl ⟨_, rfl, fin2 M1 (by rw [← ea]; simpa using e1)⟩⟩
              rw [if_neg e1]
              by_cases e2 : (i + k == a.size) = true
              · rw [if_pos e2]
                exact wpS_pure ⟨g5, .inl ⟨_, rfl, fin1 M1 (.inl (by rw [← ea]; simpa using e2))⟩⟩
              rw [if_neg e2]
              have hi1 : i + k + 1 < a.toList.length := by
                have h1 : ¬ i + k + 1 = a.size := by simpa using e1
                have h2 : ¬ i + k = a.size := by simpa using e2
                omega
              have hlt1 : ∀ y ∈ a.toList.drop (i + k), key b.toList[j] < key y := fun y hy => Int.lt_of_lt_of_le (hk3 k (Nat.le_refl _) _ (List.getElem?_eq_getElem (by omega))) (ha.le_drop (by omega) hy)
              have hI' : i + k < a.toList.length := by omega
              refine wpS_bind (wpS_elem (arr_get hj) ?_)
              try dsimp only
              have M2 := M1.pushB hb hj hlt1
              rw [← Array.toList_push] at M2
              by_cases e3 : (j + 1 == b.size) = true
              · rw [if_pos e3]
                exact wpS_pure ⟨g5, .inl ⟨_, rfl, fin1 M2 (.inr (by rw [← eb]; simpa using e3))⟩⟩
              rw [if_neg e3]
              have hj2 : j + 1 < b.toList.length := by
                have : ¬ j + 1 = b.size := by simpa using e3
                omega
              refine wpS_bind (wpS_elem (arr_get hI') ?_)
              refine wpS_bind (gallop_at hk4 (ia _ (List.getElem_mem hI')) ib hb (fun p hp => (hne _ (List.getElem_mem hI') p hp).symm) hj2 fun k2 l1 l2 l3 => ?_)
              try dsimp only
              by_cases hk20 : k2 > 0
              · rw [if_pos hk20]
                have M3 : MS key a.toList b.toList ((o ++ a.extract i (i + k)).push b.toList[j] ++ b.extract (j + 1) (j + 1 + k2)).toList (i + k) (j + 1 + k2) := by
                  rw [Array.toList_append, ex_mid]
                  exact M2.runB hb k2 l1 fun m hm y hy z hz => Int.lt_of_lt_of_le (l2 m hm z hz) (ha.le_drop hI' hy)
                by_cases e6 : (j + 1 + k2 == b.size) = true
                · rw [if_pos e6]
                  exact wpS_pure ⟨g5, .inl ⟨_, rfl, fin1 M3 (.inr (by rw [← eb]; simpa using e6))⟩⟩
                rw [if_neg e6]
                have hJ : j + 1 + k2 < b.toList.length := by
                  have : ¬ j + 1 + k2 = b.size := by simpa using e6
                  omega
                have hlt3 : ∀ y ∈ b.toList.drop (j + 1 + k2), key (a.toList[i + k]'hI') < key y := fun y hy => Int.lt_of_lt_of_le (l3 k2 (Nat.le_refl _) _ (List.getElem?_eq_getElem hJ)) (hb.le_drop hJ hy)
                refine wpS_bind (wpS_elem (arr_get hI') ?_)
                try dsimp only
                have M4 := M3.pushA ha hI' hlt3
                rw [← Array.toList_push] at M4
                by_cases e4 : (i + k + 1 + 1 == a.size) = true
                · rw [if_pos e4]
                  exact wpS_pure ⟨g5, .inl ⟨_, rfl, fin2 M4 (by rw [← ea]; simpa using e4)⟩⟩
                rw [if_neg e4]
                have e4' : ¬ i + k + 1 + 1 = a.size := by simpa using e4
                have ho4 := ho1
                by_cases e5 : (decide (k < 7) && decide (k2 < 7)) = true
                · rw [if_pos e5]
                  exact wpS_pure ⟨g5, .inr ⟨rfl, M4, by show i + k + 1 + 1 < _; omega, hJ, by dsimp only; simp only [Array.size_push, Array.size_append] at ho4 ⊢; omega⟩⟩
                · rw [if_neg e5]
                  exact wpS_pure ⟨g5, rfl, M4, by show i + k + 1 + 1 < _; omega, hJ, by dsimp only; simp only [Array.size_push, Array.size_append] at ho4 ⊢; omega⟩
              · rw [if_neg hk20]
                have hJ : j + 1 < b.toList.length := hj2
                have hlt3 : ∀ y ∈ b.toList.drop (j + 1), key (a.toList[i + k]'hI') < key y := fun y hy => Int.lt_of_lt_of_le (l3 0 (by omega) _ (List.getElem?_eq_getElem hJ)) (hb.le_drop hJ hy)
                refine wpS_bind (wpS_elem (arr_get hI') ?_)
                try dsimp only
                have M4 := M2.pushA ha hI' hlt3
                rw [← Array.toList_push] at M4
                by_cases e4 : (i + k + 1 + 1 == a.size) = true
                · rw [if_pos e4]
                  exact wpS_pure ⟨g5, .inl ⟨_, rfl, fin2 M4 (by rw [← ea]; simpa using e4)⟩⟩
                rw [if_neg e4]
                have e4' : ¬ i + k + 1 + 1 = a.size := by simpa using e4
                have ho4 := ho1
                by_cases e5 : (decide (k < 7) && decide (k2 < 7)) = true
                · rw [if_pos e5]
                  exact wpS_pure ⟨g5, .inr ⟨rfl, M4, by show i + k + 1 + 1 < _; omega, hJ, by dsimp only; simp only [Array.size_push, Array.size_append] at ho4 ⊢; omega⟩⟩
                · rw [if_neg e5]
                  exact wpS_pure ⟨g5, rfl, M4, by show i + k + 1 + 1 < _; omega, hJ, by dsimp only; simp only [Array.size_push, Array.size_append] at ho4 ⊢; omega⟩
            · rw [if_neg hk0]
              have hlt1 : ∀ y ∈ a.toList.drop i, key b.toList[j] < key y := fun y hy => Int.lt_of_lt_of_le (hk3 0 (by omega) _ (List.getElem?_eq_getElem hi')) (ha.le_drop hi' hy)
              have hI' : i < a.toList.length := by omega
              refine wpS_bind (wpS_elem (arr_get hj) ?_)
              try dsimp only
              have M2 := M.pushB hb hj hlt1
              rw [← Array.toList_push] at M2
              by_cases e3 : (j + 1 == b.size) = true
              · rw [if_pos e3]
                exact wpS_pure ⟨g5, .inl ⟨_, rfl, fin1 M2 (.inr (by rw [← eb]; simpa using e3))⟩⟩
              rw [if_neg e3]
              have hj2 : j + 1 < b.toList.length := by
                have : ¬ j + 1 = b.size := by simpa using e3
                omega
              refine wpS_bind (wpS_elem (arr_get hI') ?_)
              refine wpS_bind (gallop_at hk4 (ia _ (List.getElem_mem hI')) ib hb (fun p hp => (hne _ (List.getElem_mem hI') p hp).symm) hj2 fun k2 l1 l2 l3 => ?_)
              try dsimp only
              by_cases hk20 : k2 > 0
              · rw [if_pos hk20]
                have M3 : MS key a.toList b.toList ((o).push b.toList[j] ++ b.extract (j + 1) (j + 1 + k2)).toList (i) (j + 1 + k2) := by
                  rw [Array.toList_append, ex_mid]
                  exact M2.runB hb k2 l1 fun m hm y hy z hz => Int.lt_of_lt_of_le (l2 m hm z hz) (ha.le_drop hI' hy)
                by_cases e6 : (j + 1 + k2 == b.size) = true
                · rw [if_pos e6]
                  exact wpS_pure ⟨g5, .inl ⟨_, rfl, fin1 M3 (.inr (by rw [← eb]; simpa using e6))⟩⟩
                rw [if_neg e6]
                have hJ : j + 1 + k2 < b.toList.length := by
                  have : ¬ j + 1 + k2 = b.size := by simpa using e6
                  omega
                have hlt3 : ∀ y ∈ b.toList.drop (j + 1 + k2), key (a.toList[i]'hI') < key y := fun y hy => Int.lt_of_lt_of_le (l3 k2 (Nat.le_refl _) _ (List.getElem?_eq_getElem hJ)) (hb.le_drop hJ hy)
                refine wpS_bind (wpS_elem (arr_get hI') ?_)
                try dsimp only
                have M4 := M3.pushA ha hI' hlt3
                rw [← Array.toList_push] at M4
                by_cases e4 : (i + 1 + 1 == a.size) = true
                · rw [if_pos e4]
                  exact wpS_pure ⟨g5, .inl ⟨_, rfl, fin2 M4 (by rw [← ea]; simpa using e4)⟩⟩
                rw [if_neg e4]
                have e4' : ¬ i + 1 + 1 = a.size := by simpa using e4
                have ho4 := ho
                by_cases e5 : (decide (k < 7) && decide (k2 < 7)) = true
                · rw [if_pos e5]
                  exact wpS_pure ⟨g5, .inr ⟨rfl, M4, by show i + 1 + 1 < _; omega, hJ, by dsimp only; simp only [Array.size_push, Array.size_append] at ho4 ⊢; omega⟩⟩
                · rw [if_neg e5]
                  exact wpS_pure ⟨g5, rfl, M4, by show i + 1 + 1 < _; omega, hJ, by dsimp only; simp only [Array.size_push, Array.size_append] at ho4 ⊢; omega⟩
              · rw [if_neg hk20]
                have hJ : j + 1 < b.toList.length := hj2
                have hlt3 : ∀ y ∈ b.toList.drop (j + 1), key (a.toList[i]'hI') < key y := fun y hy => Int.lt_of_lt_of_le (l3 0 (by omega) _ (List.getElem?_eq_getElem hJ)) (hb.le_drop hJ hy)
                refine wpS_bind (wpS_elem (arr_get hI') ?_)
                try dsimp only
                have M4 := M2.pushA ha hI' hlt3
                rw [← Array.toList_push] at M4
                by_cases e4 : (i + 1 + 1 == a.size) = true
                · rw [if_pos e4]
                  exact wpS_pure ⟨g5, .inl ⟨_, rfl, fin2 M4 (by rw [← ea]; simpa using e4)⟩⟩
                rw [if_neg e4]
                have e4' : ¬ i + 1 + 1 = a.size := by simpa using e4
                have ho4 := ho
                by_cases e5 : (decide (k < 7) && decide (k2 < 7)) = true
                · rw [if_pos e5]
                  exact wpS_pure ⟨g5, .inr ⟨rfl, M4, by show i + 1 + 1 < _; omega, hJ, by dsimp only; simp only [Array.size_push, Array.size_append] at ho4 ⊢; omega⟩⟩
                · rw [if_neg e5]
                  exact wpS_pure ⟨g5, rfl, M4, by show i + 1 + 1 < _; omega, hJ, by dsimp only; simp only [Array.size_push, Array.size_append] at ho4 ⊢; omega⟩
          · rw [if_neg hmg]
            refine wpS_bind (wpS_setMin fun st4 g4 => ?_)
            refine wpS_bind (wpS_elem (arr_get hj) ?_)
            have hk4 : kindOf st4 = oneType' := g4.kind.trans (g3.kind.trans hk')
            refine wpS_bind (gallop_at hk4 (ib _ (List.getElem_mem hj)) ia ha (fun p hp => hne p hp _ (List.getElem_mem hj)) hi' fun k hk1 hk2 hk3 => ?_)
            try dsimp only
            have g5 := g3.trans g4
            by_cases hk0 : k > 0
            · rw [if_pos hk0]
              have M1 : MS key a.toList b.toList (o ++ a.extract i (i + k)).toList (i + k) j := by
                rw [Array.toList_append, ex_mid]
                exact M.runA ha k hk1 fun m hm y hy z hz => Int.lt_of_lt_of_le (hk2 m hm z hz) (hb.le_drop hj hy)
              have ho1 : out.size < (o ++ a.extract i (i + k)).size := by rw [Array.size_append]; omega
              by_cases e1 : (i + k + 1 == a.size) = true
              · rw [if_pos e1]
                exact wpS_pure ⟨g5, .inl ⟨_, rfl, fin2 M1 (by rw [← ea]; simpa using e1)⟩⟩
              rw [if_neg e1]
              by_cases e2 : (i + k == a.size) = true
              · rw [if_pos e2]
                exact wpS_pure ⟨g5, .inl ⟨_, rfl, fin1 M1 (.inl (by rw [← ea]; simpa using e2))⟩⟩
              rw [if_neg e2]
              have hi1 : i + k + 1 < a.toList.length := by
                have h1 : ¬ i + k + 1 = a.size := by simpa using e1
                have h2 : ¬ i + k = a.size := by simpa using e2
                omega
              have hlt1 : ∀ y ∈ a.toList.drop (i + k), key b.toList[j] < key y := fun y hy => Int.lt_of_lt_of_le (hk3 k (Nat.le_refl _) _ (List.getElem?_eq_getElem (by omega))) (ha.le_drop (by omega) hy)
              have hI' : i + k < a.toList.length := by omega
              refine wpS_bind (wpS_elem (arr_get hj) ?_)
              try dsimp only
              have M2 := M1.pushB hb hj hlt1
              rw [← Array.toList_push] at M2
              by_cases e3 : (j + 1 == b.size) = true
              · rw [if_pos e3]
                exact wpS_pure ⟨g5, .inl ⟨_, rfl, fin1 M2 (.inr (by rw [← eb]; simpa using e3))⟩⟩
              rw [if_neg e3]
              have hj2 : j + 1 < b.toList.length := by
                have : ¬ j + 1 = b.size := by simpa using e3
                omega
              refine wpS_bind (wpS_elem (arr_get hI') ?_)
              refine wpS_bind (gallop_at hk4 (ia _ (List.getElem_mem hI')) ib hb (fun p hp => (hne _ (List.getElem_mem hI') p hp).symm) hj2 fun k2 l1 l2 l3 => ?_)
              try dsimp only
              by_cases hk20 : k2 > 0
              · rw [if_pos hk20]
                have M3 : MS key a.toList b.toList ((o ++ a.extract i (i + k)).push b.toList[j] ++ b.extract (j + 1) (j + 1 + k2)).toList (i + k) (j + 1 + k2) := by
                  rw [Array.toList_append, ex_mid]
                  exact M2.runB hb k2 l1 fun m hm y hy z hz => Int.lt_of_lt_of_le (l2 m hm z hz) (ha.le_drop hI' hy)
                by_cases e6 : (j + 1 + k2 == b.size) = true
                · rw [if_pos e6]
                  exact wpS_pure ⟨g5, .inl ⟨_, rfl, fin1 M3 (.inr (by rw [← eb]; simpa using e6))⟩⟩
                rw [if_neg e6]
                have hJ : j + 1 + k2 < b.toList.length := by
                  have : ¬ j + 1 + k2 = b.size := by simpa using e6
                  omega
                have hlt3 : ∀ y ∈ b.toList.drop (j + 1 + k2), key (a.toList[i + k]'hI') < key y := fun y hy => Int.lt_of_lt_of_le (l3 k2 (Nat.le_refl _) _ (List.getElem?_eq_getElem hJ)) (hb.le_drop hJ hy)
                refine wpS_bind (wpS_elem (arr_get hI') ?_)
                try dsimp only
                have M4 := M3.pushA ha hI' hlt3
                rw [← Array.toList_push] at M4
                by_cases e4 : (i + k + 1 + 1 == a.size) = true
                · rw [if_pos e4]
                  exact wpS_pure ⟨g5, .inl ⟨_, rfl, fin2 M4 (by rw [← ea]; simpa using e4)⟩⟩
                rw [if_neg e4]
                have e4' : ¬ i + k + 1 + 1 = a.size := by simpa using e4
                have ho4 := ho1
                by_cases e5 : (decide (k < 7) && decide (k2 < 7)) = true
                · rw [if_pos e5]
                  exact wpS_pure ⟨g5, .inr ⟨rfl, M4, by show i + k + 1 + 1 < _; omega, hJ, by dsimp only; simp only [Array.size_push, Array.size_append] at ho4 ⊢; omega⟩⟩
                · rw [if_neg e5]
                  exact wpS_pure ⟨g5, rfl, M4, by show i + k + 1 + 1 < _; omega, hJ, by dsimp only; simp only [Array.size_push, Array.size_append] at ho4 ⊢; omega⟩
              · rw [if_neg hk20]
                have hJ : j + 1 < b.toList.length := hj2
                have hlt3 : ∀ y ∈ b.toList.drop (j + 1), key (a.toList[i + k]'hI') < key y := fun y hy => Int.lt_of_lt_of_le (l3 0 (by omega) _ (List.getElem?_eq_getElem hJ)) (hb.le_drop hJ hy)
                refine wpS_bind (wpS_elem (arr_get hI') ?_)
                try dsimp only
                have M4 := M2.pushA ha hI' hlt3
                rw [← Array.toList_push] at M4
                by_cases e4 : (i + k + 1 + 1 == a.size) = true
                · rw [if_pos e4]
                  exact wpS_pure ⟨g5, .inl ⟨_, rfl, fin2 M4 (by rw [← ea]; simpa using e4)⟩⟩
                rw [if_neg e4]
                have e4' : ¬ i + k + 1 + 1 = a.size := by simpa using e4
                have ho4 := ho1
                by_cases e5 : (decide (k < 7) && decide (k2 < 7)) = true
                · rw [if_pos e5]
                  exact wpS_pure ⟨g5, .inr ⟨rfl, M4, by show i + k + 1 + 1 < _; omega, hJ, by dsimp only; simp only [Array.size_push, Array.size_append] at ho4 ⊢; omega⟩⟩
                · rw [if_neg e5]
                  exact wpS_pure ⟨g5, rfl, M4, by show i + k + 1 + 1 < _; omega, hJ, by dsimp only; simp only [Array.size_push, Array.size_append] at ho4 ⊢; omega⟩
            · rw [if_neg hk0]
              have hlt1 : ∀ y ∈ a.toList.drop i, key b.toList[j] < key y := fun y hy => Int.lt_of_lt_of_le (hk3 0 (by omega) _ (List.getElem?_eq_getElem hi')) (ha.le_drop hi' hy)
              have hI' : i < a.toList.length := by omega
              refine wpS_bind (wpS_elem (arr_get hj) ?_)
              try dsimp only
              have M2 := M.pushB hb hj hlt1
              rw [← Array.toList_push] at M2
              by_cases e3 : (j + 1 == b.size) = true
              · rw [if_pos e3]
                exact wpS_pure ⟨g5, .inl ⟨_, rfl, fin1 M2 (.inr (by rw [← eb]; simpa using e3))⟩⟩
              rw [if_neg e3]
              have hj2 : j + 1 < b.toList.length := by
                have : ¬ j + 1 = b.size := by simpa using e3
                omega
              refine wpS_bind (wpS_elem (arr_get hI') ?_)
              refine wpS_bind (gallop_at hk4 (ia _ (List.getElem_mem hI')) ib hb (fun p hp => (hne _ (List.getElem_mem hI') p hp).symm) hj2 fun k2 l1 l2 l3 => ?_)
              try dsimp only
              by_cases hk20 : k2 > 0
              · rw [if_pos hk20]
                have M3 : MS key a.toList b.toList ((o).push b.toList[j] ++ b.extract (j + 1) (j + 1 + k2)).toList (i) (j + 1 + k2) := by
                  rw [Array.toList_append, ex_mid]
                  exact M2.runB hb k2 l1 fun m hm y hy z hz => Int.lt_of_lt_of_le (l2 m hm z hz) (ha.le_drop hI' hy)
                by_cases e6 : (j + 1 + k2 == b.size) = true
                · rw [if_pos e6]
                  exact wpS_pure ⟨g5, .inl ⟨_, rfl, fin1 M3 (.inr (by rw [← eb]; simpa using e6))⟩⟩
                rw [if_neg e6]
                have hJ : j + 1 + k2 < b.toList.length := by
                  have : ¬ j + 1 + k2 = b.size := by simpa using e6
                  omega
                have hlt3 : ∀ y ∈ b.toList.drop (j + 1 + k2), key (a.toList[i]'hI') < key y := fun y hy => Int.lt_of_lt_of_le (l3 k2 (Nat.le_refl _) _ (List.getElem?_eq_getElem hJ)) (hb.le_drop hJ hy)
                refine wpS_bind (wpS_elem (arr_get hI') ?_)
                try dsimp only
                have M4 := M3.pushA ha hI' hlt3
                rw [← Array.toList_push] at M4
                by_cases e4 : (i + 1 + 1 == a.size) = true
                · rw [if_pos e4]
                  exact wpS_pure ⟨g5, .inl ⟨_, rfl, fin2 M4 (by rw [← ea]; simpa using e4)⟩⟩
                rw [if_neg e4]
                have e4' : ¬ i + 1 + 1 = a.size := by simpa using e4
                have ho4 := ho
                by_cases e5 : (decide (k < 7) && decide (k2 < 7)) = true
                · rw [if_pos e5]
                  exact wpS_pure ⟨g5, .inr ⟨rfl, M4, by show i + 1 + 1 < _; omega, hJ, by dsimp only; simp only [Array.size_push, Array.size_append] at ho4 ⊢; omega⟩⟩
                · rw [if_neg e5]
                  exact wpS_pure ⟨g5, rfl, M4, by show i + 1 + 1 < _; omega, hJ, by dsimp only; simp only [Array.size_push, Array.size_append] at ho4 ⊢; omega⟩
              · rw [if_neg hk20]
                have hJ : j + 1 < b.toList.length := hj2
                have hlt3 : ∀ y ∈ b.toList.drop (j + 1), key (a.toList[i]'hI') < key y := fun y hy => Int.lt_of_lt_of_le (l3 0 (by omega) _ (List.getElem?_eq_getElem hJ)) (hb.le_drop hJ hy)
                refine wpS_bind (wpS_elem (arr_get hI') ?_)
                try dsimp only
                have M4 := M2.pushA ha hI' hlt3
                rw [← Array.toList_push] at M4
                by_cases e4 : (i + 1 + 1 == a.size) = true
                · rw [if_pos e4]
                  exact wpS_pure ⟨g5, .inl ⟨_, rfl, fin2 M4 (by rw [← ea]; simpa using e4)⟩⟩
                rw [if_neg e4]
                have e4' : ¬ i + 1 + 1 = a.size := by simpa using e4
                have ho4 := ho
                by_cases e5 : (decide (k < 7) && decide (k2 < 7)) = true
                · rw [if_pos e5]
                  exact wpS_pure ⟨g5, .inr ⟨rfl, M4, by show i + 1 + 1 < _; omega, hJ, by dsimp only; simp only [Array.size_push, Array.size_append] at ho4 ⊢; omega⟩⟩
                · rw [if_neg e5]
                  exact wpS_pure ⟨g5, rfl, M4, by show i + 1 + 1 < _; omega, hJ, by dsimp only; simp only [Array.size_push, Array.size_append] at ho4 ⊢; omega⟩
end
end Srt

namespace Srt
open PySem PyProof.Rows
/-! from the end -/
def nkey (p : Keyed) : Int := - key p
theorem Asc.rev {a : List Keyed} (h : Asc key a) : Asc nkey a.reverse := by
  unfold Asc nkey
  rw [List.pairwise_reverse]
  exact h.imp fun hxy => by omega
theorem Asc.unrev {a : List Keyed} (h : Asc nkey a.reverse) : Asc key a := by
  unfold Asc nkey at h
  rw [List.pairwise_reverse] at h
  exact h.imp fun hxy => by omega
theorem Merged.unrev {r a b : List Keyed} (h : Merged nkey r.reverse a.reverse b.reverse) : Merged key r a b := by
  refine ⟨?_, h.2.unrev⟩
  refine (List.reverse_perm r).symm.trans (h.1.trans ?_)
  exact (List.reverse_perm a).append (List.reverse_perm b)
structure HS (a b o : List Keyed) (n m : Nat) : Prop where
  na : n ≤ a.length
  mb : m ≤ b.length
  ms : MS nkey a.reverse b.reverse o (a.length - n) (b.length - m)
theorem rev_get {a : List Keyed} {n : Nat} (h0 : 0 < n) (hn : n ≤ a.length) : a.reverse[a.length - n]? = some (a[n - 1]'(by omega)) := by
  rw [List.getElem?_reverse (by omega), List.getElem?_eq_getElem (by omega)]
  congr 2
  omega
theorem rev_drop (a : List Keyed) {n : Nat} (hn : n ≤ a.length) : a.reverse.drop (a.length - n) = (a.take n).reverse := by
  rw [List.drop_reverse]
  congr 2
  omega
theorem HS.swap {a b o : List Keyed} {n m : Nat} (h : HS a b o n m) : HS b a o m n := ⟨h.mb, h.na, h.ms.swap⟩
theorem HS.pushA {a b o : List Keyed} {n m : Nat} (h : HS a b o n m) (ha : Asc key a) (h0 : 0 < n) {x : Keyed} (hx : a[n - 1]? = some x) (hlt : ∀ y ∈ b.take m, key y < key x) : HS a b (o ++ [x]) (n - 1) m := by
  have hn := h.na
  have hi : a.length - n < a.reverse.length := by rw [List.length_reverse]; omega
  have hg := rev_get h0 hn
  rw [List.getElem?_eq_getElem hi] at hg
  have e : a.reverse[a.length - n] = x := by
    rw [List.getElem?_eq_getElem (by omega)] at hx
    exact (Option.some.inj hg).trans (Option.some.inj hx)
  have M := h.ms.pushA ha.rev hi (fun y hy => by
    rw [rev_drop b h.mb, List.mem_reverse] at hy
    rw [e]
    have := hlt y hy
    unfold nkey; omega)
  rw [e, show a.length - n + 1 = a.length - (n - 1) by omega] at M
  exact ⟨by omega, h.mb, M⟩
theorem HS.pushB {a b o : List Keyed} {n m : Nat} (h : HS a b o n m) (hb : Asc key b) (h0 : 0 < m) {x : Keyed} (hx : b[m - 1]? = some x) (hlt : ∀ y ∈ a.take n, key y < key x) : HS a b (o ++ [x]) n (m - 1) := (h.swap.pushA hb h0 hx hlt).swap
theorem HS.runA {a b o : List Keyed} {n m t : Nat} (h : HS a b o n m) (ha : Asc key a) (ht : t ≤ n) (hlt : ∀ i z, t ≤ i → i < n → a[i]? = some z → ∀ y ∈ b.take m, key y < key z) : HS a b (o ++ ((a.drop t).take (n - t)).reverse) t m := by
  have hn := h.na
  have M := MS.runA (b := b.reverse) (j := b.length - m) ha.rev (n - t) h.ms (by rw [List.length_reverse]; omega) (fun i hi y hy z hz => by
    rw [rev_drop b h.mb, List.mem_reverse] at hy
    rw [List.getElem?_reverse (by omega)] at hz
    have := hlt _ z (by omega) (by omega) hz y hy
    unfold nkey; omega)
  have e1 : a.length - n + (n - t) = a.length - t := by omega
  have e2 : (a.reverse.drop (a.length - n)).take (n - t) = ((a.drop t).take (n - t)).reverse := by
    rw [rev_drop a hn, List.take_reverse, List.length_take, Nat.min_eq_left hn]
    congr 1
    rw [List.drop_take]
    congr 1
    · omega
    · congr 1; omega
  rw [e1, e2] at M
  exact ⟨by omega, h.mb, M⟩
theorem HS.runB {a b o : List Keyed} {n m t : Nat} (h : HS a b o n m) (hb : Asc key b) (ht : t ≤ m) (hlt : ∀ i z, t ≤ i → i < m → b[i]? = some z → ∀ y ∈ a.take n, key y < key z) : HS a b (o ++ ((b.drop t).take (m - t)).reverse) n t := (h.swap.runA hb ht hlt).swap
theorem HS.done {a b o : List Keyed} {n m : Nat} (h : HS a b o n m) (ha : Asc key a) (hb : Asc key b) (hnm : n = 0 ∨ m = 0) : Merged key (a.take n ++ b.take m ++ o.reverse) a b := by
  refine Merged.unrev ?_
  have hn := h.na
  have hm := h.mb
  have M := h.ms.done ha.rev hb.rev (by rw [List.length_reverse, List.length_reverse]; omega)
  rw [rev_drop a h.na, rev_drop b h.mb] at M
  rw [List.reverse_append, List.reverse_append, List.reverse_reverse]
  rcases hnm with z | z
  · subst z
    simp only [List.take_zero, List.reverse_nil, List.append_nil] at M ⊢
    exact M
  · subst z
    simp only [List.take_zero, List.reverse_nil, List.append_nil, List.nil_append] at M ⊢
    exact M
theorem HS.first {a b o : List Keyed} {n m : Nat} (h : HS a b o n m) (ha : Asc key a) (hb : Asc key b) (hm1 : m = 1) (hl : ∀ y ∈ a, ∀ z, b[0]? = some z → key z < key y) : Merged key (b.take m ++ a.take n ++ o.reverse) a b := by
  refine Merged.unrev ?_
  have hm := h.mb
  subst hm1
  have hg := rev_get (a := b) (n := 1) (by decide) hm
  have hi : b.length - 1 < b.reverse.length := by rw [List.length_reverse]; omega
  rw [List.getElem?_eq_getElem hi] at hg
  have M := h.ms.swap.last hb.rev ha.rev (by rw [List.length_reverse]; omega) (fun y hy => by
    rw [List.mem_reverse] at hy
    rw [Option.some.inj hg]
    have := hl y hy _ (List.getElem?_eq_getElem (by omega))
    unfold nkey
    show - key y < - key b[0]
    omega)
  rw [rev_drop a h.na, rev_drop b h.mb] at M
  rw [List.reverse_append, List.reverse_append, List.reverse_reverse, ← List.append_assoc]
  exact ⟨M.1.trans List.perm_append_comm, M.2⟩
theorem HS.len {a b o : List Keyed} {n m : Nat} (h : HS a b o n m) : o.length = (a.length - n) + (b.length - m) := h.ms.len
theorem hs_start {a b : List Keyed} (ha : Asc key a) (h1 : 0 < a.length) {x : Keyed} (hx : a[a.length - 1]? = some x) (hlt : ∀ y ∈ b, key y < key x) : HS a b [x] (a.length - 1) b.length := by
  have : HS a b [] a.length b.length := ⟨Nat.le_refl _, Nat.le_refl _, ⟨by omega, by omega, by simp, List.Pairwise.nil, fun x hx => by cases hx⟩⟩
  exact this.pushA ha h1 hx (by rw [List.take_length]; exact hlt)
theorem Asc.le_take {a : List Keyed} (h : Asc key a) {n : Nat} (h0 : 0 < n) (hn : n ≤ a.length) {x y : Keyed} (hx : a[n - 1]? = some x) (hy : y ∈ a.take n) : key y ≤ key x := by
  obtain ⟨i, hi, rfl⟩ := List.getElem_of_mem hy
  rw [List.length_take] at hi
  rw [List.getElem_take]
  rw [List.getElem?_eq_getElem (by omega)] at hx
  rw [← Option.some.inj hx]
  rcases Nat.lt_or_ge i (n - 1) with z | z
  · exact Int.le_of_lt (h.lt z (by omega))
  · have : i = n - 1 := by omega
    subst this
    exact Int.le_refl _
theorem ex_pre (a : Array Keyed) (n : Nat) : (a.extract 0 n).toList = a.toList.take n := by simp
theorem ex_seg (a : Array Keyed) (t n : Nat) : (a.extract t n).toList = (a.toList.drop t).take (n - t) := by
  rw [Array.toList_extract]
end Srt

namespace Srt
open PySem PyProof.Rows
section
variable {prog : Program} {w : World} {A : Around} {E : Value → Shared → Prop} {s : Shared}
/-- gallop over the first n of a list -/
theorem gallop_pre {left : Bool} {ky : Keyed} {a : Array Keyed} {n hint : Nat} {st : SortSt} {Q : Option Nat → SortSt → Prop} (hk : kindOf st = oneType') (hky : IsInt ky) (ia : ∀ p ∈ a.toList, IsInt p) (ha : Asc key a.toList)
    (hne : ∀ p ∈ a.toList, key p ≠ key ky) (hn : n ≤ a.toList.length) (hh : hint < n)
    (q : ∀ k, k ≤ n → (∀ m, m < k → ∀ z, a.toList[m]? = some z → key z < key ky) → (∀ m, k ≤ m → m < n → ∀ z, a.toList[m]? = some z → key ky < key z) → Q (some k) st) : wpS (model prog w) A E s (gallop' left ky a 0 n hint) Q st := by
  have get : ∀ m, m < n → ∃ z, a.toList[m]? = some z ∧ z ∈ a.toList := fun m hm => ⟨_, List.getElem?_eq_getElem (by omega), List.getElem_mem (by omega)⟩
  refine wpS_gallop (B := fun m => match a.toList[m]? with | some z => decide (key z < key ky) | none => false) hk hky ?_ ?_ hh ?_
  · intro m hm
    obtain ⟨z, hz, hm'⟩ := get m hm
    refine ⟨z, by rw [← Array.getElem?_toList, Nat.zero_add]; exact hz, ia z hm', ?_⟩
    try dsimp only
    rw [hz]
    try dsimp only
    have hn := hne z hm'
    cases left with
    | true => rfl
    | false =>
      rw [if_neg Bool.false_ne_true]
      by_cases h : key z < key ky
      · rw [decide_eq_true h, decide_eq_false (by omega)]; rfl
      · rw [decide_eq_false h, decide_eq_true (by omega)]; rfl
  · intro m m' hmm hm' h
    obtain ⟨z', hz', _⟩ := get m' hm'
    obtain ⟨z, hz, _⟩ := get m (by omega)
    try dsimp only at h ⊢
    rw [hz'] at h
    rw [hz]
    try dsimp only at h ⊢
    have h1 := of_decide_eq_true h
    have h2 := ha.lt (show m < m' by omega) (by omega)
    rw [List.getElem?_eq_getElem (by omega)] at hz hz'
    rw [Option.some.inj hz] at h2
    rw [Option.some.inj hz'] at h2
    exact decide_eq_true (by omega)
  · intro k hk' h1 h2
    refine q k hk' (fun m hm z hz => ?_) (fun m hm hmn z hz => ?_)
    · have := h1 m hm
      try dsimp only at this
      rw [hz] at this
      exact of_decide_eq_true this
    · have := h2 m hm hmn
      try dsimp only at this
      rw [hz] at this
      have h3 : ¬ key z < key ky := of_decide_eq_false this
      have := hne z (List.mem_of_getElem? hz)
      omega
theorem wpS_mergeHi {st : SortSt} {a b : Array Keyed} {Q : Array Keyed → SortSt → Prop} (hk : kindOf st = oneType') (ia : ∀ p ∈ a.toList, IsInt p) (ib : ∀ p ∈ b.toList, IsInt p) (ha : Asc key a.toList) (hb : Asc key b.toList)
    (na : 0 < a.toList.length) (nb : 0 < b.toList.length) (hne : ∀ x ∈ a.toList, ∀ y ∈ b.toList, key x ≠ key y) (h0 : ∀ y ∈ a.toList, ∀ z, b.toList[0]? = some z → key z < key y) (hl : ∀ y ∈ b.toList, key y < key (a.toList[a.toList.length - 1]'(by omega)))
    (q : ∀ r st', Gal st st' → Merged key r.toList a.toList b.toList → Q r st') : wpS (model prog w) A E s (mergeHi' a b) Q st := by
  have ea : a.size = a.toList.length := by simp
  have eb : b.size = b.toList.length := by simp
  have fin1 : ∀ {o : Array Keyed} {n m : Nat}, HS a.toList b.toList o.toList n m → (n = 0 ∨ m = 0) → Merged key (a.extract 0 n ++ b.extract 0 m ++ o.reverse).toList a.toList b.toList := fun {o n m} M h => by
    rw [Array.toList_append, Array.toList_append, ex_pre, ex_pre, Array.toList_reverse]
    exact M.done ha hb h
  have fin2 : ∀ {o : Array Keyed} {n m : Nat}, HS a.toList b.toList o.toList n m → m = 1 → Merged key (b.extract 0 m ++ a.extract 0 n ++ o.reverse).toList a.toList b.toList := fun {o n m} M h => by
    rw [Array.toList_append, Array.toList_append, ex_pre, ex_pre, Array.toList_reverse]
    exact M.first ha hb h h0
  have hA0 : a.toList.length - 1 < a.toList.length := by omega
  obtain ⟨x0, hx0⟩ : ∃ x, a.toList[a.toList.length - 1]? = some x := ⟨_, List.getElem?_eq_getElem hA0⟩
  have ex0 : a.toList[a.toList.length - 1]'hA0 = x0 := by
    rw [List.getElem?_eq_getElem hA0] at hx0
    exact Option.some.inj hx0
  have hx1 : a[a.size - 1]? = some x0 := by rw [ea]; rw [← ex0]; exact arr_get hA0
  rw [ex0] at hl
  have M0 : HS a.toList b.toList (#[x0] : Array Keyed).toList (a.size - 1) b.size := by
    rw [ea, eb]
    exact hs_start ha na hx0 hl
  refine wpS_bind (wpS_lift (wpAny_rule ⟨rfl, ?_⟩))
  refine wpS_bind (wpS_elem (p := x0) hx1 ?_)
  try dsimp only
  by_cases h1 : (a.size - 1 == 0) = true
  · rw [if_pos h1]
    have h1' : a.size - 1 = 0 := by simpa using h1
    refine wpS_pure (q _ st (Gal.refl st) ?_)
    exact fin1 M0 (.inl h1')
  rw [if_neg h1]
  have h1' : ¬ a.size - 1 = 0 := by simpa using h1
  by_cases h2 : (b.size == 1) = true
  · rw [if_pos h2]
    have h2' : b.size = 1 := by simpa using h2
    refine wpS_pure (q _ st (Gal.refl st) ?_)
    exact fin2 M0 h2'
  rw [if_neg h2]
  have h2' : ¬ b.size = 1 := by simpa using h2
  refine wpS_bind (wpS_get ?_)
  try dsimp only
  refine wpS_bind (wpS_mono (wpS_forRange (I := fun x (r : Option (Array Keyed) × Nat × Nat × Array Keyed × Nat) st' => Gal st st' ∧ r.1 = none ∧ HS a.toList b.toList r.2.2.2.1.toList r.2.1 r.2.2.1 ∧ 0 < r.2.1 ∧ 1 < r.2.2.1 ∧ x < r.2.2.2.1.size)
    (Q := fun r st' => Gal st st' ∧ ∃ z, r.1 = some z ∧ Merged key z.toList a.toList b.toList) ?step ?fin ⟨Gal.refl st, rfl, M0, by show 0 < a.size - 1; omega, by show 1 < b.size; omega, Nat.zero_lt_one⟩) ?post)
  case post =>
    rintro ⟨r, _⟩ st' ⟨g, z, e, hm⟩
    try dsimp only at e ⊢
    subst e
    exact wpS_pure (q z st' g hm)
  case fin =>
    rintro ⟨r, na, nb, out, mg⟩ st' ⟨g, _, M, hi, hj, hx⟩
    have := M.len
    have h3 := M.na
    have h4 := M.mb
    try dsimp only at this hi hj hx h3 h4
    rw [Array.length_toList] at this
    omega
  case step =>
    rintro x ⟨r, na, nb, out, mg⟩ st' _ hx ⟨g, rfl, M, hi, hj, hx2⟩
    try dsimp only at M hi hj hx2 ⊢
    have hk' : kindOf st' = oneType' := g.kind.trans hk
    -- one by one
    refine wpS_bind (wpS_mono (wpS_forRange (I := fun y (r : Option (Array Keyed) × Nat × Nat × Array Keyed × Nat × Nat) st'' => st'' = st' ∧ r.1 = none ∧ HS a.toList b.toList r.2.2.2.1.toList r.2.1 r.2.2.1 ∧ 0 < r.2.1 ∧ 1 < r.2.2.1 ∧ out.size + y ≤ r.2.2.2.1.size)
      (Q := fun r st'' => st'' = st' ∧ ((∃ z, r.1 = some z ∧ Merged key z.toList a.toList b.toList) ∨ (r.1 = none ∧ HS a.toList b.toList r.2.2.2.1.toList r.2.1 r.2.2.1 ∧ 0 < r.2.1 ∧ 1 < r.2.2.1 ∧ out.size < r.2.2.2.1.size))) ?s1 ?f1 ⟨rfl, rfl, M, hi, hj, Nat.le_refl _⟩) ?p1)
    case s1 =>
      rintro y ⟨r, na, nb, o, ac, bc⟩ st'' _ hy ⟨rfl, rfl, M, hi, hj, ho⟩
      try dsimp only at M hi hj ho ⊢
      have hnaL : na ≤ a.toList.length := M.na
      have hnbL : nb ≤ b.toList.length := M.mb
      have hA' : na - 1 < a.toList.length := by omega
      have hB' : nb - 1 < b.toList.length := by omega
      have iA := ia _ (List.getElem_mem hA')
      have iB := ib _ (List.getElem_mem hB')
      refine wpS_bind (wpS_elem (arr_get hB') (wpS_bind (wpS_elem (arr_get hA') (wpS_bind (lt_of hk' iB iA ?_)))))
      try dsimp only
      by_cases hlt : key (b.toList[nb - 1]'hB') < key (a.toList[na - 1]'hA')
      · rw [decide_eq_true hlt, if_pos rfl]
        refine wpS_bind (wpS_elem (arr_get hA') ?_)
        have M' : HS a.toList b.toList (o.push a.toList[na - 1]).toList (na - 1) nb := by
          rw [Array.toList_push]
          exact M.pushA ha hi (List.getElem?_eq_getElem hA') fun y hy => Int.lt_of_le_of_lt (hb.le_take (by omega) hnbL (List.getElem?_eq_getElem hB') hy) hlt
        try dsimp only
        by_cases hi1 : (na - 1 == 0) = true
        · rw [if_pos hi1]
          exact wpS_pure ⟨rfl, .inl ⟨_, rfl, fin1 M' (.inl (by simpa using hi1))⟩⟩
        · rw [if_neg hi1]
          have hi1' : ¬ na - 1 = 0 := by simpa using hi1
          have hs : (o.push a.toList[na - 1]).size = o.size + 1 := Array.size_push ..
          by_cases hg : ac + 1 ≥ mg
          · rw [if_pos hg]
            exact wpS_pure ⟨rfl, .inr ⟨rfl, M', by show 0 < na - 1; omega, hj, by show out.size < (o.push a.toList[na - 1]).size; omega⟩⟩
          · rw [if_neg hg]
            exact wpS_pure ⟨rfl, rfl, M', by show 0 < na - 1; omega, hj, by show out.size + (y + 1) ≤ (o.push a.toList[na - 1]).size; omega⟩
      · rw [decide_eq_false hlt, if_neg Bool.false_ne_true]
        refine wpS_bind (wpS_elem (arr_get hB') ?_)
        have hlt' : key (a.toList[na - 1]'hA') < key (b.toList[nb - 1]'hB') := by
          have := hne _ (List.getElem_mem hA') _ (List.getElem_mem hB')
          omega
        have M' : HS a.toList b.toList (o.push b.toList[nb - 1]).toList na (nb - 1) := by
          rw [Array.toList_push]
          exact M.pushB hb (by omega) (List.getElem?_eq_getElem hB') fun y hy => Int.lt_of_le_of_lt (ha.le_take hi hnaL (List.getElem?_eq_getElem hA') hy) hlt'
        try dsimp only
        by_cases hj1 : (nb - 1 == 1) = true
        · rw [if_pos hj1]
          exact wpS_pure ⟨rfl, .inl ⟨_, rfl, fin2 M' (by simpa using hj1)⟩⟩
        · rw [if_neg hj1]
          have hj1' : ¬ nb - 1 = 1 := by simpa using hj1
          have hs : (o.push b.toList[nb - 1]).size = o.size + 1 := Array.size_push ..
          by_cases hg : bc + 1 ≥ mg
          · rw [if_pos hg]
            exact wpS_pure ⟨rfl, .inr ⟨rfl, M', hi, by show 1 < nb - 1; omega, by show out.size < (o.push b.toList[nb - 1]).size; omega⟩⟩
          · rw [if_neg hg]
            exact wpS_pure ⟨rfl, rfl, M', hi, by show 1 < nb - 1; omega, by show out.size + (y + 1) ≤ (o.push b.toList[nb - 1]).size; omega⟩
    case f1 =>
      rintro ⟨r, na, nb, o, ac, bc⟩ st'' ⟨rfl, rfl, M, hi, hj, ho⟩
      try dsimp only at M hi hj ho ⊢
      exact ⟨rfl, .inr ⟨rfl, M, hi, hj, by omega⟩⟩
    case p1 =>
      rintro ⟨r, na, nb, o, ac, bc⟩ st'' ⟨rfl, ⟨z, e, hm⟩ | ⟨e, M, hi, hj, ho⟩⟩
      · try dsimp only at e ⊢
        subst e
        exact wpS_pure ⟨g, z, rfl, hm⟩
      · try dsimp only at e M hi hj ho ⊢
        subst e
        try dsimp only
        refine wpS_bind (wpS_lift (wpAny_rule ⟨rfl, ?_⟩))
        -- by gallops
        refine wpS_bind (wpS_mono (wpS_forRange (I := fun y (r : Option (Array Keyed) × Nat × Nat × Array Keyed × Nat × Nat × Nat) st3 => Gal st'' st3 ∧ r.1 = none ∧ HS a.toList b.toList r.2.2.2.1.toList r.2.1 r.2.2.1 ∧ 0 < r.2.1 ∧ 1 < r.2.2.1 ∧ out.size < r.2.2.2.1.size)
          (Q := fun r st3 => Gal st'' st3 ∧ ((∃ z, r.1 = some z ∧ Merged key z.toList a.toList b.toList) ∨ (r.1 = none ∧ HS a.toList b.toList r.2.2.2.1.toList r.2.1 r.2.2.1 ∧ 0 < r.2.1 ∧ 1 < r.2.2.1 ∧ out.size < r.2.2.2.1.size))) ?s2 ?f2 ⟨Gal.refl _, rfl, M, hi, hj, ho⟩) ?p2)
        case f2 =>
          rintro ⟨r, na, nb, o, mg, ac, bc⟩ st3 ⟨g3, e, M, hi, hj, ho⟩
          exact ⟨g3, .inr ⟨e, M, hi, hj, ho⟩⟩
        case p2 =>
          rintro ⟨r, na, nb, o, mg, ac, bc⟩ st3 ⟨g3, ⟨z, e, hm⟩ | ⟨e, M, hi, hj, ho⟩⟩
          · try dsimp only at e ⊢
            subst e
            exact wpS_pure ⟨g.trans g3, z, rfl, hm⟩
          · try dsimp only at e M hi hj ho ⊢
            subst e
            try dsimp only
            refine wpS_bind (wpS_setMin fun st4 g4 => ?_)
            exact wpS_pure ⟨(g.trans g3).trans g4, rfl, M, hi, hj, by show x + 1 < o.size; omega⟩
        case s2 =>
          rintro y ⟨r, na, nb, o, mg, ac, bc⟩ st3 _ hy ⟨g3, rfl, M, hi, hj, ho⟩
          try dsimp only at M hi hj ho ⊢
          have hnaL : na ≤ a.toList.length := M.na
          have hnbL : nb ≤ b.toList.length := M.mb
          have hB' : nb - 1 < b.toList.length := by omega
          by_cases hmg : mg > 1
          · rw [if_pos hmg]
            refine wpS_bind (wpS_setMin fun st4 g4 => ?_)
            refine wpS_bind (wpS_elem (arr_get hB') ?_)
            have hk4 : kindOf st4 = oneType' := g4.kind.trans (g3.kind.trans hk')
            refine wpS_bind (gallop_pre hk4 (ib _ (List.getElem_mem hB')) ia ha (fun p hp => hne p hp _ (List.getElem_mem hB')) hnaL (show na - 1 < na by omega) fun t1 hk1 hk2 hk3 => ?_)
            try dsimp only
            have g5 := g3.trans g4
            have hltB' : ∀ y ∈ a.toList.take t1, key y < key (b.toList[nb - 1]'hB') := fun y hy => by
              obtain ⟨i, hi, rfl⟩ := List.getElem_of_mem hy
              rw [List.length_take] at hi
              rw [List.getElem_take]
              exact hk2 i (by omega) _ (List.getElem?_eq_getElem (by omega))
            by_cases hk0 : na - t1 > 0
            · rw [if_pos hk0]
              have M1 : HS a.toList b.toList (o ++ (a.extract t1 na).reverse).toList t1 nb := by
                rw [Array.toList_append, Array.toList_reverse, ex_seg]
                refine M.runA ha hk1 fun i z h1 h2 hz y hy => ?_
                exact Int.lt_of_le_of_lt (hb.le_take (by omega) (by omega) (List.getElem?_eq_getElem hB') hy) (hk3 i h1 h2 z hz)
              have ho1 : out.size < (o ++ (a.extract t1 na).reverse).size := by rw [Array.size_append]; omega
              by_cases e1 : (t1 == 0) = true
              · rw [if_pos e1]
                exact wpS_pure ⟨g5, .inl ⟨_, rfl, fin1 M1 (.inl (by simpa using e1))⟩⟩
              rw [if_neg e1]
              have e1' : ¬ t1 = 0 := by simpa using e1
              have hltB := hltB'
              refine wpS_bind (wpS_elem (arr_get hB') ?_)
              try dsimp only
              have M2 := M1.pushB hb (by omega) (List.getElem?_eq_getElem hB') hltB
              rw [← Array.toList_push] at M2
              by_cases e3 : (nb - 1 == 1) = true
              · rw [if_pos e3]
                exact wpS_pure ⟨g5, .inl ⟨_, rfl, fin2 M2 (by simpa using e3)⟩⟩
              rw [if_neg e3]
              have e3' : ¬ nb - 1 = 1 := by simpa using e3
              have hA1 : t1 - 1 < a.toList.length := by omega
              refine wpS_bind (wpS_elem (arr_get hA1) ?_)
              refine wpS_bind (gallop_pre hk4 (ia _ (List.getElem_mem hA1)) ib hb (fun p hp => (hne _ (List.getElem_mem hA1) p hp).symm) (show nb - 1 ≤ b.toList.length by omega) (show nb - 1 - 1 < nb - 1 by omega) fun t2 l1 l2 l3 => ?_)
              try dsimp only
              by_cases hk20 : nb - 1 - t2 > 0
              · rw [if_pos hk20]
                have M3 : HS a.toList b.toList ((o ++ (a.extract t1 na).reverse).push b.toList[nb - 1] ++ (b.extract t2 (nb - 1)).reverse).toList (t1) t2 := by
                  rw [Array.toList_append, Array.toList_reverse, ex_seg]
                  refine M2.runB hb l1 fun i z h1 h2 hz y hy => ?_
                  exact Int.lt_of_le_of_lt (ha.le_take (by omega) (by omega) (List.getElem?_eq_getElem hA1) hy) (l3 i h1 h2 z hz)
                by_cases e6 : (t2 == 1) = true
                · rw [if_pos e6]
                  exact wpS_pure ⟨g5, .inl ⟨_, rfl, fin2 M3 (by simpa using e6)⟩⟩
                rw [if_neg e6]
                by_cases e7 : (t2 == 0) = true
                · rw [if_pos e7]
                  exact wpS_pure ⟨g5, .inl ⟨_, rfl, fin1 M3 (.inr (by simpa using e7))⟩⟩
                rw [if_neg e7]
                have hNB : 1 < t2 := by
                  have h1 : ¬ t2 = 1 := by simpa using e6
                  have h2 : ¬ t2 = 0 := by simpa using e7
                  omega
                have hlt3 : ∀ y ∈ b.toList.take t2, key y < key (a.toList[t1 - 1]'hA1) := fun y hy => by
                  obtain ⟨i, hi, rfl⟩ := List.getElem_of_mem hy
                  rw [List.length_take] at hi
                  rw [List.getElem_take]
                  exact l2 i (by omega) _ (List.getElem?_eq_getElem (by omega))
                have hA' : t1 - 1 < a.toList.length := by omega
                refine wpS_bind (wpS_elem (arr_get hA') ?_)
                try dsimp only
                have M4 := M3.pushA ha (by omega) (List.getElem?_eq_getElem hA') hlt3
                rw [← Array.toList_push] at M4
                have ho4 := ho1
                by_cases e4 : (t1 - 1 == 0) = true
                · rw [if_pos e4]
                  exact wpS_pure ⟨g5, .inl ⟨_, rfl, fin1 M4 (.inl (by simpa using e4))⟩⟩
                rw [if_neg e4]
                have e4' : ¬ t1 - 1 = 0 := by simpa using e4
                by_cases e5 : (decide (na - t1 < 7) && decide (nb - 1 - t2 < 7)) = true
                · rw [if_pos e5]
                  exact wpS_pure ⟨g5, .inr ⟨rfl, M4, by show 0 < t1 - 1; omega, hNB, by dsimp only; simp only [Array.size_push, Array.size_append] at ho4 ⊢; omega⟩⟩
                · rw [if_neg e5]
                  exact wpS_pure ⟨g5, rfl, M4, by show 0 < t1 - 1; omega, hNB, by dsimp only; simp only [Array.size_push, Array.size_append] at ho4 ⊢; omega⟩
              · rw [if_neg hk20]
                have hNB : 1 < nb - 1 := by omega
                have ht2 : t2 = nb - 1 := by omega
                have hlt3 : ∀ y ∈ b.toList.take (nb - 1), key y < key (a.toList[t1 - 1]'hA1) := fun y hy => by
                  obtain ⟨i, hi, rfl⟩ := List.getElem_of_mem hy
                  rw [List.length_take] at hi
                  rw [List.getElem_take]
                  exact l2 i (by omega) _ (List.getElem?_eq_getElem (by omega))
                have hA' : t1 - 1 < a.toList.length := by omega
                refine wpS_bind (wpS_elem (arr_get hA') ?_)
                try dsimp only
                have M4 := M2.pushA ha (by omega) (List.getElem?_eq_getElem hA') hlt3
                rw [← Array.toList_push] at M4
                have ho4 := ho1
                by_cases e4 : (t1 - 1 == 0) = true
                · rw [if_pos e4]
                  exact wpS_pure ⟨g5, .inl ⟨_, rfl, fin1 M4 (.inl (by simpa using e4))⟩⟩
                rw [if_neg e4]
                have e4' : ¬ t1 - 1 = 0 := by simpa using e4
                by_cases e5 : (decide (na - t1 < 7) && decide (nb - 1 - t2 < 7)) = true
                · rw [if_pos e5]
                  exact wpS_pure ⟨g5, .inr ⟨rfl, M4, by show 0 < t1 - 1; omega, hNB, by dsimp only; simp only [Array.size_push, Array.size_append] at ho4 ⊢; omega⟩⟩
                · rw [if_neg e5]
                  exact wpS_pure ⟨g5, rfl, M4, by show 0 < t1 - 1; omega, hNB, by dsimp only; simp only [Array.size_push, Array.size_append] at ho4 ⊢; omega⟩
            · rw [if_neg hk0]
              have ht1 : t1 = na := by omega
              have hltB : ∀ y ∈ a.toList.take na, key y < key (b.toList[nb - 1]'hB') := by rw [← ht1]; exact hltB'
              refine wpS_bind (wpS_elem (arr_get hB') ?_)
              try dsimp only
              have M2 := M.pushB hb (by omega) (List.getElem?_eq_getElem hB') hltB
              rw [← Array.toList_push] at M2
              by_cases e3 : (nb - 1 == 1) = true
              · rw [if_pos e3]
                exact wpS_pure ⟨g5, .inl ⟨_, rfl, fin2 M2 (by simpa using e3)⟩⟩
              rw [if_neg e3]
              have e3' : ¬ nb - 1 = 1 := by simpa using e3
              have hA1 : na - 1 < a.toList.length := by omega
              refine wpS_bind (wpS_elem (arr_get hA1) ?_)
              refine wpS_bind (gallop_pre hk4 (ia _ (List.getElem_mem hA1)) ib hb (fun p hp => (hne _ (List.getElem_mem hA1) p hp).symm) (show nb - 1 ≤ b.toList.length by omega) (show nb - 1 - 1 < nb - 1 by omega) fun t2 l1 l2 l3 => ?_)
              try dsimp only
              by_cases hk20 : nb - 1 - t2 > 0
              · rw [if_pos hk20]
                have M3 : HS a.toList b.toList ((o).push b.toList[nb - 1] ++ (b.extract t2 (nb - 1)).reverse).toList (na) t2 := by
                  rw [Array.toList_append, Array.toList_reverse, ex_seg]
                  refine M2.runB hb l1 fun i z h1 h2 hz y hy => ?_
                  exact Int.lt_of_le_of_lt (ha.le_take (by omega) (by omega) (List.getElem?_eq_getElem hA1) hy) (l3 i h1 h2 z hz)
                by_cases e6 : (t2 == 1) = true
                · rw [if_pos e6]
                  exact wpS_pure ⟨g5, .inl ⟨_, rfl, fin2 M3 (by simpa using e6)⟩⟩
                rw [if_neg e6]
                by_cases e7 : (t2 == 0) = true
                · rw [if_pos e7]
                  exact wpS_pure ⟨g5, .inl ⟨_, rfl, fin1 M3 (.inr (by simpa using e7))⟩⟩
                rw [if_neg e7]
                have hNB : 1 < t2 := by
                  have h1 : ¬ t2 = 1 := by simpa using e6
                  have h2 : ¬ t2 = 0 := by simpa using e7
                  omega
                have hlt3 : ∀ y ∈ b.toList.take t2, key y < key (a.toList[na - 1]'hA1) := fun y hy => by
                  obtain ⟨i, hi, rfl⟩ := List.getElem_of_mem hy
                  rw [List.length_take] at hi
                  rw [List.getElem_take]
                  exact l2 i (by omega) _ (List.getElem?_eq_getElem (by omega))
                have hA' : na - 1 < a.toList.length := by omega
                refine wpS_bind (wpS_elem (arr_get hA') ?_)
                try dsimp only
                have M4 := M3.pushA ha (by omega) (List.getElem?_eq_getElem hA') hlt3
                rw [← Array.toList_push] at M4
                have ho4 := ho
                by_cases e4 : (na - 1 == 0) = true
                · rw [if_pos e4]
                  exact wpS_pure ⟨g5, .inl ⟨_, rfl, fin1 M4 (.inl (by simpa using e4))⟩⟩
                rw [if_neg e4]
                have e4' : ¬ na - 1 = 0 := by simpa using e4
                by_cases e5 : (decide (na - t1 < 7) && decide (nb - 1 - t2 < 7)) = true
                · rw [if_pos e5]
                  exact wpS_pure ⟨g5, .inr ⟨rfl, M4, by show 0 < na - 1; omega, hNB, by dsimp only; simp only [Array.size_push, Array.size_append] at ho4 ⊢; omega⟩⟩
                · rw [if_neg e5]
                  exact wpS_pure ⟨g5, rfl, M4, by show 0 < na - 1; omega, hNB, by dsimp only; simp only [Array.size_push, Array.size_append] at ho4 ⊢; omega⟩
              · rw [if_neg hk20]
                have hNB : 1 < nb - 1 := by omega
                have ht2 : t2 = nb - 1 := by omega
                have hlt3 : ∀ y ∈ b.toList.take (nb - 1), key y < key (a.toList[na - 1]'hA1) := fun y hy => by
                  obtain ⟨i, hi, rfl⟩ := List.getElem_of_mem hy
                  rw [List.length_take] at hi
                  rw [List.getElem_take]
                  exact l2 i (by omega) _ (List.getElem?_eq_getElem (by omega))
                have hA' : na - 1 < a.toList.length := by omega
                refine wpS_bind (wpS_elem (arr_get hA') ?_)
                try dsimp only
                have M4 := M2.pushA ha (by omega) (List.getElem?_eq_getElem hA') hlt3
                rw [← Array.toList_push] at M4
                have ho4 := ho
                by_cases e4 : (na - 1 == 0) = true
                · rw [if_pos e4]
                  exact wpS_pure ⟨g5, .inl ⟨_, rfl, fin1 M4 (.inl (by simpa using e4))⟩⟩
                rw [if_neg e4]
                have e4' : ¬ na - 1 = 0 := by simpa using e4
                by_cases e5 : (decide (na - t1 < 7) && decide (nb - 1 - t2 < 7)) = true
                · rw [if_pos e5]
                  exact wpS_pure ⟨g5, .inr ⟨rfl, M4, by show 0 < na - 1; omega, hNB, by dsimp only; simp only [Array.size_push, Array.size_append] at ho4 ⊢; omega⟩⟩
                · rw [if_neg e5]
                  exact wpS_pure ⟨g5, rfl, M4, by show 0 < na - 1; omega, hNB, by dsimp only; simp only [Array.size_push, Array.size_append] at ho4 ⊢; omega⟩
          · rw [if_neg hmg]
            refine wpS_bind (wpS_setMin fun st4 g4 => ?_)
            refine wpS_bind (wpS_elem (arr_get hB') ?_)
            have hk4 : kindOf st4 = oneType' := g4.kind.trans (g3.kind.trans hk')
            refine wpS_bind (gallop_pre hk4 (ib _ (List.getElem_mem hB')) ia ha (fun p hp => hne p hp _ (List.getElem_mem hB')) hnaL (show na - 1 < na by omega) fun t1 hk1 hk2 hk3 => ?_)
            try dsimp only
            have g5 := g3.trans g4
            have hltB' : ∀ y ∈ a.toList.take t1, key y < key (b.toList[nb - 1]'hB') := fun y hy => by
              obtain ⟨i, hi, rfl⟩ := List.getElem_of_mem hy
              rw [List.length_take] at hi
              rw [List.getElem_take]
              exact hk2 i (by omega) _ (List.getElem?_eq_getElem (by omega))
            by_cases hk0 : na - t1 > 0
            · rw [if_pos hk0]
              have M1 : HS a.toList b.toList (o ++ (a.extract t1 na).reverse).toList t1 nb := by
                rw [Array.toList_append, Array.toList_reverse, ex_seg]
                refine M.runA ha hk1 fun i z h1 h2 hz y hy => ?_
                exact Int.lt_of_le_of_lt (hb.le_take (by omega) (by omega) (List.getElem?_eq_getElem hB') hy) (hk3 i h1 h2 z hz)
              have ho1 : out.size < (o ++ (a.extract t1 na).reverse).size := by rw [Array.size_append]; omega
              by_cases e1 : (t1 == 0) = true
              · rw [if_pos e1]
                exact wpS_pure ⟨g5, .inl ⟨_, rfl, fin1 M1 (.inl (by simpa using e1))⟩⟩
              rw [if_neg e1]
              have e1' : ¬ t1 = 0 := by simpa using e1
              have hltB := hltB'
              refine wpS_bind (wpS_elem (arr_get hB') ?_)
              try dsimp only
              have M2 := M1.pushB hb (by omega) (List.getElem?_eq_getElem hB') hltB
              rw [← Array.toList_push] at M2
              by_cases e3 : (nb - 1 == 1) = true
              · rw [if_pos e3]
                exact wpS_pure ⟨g5, .inl ⟨_, rfl, fin2 M2 (by simpa using e3)⟩⟩
              rw [if_neg e3]
              have e3' : ¬ nb - 1 = 1 := by simpa using e3
              have hA1 : t1 - 1 < a.toList.length := by omega
              refine wpS_bind (wpS_elem (arr_get hA1) ?_)
              refine wpS_bind (gallop_pre hk4 (ia _ (List.getElem_mem hA1)) ib hb (fun p hp => (hne _ (List.getElem_mem hA1) p hp).symm) (show nb - 1 ≤ b.toList.length by omega) (show nb - 1 - 1 < nb - 1 by omega) fun t2 l1 l2 l3 => ?_)
              try dsimp only
              by_cases hk20 : nb - 1 - t2 > 0
              · rw [if_pos hk20]
                have M3 : HS a.toList b.toList ((o ++ (a.extract t1 na).reverse).push b.toList[nb - 1] ++ (b.extract t2 (nb - 1)).reverse).toList (t1) t2 := by
                  rw [Array.toList_append, Array.toList_reverse, ex_seg]
                  refine M2.runB hb l1 fun i z h1 h2 hz y hy => ?_
                  exact Int.lt_of_le_of_lt (ha.le_take (by omega) (by omega) (List.getElem?_eq_getElem hA1) hy) (l3 i h1 h2 z hz)
                by_cases e6 : (t2 == 1) = true
                · rw [if_pos e6]
                  exact wpS_pure ⟨g5, .inl ⟨_, rfl, fin2 M3 (by simpa using e6)⟩⟩
                rw [if_neg e6]
                by_cases e7 : (t2 == 0) = true
                · rw [if_pos e7]
                  exact wpS_pure ⟨g5, .inl ⟨_, rfl, fin1 M3 (.inr (by simpa using e7))⟩⟩
                rw [if_neg e7]
                have hNB : 1 < t2 := by
                  have h1 : ¬ t2 = 1 := by simpa using e6
                  have h2 : ¬ t2 = 0 := by simpa using e7
                  omega
                have hlt3 : ∀ y ∈ b.toList.take t2, key y < key (a.toList[t1 - 1]'hA1) := fun y hy => by
                  obtain ⟨i, hi, rfl⟩ := List.getElem_of_mem hy
                  rw [List.length_take] at hi
                  rw [List.getElem_take]
                  exact l2 i (by omega) _ (List.getElem?_eq_getElem (by omega))
                have hA' : t1 - 1 < a.toList.length := by omega
                refine wpS_bind (wpS_elem (arr_get hA') ?_)
                try dsimp only
                have M4 := M3.pushA ha (by omega) (List.getElem?_eq_getElem hA') hlt3
                rw [← Array.toList_push] at M4
                have ho4 := ho1
                by_cases e4 : (t1 - 1 == 0) = true
                · rw [if_pos e4]
                  exact wpS_pure ⟨g5, .inl ⟨_, rfl, fin1 M4 (.inl (by simpa using e4))⟩⟩
                rw [if_neg e4]
                have e4' : ¬ t1 - 1 = 0 := by simpa using e4
                by_cases e5 : (decide (na - t1 < 7) && decide (nb - 1 - t2 < 7)) = true
                · rw [if_pos e5]
                  exact wpS_pure ⟨g5, .inr ⟨rfl, M4, by show 0 < t1 - 1; omega, hNB, by dsimp only; simp only [Array.size_push, Array.size_append] at ho4 ⊢; omega⟩⟩
                · rw [if_neg e5]
                  exact wpS_pure ⟨g5, rfl, M4, by show 0 < t1 - 1; omega, hNB, by dsimp only; simp only [Array.size_push, Array.size_append] at ho4 ⊢; omega⟩
              · rw [if_neg hk20]
                have hNB : 1 < nb - 1 := by omega
                have ht2 : t2 = nb - 1 := by omega
                have hlt3 : ∀ y ∈ b.toList.take (nb - 1), key y < key (a.toList[t1 - 1]'hA1) := fun y hy => by
                  obtain ⟨i, hi, rfl⟩ := List.getElem_of_mem hy
                  rw [List.length_take] at hi
                  rw [List.getElem_take]
                  exact l2 i (by omega) _ (List.getElem?_eq_getElem (by omega))
                have hA' : t1 - 1 < a.toList.length := by omega
                refine wpS_bind (wpS_elem (arr_get hA') ?_)
                try dsimp only
                have M4 := M2.pushA ha (by omega) (List.getElem?_eq_getElem hA') hlt3
                rw [← Array.toList_push] at M4
                have ho4 := ho1
                by_cases e4 : (t1 - 1 == 0) = true
                · rw [if_pos e4]
                  exact wpS_pure ⟨g5, .inl ⟨_, rfl, fin1 M4 (.inl (by simpa using e4))⟩⟩
                rw [if_neg e4]
                have e4' : ¬ t1 - 1 = 0 := by simpa using e4
                by_cases e5 : (decide (na - t1 < 7) && decide (nb - 1 - t2 < 7)) = true
                · rw [if_pos e5]
                  exact wpS_pure ⟨g5, .inr ⟨rfl, M4, by show 0 < t1 - 1; omega, hNB, by dsimp only; simp only [Array.size_push, Array.size_append] at ho4 ⊢; omega⟩⟩
                · rw [if_neg e5]
                  exact wpS_pure ⟨g5, rfl, M4, by show 0 < t1 - 1; omega, hNB, by dsimp only; simp only [Array.size_push, Array.size_append] at ho4 ⊢; omega⟩
            · rw [if_neg hk0]
              have ht1 : t1 = na := by omega
              have hltB : ∀ y ∈ a.toList.take na, key y < key (b.toList[nb - 1]'hB') := by rw [← ht1]; exact hltB'
              refine wpS_bind (wpS_elem (arr_get hB') ?_)
              try dsimp only
              have M2 := M.pushB hb (by omega) (List.getElem?_eq_getElem hB') hltB
              rw [← Array.toList_push] at M2
              by_cases e3 : (nb - 1 == 1) = true
              · rw [if_pos e3]
                exact wpS_pure ⟨g5, .inl ⟨_, rfl, fin2 M2 (by simpa using e3)⟩⟩
              rw [if_neg e3]
              have e3' : ¬ nb - 1 = 1 := by simpa using e3
              have hA1 : na - 1 < a.toList.length := by omega
              refine wpS_bind (wpS_elem (arr_get hA1) ?_)
              refine wpS_bind (gallop_pre hk4 (ia _ (List.getElem_mem hA1)) ib hb (fun p hp => (hne _ (List.getElem_mem hA1) p hp).symm) (show nb - 1 ≤ b.toList.length by omega) (show nb - 1 - 1 < nb - 1 by omega) fun t2 l1 l2 l3 => ?_)
              try dsimp only
              by_cases hk20 : nb - 1 - t2 > 0
              · rw [if_pos hk20]
                have M3 : HS a.toList b.toList ((o).push b.toList[nb - 1] ++ (b.extract t2 (nb - 1)).reverse).toList (na) t2 := by
                  rw [Array.toList_append, Array.toList_reverse, ex_seg]
                  refine M2.runB hb l1 fun i z h1 h2 hz y hy => ?_
                  exact Int.lt_of_le_of_lt (ha.le_take (by omega) (by omega) (List.getElem?_eq_getElem hA1) hy) (l3 i h1 h2 z hz)
                by_cases e6 : (t2 == 1) = true
                · rw [if_pos e6]
                  exact wpS_pure ⟨g5, .inl ⟨_, rfl, fin2 M3 (by simpa using e6)⟩⟩
                rw [if_neg e6]
                by_cases e7 : (t2 == 0) = true
                · rw [if_pos e7]
                  exact wpS_pure ⟨g5, .inl ⟨_, rfl, fin1 M3 (.inr (by simpa using e7))⟩⟩
                rw [if_neg e7]
                have hNB : 1 < t2 := by
                  have h1 : ¬ t2 = 1 := by simpa using e6
                  have h2 : ¬ t2 = 0 := by simpa using e7
                  omega
                have hlt3 : ∀ y ∈ b.toList.take t2, key y < key (a.toList[na - 1]'hA1) := fun y hy => by
                  obtain ⟨i, hi, rfl⟩ := List.getElem_of_mem hy
                  rw [List.length_take] at hi
                  rw [List.getElem_take]
                  exact l2 i (by omega) _ (List.getElem?_eq_getElem (by omega))
                have hA' : na - 1 < a.toList.length := by omega
                refine wpS_bind (wpS_elem (arr_get hA') ?_)
                try dsimp only
                have M4 := M3.pushA ha (by omega) (List.getElem?_eq_getElem hA') hlt3
                rw [← Array.toList_push] at M4
                have ho4 := ho
                by_cases e4 : (na - 1 == 0) = true
                · rw [if_pos e4]
                  exact wpS_pure ⟨g5, .inl ⟨_, rfl, fin1 M4 (.inl (by simpa using e4))⟩⟩
                rw [if_neg e4]
                have e4' : ¬ na - 1 = 0 := by simpa using e4
                by_cases e5 : (decide (na - t1 < 7) && decide (nb - 1 - t2 < 7)) = true
                · rw [if_pos e5]
                  exact wpS_pure ⟨g5, .inr ⟨rfl, M4, by show 0 < na - 1; omega, hNB, by dsimp only; simp only [Array.size_push, Array.size_append] at ho4 ⊢; omega⟩⟩
                · rw [if_neg e5]
                  exact wpS_pure ⟨g5, rfl, M4, by show 0 < na - 1; omega, hNB, by dsimp only; simp only [Array.size_push, Array.size_append] at ho4 ⊢; omega⟩
              · rw [if_neg hk20]
                have hNB : 1 < nb - 1 := by omega
                have ht2 : t2 = nb - 1 := by omega
                have hlt3 : ∀ y ∈ b.toList.take (nb - 1), key y < key (a.toList[na - 1]'hA1) := fun y hy => by
                  obtain ⟨i, hi, rfl⟩ := List.getElem_of_mem hy
                  rw [List.length_take] at hi
                  rw [List.getElem_take]
                  exact l2 i (by omega) _ (List.getElem?_eq_getElem (by omega))
                have hA' : na - 1 < a.toList.length := by omega
                refine wpS_bind (wpS_elem (arr_get hA') ?_)
                try dsimp only
                have M4 := M2.pushA ha (by omega) (List.getElem?_eq_getElem hA') hlt3
                rw [← Array.toList_push] at M4
                have ho4 := ho
                by_cases e4 : (na - 1 == 0) = true
                · rw [if_pos e4]
                  exact wpS_pure ⟨g5, .inl ⟨_, rfl, fin1 M4 (.inl (by simpa using e4))⟩⟩
                rw [if_neg e4]
                have e4' : ¬ na - 1 = 0 := by simpa using e4
                by_cases e5 : (decide (na - t1 < 7) && decide (nb - 1 - t2 < 7)) = true
                · rw [if_pos e5]
                  exact wpS_pure ⟨g5, .inr ⟨rfl, M4, by show 0 < na - 1; omega, hNB, by dsimp only; simp only [Array.size_push, Array.size_append] at ho4 ⊢; omega⟩⟩
                · rw [if_neg e5]
                  exact wpS_pure ⟨g5, rfl, M4, by show 0 < na - 1; omega, hNB, by dsimp only; simp only [Array.size_push, Array.size_append] at ho4 ⊢; omega⟩
end
end Srt

namespace Srt
open PySem PyProof.Rows
/-! runs from any place on -/
structure SB (a₀ : Array Keyed) (st : SortSt) : Prop where
  perm : (arrOf st).Perm a₀
  kind : kindOf st = oneType'
  failed : failedOf st = none
/-- all keys differ -/
def Dist (xs : Array Keyed) : Prop := ∀ i j, i < xs.size → j < xs.size → i ≠ j → K xs i ≠ K xs j
/-- a stretch in order -/
def Seg (xs : Array Keyed) (lo n : Nat) : Prop := ∀ i j, i < j → j < n → K xs (lo + i) < K xs (lo + j)
structure Keep (a₀ : Array Keyed) (lo : Nat) (st st' : SortSt) : Prop where
  base : SB a₀ st'
  pend : pendingOf st' = pendingOf st
  low : ∀ k, k < lo → (arrOf st')[k]? = (arrOf st)[k]?
section
variable {prog : Program} {w : World} {A : Around} {E : Value → Shared → Prop} {s : Shared} {a₀ : Array Keyed}
theorem SB.size {st : SortSt} (h : SB a₀ st) : (arrOf st).size = a₀.size := h.perm.size_eq
theorem SB.setArr {st : SortSt} (h : SB a₀ st) {xs : Array Keyed} (hp : xs.Perm (arrOf st)) : SB a₀ (setArr st xs) := ⟨hp.trans h.perm, h.kind, h.failed⟩
theorem SB.to {st : SortSt} (h : SB a₀ st) : SBase a₀ (SortSt.mk' (kindOf st) (arrOf st) #[] (gallopOf st) (failedOf st)) := ⟨h.perm, h.kind, h.failed, rfl⟩
theorem Keep.refl {lo : Nat} {st : SortSt} (h : SB a₀ st) : Keep a₀ lo st st := ⟨h, rfl, fun _ _ => rfl⟩
theorem Keep.trans {lo : Nat} {a b c : SortSt} (h : Keep a₀ lo a b) (k : Keep a₀ lo b c) : Keep a₀ lo a c := ⟨k.base, k.pend.trans h.pend, fun i hi => (k.low i hi).trans (h.low i hi)⟩
theorem SB.at {st : SortSt} (h : SB a₀ st) (h0 : IntKeys a₀) {i : Nat} (hi : i < a₀.size) : ∃ t q, (arrOf st)[i]? = some (.int (K (arrOf st) i) t, q) := h.to.at h0 hi
theorem ltK {st : SortSt} {i j : Nat} {Q : Option Bool → SortSt → Prop} (hB : SB a₀ st) (h0 : IntKeys a₀) (hi : i < a₀.size) (hj : j < a₀.size)
    (h : Q (some (decide (K (arrOf st) i < K (arrOf st) j))) st) : wpS (model prog w) A E s (ltAt' i j) Q st := by
  obtain ⟨t, p, e1⟩ := hB.at h0 hi
  obtain ⟨u, q, e2⟩ := hB.at h0 hj
  exact wpS_ltAt hB.kind e1 e2 h
theorem dist_iff (xs : Array Keyed) : Dist xs ↔ (xs.toList.map key).Nodup := by
  unfold Dist List.Nodup
  rw [List.pairwise_map, List.pairwise_iff_getElem]
  constructor
  · intro h i j hi hj hij
    have hi' : i < xs.size := by simpa using hi
    have hj' : j < xs.size := by simpa using hj
    have := h i j hi' hj' (by omega)
    rw [K_eq hi', K_eq hj'] at this
    simpa [key] using this
  · intro h i j hi hj hij
    have hi' : i < xs.toList.length := by simpa using hi
    have hj' : j < xs.toList.length := by simpa using hj
    rw [K_eq hi, K_eq hj]
    rcases Nat.lt_or_gt_of_ne hij with z | z
    · have := h i j hi' hj' z
      simpa [key] using this
    · have := h j i hj' hi' z
      simpa [key] using this.symm
theorem SB.dist {st : SortSt} (h : SB a₀ st) (hd : Dist a₀) : Dist (arrOf st) := by
  rw [dist_iff] at hd ⊢
  exact ((Array.perm_iff_toList_perm.mp h.perm).map key).nodup_iff.mpr hd
theorem Seg.snoc {xs : Array Keyed} {lo n : Nat} (h : Seg xs lo n) (h1 : 1 ≤ n) (hlt : K xs (lo + n - 1) < K xs (lo + n)) : Seg xs lo (n + 1) := by
  intro i j hij hj
  by_cases hjn : j < n
  · exact h i j hij hjn
  · have : j = n := by omega
    subst this
    by_cases hi : i = j - 1
    · subst hi
      rw [show lo + (j - 1) = lo + j - 1 by omega]
      exact hlt
    · have := h i (j - 1) (by omega) (by omega)
      rw [show lo + (j - 1) = lo + j - 1 by omega] at this
      omega
theorem seg_one (xs : Array Keyed) (lo : Nat) : Seg xs lo 1 := fun i j hij hj => by omega
theorem wpS_countRun' {st : SortSt} {lo nrem : Nat} {Q : Option Nat → SortSt → Prop} (h0 : IntKeys a₀) (hd : Dist a₀) (hB : SB a₀ st) (hn : lo + nrem ≤ a₀.size) (h1 : 1 ≤ nrem)
    (h : ∀ m st', Keep a₀ lo st st' → 1 ≤ m → m ≤ nrem → Seg (arrOf st') lo m → Q (some m) st') : wpS (model prog w) A E s (countRun' lo nrem) Q st := by
  have hD := hB.dist hd
  have hsz := hB.size
  rw [countRun'_eq]
  refine wpS_bind (wpS_mono (wpS_forRange (I := fun x (r : Option (Option Nat) × Nat) st' => st' = st ∧ r = (none, x) ∧ Seg (arrOf st) lo x)
    (Q := fun r st' => st' = st ∧ ∃ n, r = (none, n) ∧ 1 ≤ n ∧ n ≤ nrem ∧ Seg (arrOf st) lo n ∧ (n = nrem ∨ K (arrOf st) (lo + n) < K (arrOf st) (lo + n - 1))) ?step ?fin ⟨rfl, rfl, seg_one _ _⟩) ?post)
  case fin =>
    rintro r st' ⟨rfl, rfl, hs⟩
    rw [show max 1 nrem = nrem by omega] at hs ⊢
    exact ⟨rfl, nrem, rfl, h1, Nat.le_refl _, hs, .inl rfl⟩
  case step =>
    rintro x r st' h1x hxn ⟨rfl, rfl, hs⟩
    dsimp only
    refine wpS_bind (ltK hB h0 (by omega) (by omega) ?_)
    dsimp only
    by_cases hlt : K (arrOf st') (lo + x) < K (arrOf st') (lo + x - 1)
    · rw [decide_eq_true hlt, if_pos rfl]
      exact wpS_pure ⟨rfl, x, rfl, h1x, by omega, hs, .inr hlt⟩
    · rw [decide_eq_false hlt, if_neg Bool.false_ne_true]
      have := hD (lo + x) (lo + x - 1) (by omega) (by omega) (by omega)
      exact wpS_pure ⟨rfl, rfl, hs.snoc h1x (by omega)⟩
  case post =>
    rintro r st' ⟨rfl, n, rfl, hn1, hn2, hs, hor⟩
    dsimp only
    by_cases hnn : n = nrem
    · rw [if_pos (by simpa using hnn)]
      exact wpS_pure (h n st' (Keep.refl hB) hn1 hn2 hs)
    rw [if_neg (by simpa using hnn)]
    by_cases hgt : n > 1
    · rw [if_pos hgt]
      refine wpS_bind (ltK hB h0 (by omega) (by omega) ?_)
      dsimp only
      have hrose : K (arrOf st') lo < K (arrOf st') (lo + n - 1) := by
        have := hs 0 (n - 1) (by omega) (by omega)
        rw [show lo + (n - 1) = lo + n - 1 by omega] at this
        exact this
      rw [decide_eq_true hrose, if_pos rfl]
      exact wpS_pure (h n st' (Keep.refl hB) hn1 hn2 hs)
    rw [if_neg hgt]
    have e1 : n = 1 := by omega
    subst e1
    have hlt : K (arrOf st') (lo + 1) < K (arrOf st') (lo + 1 - 1) := hor.resolve_left hnn
    refine wpS_bind (wpS_lift (wpAny_rule ⟨rfl, ?_⟩))
    -- falling
    refine wpS_bind (wpS_mono (wpS_forRange (I := fun x (r : Option (Option Nat) × Nat × Nat) st'' => st'' = st' ∧ r = (none, x, 0) ∧ ∀ i j, i < j → j < x → K (arrOf st') (lo + j) < K (arrOf st') (lo + i))
      (Q := fun r st'' => st'' = st' ∧ ∃ n, r = (none, n, 0) ∧ 1 ≤ n ∧ n ≤ nrem ∧ ∀ i j, i < j → j < n → K (arrOf st') (lo + j) < K (arrOf st') (lo + i)) ?dstep ?dfin ⟨rfl, rfl, ?dinit⟩) ?dpost)
    case dinit =>
      intro i j hij hj
      have hi : i = 0 := by omega
      have hj : j = 1 := by omega
      subst hi; subst hj
      exact hlt
    case dfin =>
      rintro r st'' ⟨rfl, rfl, hs⟩
      rw [show max (1 + 1) nrem = nrem by omega] at hs ⊢
      exact ⟨rfl, nrem, rfl, h1, Nat.le_refl _, hs⟩
    case dstep =>
      rintro x r st'' h1x hxn ⟨rfl, rfl, hs⟩
      dsimp only
      refine wpS_bind (ltK hB h0 (by omega) (by omega) ?_)
      dsimp only
      by_cases hlt : K (arrOf st'') (lo + x) < K (arrOf st'') (lo + x - 1)
      · rw [decide_eq_true hlt, if_pos rfl, if_neg (Nat.lt_irrefl 0)]
        refine wpS_pure ⟨rfl, rfl, fun i j hij hj => ?_⟩
        by_cases hjx : j < x
        · exact hs i j hij hjx
        · have : j = x := by omega
          subst this
          by_cases hi : i = j - 1
          · subst hi
            rw [show lo + (j - 1) = lo + j - 1 by omega]
            exact hlt
          · have := hs i (j - 1) (by omega) (by omega)
            rw [show lo + (j - 1) = lo + j - 1 by omega] at this
            omega
      · rw [decide_eq_false hlt, if_neg Bool.false_ne_true]
        have := hD (lo + x) (lo + x - 1) (by omega) (by omega) (by omega)
        refine wpS_bind (ltK hB h0 (by omega) (by omega) ?_)
        dsimp only
        rw [decide_eq_true (by omega), if_pos rfl]
        exact wpS_pure ⟨rfl, x, rfl, by omega, by omega, hs⟩
    case dpost =>
      rintro r st'' ⟨rfl, n, rfl, hn1, hn2, hs⟩
      dsimp only
      rw [if_neg (Nat.lt_irrefl 0)]
      refine wpS_bind (wpS_reverse ?_)
      have hm : lo + n ≤ (arrOf st'').size := by omega
      have hB' : SB a₀ (setArr st'' (mirror (arrOf st'') lo (lo + n) ((lo + n - lo) / 2))) := hB.setArr (mirror_perm _ _ _ _)
      have hK : Keep a₀ lo st'' (setArr st'' (mirror (arrOf st'') lo (lo + n) ((lo + n - lo) / 2))) := by
        refine ⟨hB', rfl, fun k hk => ?_⟩
        show (mirror (arrOf st'') lo (lo + n) ((lo + n - lo) / 2))[k]? = _
        rw [getElem?_mirror_all hm, if_neg (by omega)]
      have hs' : Seg (arrOf (setArr st'' (mirror (arrOf st'') lo (lo + n) ((lo + n - lo) / 2)))) lo n := by
        intro i j hij hj
        show K (mirror (arrOf st'') lo (lo + n) ((lo + n - lo) / 2)) _ < K (mirror (arrOf st'') lo (lo + n) ((lo + n - lo) / 2)) _
        rw [K_mirror hm, K_mirror hm, if_pos (by omega), if_pos (by omega)]
        have := hs (n - 1 - j) (n - 1 - i) (by omega) (by omega)
        rw [show lo + (lo + n) - 1 - (lo + i) = lo + (n - 1 - i) by omega, show lo + (lo + n) - 1 - (lo + j) = lo + (n - 1 - j) by omega]
        exact this
      generalize setArr st'' (mirror (arrOf st'') lo (lo + n) ((lo + n - lo) / 2)) = st2 at hB' hK hs' ⊢
      have hD2 := hB'.dist hd
      have hsz2 := hB'.size
      refine wpS_bind (wpS_mono (wpS_forRange (I := fun x (r : Option (Option Nat) × Nat) st' => st' = st2 ∧ r = (none, x) ∧ Seg (arrOf st2) lo x)
        (Q := fun r st' => st' = st2 ∧ ∃ n, r = (none, n) ∧ 1 ≤ n ∧ n ≤ nrem ∧ Seg (arrOf st2) lo n) ?ustep ?ufin ⟨rfl, rfl, hs'⟩) ?upost)
      case ufin =>
        rintro r st' ⟨rfl, rfl, hs⟩
        rw [show max n nrem = nrem by omega] at hs ⊢
        exact ⟨rfl, nrem, rfl, h1, Nat.le_refl _, hs⟩
      case ustep =>
        rintro x r st' h1x hxn ⟨rfl, rfl, hs⟩
        dsimp only
        refine wpS_bind (ltK hB' h0 (by omega) (by omega) ?_)
        dsimp only
        by_cases hlt : K (arrOf st') (lo + x) < K (arrOf st') (lo + x - 1)
        · rw [decide_eq_true hlt, if_pos rfl]
          exact wpS_pure ⟨rfl, x, rfl, by omega, by omega, hs⟩
        · rw [decide_eq_false hlt, if_neg Bool.false_ne_true]
          have := hD2 (lo + x) (lo + x - 1) (by omega) (by omega) (by omega)
          exact wpS_pure ⟨rfl, rfl, hs.snoc (by omega) (by omega)⟩
      case upost =>
        rintro r st' ⟨rfl, m, rfl, hm1, hm2, hs⟩
        exact wpS_pure (h m st' hK hm1 hm2 hs)
theorem wpS_binarySort' {st : SortSt} {lo n ok : Nat} {Q : Bool → SortSt → Prop} (h0 : IntKeys a₀) (hd : Dist a₀) (hB : SB a₀ st) (hn : lo + n ≤ a₀.size) (hok : 1 ≤ ok) (hokn : ok ≤ n) (hs : Seg (arrOf st) lo ok)
    (h : ∀ st', Keep a₀ lo st st' → Seg (arrOf st') lo n → Q true st') : wpS (model prog w) A E s (binarySort' lo n ok) Q st := by
  rw [binarySort'_eq]
  refine wpS_bind (wpS_mono (wpS_forRange (I := fun k c st' => c = (none, ()) ∧ Keep a₀ lo st st' ∧ Seg (arrOf st') lo k)
    (Q := fun c st' => c = (none, ()) ∧ Keep a₀ lo st st' ∧ Seg (arrOf st') lo n) ?step ?fin ?init) ?post)
  case post =>
    rintro c st' ⟨rfl, hB', hs'⟩
    exact wpS_pure (h st' hB' hs')
  case init =>
    rw [show max ok 1 = ok by omega]
    exact ⟨rfl, Keep.refl hB, hs⟩
  case fin =>
    rintro c st' ⟨hc, hB', hs'⟩
    refine ⟨hc, hB', ?_⟩
    rwa [show max (max ok 1) n = n by omega] at hs'
  case step =>
    rintro k c st' hak hkn ⟨rfl, hK, hs'⟩
    have hk : lo + k < a₀.size := by omega
    have hD := hK.base.dist hd
    have hsz := hK.base.size
    refine wpS_bind (wpS_mono (wpS_forRange (I := fun x c st'' => st'' = st' ∧ ∃ l r, c = (none, l, r) ∧ l ≤ r ∧ r ≤ k ∧ r - l ≤ k - x ∧
        (∀ i, i < l → K (arrOf st') (lo + i) < K (arrOf st') (lo + k)) ∧ (∀ i, r ≤ i → i < k → K (arrOf st') (lo + k) < K (arrOf st') (lo + i)))
      (Q := fun c st'' => st'' = st' ∧ ∃ l r, c = (none, l, r) ∧ l ≤ k ∧
        (∀ i, i < l → K (arrOf st') (lo + i) < K (arrOf st') (lo + k)) ∧ (∀ i, l ≤ i → i < k → K (arrOf st') (lo + k) < K (arrOf st') (lo + i))) ?istep ?ifin ?iinit) ?ipost)
    case iinit => exact ⟨rfl, 0, k, rfl, by omega, by omega, by omega, fun i hi => by omega, fun i h1 h2 => by omega⟩
    case ifin =>
      rintro c st'' ⟨rfl, l, r, rfl, hlr, hrk, hm, hlo, hhi⟩
      have : l = r := by omega
      subst this
      exact ⟨rfl, l, l, rfl, hrk, hlo, hhi⟩
    case istep =>
      rintro x c st'' _ hxk ⟨rfl, l, r, rfl, hlr, hrk, hm, hlo, hhi⟩
      dsimp only
      by_cases hge : l ≥ r
      · rw [if_pos hge]
        have : l = r := by omega
        subst this
        exact wpS_pure ⟨rfl, l, l, rfl, hrk, hlo, hhi⟩
      · rw [if_neg hge]
        refine wpS_bind (ltK hK.base h0 hk (by omega) ?_)
        dsimp only
        by_cases hless : K (arrOf st'') (lo + k) < K (arrOf st'') (lo + (l + r) / 2)
        · rw [decide_eq_true hless, if_pos rfl]
          refine wpS_pure ⟨rfl, l, (l + r) / 2, rfl, by omega, by omega, by omega, hlo, fun i h1 h2 => ?_⟩
          by_cases e : i = (l + r) / 2
          · rw [e]; exact hless
          · have := hs' ((l + r) / 2) i (by omega) h2
            omega
        · rw [decide_eq_false hless, if_neg Bool.false_ne_true]
          have hne := hD (lo + k) (lo + (l + r) / 2) (by omega) (by omega) (by omega)
          refine wpS_pure ⟨rfl, (l + r) / 2 + 1, r, rfl, by omega, by omega, by omega, fun i h1 => ?_, hhi⟩
          by_cases e : i = (l + r) / 2
          · rw [e]; omega
          · have := hs' i ((l + r) / 2) (by omega) (by omega)
            omega
    case ipost =>
      rintro c st'' ⟨rfl, l, r, rfl, hlk, hlo, hhi⟩
      show wpS _ _ _ _ (do moveDown' (lo + k) (lo + l); pure (ForInStep.yield (none, ()))) _ _
      rw [moveDown'_eq]
      have hks : lo + k < (arrOf st'').size := by omega
      refine wpS_bind (wpS_modify (wpS_pure ⟨rfl, ⟨hK.base.setArr (bubble_perm _ _ _), hK.pend, fun i hi => ?_⟩, ?_⟩))
      · show (bubble (arrOf st'') (lo + k) (lo + k - (lo + l)))[i]? = _
        rw [getElem?_bubble hks _ (by omega), if_neg (by omega), if_neg (by omega)]
        exact hK.low i hi
      · intro i j hij hj
        show K (bubble (arrOf st'') (lo + k) (lo + k - (lo + l))) _ < K (bubble (arrOf st'') (lo + k) (lo + k - (lo + l))) _
        rw [K_bubble hks (by omega), K_bubble hks (by omega), show lo + k - (lo + k - (lo + l)) = lo + l by omega]
        by_cases a1 : i < l
        · rw [if_neg (by omega), if_neg (by omega)]
          by_cases b1 : j = l
          · rw [if_pos (by omega)]; exact hlo i a1
          · rw [if_neg (by omega)]
            by_cases b2 : l < j
            · rw [if_pos (by omega), show lo + j - 1 = lo + (j - 1) by omega]
              exact hs' _ _ (by omega) (by omega)
            · rw [if_neg (by omega)]
              exact hs' _ _ (by omega) (by omega)
        · by_cases a2 : i = l
          · rw [if_pos (by omega), if_neg (by omega), if_pos (by omega), show lo + j - 1 = lo + (j - 1) by omega]
            exact hhi _ (by omega) (by omega)
          · rw [if_neg (by omega), if_pos (by omega), if_neg (by omega), if_pos (by omega), show lo + j - 1 = lo + (j - 1) by omega, show lo + i - 1 = lo + (i - 1) by omega]
            exact hs' _ _ (by omega) (by omega)
end
end Srt

namespace Srt
open PySem PyProof.Rows
/-! two runs made one -/
theorem mem_seg {X : Array Keyed} {t n : Nat} {p : Keyed} (h : p ∈ (X.toList.drop t).take n) : ∃ u, t ≤ u ∧ u < t + n ∧ X[u]? = some p := by
  obtain ⟨i, hi, rfl⟩ := List.getElem_of_mem h
  rw [List.length_take, List.length_drop] at hi
  refine ⟨t + i, by omega, by omega, ?_⟩
  rw [← Array.getElem?_toList, List.getElem_take, List.getElem_drop, List.getElem?_eq_getElem]
theorem K_of {X : Array Keyed} {u : Nat} {p : Keyed} (h : X[u]? = some p) : K X u = key p := by unfold K; rw [h]; rfl
theorem seg_asc {X : Array Keyed} {lo n t m : Nat} (h : Seg X lo n) (h1 : lo ≤ t) (h2 : t + m ≤ lo + n) : Asc key ((X.toList.drop t).take m) := by
  unfold Asc
  rw [List.pairwise_iff_getElem]
  intro i j hi hj hij
  rw [List.length_take, List.length_drop] at hi hj
  have ei : X[t + i]? = some ((X.toList.drop t).take m)[i] := by rw [← Array.getElem?_toList, List.getElem_take, List.getElem_drop, List.getElem?_eq_getElem]
  have ej : X[t + j]? = some ((X.toList.drop t).take m)[j] := by rw [← Array.getElem?_toList, List.getElem_take, List.getElem_drop, List.getElem?_eq_getElem]
  rw [← K_of ei, ← K_of ej]
  have := h (t - lo + i) (t - lo + j) (by omega) (by omega)
  rwa [show lo + (t - lo + i) = t + i by omega, show lo + (t - lo + j) = t + j by omega] at this
theorem write_back (base : Nat) : ∀ (r : List Keyed) (n : Nat) (X : Array Keyed), base + n + r.length ≤ X.size →
    ((r.zipIdx n).foldl (fun (a : Array Keyed) x => a.setIfInBounds (base + x.snd) x.fst) X).toList = X.toList.take (base + n) ++ r ++ X.toList.drop (base + n + r.length)
  | [], n, X, _ => by simp
  | p :: r, n, X, h => by
    rw [List.zipIdx_cons, List.foldl_cons, write_back base r (n + 1) _ (by rw [Array.size_setIfInBounds]; rw [List.length_cons] at h; omega)]
    have e : (X.setIfInBounds (base + (p, n).snd) (p, n).fst).toList = X.toList.set (base + n) p := by simp
    rw [List.length_cons] at h
    have hl : base + n < X.toList.length := by rw [Array.length_toList]; omega
    rw [e, show base + (n + 1) = base + n + 1 by omega, List.take_add_one, List.getElem?_set_self hl, List.take_set_of_le (Nat.le_refl _), List.drop_set_of_lt (by omega), List.length_cons]
    rw [show base + n + 1 + r.length = base + n + (r.length + 1) by omega]
    simp
section
variable {prog : Program} {w : World} {A : Around} {E : Value → Shared → Prop} {s : Shared} {a₀ : Array Keyed}
theorem wpS_set {M : Model} {σ : Type} {st st' : σ} {Q : PUnit → σ → Prop} (h : Q ⟨⟩ st') : wpS M A E s (set st' : StateT σ Sem PUnit) Q st := by
  show wpS M A E s (modify (fun _ => st') : StateT σ Sem PUnit) Q st
  exact wpS_modify h
theorem int_seg {X : Array Keyed} (hi : IntKeys X) {t n : Nat} : ∀ p ∈ (X.toList.drop t).take n, IsInt p := fun p hp => hi p (List.mem_of_mem_drop (List.mem_of_mem_take hp))
theorem wpS_mergeAt {st : SortSt} {i sa na pa sb nb pb : Nat} {Q : Bool → SortSt → Prop} (h0 : IntKeys a₀) (hd : Dist a₀) (hB : SB a₀ st) (hp : (pendingOf st)[i]? = some (sa, na, pa)) (hq : (pendingOf st)[i + 1]? = some (sb, nb, pb))
    (esb : sb = sa + na) (h1 : 1 ≤ na) (h2 : 1 ≤ nb) (hn : sb + nb ≤ a₀.size) (s1 : Seg (arrOf st) sa na) (s2 : Seg (arrOf st) sb nb)
    (h : ∀ st', SB a₀ st' → pendingOf st' = ((pendingOf st).setIfInBounds i (sa, na + nb, pa)).eraseIdxIfInBounds (i + 1) → (∀ k, k < sa ∨ sa + (na + nb) ≤ k → (arrOf st')[k]? = (arrOf st)[k]?) → Seg (arrOf st') sa (na + nb) → Q true st') :
    wpS (model prog w) A E s (mergeAt' i) Q st := by
  have hD := hB.dist hd
  have hsz := hB.size
  have hI : IntKeys (arrOf st) := fun p hp => h0 p ((Array.perm_iff_toList_perm.mp hB.perm).mem_iff.mp hp)
  have getX : ∀ u, u < a₀.size → ∃ p, (arrOf st)[u]? = some p ∧ IsInt p ∧ key p = K (arrOf st) u := fun u hu => by
    have hu' : u < (arrOf st).size := by omega
    have e : (arrOf st)[u]? = some (arrOf st)[u] := getElem?_pos _ u hu'
    exact ⟨_, e, hI _ (by simp), (K_of e).symm⟩
  -- already in order
  have easy : ∀ st', arrOf st' = arrOf st → K (arrOf st) (sa + na - 1) < K (arrOf st) sb → Seg (arrOf st') sa (na + nb) := by
    intro st' e hlt i j hij hj
    rw [e]
    by_cases hi : i < na
    · by_cases hj' : j < na
      · exact s1 i j hij hj'
      · have b1 : K (arrOf st) (sa + i) ≤ K (arrOf st) (sa + na - 1) := by
          by_cases e : i = na - 1
          · rw [e, show sa + (na - 1) = sa + na - 1 by omega]; exact Int.le_refl _
          · have := s1 i (na - 1) (by omega) (by omega)
            rw [show sa + (na - 1) = sa + na - 1 by omega] at this
            omega
        have b2 : K (arrOf st) sb ≤ K (arrOf st) (sa + j) := by
          rw [show sa + j = sb + (j - na) by omega]
          by_cases e : j - na = 0
          · rw [e]; exact Int.le_refl _
          · exact Int.le_of_lt (s2 0 (j - na) (by omega) (by omega))
        omega
    · rw [show sa + i = sb + (i - na) by omega, show sa + j = sb + (j - na) by omega]
      exact s2 _ _ (by omega) (by omega)
  obtain ⟨pb0, gb0, ib0, kb0⟩ := getX sb (by omega)
  obtain ⟨pal, gal, ial, kal⟩ := getX (sa + na - 1) (by omega)
  refine wpS_bind (wpS_get ?_)
  dsimp only
  rw [hp, hq]
  dsimp only
  refine wpS_bind (wpS_set ?_)
  have hB1 : SB a₀ (SortSt.mk' (kindOf st) (arrOf st) (((pendingOf st).setIfInBounds i (sa, na + nb, pa)).eraseIdxIfInBounds (i + 1)) (gallopOf st) (failedOf st)) := ⟨hB.perm, hB.kind, hB.failed⟩
  have ex1 : ∃ st1, SortSt.mk' (kindOf st) (arrOf st) (((pendingOf st).setIfInBounds i (sa, na + nb, pa)).eraseIdxIfInBounds (i + 1)) (gallopOf st) (failedOf st) = st1 := ⟨_, rfl⟩
  obtain ⟨st1, est1⟩ := ex1
  have ea1 : arrOf st1 = arrOf st := by rw [← est1]
  have ep1 : pendingOf st1 = ((pendingOf st).setIfInBounds i (sa, na + nb, pa)).eraseIdxIfInBounds (i + 1) := by rw [← est1]
  rw [est1] at hB1
  show wpS _ _ _ _ _ _ (SortSt.mk' (kindOf st) (arrOf st) (((pendingOf st).setIfInBounds i (sa, na + nb, pa)).eraseIdxIfInBounds (i + 1)) (gallopOf st) (failedOf st))
  rw [est1]
  refine wpS_bind (wpS_elem gb0 ?_)
  refine wpS_bind (wpS_gallop (B := fun u => decide (K (arrOf st) (sa + u) < K (arrOf st) sb)) hB1.kind ib0 ?_ ?_ (by omega) ?_)
  · intro u hu
    obtain ⟨p, gp, ip, kp⟩ := getX (sa + u) (by omega)
    refine ⟨p, gp, ip, ?_⟩
    rw [if_neg Bool.false_ne_true, kb0, kp]
    have := hD (sa + u) sb (by omega) (by omega) (by omega)
    by_cases z : K (arrOf st) (sa + u) < K (arrOf st) sb
    · rw [decide_eq_true z, decide_eq_false (by omega)]; rfl
    · rw [decide_eq_false z, decide_eq_true (by omega)]; rfl
  · intro u v huv hv hb
    have hb := of_decide_eq_true hb
    have := s1 u v huv hv
    exact decide_eq_true (by omega)
  intro k hk f1 f2
  have g1 : ∀ u, u < k → K (arrOf st) (sa + u) < K (arrOf st) sb := fun u hu => of_decide_eq_true (f1 u hu)
  have g2 : ∀ u, k ≤ u → u < na → K (arrOf st) sb < K (arrOf st) (sa + u) := fun u hu hu2 => by
    have := of_decide_eq_false (f2 u hu hu2)
    have := hD (sa + u) sb (by omega) (by omega) (by omega)
    omega
  clear f1 f2
  dsimp only
  by_cases c1 : (na - k == 0) = true
  · rw [if_pos c1]
    have c1' : na - k = 0 := by simpa using c1
    have := g1 (na - 1) (by omega)
    rw [show sa + (na - 1) = sa + na - 1 by omega] at this
    exact wpS_pure (h st1 hB1 ep1 (fun k _ => by rw [ea1]) (easy st1 ea1 this))
  rw [if_neg c1]
  have c1' : ¬ na - k = 0 := by simpa using c1
  rw [show sa + k + (na - k) - 1 = sa + na - 1 by omega]
  refine wpS_bind (wpS_elem gal ?_)
  refine wpS_bind (wpS_gallop (B := fun u => decide (K (arrOf st) (sb + u) < K (arrOf st) (sa + na - 1))) hB1.kind ial ?_ ?_ (by omega) ?_)
  · intro u hu
    obtain ⟨p, gp, ip, kp⟩ := getX (sb + u) (by omega)
    refine ⟨p, gp, ip, ?_⟩
    rw [if_pos rfl, kal, kp]
  · intro u v huv hv hb
    have hb := of_decide_eq_true hb
    have := s2 u v huv hv
    exact decide_eq_true (by omega)
  intro m hm f1 f2
  have g3 : ∀ u, u < m → K (arrOf st) (sb + u) < K (arrOf st) (sa + na - 1) := fun u hu => of_decide_eq_true (f1 u hu)
  have g4 : ∀ u, m ≤ u → u < nb → K (arrOf st) (sa + na - 1) < K (arrOf st) (sb + u) := fun u hu hu2 => by
    have := of_decide_eq_false (f2 u hu hu2)
    have := hD (sb + u) (sa + na - 1) (by omega) (by omega) (by omega)
    omega
  clear f1 f2
  dsimp only
  by_cases c2 : (m == 0) = true
  · rw [if_pos c2]
    have c2' : m = 0 := by simpa using c2
    have := g4 0 (by omega) (by omega)
    exact wpS_pure (h st1 hB1 ep1 (fun k _ => by rw [ea1]) (easy st1 ea1 this))
  rw [if_neg c2]
  have c2' : ¬ m = 0 := by simpa using c2
  have tx : ((arrOf st).extract (sa + k) sb).toList = ((arrOf st).toList.drop (sa + k)).take (na - k) := by rw [ex_seg, show sb - (sa + k) = na - k by omega]
  have ty : ((arrOf st).extract sb (sb + m)).toList = ((arrOf st).toList.drop sb).take m := by rw [ex_seg, show sb + m - sb = m by omega]
  have hx : Asc key ((arrOf st).extract (sa + k) sb).toList := by rw [tx]; exact seg_asc s1 (by omega) (by omega)
  have hy : Asc key ((arrOf st).extract sb (sb + m)).toList := by rw [ty]; exact seg_asc s2 (by omega) (by omega)
  have ix : ∀ p ∈ ((arrOf st).extract (sa + k) sb).toList, IsInt p := by rw [tx]; exact int_seg hI
  have iy : ∀ p ∈ ((arrOf st).extract sb (sb + m)).toList, IsInt p := by rw [ty]; exact int_seg hI
  have lx : ((arrOf st).extract (sa + k) sb).toList.length = na - k := by rw [tx, List.length_take, List.length_drop, Array.length_toList]; omega
  have ly : ((arrOf st).extract sb (sb + m)).toList.length = m := by rw [ty, List.length_take, List.length_drop, Array.length_toList]; omega
  have px : 0 < ((arrOf st).extract (sa + k) sb).toList.length := by rw [lx]; omega
  have py : 0 < ((arrOf st).extract sb (sb + m)).toList.length := by rw [ly]; omega
  have mx : ∀ p ∈ ((arrOf st).extract (sa + k) sb).toList, ∃ u, k ≤ u ∧ u < na ∧ key p = K (arrOf st) (sa + u) := by
    intro p hp
    rw [tx] at hp
    obtain ⟨u, u1, u2, u3⟩ := mem_seg hp
    exact ⟨u - sa, by omega, by omega, by rw [show sa + (u - sa) = u by omega]; exact (K_of u3).symm⟩
  have my : ∀ p ∈ ((arrOf st).extract sb (sb + m)).toList, ∃ u, u < m ∧ key p = K (arrOf st) (sb + u) := by
    intro p hp
    rw [ty] at hp
    obtain ⟨u, u1, u2, u3⟩ := mem_seg hp
    exact ⟨u - sb, by omega, by rw [show sb + (u - sb) = u by omega]; exact (K_of u3).symm⟩
  have hne : ∀ x ∈ ((arrOf st).extract (sa + k) sb).toList, ∀ y ∈ ((arrOf st).extract sb (sb + m)).toList, key x ≠ key y := by
    intro x hx y hy
    obtain ⟨u, u1, u2, u3⟩ := mx x hx
    obtain ⟨v, v1, v2⟩ := my y hy
    rw [u3, v2]
    exact hD _ _ (by omega) (by omega) (by omega)
  have y0 : ∀ z, ((arrOf st).extract sb (sb + m)).toList[0]? = some z → key z = K (arrOf st) sb := by
    intro z hz
    rw [ty, List.getElem?_take_of_lt (by omega), List.getElem?_drop, Array.getElem?_toList] at hz
    exact (K_of hz).symm
  have xl : ∀ z, ((arrOf st).extract (sa + k) sb).toList[((arrOf st).extract (sa + k) sb).toList.length - 1]? = some z → key z = K (arrOf st) (sa + na - 1) := by
    intro z hz
    rw [lx, tx, List.getElem?_take_of_lt (by omega), List.getElem?_drop, Array.getElem?_toList, show sa + k + (na - k - 1) = sa + na - 1 by omega] at hz
    exact (K_of hz).symm
  have xy0 : ∀ y ∈ ((arrOf st).extract (sa + k) sb).toList, K (arrOf st) sb < key y := by
    intro y hy
    obtain ⟨u, u1, u2, u3⟩ := mx y hy
    rw [u3]
    exact g2 u u1 u2
  have yxl : ∀ y ∈ ((arrOf st).extract sb (sb + m)).toList, key y < K (arrOf st) (sa + na - 1) := by
    intro y hy
    obtain ⟨v, v1, v2⟩ := my y hy
    rw [v2]
    exact g3 v v1
  -- the end
  have fin : ∀ (r : Array Keyed) st2, Gal st1 st2 → Merged key r.toList ((arrOf st).extract (sa + k) sb).toList ((arrOf st).extract sb (sb + m)).toList →
      wpS (model prog w) A E s (do
        modify fun st => setArr st (List.foldl (fun a x => a.setIfInBounds (sa + k + x.snd) x.fst) (arrOf st) r.toList.zipIdx)
        let z ← get
        pure (failedOf z).isNone) Q st2 := by
    intro r st2 G M
    have ea2 : arrOf st2 = arrOf st := G.arr.trans ea1
    have lr : r.toList.length = (na - k) + m := by rw [M.1.length_eq, List.length_append, lx, ly]
    refine wpS_bind (wpS_modify ?_)
    refine wpS_bind (wpS_get ?_)
    obtain ⟨R, eR⟩ : ∃ R, List.foldl (fun (a : Array Keyed) x => a.setIfInBounds (sa + k + x.snd) x.fst) (arrOf st2) r.toList.zipIdx = R := ⟨_, rfl⟩
    have tR : R.toList = (arrOf st).toList.take (sa + k) ++ r.toList ++ (arrOf st).toList.drop (sb + m) := by
      rw [← eR, ea2, write_back (sa + k) r.toList 0 _ (by rw [lr, hsz]; omega), lr]
      rw [show sa + k + 0 + (na - k + m) = sb + m by omega]
      rfl
    rw [eR]
    have pR : R.Perm (arrOf st) := by
      rw [Array.perm_iff_toList_perm, tR]
      have e : (arrOf st).toList = (arrOf st).toList.take (sa + k) ++ (((arrOf st).toList.drop (sa + k)).take (na - k) ++ ((arrOf st).toList.drop sb).take m) ++ (arrOf st).toList.drop (sb + m) := by
        have e1 := List.take_append_drop m ((arrOf st).toList.drop sb)
        have e2 := List.take_append_drop (na - k) ((arrOf st).toList.drop (sa + k))
        have e3 := List.take_append_drop (sa + k) (arrOf st).toList
        rw [List.drop_drop] at e1 e2
        rw [show sa + k + (na - k) = sb by omega] at e2
        rw [List.append_assoc, List.append_assoc, e1, e2, e3]
      conv => rhs; rw [e]
      refine List.Perm.append_right _ (List.Perm.append_left _ ?_)
      have := M.1
      rw [tx, ty] at this
      exact this
    have szR : R.size = a₀.size := pR.size_eq.trans hsz
    have lt1 : ((arrOf st).toList.take (sa + k)).length = sa + k := by rw [List.length_take, Array.length_toList]; omega
    have lowR : ∀ j, j < sa + k → R[j]? = (arrOf st)[j]? := by
      intro j hj
      rw [← Array.getElem?_toList, tR, List.append_assoc, List.getElem?_append_left (by rw [lt1]; exact hj), List.getElem?_take_of_lt hj, Array.getElem?_toList]
    have midR : ∀ j, j < na - k + m → R[sa + k + j]? = r.toList[j]? := by
      intro j hj
      rw [← Array.getElem?_toList, tR, List.append_assoc, List.getElem?_append_right (by rw [lt1]; omega), lt1, show sa + k + j - (sa + k) = j by omega, List.getElem?_append_left (by omega)]
    have highR : ∀ j, sb + m ≤ j → R[j]? = (arrOf st)[j]? := by
      intro j hj
      rw [← Array.getElem?_toList, tR, List.getElem?_append_right (by rw [List.length_append, lt1, lr]; omega), List.length_append, lt1, lr, List.getElem?_drop, Array.getElem?_toList]
      congr 1
      omega
    have hB2 : SB a₀ (setArr st2 R) := ⟨pR.trans hB.perm, G.kind.trans hB1.kind, G.fail.trans hB1.failed⟩
    have hf : (failedOf (setArr st2 R)).isNone = true := by rw [hB2.failed]; rfl
    rw [show (failedOf (setArr st2 R)).isNone = true from hf]
    refine wpS_pure (h _ hB2 (G.pend.trans ep1) (fun j hj => ?_) ?_)
    · show R[j]? = _
      rcases hj with hj | hj
      · exact lowR j (by omega)
      · exact highR j (by omega)
    · show Seg R sa (na + nb)
      have kr : ∀ j, j < na - k + m → ∃ p, r.toList[j]? = some p ∧ K R (sa + k + j) = key p ∧ ((∃ u, k ≤ u ∧ u < na ∧ key p = K (arrOf st) (sa + u)) ∨ (∃ u, u < m ∧ key p = K (arrOf st) (sb + u))) := by
        intro j hj
        have hj' : j < r.toList.length := by omega
        refine ⟨r.toList[j], List.getElem?_eq_getElem hj', K_of ((midR j hj).trans (List.getElem?_eq_getElem hj')), ?_⟩
        rcases List.mem_append.mp (M.1.mem_iff.mp (List.getElem_mem hj')) with z | z
        · exact .inl (mx _ z)
        · exact .inr (my _ z)
      intro i j hij hj
      by_cases a1 : i < k
      · have ei : K R (sa + i) = K (arrOf st) (sa + i) := K_congr (lowR _ (by omega))
        have hi := g1 i a1
        rw [ei]
        by_cases b1 : j < k
        · rw [K_congr (lowR (sa + j) (by omega))]
          exact s1 i j hij (by omega)
        · by_cases b2 : j < k + (na - k + m)
          · obtain ⟨p, _, e2, e3⟩ := kr (j - k) (by omega)
            rw [show sa + k + (j - k) = sa + j by omega] at e2
            rw [e2]
            rcases e3 with ⟨u, u1, u2, u3⟩ | ⟨u, u1, u3⟩
            · rw [u3]; exact s1 _ _ (by omega) u2
            · rw [u3]
              by_cases e : u = 0
              · rw [e]; exact hi
              · have := s2 0 u (by omega) (by omega)
                rw [Nat.add_zero] at this
                omega
          · rw [K_congr (highR (sa + j) (by omega)), show sa + j = sb + (j - na) by omega]
            have := s2 0 (j - na) (by omega) (by omega)
            rw [Nat.add_zero] at this
            omega
      · by_cases a2 : i < k + (na - k + m)
        · obtain ⟨p, e1, e2, e3⟩ := kr (i - k) (by omega)
          rw [show sa + k + (i - k) = sa + i by omega] at e2
          rw [e2]
          by_cases b2 : j < k + (na - k + m)
          · obtain ⟨q, f1, f2, f3⟩ := kr (j - k) (by omega)
            rw [show sa + k + (j - k) = sa + j by omega] at f2
            rw [f2]
            have := M.2.lt (i := i - k) (j := j - k) (by omega) (by omega)
            rw [List.getElem?_eq_getElem (by omega)] at e1 f1
            rw [Option.some.inj e1, Option.some.inj f1] at this
            exact this
          · rw [K_congr (highR (sa + j) (by omega)), show sa + j = sb + (j - na) by omega]
            rcases e3 with ⟨u, u1, u2, u3⟩ | ⟨u, u1, u3⟩
            · rw [u3]
              have := g4 (j - na) (by omega) (by omega)
              by_cases e : u = na - 1
              · rw [e, show sa + (na - 1) = sa + na - 1 by omega]; exact this
              · have := s1 u (na - 1) (by omega) (by omega)
                rw [show sa + (na - 1) = sa + na - 1 by omega] at this
                omega
            · rw [u3]
              exact s2 _ _ (by omega) (by omega)
        · rw [K_congr (highR (sa + i) (by omega)), K_congr (highR (sa + j) (by omega)), show sa + j = sb + (j - na) by omega, show sa + i = sb + (i - na) by omega]
          exact s2 _ _ (by omega) (by omega)
  by_cases c3 : na - k ≤ m
  · rw [if_pos c3]
    refine wpS_bind (wpS_mergeLo hB1.kind ix iy hx hy px py hne (fun y hy' => ?_) (fun y hy' z hz => ?_) fun r st2 G M => fin r st2 G M)
    · rw [y0 _ (List.getElem?_eq_getElem (by omega))]
      exact xy0 y hy'
    · rw [xl z hz]
      exact yxl y hy'
  · rw [if_neg c3]
    refine wpS_bind (wpS_mergeHi hB1.kind ix iy hx hy px py hne (fun y hy' z hz => ?_) (fun y hy' => ?_) fun r st2 G M => fin r st2 G M)
    · rw [y0 z hz]
      exact xy0 y hy'
    · rw [xl _ (List.getElem?_eq_getElem (by omega))]
      exact yxl y hy'
end
end Srt

namespace Srt
open PySem PyProof.Rows
/-! the runs that wait -/
def Rn (X : Array Keyed) : Nat → List (Nat × Nat × Nat) → Nat → Prop
  | a, [], b => a = b
  | a, t :: r, b => t.1 = a ∧ 1 ≤ t.2.1 ∧ Seg X t.1 t.2.1 ∧ Rn X (a + t.2.1) r b
section
variable {prog : Program} {w : World} {A : Around} {E : Value → Shared → Prop} {s : Shared} {a₀ : Array Keyed} {X Y : Array Keyed}
theorem Rn.le : ∀ {l : List (Nat × Nat × Nat)} {a b : Nat}, Rn X a l b → a + l.length ≤ b
  | [], a, b, h => by simp only [Rn] at h; simp [h]
  | t :: r, a, b, h => by
    have := Rn.le h.2.2.2
    have := h.2.1
    rw [List.length_cons]
    omega
theorem Seg.congr {lo n : Nat} (h : Seg X lo n) (e : ∀ k, lo ≤ k → k < lo + n → Y[k]? = X[k]?) : Seg Y lo n := by
  intro i j hij hj
  rw [K_congr (e (lo + i) (by omega) (by omega)), K_congr (e (lo + j) (by omega) (by omega))]
  exact h i j hij hj
theorem Rn.congr : ∀ {l : List (Nat × Nat × Nat)} {a b : Nat}, Rn X a l b → (∀ k, a ≤ k → k < b → Y[k]? = X[k]?) → Rn Y a l b
  | [], a, b, h, _ => h
  | t :: r, a, b, h, e => by
    obtain ⟨h1, h2, h3, h4⟩ := h
    have := h4.le
    refine ⟨h1, h2, h3.congr fun k k1 k2 => e k (by omega) (by omega), h4.congr fun k k1 k2 => e k (by omega) (by omega)⟩
theorem rn_append : ∀ {l m : List (Nat × Nat × Nat)} {a b : Nat}, Rn X a (l ++ m) b ↔ ∃ c, Rn X a l c ∧ Rn X c m b
  | [], m, a, b => ⟨fun h => ⟨a, rfl, h⟩, fun ⟨c, h1, h2⟩ => by simp only [Rn] at h1; subst h1; exact h2⟩
  | t :: r, m, a, b => by
    constructor
    · rintro ⟨h1, h2, h3, h4⟩
      obtain ⟨c, c1, c2⟩ := rn_append.mp h4
      exact ⟨c, ⟨h1, h2, h3, c1⟩, c2⟩
    · rintro ⟨c, ⟨h1, h2, h3, c1⟩, c2⟩
      exact ⟨h1, h2, h3, rn_append.mpr ⟨c, c1, c2⟩⟩
theorem Rn.modify {g : Nat × Nat × Nat → Nat × Nat × Nat} (hg : ∀ t, (g t).1 = t.1 ∧ (g t).2.1 = t.2.1) : ∀ {l : List (Nat × Nat × Nat)} {i a b : Nat}, Rn X a l b → Rn X a (l.modify i g) b
  | [], i, a, b, h => by simpa using h
  | t :: r, 0, a, b, h => by
    rw [List.modify_zero_cons]
    unfold Rn at h ⊢
    rw [(hg t).1, (hg t).2]
    exact h
  | t :: r, i + 1, a, b, h => by
    rw [List.modify_succ_cons]
    exact ⟨h.1, h.2.1, h.2.2.1, Rn.modify hg h.2.2.2⟩
theorem split2 {α : Type} : ∀ {l : List α} {i : Nat}, i + 1 < l.length → ∃ l1 x y l2, l = l1 ++ x :: y :: l2 ∧ l1.length = i
  | [], i, h => by simp at h
  | [x], i, h => by simp at h
  | x :: y :: l, 0, h => ⟨[], x, y, l, rfl, rfl⟩
  | x :: y :: l, i + 1, h => by
    obtain ⟨l1, u, v, l2, e, hl⟩ := split2 (l := y :: l) (i := i) (by simpa using h)
    exact ⟨x :: l1, u, v, l2, by rw [e]; rfl, by rw [List.length_cons, hl]⟩
theorem set_erase {α : Type} (l1 : List α) (x y z : α) (l2 : List α) : ((l1 ++ x :: y :: l2).set l1.length z).eraseIdx (l1.length + 1) = l1 ++ z :: l2 := by
  rw [List.set_append_right _ _ (Nat.le_refl _), Nat.sub_self, List.set_cons_zero, List.eraseIdx_append_of_length_le (by omega), show l1.length + 1 - l1.length = 1 by omega]
  rfl
structure Wait (a₀ : Array Keyed) (hi : Nat) (st : SortSt) : Prop where
  base : SB a₀ st
  runs : Rn (arrOf st) 0 (pendingOf st).toList hi
theorem Wait.push {st : SortSt} {lo n : Nat} (h : Wait a₀ lo st) (hs : Seg (arrOf st) lo n) (hn : 1 ≤ n) : Wait a₀ (lo + n) (setPending st ((pendingOf st).push (lo, n, 0))) := by
  refine ⟨⟨h.base.perm, h.base.kind, h.base.failed⟩, ?_⟩
  show Rn (arrOf st) 0 ((pendingOf st).push (lo, n, 0)).toList (lo + n)
  rw [Array.toList_push]
  exact rn_append.mpr ⟨lo, h.runs, rfl, hn, hs, rfl⟩
theorem Wait.modify {st : SortSt} {lo : Nat} (h : Wait a₀ lo st) (pw : Nat) : Wait a₀ lo (setPending st ((pendingOf st).modify ((pendingOf st).size - 1) fun x => (x.fst, x.2.fst, pw))) := by
  refine ⟨⟨h.base.perm, h.base.kind, h.base.failed⟩, ?_⟩
  show Rn (arrOf st) 0 ((pendingOf st).modify ((pendingOf st).size - 1) fun x => (x.fst, x.2.fst, pw)).toList lo
  rw [Array.toList_modify]
  exact Rn.modify (g := fun x => (x.fst, x.2.fst, pw)) (fun t => ⟨rfl, rfl⟩) h.runs
theorem merge_runs {st : SortSt} {i hi : Nat} {Q : Bool → SortSt → Prop} (h0 : IntKeys a₀) (hd : Dist a₀) (hW : Wait a₀ hi st) (hh : hi ≤ a₀.size) (hi1 : i + 1 < (pendingOf st).size)
    (h : ∀ st', Wait a₀ hi st' → (pendingOf st').size + 1 = (pendingOf st).size → (∀ k, hi ≤ k → (arrOf st')[k]? = (arrOf st)[k]?) → Q true st') : wpS (model prog w) A E s (mergeAt' i) Q st := by
  obtain ⟨l1, ⟨sa, na, pa⟩, ⟨sb, nb, pb⟩, l2, el, ll⟩ := split2 (l := (pendingOf st).toList) (i := i) (by simpa using hi1)
  have hR := hW.runs
  rw [el] at hR
  obtain ⟨c, hR1, e1, n1, s1, e2, n2, s2, hR2⟩ := rn_append.mp hR
  dsimp only at e1 n1 s1 e2 n2 s2 hR2
  subst e1
  subst e2
  have hle := hR2.le
  have hle1 := hR1.le
  refine wpS_mergeAt (sa := sa) (na := na) (pa := pa) (sb := sa + na) (nb := nb) (pb := pb) h0 hd hW.base ?_ ?_ rfl n1 n2 (by omega) s1 s2 fun st' hB hp ho hs => ?_
  · rw [← Array.getElem?_toList, el, List.getElem?_append_right (by omega), ll, Nat.sub_self]; rfl
  · rw [← Array.getElem?_toList, el, List.getElem?_append_right (by omega), ll, show i + 1 - i = 1 by omega]; rfl
  · have tp : (pendingOf st').toList = l1 ++ (sa, na + nb, pa) :: l2 := by
      rw [hp, Array.toList_eraseIdxIfInBounds, Array.toList_setIfInBounds, el, ← ll, set_erase]
    refine h st' ⟨hB, ?_⟩ ?_ (fun k hk => ho k (.inr (by omega)))
    · rw [tp]
      refine rn_append.mpr ⟨sa, hR1.congr fun k k1 k2 => ho k (.inl k2), rfl, by show 1 ≤ na + nb; omega, hs, ?_⟩
      show Rn _ (sa + (na + nb)) l2 hi
      rw [← Nat.add_assoc]
      exact hR2.congr fun k k1 k2 => ho k (.inr (by omega))
    · rw [← Array.length_toList, ← Array.length_toList, tp, el]
      simp only [List.length_append, List.length_cons]
      omega
theorem sortRuns_all {st : SortSt} {Q : Unit → SortSt → Prop} (h0 : IntKeys a₀) (hd : Dist a₀) (hB : SBase a₀ st) (h2 : 2 ≤ a₀.size)
    (h : ∀ st', (arrOf st').Perm a₀ → failedOf st' = none → SortedTo (arrOf st') a₀.size → Q () st') : wpS (model prog w) A E s sortRuns' Q st := by
  rw [sortRuns'_eq]
  refine wpS_bind (wpS_get ?_)
  dsimp only
  rw [hB.size]
  generalize minRun' a₀.size a₀.size 0 = mr
  have hW0 : Wait a₀ 0 st := ⟨⟨hB.perm, hB.kind, hB.failed⟩, by rw [hB.pend]; rfl⟩
  refine wpS_bind (wpS_mono (wpS_forRange
    (I := fun x c st' => ∃ lo, c = (none, lo) ∧ x ≤ lo ∧ lo ≤ a₀.size ∧ Wait a₀ lo st')
    (Q := fun c st' => c = (none, a₀.size) ∧ Wait a₀ a₀.size st') ?step ?fin ⟨0, rfl, Nat.le_refl _, Nat.zero_le _, hW0⟩) ?post)
  case fin =>
    rintro c st' ⟨lo, rfl, hx, hl, hW⟩
    have : lo = a₀.size := by omega
    subst this
    exact ⟨rfl, hW⟩
  case step =>
    rintro x c st' _ hx ⟨lo, rfl, hxl, hl, hW⟩
    dsimp only
    by_cases c1 : lo ≥ a₀.size
    · rw [if_pos c1]
      have : lo = a₀.size := by omega
      subst this
      exact wpS_pure ⟨rfl, hW⟩
    rw [if_neg c1]
    refine wpS_bind (wpS_countRun' h0 hd hW.base (by omega) (by omega) fun m st2 hK hm1 hm2 hs2 => ?_)
    dsimp only
    have low : ∀ {st3 : SortSt}, Keep a₀ lo st' st3 → Wait a₀ lo st3 := fun {st3} hK => ⟨hK.base, by rw [hK.pend]; exact hW.runs.congr fun k _ k2 => hK.low k k2⟩
    by_cases c0 : m < mr
    · rw [if_pos c0]
      refine wpS_bind (wpS_lift (wpAny_rule ⟨rfl, ?_⟩))
      refine wpS_bind (wpS_binarySort' h0 hd hK.base (by omega) hm1 (by omega) hs2 fun st3 hK3 hs3 => ?_)
      rw [if_neg (by decide)]
      have hW3 := low (hK.trans hK3)
      have hn1 : 1 ≤ min (a₀.size - lo) mr := by omega
      have hn2 : lo + min (a₀.size - lo) mr ≤ a₀.size := by omega
      generalize min (a₀.size - lo) mr = n at hs3 hn1 hn2 ⊢
      -- a run of n lies at lo
      refine wpS_bind (wpS_get ?_)
      cases hb : (pendingOf st3).back? with
      | none =>
        dsimp only
        exact wpS_bind (wpS_modify (wpS_pure ⟨lo + n, rfl, by omega, hn2, hW3.push hs3 hn1⟩))
      | some t =>
        obtain ⟨t1, t2, t3⟩ := t
        dsimp only
        generalize power' a₀.size (2 * t1 + t2) (2 * t1 + t2 + t2 + n) a₀.size = pw
        refine wpS_bind (wpS_mono (wpS_forRange (I := fun _ (c : Option Unit × Unit) st4 => c = (none, ()) ∧ Wait a₀ lo st4 ∧ Seg (arrOf st4) lo n) (Q := fun c st4 => c = (none, ()) ∧ Wait a₀ lo st4 ∧ Seg (arrOf st4) lo n) ?_ (fun _ _ z => z) ⟨rfl, hW3, hs3⟩) ?_)
        · rintro y c st4 _ _ ⟨rfl, hW4, hs4⟩
          refine wpS_bind (wpS_get ?_)
          by_cases c2 : (pendingOf st4).size > 1
          · rw [if_pos c2]
            cases hq : (pendingOf st4)[(pendingOf st4).size - 2]? with
            | none => exact wpS_pure ⟨rfl, hW4, hs4⟩
            | some u =>
              obtain ⟨u1, u2, u3⟩ := u
              dsimp only
              by_cases c3 : u3 ≤ pw
              · rw [if_pos c3]
                exact wpS_pure ⟨rfl, hW4, hs4⟩
              · rw [if_neg c3]
                refine wpS_bind (merge_runs h0 hd hW4 hl (by omega) fun st5 hW5 _ hh5 => ?_)
                refine wpS_pure ⟨rfl, hW5, hs4.congr fun k k1 _ => hh5 k k1⟩
          · rw [if_neg c2]
            exact wpS_pure ⟨rfl, hW4, hs4⟩
        · rintro c st4 ⟨rfl, hW4, hs4⟩
          dsimp only
          refine wpS_bind (wpS_modify ?_)
          have hW5 := hW4.modify pw
          refine wpS_bind (wpS_modify (wpS_pure ⟨lo + n, rfl, by omega, hn2, hW5.push hs4 hn1⟩))
    · rw [if_neg c0]
      have hW3 := low hK
      have hn2 : lo + m ≤ a₀.size := by omega
      have hs3 := hs2
      have hn1 := hm1
      generalize m = n at hs3 hn1 hn2 ⊢
      generalize st2 = st3 at hs3 hW3 ⊢
      -- a run of n lies at lo
      refine wpS_bind (wpS_get ?_)
      cases hb : (pendingOf st3).back? with
      | none =>
        dsimp only
        exact wpS_bind (wpS_modify (wpS_pure ⟨lo + n, rfl, by omega, hn2, hW3.push hs3 hn1⟩))
      | some t =>
        obtain ⟨t1, t2, t3⟩ := t
        dsimp only
        generalize power' a₀.size (2 * t1 + t2) (2 * t1 + t2 + t2 + n) a₀.size = pw
        refine wpS_bind (wpS_mono (wpS_forRange (I := fun _ (c : Option Unit × Unit) st4 => c = (none, ()) ∧ Wait a₀ lo st4 ∧ Seg (arrOf st4) lo n) (Q := fun c st4 => c = (none, ()) ∧ Wait a₀ lo st4 ∧ Seg (arrOf st4) lo n) ?_ (fun _ _ z => z) ⟨rfl, hW3, hs3⟩) ?_)
        · rintro y c st4 _ _ ⟨rfl, hW4, hs4⟩
          refine wpS_bind (wpS_get ?_)
          by_cases c2 : (pendingOf st4).size > 1
          · rw [if_pos c2]
            cases hq : (pendingOf st4)[(pendingOf st4).size - 2]? with
            | none => exact wpS_pure ⟨rfl, hW4, hs4⟩
            | some u =>
              obtain ⟨u1, u2, u3⟩ := u
              dsimp only
              by_cases c3 : u3 ≤ pw
              · rw [if_pos c3]
                exact wpS_pure ⟨rfl, hW4, hs4⟩
              · rw [if_neg c3]
                refine wpS_bind (merge_runs h0 hd hW4 hl (by omega) fun st5 hW5 _ hh5 => ?_)
                refine wpS_pure ⟨rfl, hW5, hs4.congr fun k k1 _ => hh5 k k1⟩
          · rw [if_neg c2]
            exact wpS_pure ⟨rfl, hW4, hs4⟩
        · rintro c st4 ⟨rfl, hW4, hs4⟩
          dsimp only
          refine wpS_bind (wpS_modify ?_)
          have hW5 := hW4.modify pw
          refine wpS_bind (wpS_modify (wpS_pure ⟨lo + n, rfl, by omega, hn2, hW5.push hs4 hn1⟩))
  case post =>
    rintro c st' ⟨rfl, hW⟩
    dsimp only
    have hsz : (pendingOf st').size ≤ a₀.size := by
      have := hW.runs.le
      rw [Array.length_toList] at this
      omega
    refine wpS_bind (wpS_mono (wpS_forRange (I := fun x (c : Option Unit × Unit) st2 => c = (none, ()) ∧ Wait a₀ a₀.size st2 ∧ ((pendingOf st2).size + x ≤ a₀.size ∨ (pendingOf st2).size ≤ 1)) (Q := fun c st2 => c = (none, ()) ∧ Wait a₀ a₀.size st2 ∧ (pendingOf st2).size ≤ 1) ?fstep ?ffin ⟨rfl, hW, .inl hsz⟩) ?fpost)
    case ffin =>
      rintro c st2 ⟨rfl, hW2, hs2⟩
      exact ⟨rfl, hW2, by omega⟩
    case fstep =>
      rintro x c st2 _ hx ⟨rfl, hW2, hs2⟩
      refine wpS_bind (wpS_get ?_)
      try dsimp only
      by_cases c1 : (pendingOf st2).size ≤ 1
      · rw [if_pos c1]
        exact wpS_pure ⟨rfl, hW2, c1⟩
      · rw [if_neg c1]
        have hi : ∀ b : Bool, (if b = true then (pendingOf st2).size - 2 - 1 else (pendingOf st2).size - 2) + 1 < (pendingOf st2).size := fun b => by cases b <;> simp <;> omega
        refine wpS_bind (merge_runs h0 hd hW2 (Nat.le_refl _) (hi _) fun st3 hW3 hp3 _ => ?_)
        rw [if_neg (by decide)]
        exact wpS_pure ⟨rfl, hW3, by omega⟩
    case fpost =>
      rintro c st2 ⟨rfl, hW2, hs2⟩
      try dsimp only
      refine wpS_pure (h st2 hW2.base.perm hW2.base.failed ?_)
      have hR := hW2.runs
      have hl : (pendingOf st2).toList.length ≤ 1 := by rw [Array.length_toList]; exact hs2
      match e : (pendingOf st2).toList, hR, hl with
      | [], hR, _ => simp only [Rn] at hR; omega
      | [t], hR, _ =>
        obtain ⟨e1, _, e3, e4⟩ := hR
        simp only [Rn] at e4
        intro i j hij hj
        by_cases hij' : i = j
        · subst hij'; exact Int.le_refl _
        · have := e3 i j (by omega) (by omega)
          rw [e1, Nat.zero_add, Nat.zero_add] at this
          exact Int.le_of_lt this
      | _ :: _ :: _, _, hl => simp at hl
end
end Srt

namespace Srt
open PySem PyProof.Rows
/-! list.sort and sorted, of ints that all differ, as many as there are -/
theorem dist_pairs {vs : List Value} {ns : List Int} (hI : IntsAre vs ns) (hn : ns.Nodup) : Dist (pairsOf vs) := by
  rw [dist_iff, pairsOf_toList]
  have e : (vs.zip vs).map key = ns := by
    have h1 : (vs.zip vs).map key = ((vs.zip vs).map Prod.fst).map numOf := by rw [List.map_map]; rfl
    rw [h1, List.map_fst_zip (Nat.le_refl _), hI.nums]
  rw [e]
  exact hn
section
variable {prog : Program} {w : World} {A : Around} {E : Value → Shared → Prop} {s : Shared}
theorem list_sort_all {a : Addr} {vs : List Value} {ns : List Int} {n : Nat} {P : Fin → Shared → Prop} (ho : s.heap.get? a = some (seqObj "list" vs.toArray n)) (hI : IntsAre vs ns) (hn : ns.Nodup) (hz : vs.length ≤ sizeLine)
    (h : ∀ (out : Array Value) (ms : List Int), IntsAre out.toList ms → ms.Perm ns → ms.Pairwise (· ≤ ·) → P (.done (.ret .none)) { s with heap := sortedHeap s.heap a vs out }) :
    wpAny (model prog w) A (Builtin.«list.sort» ⟨[.ref a], []⟩) P E s := by
  rw [list_sort_plain]
  have ha : a < s.heap.objs.size := Heap.lt_size ho
  have es : vs.toArray.size = vs.length := by simp
  refine wpAny_bind (listItems_at ho rfl ?_)
  refine wpAny_bind (listUpdate_at ho rfl ?_ (by rw [es]; exact hz) (Nat.zero_le _))
  obtain ⟨k, hk⟩ : ∃ k, (s.heap.update a (Obj.mapSeq fun _ => #[])).get? a = some (seqObj "list" #[] k) := ⟨_, get?_update_seq ho (fun _ => #[])⟩
  refine wpAny_bind (seqEpoch_at hk rfl (wpAny_bind (wpAny_newTuple (wpAny_bind (wpAny_newList (wpAny_holding ?_))))))
  have hk' : (((s.heap.update a (Obj.mapSeq fun _ => #[])).push (seqObj "tuple" vs.toArray 0)).push (seqObj "list" #[] 0)).get? a = some (seqObj "list" #[] k) := by
    have z1 : a ≠ (s.heap.update a (Obj.mapSeq fun _ => #[])).objs.size := by rw [Heap.size_update]; exact Nat.ne_of_lt ha
    have z2 : a ≠ ((s.heap.update a (Obj.mapSeq fun _ => #[])).push (seqObj "tuple" vs.toArray 0)).objs.size := by rw [size_push', Heap.size_update]; exact Nat.ne_of_lt (Nat.lt_succ_of_lt ha)
    rw [Heap.get?_push_ne _ _ _ z2, Heap.get?_push_ne _ _ _ z1]
    exact hk
  show wpAny (model prog w) A _ P E { s with heap := ((s.heap.update a (Obj.mapSeq fun _ => #[])).push (seqObj "tuple" vs.toArray 0)).push (seqObj "list" #[] 0) }
  dsimp only
  have fin : ∀ st' : SortSt, (arrOf st').Perm (pairsOf vs) → SortedTo (arrOf st') (pairsOf vs).size → P (.done (.ret .none)) { s with heap := sortedHeap s.heap a vs ((arrOf st').map (·.2)) } := fun st' hp hs => by
    obtain ⟨ms, m1, m2, m3⟩ := sorted_out hI hp hs
    exact h _ ms m1 m2 m3
  by_cases h2 : vs.toArray.size < 2
  · rw [if_pos h2, if_pos h2]
    refine wpAny_bind (wpAny_pure ?_)
    rw [StateT.run_pure]
    refine wpAny_bind (wpAny_pure ?_)
    dsimp only
    refine wpAny_bind (seqEpoch_at hk' rfl ?_)
    refine wpAny_bind (listUpdate_at hk' rfl ?_ (hsz2 := by rw [Array.size_map]; show (pairsOf vs).size ≤ _; rw [pairsOf_size]; omega))
    simp only [bne_self_eq_false, Bool.false_eq_true, if_false]
    refine wpAny_pure (fin (SortSt.mk' general' (vs.toArray.zip vs.toArray) #[] 7 none) (Array.Perm.refl _) fun i j hij hj => ?_)
    rw [pairsOf_size] at hj
    have : i = j := by omega
    rw [this]
    exact Int.le_refl _
  · rw [if_neg h2, if_neg h2]
    have h2' : 2 ≤ (pairsOf vs).size := by rw [pairsOf_size]; omega
    have hkk : keyKind' vs.toArray = pure oneType' := by
      match vs, hI, es, h2 with
      | [], _, _, h2 => simp at h2
      | [_], _, _, h2 => simp at h2
      | _ :: _ :: _, hI, _, _ => exact keyKind_ints hI
    rw [hkk]
    refine wpAny_bind (wpAny_pure ?_)
    refine wpAny_bind (wpAny_mono (sortRuns_all (a₀ := pairsOf vs) (st := SortSt.mk' oneType' (vs.toArray.zip vs.toArray) #[] 7 none)
      (Q := fun _ st' => (arrOf st').Perm (pairsOf vs) ∧ failedOf st' = none ∧ SortedTo (arrOf st') (pairsOf vs).size) hI.intKeys (dist_pairs hI hn) ⟨Array.Perm.refl _, rfl, rfl, rfl⟩ h2' fun st' b1 b2 b3 => ⟨b1, b2, b3⟩) ?_ fun _ _ e => e)
    rintro ⟨⟨⟩, st'⟩ s' ⟨rfl, hp, hf, hs⟩
    dsimp only
    have hz2 : ((arrOf st').map (·.2)).size ≤ sizeLine + 1 := by rw [Array.size_map, hp.size_eq, pairsOf_size]; omega
    refine wpAny_bind (seqEpoch_at hk' rfl (wpAny_bind (listUpdate_at hk' rfl ?_ (hsz2 := hz2))))
    rw [hf]
    simp only [bne_self_eq_false, Bool.false_eq_true, if_false]
    exact wpAny_pure (fin st' hp hs)
theorem sorted_all {l : Addr} {vs : List Value} {ns : List Int} {Q : Value → Shared → Prop} (hl : s.heap.IsList l vs.toArray) (hI : IntsAre vs ns) (hn : ns.Nodup) (hz : vs.length ≤ sizeLine)
    (h : ∀ (out : Array Value) (ms : List Int), IntsAre out.toList ms → ms.Perm ns → ms.Pairwise (· ≤ ·) → Q (.ref (s.heap.objs.size + 1)) { s with heap := sortedAll s.heap vs out }) :
    wpAny (model prog w) A (call (.builtin "sorted") [.ref l]) Q E s := by
  refine Calls.call_function_entry kind_sorted plain_sorted entry_sorted (args_sorted1 _) ?_
  unfold Builtin.«sorted»
  refine wpAny_bind (m := checkCount "sorted" 1 1 _) (wpAny_pure ?_)
  refine wpAny_bind (collect_list hl ?_ hz)
  refine wpAny_bind (wpAny_newList ?_)
  have e1 : ((s.heap.push (seqObj "list" #[] 0)).update s.heap.objs.size (Obj.mapSeq (· ++ vs.toArray))).objs.size = s.heap.objs.size + 1 := by rw [Heap.size_update, size_push']
  have e2 : (((s.heap.push (seqObj "list" #[] 0)).update s.heap.objs.size (Obj.mapSeq (· ++ vs.toArray))).push (seqObj "list" vs.toArray 0)).get? (s.heap.objs.size + 1) = some (seqObj "list" vs.toArray 0) := by
    rw [← e1]
    exact Heap.get?_push_size _ rfl
  show wpAny _ _ _ _ _ { s with heap := ((s.heap.push (seqObj "list" #[] 0)).update s.heap.objs.size (Obj.mapSeq (· ++ vs.toArray))).push (seqObj "list" vs.toArray 0) }
  rw [e1]
  refine wpAny_bind (wpAny_holding (wpAny_call_entry slot_list_sort ⟨_, e2, rfl⟩ entry_list_sort (list_sort_all e2 hI hn hz fun out ms b1 b2 b3 => ⟨_, rfl, ?_⟩) (args_list_sort _)))
  exact wpAny_pure ⟨_, rfl, h out ms b1 b2 b3⟩
end
end Srt

namespace L2
open PySem PySem.Spec PyProof.Rows
theorem vals_ofInts : ∀ {ns : List Int} {us : List Value}, IntsAre us ns → Vals (ns.map V.int) us
  | _, _, .nil => Paired.nil
  | _, _, .cons n t h => Paired.cons ⟨t, rfl⟩ (vals_ofInts h)
section
variable {X : Cx}
/-- sorted(ns), ns ints that are all different -/
def rSortedI (K : PySem.W.Frag) : List V → Hp → VK → Prop := fun xs H Q => ∃ (p : Addr) (ns : List Int), xs = [.ref p] ∧ SqL K H p (ns.map V.int) ∧ ns.Nodup ∧ ∀ (l : Addr) (ms : List Int), H l = none → ms.Perm ns → ms.Pairwise (· ≤ ·) → Q (.ref l) (upd H l (.lst (ms.map V.int)))
theorem call_sortedI : CallR X (.builtin "sorted") (rSortedI X.K) := by
  intro pins s σ H xs us Q I r h
  obtain ⟨p, ns, rfl, hS, hn, q⟩ := h
  obtain ⟨u, rfl, ru⟩ := vals1 r
  cases ru
  obtain ⟨its, rv, pl, hz⟩ := I.list hS
  have len : its.length = ns.length := by
    have := rv.length
    rw [List.length_map] at this
    exact this.symm
  rw [List.length_map] at hz
  refine Srt.sorted_all (vs := its) (ns := ns) pl.isList (intsAre_of rv) hn (by omega) fun out ms m1 m2 m3 => ?_
  obtain ⟨e, he⟩ := sortedAll_at s.heap its out
  have hlen : ms.length ≤ sizeLine := by rw [m2.length_eq]; exact hz
  refine ⟨.ref (s.heap.objs.size + 1), _, I.laid (t' := s.toks) (fun _ _ => sortedAll_old) (Nat.le_succ _) (show ObjOk X.prog X.w _ _ _ (.lst (ms.map V.int)) from ⟨by rw [List.length_map]; exact hlen, out.toList, e, vals_ofInts m1, ?_⟩), rfl, q _ _ (I.hok.fresh (Nat.le_succ _)) m2 m3⟩
  rw [he]
end
end L2

namespace L2
open PySem PySem.Spec PyProof.Rows
/-! a comprehension whose block reads names of the def around it, which are cells there -/
def cxCompC (X : Cx) (scope : Scope) (N : List Str) (cl : List (Str × Addr)) (C : Addr) (s : Shared) (H : Hp) (ex : List Addr) (pn : List (Addr × Obj)) : Cx :=
  { X with N := N, s₀ := s, H₀ := H, env := compEnvC scope cl C X.env, outer := X.stack, stack := X.stack, ex := ex, fn := fun _ => false, pn := pn, xe := fun _ _ => False }
def cTurnsC (J : It) (tc : TT) (te : TE) (fvs : List (Option V)) (D : Addr) (Q : VK) (W : Nat → Nat → List V → Hp → Prop) : Prop :=
  cTurns J (fun σ => tc (σ ++ fvs)) (fun σ => te (σ ++ fvs)) D Q W
def tCompC (ix : List Nat) (wi : TI) (tc : TT) (te : TE) : TE := fun σ H Q => wi σ H fun J H1 => ∀ D, H1 D = none → ∃ W, (∃ m, W 0 m [] (upd H1 D (.lst []))) ∧ cTurnsC J tc te (ix.map fun i => (σ[i]?).join) D Q W
theorem lookup_cons_ne {y n : Str} {c : Addr} {l : List (Str × Addr)} (h : (y == n) = false) : ((n, c) :: l).lookup y = l.lookup y := by rw [List.lookup_cons, h]
theorem lookup_cons_eq {y n : Str} {c : Addr} {l : List (Str × Addr)} (h : (y == n) = true) : ((n, c) :: l).lookup y = some c := by rw [List.lookup_cons, h]
/-- the cells that a comprehension takes along -/
theorem closure_at {scope : Scope} {env : Env} (h : ∀ y ∈ scope.names, y.2 = .free → ∃ c, env.cells.lookup y.1 = some c) :
    ∃ cl, closureFor scope env = pure cl ∧ (∀ y c, cl.lookup y = some c → env.cells.lookup y = some c) ∧ ∀ y ∈ scope.names, y.2 = .free → ∃ c, cl.lookup y.1 = some c := by
  unfold closureFor
  generalize scope.names = l at h
  suffices H : ∀ (l : List (Str × NameKind)) (a : List (Str × Addr)), (∀ y ∈ l, y.2 = .free → ∃ c, env.cells.lookup y.1 = some c) → (∀ y c, a.lookup y = some c → env.cells.lookup y = some c) →
      ∃ cl, (forIn l a fun x cs => match x with | (name, kind) => if (kind == NameKind.free) = true then do let c ← cellOf env name; pure (ForInStep.yield ((name, c) :: cs)) else pure (ForInStep.yield cs) : Sem (List (Str × Addr))) = pure cl ∧
        (∀ y c, cl.lookup y = some c → env.cells.lookup y = some c) ∧ (∀ y, (∃ c, a.lookup y = some c) → ∃ c, cl.lookup y = some c) ∧ ∀ y ∈ l, y.2 = .free → ∃ c, cl.lookup y.1 = some c by
    obtain ⟨cl, e, h1, _, h3⟩ := H l [] h (fun y c e => by cases e)
    refine ⟨cl, ?_, h1, h3⟩
    have e' := congrArg (fun m : Sem (List (Str × Addr)) => m >>= fun cs => pure cs) e
    exact e'.trans (pure_bind _ _)
  intro l
  induction l with
  | nil => intro a _ ha; exact ⟨a, rfl, ha, fun _ z => z, fun y hy => by cases hy⟩
  | cons p l ih =>
    obtain ⟨n, k⟩ := p
    intro a hl ha
    by_cases hk : k = .free
    · subst hk
      obtain ⟨c, hc⟩ := hl _ List.mem_cons_self rfl
      have hc' : env.cells.lookup n = some c := hc
      obtain ⟨cl, e, h1, h2, h3⟩ := ih ((n, c) :: a) (fun y hy => hl y (List.mem_cons_of_mem _ hy)) (fun y c' e => by
        cases q : y == n with
        | true => rw [lookup_cons_eq q] at e; cases e; rw [LawfulBEq.eq_of_beq q]; exact hc'
        | false => rw [lookup_cons_ne q] at e; exact ha y c' e)
      have hn : ∃ c, cl.lookup n = some c := h2 n ⟨c, lookup_cons_eq (by simp)⟩
      refine ⟨cl, ?_, h1, fun y hy => h2 y ?_, fun y hy hf => ?_⟩
      · rw [List.forIn_cons]
        have : cellOf env n = pure c := by unfold cellOf; rw [hc']
        simp only [beq_self_eq_true, if_true, this, pure_bind]
        exact e
      · obtain ⟨c', e'⟩ := hy
        cases q : y == n with
        | true => exact ⟨c, lookup_cons_eq q⟩
        | false => exact ⟨c', by rw [lookup_cons_ne q]; exact e'⟩
      · rcases List.mem_cons.mp hy with z | z
        · subst z; exact hn
        · exact h3 y z hf
    · have kb : (k == NameKind.free) = false := by simpa using hk
      obtain ⟨cl, e, h1, h2, h3⟩ := ih a (fun y hy => hl y (List.mem_cons_of_mem _ hy)) ha
      refine ⟨cl, ?_, h1, h2, fun y hy hf => ?_⟩
      · rw [List.forIn_cons]
        simp only [kb, Bool.false_eq_true, if_false, pure_bind]
        exact e
      · rcases List.mem_cons.mp hy with z | z
        · subst z; exact absurd hf hk
        · exact h3 y z hf
/-- a name that is a cell or free behind relabel was free -/
theorem relabel_free {scope : Scope} {env : Env} (hcell : ∀ y ∈ scope.names, y.2 ≠ NameKind.cell) {y : Str} (h : (relabel scope env).names.lookup y = some .cell ∨ (relabel scope env).names.lookup y = some .free) : ∃ z ∈ scope.names, z.1 = y ∧ z.2 = .free := by
  unfold relabel at h
  dsimp only at h
  generalize scope.names = l at hcell h
  induction l with
  | nil => rcases h with z | z <;> cases z
  | cons p l ih =>
    obtain ⟨n, k⟩ := p
    cases q : y == n with
    | true =>
      have e : y = n := LawfulBEq.eq_of_beq q
      subst e
      refine ⟨(y, k), List.mem_cons_self, rfl, ?_⟩
      have kc : k ≠ NameKind.cell := hcell _ List.mem_cons_self
      rw [List.map_cons] at h
      by_cases hk : k = .free
      · exact hk
      · have kb : (k == NameKind.free) = false := by simpa using hk
        simp only [kb, Bool.false_and, Bool.false_eq_true, if_false, List.lookup_cons, beq_self_eq_true] at h
        rcases h with z | z
        · cases z; exact absurd rfl kc
        · cases z; exact absurd rfl hk
    | false =>
      have : ∀ k', ((if (k == NameKind.free && env.scope.kind == .function && env.kindOf n == some .cell) = true then (n, NameKind.cell) else (n, k)) :: l.map fun (n, k) => if (k == NameKind.free && env.scope.kind == .function && env.kindOf n == some .cell) = true then (n, NameKind.cell) else (n, k)).lookup y = some k' → (l.map fun (n, k) => if (k == NameKind.free && env.scope.kind == .function && env.kindOf n == some .cell) = true then (n, NameKind.cell) else (n, k)).lookup y = some k' := fun k' z => by
        by_cases c : (k == NameKind.free && env.scope.kind == .function && env.kindOf n == some .cell) = true
        · rw [if_pos c, List.lookup_cons, q] at z; exact z
        · rw [if_neg c, List.lookup_cons, q] at z; exact z
      rw [List.map_cons] at h
      obtain ⟨z, hz, e⟩ := ih (fun y hy => hcell y (List.mem_cons_of_mem _ hy)) (h.imp (this _) (this _))
      exact ⟨z, List.mem_cons_of_mem _ hz, e⟩
theorem comp_coreC {X : Cx} {elt iter : Expr} {x : Str} {px : Pos} {ifs : List Expr} {scope : Scope} {pos : Pos} {tc : TT} {te : TE} (hcalm : X.calm = true)
    {cl : List (Str × Addr)} {fv : List Str} {fvs : List (Option V)} (hsub : ∀ y c, cl.lookup y = some c → X.env.cells.lookup y = some c) (hin : ∀ y, (relabel scope X.env).names.lookup y = some .cell ∨ (relabel scope X.env).names.lookup y = some .free → ∃ c, cl.lookup y = some c) (hND : (x :: fv).Nodup)
    (hcell : ∀ y ∈ scope.names, y.2 ≠ .cell) (hkind : scope.kind = .function) (hx : scope.names.lookup x = some .local)
    (hc : ∀ C s H ex pn, PTs (cxCompC X scope (x :: fv) cl C s H ex pn) ifs tc) (he : ∀ C s H ex pn, PE (cxCompC X scope (x :: fv) cl C s H ex pn) elt te)
    {pins : List (Addr × Obj)} {σ : St} {H2 : Hp} {s2 : Shared} {it : Addr} {fp : List Addr} {tn : Nat → Heap → Prop} {J : It} {Q : VK} {W : Nat → Nat → List V → Hp → Prop} {m0 : Nat}
    (I2 : Inv X pins σ H2 s2) (T : Turn X.prog X.w X.K (.Name x px) J fp it tn) (st2 : tn 0 s2.heap) (f2 : ∀ b ∈ fp, FpOk X pins H2 b) (w0 : W 0 m0 [] (upd H2 s2.heap.objs.size (.lst []))) (turns : cTurnsC J tc te fvs s2.heap.objs.size Q W)
    (hfl : fvs.length = fv.length) (hfv : ∀ (j : Nat) (y : Str) (v : V), fv[j]? = some y → fvs[j]? = some (some v) → X.env.kindOf y = some .cell ∧ ((relabel scope X.env).names.lookup y = some .cell ∨ (relabel scope X.env).names.lookup y = some .free) ∧ ∃ i : Nat, X.N[i]? = some y ∧ σ[i]? = some (some v))
    {RR : Value → Addr → Result → Shared → Prop} {E : Value → Shared → Prop}
    (hstop : ∀ (C : Addr) (s4 : Shared) (H3 : Hp), s2.heap.objs.size ≤ C → s4.os = s2.os → AllBare s4.gens → Un (frs X.stack) fp H2 H3 s2.heap s4.heap → HOk X.prog X.w H3 s4.heap → H3 C = none → (∃ m, s4.heap.Ns C m) → Q (.ref s2.heap.objs.size) H3 → RR (.ref s2.heap.objs.size) C (.ok .next) s4) :
    wpAny (model X.prog X.w) X.A (newList []) (fun acc s₃ => wpAny (model X.prog X.w) X.A (newFunctionEnv scope X.env.globals cl [] X.env.qual none .none (some X.env)) (fun cenv s₄ =>
      codeAny (model X.prog X.w) X.A (.compStart (.ListComp elt [⟨.Name x px, iter, ifs, 0⟩] scope pos) 0 (.ref it) acc { cenv with scope := relabel scope X.env }) (RR acc cenv.locals) s₄) E s₃) E s2 := by
  have fr2 : H2 s2.heap.objs.size = none := I2.hok.fresh (Nat.le_refl _)
  refine wpAny_newObj_type (wpAny_newFunctionEnv hcell (by intro y hy; simp at hy) (fun h₁ hns₁ hsb₁ => ?_) hkind)
  dsimp only at hns₁ hsb₁ ⊢
  generalize hG : s2.heap.push { cls := .type "list", dict := none, data := .seq ([] : List Value).toArray } = G at hns₁ hsb₁ ⊢
  have hC : G.objs.size = s2.heap.objs.size + 1 := by rw [← hG, Heap.size_push]
  have lt : ∀ {b o}, s2.heap.get? b = some o → b < s2.heap.objs.size := fun e => Heap.lt_size e
  have oldG : ∀ b o, s2.heap.get? b = some o → G.get? b = some o := fun b o e => hG ▸ Heap.get?_push_of_some _ e
  have old : ∀ b o, s2.heap.get? b = some o → h₁.get? b = some o := fun b o e =>
    hsb₁.extBut b o (by have := lt e; rw [hC]; exact Nat.ne_of_lt (Nat.lt_succ_of_lt this)) (Heap.get?_push_of_some _ (oldG b o e))
  have hacc : h₁.get? s2.heap.objs.size = some { cls := .type "list", dict := none, data := .seq ([] : List Value).toArray } :=
    hsb₁.extBut _ _ (by rw [hC]; exact Nat.ne_of_lt (Nat.lt_succ_self _)) (Heap.get?_push_of_some _ (hG ▸ Heap.get?_push_size _ rfl))
  have neC : ∀ {b : Nat}, b < s2.heap.objs.size → b ≠ G.objs.size := fun h => by rw [hC]; exact Nat.ne_of_lt (Nat.lt_succ_of_lt h)
  have neD : ∀ {b : Nat}, b < s2.heap.objs.size → b ≠ s2.heap.objs.size := fun h => Nat.ne_of_lt h
  have leC : s2.heap.objs.size ≤ G.objs.size := by rw [hC]; exact Nat.le_succ _
  -- the block's context
  generalize hX' : cxCompC X scope (x :: fv) cl G.objs.size s2 H2 fp (X.pn ++ pins) = Y
  have Ye : Y.env = compEnvC scope cl G.objs.size X.env := by rw [← hX']; rfl
  have Yp : Y.prog = X.prog := by rw [← hX']; rfl
  have Yw : Y.w = X.w := by rw [← hX']; rfl
  have YK : Y.K = X.K := by rw [← hX']; rfl
  have YA : Y.A = X.A := by rw [← hX']; rfl
  have Yc : Y.calm = true := by rw [← hX']; exact hcalm
  have nfs : ∀ b, b ≠ X.env.locals → b ∉ X.fs → b ∉ frs X.stack := fun b h1 h2 hb => (List.mem_cons.mp (I2.stkSub b hb)).elim h1 h2
  have ok : Y.Ok := by
    rw [← hX']
    refine ⟨I2.ok.mod, ?_, I2.ok.glob, I2.ok.blt, ?_, ?_, ?_, ?_, I2.ok.hd, I2.ok.frames, .inl rfl, ?_, I2.bs, ?_, ?_, ?_, I2.stack, I2.stkFree⟩
    · show (relabel scope X.env).kind = .function
      exact hkind
    · exact leC
    · intro y z c e1 e2
      exact I2.ok.inj y z c (hsub y c e1) (hsub z c e2)
    · intro y hy
      exact hin y hy
    · intro y c e
      cases (show false = true from e)
    · intro b hb
      obtain ⟨g0, g1, g2, g3, g4, g5⟩ := f2 b hb
      obtain ⟨o, eo, _⟩ := T.obj _ _ st2 b hb
      refine ⟨?_, fun y c e => ?_⟩
      · exact neC (lt eo)
      · exact g4 y c (hsub y c e)
    · exact Nat.le_trans I2.ok.bsz I2.sz
    · intro b o e hb
      have hb' : b ∈ fp := hb
      obtain ⟨g0, g1, g2, g3, g4, g5⟩ := f2 b hb'
      rcases g3 with z | z
      · exact I2.ok.noex b o e z
      · exact absurd (Nat.lt_of_lt_of_le (Heap.lt_size e) (Nat.le_trans I2.ok.bsz z)) (Nat.lt_irrefl _)
    · intro b hb
      have hb' : b ∈ fp := hb
      obtain ⟨g0, g1, g2, g3, g4, g5⟩ := f2 b hb'
      exact nfs b g1 g2
  have cold : ∀ {y : Str} {c : Addr}, cl.lookup y = some c → c < s2.heap.objs.size := fun {y c} e => by
    obtain ⟨v', o, ho, _⟩ := I2.cell y c (hsub y c e)
    exact lt ho
  have I4 : Inv Y [] (none :: fvs) (upd H2 s2.heap.objs.size (.lst [])) { s2 with heap := h₁, toks := s2.toks + ([] : List (Str × Value)).length } := by
    subst hX'
    refine ⟨ok, rfl, I2.bare, Un.laid old (Nat.le_refl _) fr2, ⟨_, hns₁, fun i y v e1 e2 _ => ?_⟩, fun y c e => ?_, ?_, fun y c e => ?_, fun p hp => ?_, ?_, by show (none :: fvs).length = (x :: fv).length; simp [hfl]⟩
    · cases i with
      | zero => have e2' : some (none : Option V) = some (some v) := e2; cases e2'
      | succ i =>
        have e1' : fv[i]? = some y := e1
        have e2' : fvs[i]? = some (some v) := e2
        obtain ⟨hk, hr, i', h1, h2⟩ := hfv i y v e1' e2'
        obtain ⟨mX, _, hl⟩ := I2.loc
        obtain ⟨u, ru, lk⟩ := hl i' y v h1 h2 (.inr (.inl hk))
        refine ⟨u, ru, .inr ⟨hr, ?_⟩⟩
        rcases lk with ⟨z, _⟩ | ⟨_, c, hc, o, ho, hd⟩
        · rw [hk] at z; cases z
        · obtain ⟨c', hc'⟩ := hin y hr
          have ec := hsub y c' hc'
          rw [hc] at ec
          cases ec
          exact ⟨c, hc', o, old _ _ ho, hd⟩
    · obtain ⟨v', o, ho, hd⟩ := I2.cell y c (hsub y c e)
      exact ⟨v', o, old _ _ ho, hd⟩
    · show upd H2 s2.heap.objs.size (.lst []) G.objs.size = none
      rw [upd_ne (by rw [hC]; exact Nat.ne_of_gt (Nat.lt_succ_self _))]
      exact I2.hok.fresh leC
    · show upd H2 s2.heap.objs.size (.lst []) c = none
      rw [upd_ne (neD (cold e))]
      exact I2.freeC y c (hsub y c e)
    · have hp' : p ∈ X.pn ++ pins := by
        rw [List.append_nil] at hp
        exact hp
      obtain ⟨p1, p2, p3, p4, p5⟩ := I2.pin p hp'
      exact ⟨old _ _ p1, by rw [upd_ne (neD (lt p1))]; exact p2, neC (lt p1), nfs _ p3 p4, p5⟩
    · exact HOk.laid I2.hok old (Nat.le_refl _) ⟨Nat.zero_le _, [], 0, .nil, hacc⟩
  have f2' : ∀ {H' : Hp} {pins' : List (Addr × Obj)}, (∀ p ∈ pins', False) → (∀ b ∈ fp, H' b = none) → ∀ b ∈ fp, FpOk Y pins' H' b := fun {H' pins'} hpn hn b hb => by
    obtain ⟨g0, g1, g2, g3, g4, g5⟩ := f2 b hb
    obtain ⟨o, eo, _⟩ := T.obj _ _ st2 b hb
    subst hX'
    refine ⟨hn b hb, neC (lt eo), nfs b g1 g2, .inl hb, fun y c e => ?_, fun p hp => ?_⟩
    · exact g4 y c (hsub y c e)
    · rcases List.mem_append.mp hp with z | z
      · exact g5 p z
      · exact (hpn p z).elim
  have T' : Turn Y.prog Y.w Y.K (.Name x px) J fp it tn := by rw [Yp, Yw, YK]; exact T
  have hgN : PG Y (.Name x px) (gName 0) := by
    subst hX'
    exact pg_name (i := 0) hND rfl (Or.inl (lookup_relabel_local hx)) (.inr (lookup_relabel_local hx))
  have hcY : PTs Y ifs tc := by subst hX'; exact hc _ _ _ _ _
  have heY : PE Y elt te := by subst hX'; exact he _ _ _ _ _
  have xeY : ∀ e s', Y.xe e s' → False := by subst hX'; exact fun _ _ z => z
  have st4 : tn 0 h₁ := T.keep _ _ _ st2 fun b _ o e => old b o e
  have n4 : ∀ b ∈ fp, (upd H2 s2.heap.objs.size (.lst [])) b = none := fun b hb => by
    obtain ⟨o, eo, _⟩ := T.obj _ _ st2 b hb
    rw [upd_ne (neD (lt eo))]
    exact (f2 b hb).1
  have loop : codeAny (model X.prog X.w) X.A (.compLoop (.ListComp elt [⟨.Name x px, iter, ifs, 0⟩] scope pos) 0 (.ref it) (.ref s2.heap.objs.size) (compEnvC scope cl G.objs.size X.env))
      (RR (.ref s2.heap.objs.size) G.objs.size) { s2 with heap := h₁, toks := s2.toks + ([] : List (Str × Value)).length } := by
    refine codeAny_compLoop_tests (fun n s' => ∃ i ys σ' H', Inv Y [] σ' H' s' ∧ (∃ o, σ' = o :: fvs) ∧ tn i s'.heap ∧ (∀ b ∈ fp, H' b = none) ∧ W i n ys H') ?_ m0 ⟨0, [], none :: fvs, _, I4, ⟨none, rfl⟩, st4, n4, w0⟩
    rintro n s3 ⟨i, ys, σ3, H3, I3, l3, st3, fr3, w3⟩
    obtain ⟨hD, alt⟩ := turns i n ys H3 w3
    rcases alt with ⟨stop, qn⟩ | ⟨go, step⟩
    · have hd := T'.done Y rfl rfl rfl Yc i [] s3 σ3 H3 (notedBy (model X.prog X.w) X.A (compEnvC scope cl G.objs.size X.env) fun e s' => RR (.ref s2.heap.objs.size) G.objs.size (.error e) s') I3 (f2' (fun _ z => nomatch z) fr3) st3 stop
      rw [Yp, Yw, YA] at hd
      refine thn hd fun r s4 ⟨hr, I5⟩ => ?_
      subst hr
      have nsC : ∃ m, s4.heap.Ns G.objs.size m := by
        obtain ⟨m, hm, _⟩ := I5.loc
        rw [Ye] at hm
        exact ⟨m, hm⟩
      have uB : Un (frs X.stack) fp H2 H3 s2.heap s4.heap := by
        have := I5.base
        subst hX'
        exact this
      have fC : H3 G.objs.size = none := by
        have := I5.free
        rw [Ye] at this
        exact this
      have okH : HOk X.prog X.w H3 s4.heap := by
        have := I5.hok
        rw [Yp, Yw] at this
        exact this
      have os : s4.os = s2.os := by
        have := I5.os
        subst hX'
        exact this
      exact hstop _ _ _ leC os I5.bare uB okH fC nsC qn
    · have hd := T'.item Y rfl rfl rfl Yc i [] s3 σ3 H3 (notedBy (model X.prog X.w) X.A (compEnvC scope cl G.objs.size X.env) fun e s' => RR (.ref s2.heap.objs.size) G.objs.size (.error e) s') I3 (f2' (fun _ z => nomatch z) fr3) st3 go
      rw [Yp, Yw, YA] at hd
      refine thn hd fun r s4 ⟨u, hr, h4⟩ => ?_
      subst hr
      refine now_of (wpAny_bind (m := letOwnedTupleGo (.Name x px) (.ref it) u) (f := fun _ => assign (.Name x px) (compEnvC scope cl G.objs.size X.env) u) (thn h4 fun _ s5 ⟨y, H5, I5, r5, y5, st5, fr5⟩ => ?_))
      have I5' := I5.pinned (f2' (fun _ z => nomatch z) fr5) (T'.obj _ _ st5)
      have ha := hgN _ s5 σ3 H5 y u (fun σ6 H6 => σ6 = σ3.set 0 (some y) ∧ H6 = H5) I5' r5 ⟨rfl, rfl⟩
      rw [Yp, Yw, YA, Ye] at ha
      refine wpAny_mono ha (fun _ s6 ⟨σ6, H6, I6, e6, e7⟩ => ?_) (fun e s' z => (xeY e s' z).elim)
      subst e7
      have eσ : σ6 = some y :: fvs := by
        obtain ⟨o3, e3⟩ := l3
        rw [e6, e3]
        rfl
      subst eσ
      have back : ∀ {σ7 : St} {H7 : Hp} {s7 : Shared} {m' : Nat} {zs : List V}, Inv Y ([] ++ pinsAt fp s5.heap) σ7 H7 s7 → (∃ o, σ7 = o :: fvs) → m' < n → W (i + 1) m' zs H7 → ∃ m, m < n ∧ ∃ i ys σ' H', Inv Y [] σ' H' s7 ∧ (∃ o, σ' = o :: fvs) ∧ tn i s7.heap ∧ (∀ b ∈ fp, H' b = none) ∧ W i m ys H' := fun {σ7 H7 s7 m' zs} I7 l7 hm w7 => by
        refine ⟨m', hm, i + 1, zs, σ7, H7, I7.unpinned, l7, T'.keep _ _ _ st5 fun b hb o e => (I7.pin (b, o) (List.mem_append_right _ (List.mem_append_right _ (mem_pinsAt hb e)))).1, fun b hb => ?_, w7⟩
        obtain ⟨o, e, d⟩ := T'.obj _ _ st5 b hb
        exact (I7.pin (b, o) (List.mem_append_right _ (List.mem_append_right _ (mem_pinsAt hb e)))).2.1
      have hcc := hcY _ s6 _ H6 _ I6 (step y H6 y5)
      rw [Yp, Yw, YA, Ye] at hcc
      refine wpAny_mono hcc (fun b s7 ⟨H7, I7, q7⟩ => ?_) (fun e s' z => (xeY e s' z).elim)
      cases b with
      | false =>
        rw [if_neg Bool.false_ne_true]
        obtain ⟨m', hm, w7⟩ := (show ∃ m', m' < n ∧ W (i + 1) m' ys H7 by simpa using q7)
        exact back I7 ⟨_, rfl⟩ hm w7
      | true =>
        rw [if_pos rfl]
        have q7' : te (some y :: fvs) H7 fun y' H3 => H3 s2.heap.objs.size = some (.lst ys) ∧ ys.length < sizeLine ∧ ∃ m', m' < n ∧ W (i + 1) m' (ys ++ [y']) (upd H3 s2.heap.objs.size (.lst (ys ++ [y']))) := by simpa using q7
        have hee := heY _ s7 _ H7 _ I7 q7'
        rw [Yp, Yw, YA, Ye] at hee
        refine wpAny_mono hee (fun u8 s8 ⟨y8, H8, I8, r8, hD8, hz8, m', hm, w8⟩ => ?_) (fun e s' z => (xeY e s' z).elim)
        have hap := mt_append (X := Y) _ s8 _ H8 (.ref s2.heap.objs.size) [y8] (.ref s2.heap.objs.size) [u8] (fun _ H9 => H9 = upd H8 s2.heap.objs.size (.lst (ys ++ [y8]))) I8 rfl (.cons r8 .nil) ⟨_, ys, y8, rfl, rfl, hD8, hz8, rfl⟩
        rw [Yp, Yw, YA] at hap
        refine wpAny_mono hap (fun _ s9 ⟨_, H9, I9, _, e9⟩ => ?_) (fun e s' z => (xeY e s' z).elim)
        subst e9
        exact back I9 ⟨_, rfl⟩ hm w8
  exact codeAny_compStart_list loop (T.self _ 0 _ _ _ st4 loop)
theorem pe_compC {X : Cx} {elt iter : Expr} {x : Str} {px : Pos} {ifs : List Expr} {scope : Scope} {pos : Pos} {wi : TI} {tc : TT} {te : TE} (hcalm : X.calm = true) (hi : PI X (.Name x px) iter wi)
    {fv : List Str} (ix : List Nat) (hlen : ix.length = fv.length) (hix : ∀ (j i : Nat) (y : Str), ix[j]? = some i → fv[j]? = some y → X.N[i]? = some y) (hfc' : (fv.all fun y => X.env.kindOf y == some .cell) = true) (hvis' : (fv.all fun y => (relabel scope X.env).names.lookup y == some .cell || (relabel scope X.env).names.lookup y == some .free) = true)
    (hall' : (scope.names.all fun y => !(y.2 == .free) || X.env.kindOf y.1 == some .cell) = true) (hND : (x :: fv).Nodup)
    (hcell : ∀ y ∈ scope.names, y.2 ≠ .cell) (hkind : scope.kind = .function) (hnames : ∀ y ∈ scope.names, y.2 = .local → scope.names.lookup y.1 = some .local) (hx : scope.names.lookup x = some .local)
    (hc : ∀ cl C s H ex pn, PTs (cxCompC X scope (x :: fv) cl C s H ex pn) ifs tc) (he : ∀ cl C s H ex pn, PE (cxCompC X scope (x :: fv) cl C s H ex pn) elt te) (hs : ∀ v, foldedSetIterable iter X.env v = pure v := by intro _; rfl) :
    PE X (.ListComp elt [⟨.Name x px, iter, ifs, 0⟩] scope pos) (tCompC ix wi tc te) := by
  intro pins s σ H Q I h
  rw [eval_ListComp]
  have hfc : ∀ y ∈ fv, X.env.kindOf y = some .cell := fun y hy => by simpa using List.all_eq_true.mp hfc' y hy
  have hvis : ∀ y ∈ fv, (relabel scope X.env).names.lookup y = some .cell ∨ (relabel scope X.env).names.lookup y = some .free := fun y hy => by simpa using List.all_eq_true.mp hvis' y hy
  have hall : ∀ y ∈ scope.names, y.2 = .free → X.env.kindOf y.1 = some .cell := fun y hy hf => by
    have := List.all_eq_true.mp hall' y hy
    rw [hf] at this
    simpa using this
  obtain ⟨cl, hclos, hsub, hhas⟩ := closure_at (scope := scope) (env := X.env) fun y hy hk => I.ok.has y.1 (.inl (hall y hy hk))
  have hin : ∀ y, (relabel scope X.env).names.lookup y = some .cell ∨ (relabel scope X.env).names.lookup y = some .free → ∃ c, cl.lookup y = some c := fun y hy => by
    obtain ⟨z, hz, e1, e2⟩ := relabel_free hcell hy
    rw [← e1]
    exact hhas z hz e2
  refine wpAny_comprehension_free (use := none) rfl hs hclos hkind hnames (thn (hi pins s σ H _ I h) fun v s1 h1 => thn h1 fun itv s2 h2 => ?_)
  obtain ⟨it, fp, tn, J, H2, e, I2, T, st2, f2, hW⟩ := h2
  subst e
  obtain ⟨W, ⟨m0, w0⟩, turns⟩ := hW _ (I2.hok.fresh (Nat.le_refl _))
  refine comp_coreC (cl := cl) (fv := fv) (fvs := ix.map fun i => (σ[i]?).join) (RR := fun acc C => compPost (model X.prog X.w) X.A X.xe none (EP X pins σ Q) acc C) hcalm hsub hin hND hcell hkind hx (hc cl) (he cl) I2 T st2 f2 w0 turns (by rw [List.length_map]; exact hlen) (fun j y v h1 h2 => ?_) fun C s4 H3 hC os bare uB okH fC ⟨m, hm⟩ q => ?_
  · rw [List.getElem?_map] at h2
    cases e : ix[j]? with
    | none => rw [e] at h2; cases h2
    | some i =>
      rw [e] at h2
      have hy := List.mem_of_getElem? h1
      refine ⟨hfc y hy, hvis y hy, i, hix j i y e h1, ?_⟩
      have h3 : (σ[i]?).join = some v := Option.some.inj h2
      cases e2 : σ[i]? with
      | none => rw [e2] at h3; cases h3
      | some o => rw [e2] at h3; exact congrArg some h3
  refine ⟨m, hm, fun h' sb => ?_⟩
  have k : ∀ b o, b ≠ C → s4.heap.get? b = some o → h'.get? b = some o := fun b o hb e => sb.extBut b o hb e
  refine ⟨.ref s2.heap.objs.size, H3, ?_, rfl, q⟩
  exact I2.call' (s' := { s4 with heap := h' }) os (uB.but hC k) (okH.but fC k) bare fun b hb => by
    obtain ⟨g0, g1, g2, g3, g4, g5⟩ := f2 b hb
    exact ⟨g3, g1, g4, g5⟩
end L2

set_option maxHeartbeats 4000000
namespace Peg
open PySem L2
def top (i : Nat) : Stmt := PySem.Challenge.pw_peghall_k07_whole_rack.main.body.getD i (.Pass ⟨0, 0, 0, 0⟩)
abbrev sOwn : Stmt := top 1
abbrev sBeh : Stmt := top 2
abbrev sCoats : Stmt := top 3
abbrev sFF : Stmt := top 4
abbrev sPegOf : Stmt := top 5
abbrev sHung : Stmt := top 7
abbrev sTaken : Stmt := top 8
abbrev sChanged : Stmt := top 9
abbrev sScarce : Stmt := top 12
abbrev sHang : Stmt := top 13
abbrev sTake : Stmt := top 14
abbrev sDone : Stmt := top 15
abbrev sSteps : Stmt := top 16
abbrev sBehind : Stmt := top 17
abbrev sSizes : Stmt := top 18
abbrev sDraw : Stmt := top 20
abbrev sWhole : Stmt := top 21
abbrev sSound : Stmt := top 22
abbrev sTag : Stmt := top 23
abbrev sDeeds : Stmt := top 24
abbrev sKept : Stmt := top 25
abbrev sLaw : Stmt := top 26
end Peg
namespace Peg
open PySem L2
section
variable {P : Program} {w : World} {K : PySem.W.Frag} {mg : Str → Option Value} {base : Heap}
/-! ### own_peg, peg_behind -/
def spOwn : Sp := fun vs H Q _ => ∃ (n s : Int), vs = [.int n, .int s] ∧ 0 < s ∧ Q (.int (n % s)) H
theorem scOwn : FnScope ["number", "size"] ["number", "size"] (defScope sOwn) := ⟨rfl, rfl, rfl, by decide +kernel, rfl, by decide +kernel, by decide +kernel⟩
theorem ok_own {f : Addr} {fd : FuncData} (F : Fun K "own_peg" "own_peg" sOwn f fd) : FnOk P w K mg base CX0 1 f fd ["number", "size"] spOwn := by
  refine F.ok scOwn (fun vs H Q E h => ?_) (fun cdv A outer s H vs Q E hr h => ?_)
  · obtain ⟨n, s, rfl, _⟩ := h
    rfl
  · obtain ⟨n, s, rfl, hs, q⟩ := h
    refine ⟨_, pss_one (ps_ret (pe_op op_mod (pv 0) (pv 1))), ?_⟩
    exact ⟨_, rfl, _, rfl, _, _, rfl, rfl, hs, q⟩
end
end Peg
namespace Peg
open PySem L2
section
variable {P : Program} {w : World} {K : PySem.W.Frag} {mg : Str → Option Value} {base : Heap}
def spBeh : Sp := fun vs H Q _ => ∃ (p s : Int), vs = [.int p, .int s] ∧ 0 < s ∧ Q (.int ((p + 1) % s)) H
theorem scBeh : FnScope ["peg", "size"] ["peg", "size"] (defScope sBeh) := ⟨rfl, rfl, rfl, by decide +kernel, rfl, by decide +kernel, by decide +kernel⟩
theorem ok_beh {f : Addr} {fd : FuncData} (F : Fun K "peg_behind" "peg_behind" sBeh f fd) : FnOk P w K mg base CX0 1 f fd ["peg", "size"] spBeh := by
  refine F.ok scBeh (fun vs H Q E h => ?_) (fun cdv A outer s H vs Q E hr h => ?_)
  · obtain ⟨n, s, rfl, _⟩ := h
    rfl
  · obtain ⟨n, s, rfl, hs, q⟩ := h
    refine ⟨_, pss_one (ps_ret (pe_op op_mod (pe_op op_add (pv 0) pe_int) (pv 1))), ?_⟩
    exact ⟨_, rfl, _, _, rfl, rfl, _, rfl, _, _, rfl, rfl, hs, q⟩
end
end Peg
namespace Peg
open PySem L2
section
variable {P : Program} {w : World} {K : PySem.W.Frag} {mg : Str → Option Value} {base : Heap}
def spCoats (K : PySem.W.Frag) : Sp := fun vs H Q _ => ∃ (a : Addr) (r : Rack), vs = [.ref a] ∧ SqL K H a (rk r) ∧ r.length ≤ 1000000 ∧
  ∀ (p : Addr) (H' : Hp), H p = none → Same H H' → H' p = some (.lst ((coats r).map V.int)) → Q (.ref p) H'
theorem scCoats : FnScope ["rack"] ["rack"] (defScope sCoats) := ⟨rfl, rfl, rfl, by decide +kernel, rfl, by decide +kernel, by decide +kernel⟩
theorem ok_coats {f : Addr} {fd : FuncData} (F : Fun K "coats_of" "coats_of" sCoats f fd) : FnOk P w K mg base CX0 1 f fd ["rack"] (spCoats K) := by
  refine F.ok scCoats (fun vs H Q E h => ?_) (fun cdv A outer s H vs Q E hr h => ?_)
  · obtain ⟨a, r, rfl, _⟩ := h
    rfl
  · obtain ⟨a, r, rfl, hS, hn, q⟩ := h
    refine ⟨_, pss_one (ps_ret (pe_comp rfl (pi_list (pv 0)) (by decide +kernel) (by decide +kernel) rfl (by decide +kernel) rfl (fun _ _ _ _ _ => pts_one (pt_cmp (pc_notN (pv 0)))) (fun _ _ _ _ _ => pv 0))), ?_⟩
    refine ⟨_, rfl, a, rfl, ⟨_, hS⟩, fun D hD => ?_⟩
    refine comp_list (K := K) (a := a) (xs := rk r) (fun i ys H1 => Same H H1 ∧ ys = (coats (r.take i)).map V.int ∧ H1 D = some (.lst ys)) ⟨Same.new hD, rfl, upd_same⟩ (fun i ys H1 _ ⟨s1, _, e⟩ => ⟨s1.seq hS, e⟩) ?_ ?_
    · rintro i x ys H1 hi ⟨s1, rfl, hDD⟩ N hN
      obtain ⟨o, ho, rfl⟩ : ∃ o, r[i]? = some o ∧ x = oV o := by
        unfold rk at hi
        rw [List.getElem?_map] at hi
        cases e : r[i]? with
        | none => rw [e] at hi; cases hi
        | some z => rw [e] at hi; exact ⟨z, rfl, (Option.some.inj hi).symm⟩
      have hc := coats_take ho
      refine ⟨_, rfl, _, rfl, ?_⟩
      cases o with
      | none =>
        refine iteNone rfl ?_
        refine hN _ _ ⟨s1, ?_, hDD⟩
        rw [hc]; simp
      | some c =>
        refine iteSome (by simp) ?_
        refine ⟨_, rfl, hDD, ?_, hN _ _ ⟨Same.upd s1 hD, ?_, upd_same⟩⟩
        · have h1 := coats_take_len r i
          have h2 := coats_le r
          rw [List.length_map, sizeLine_eq]; omega
        · rw [hc, List.map_append]; rfl
    · rintro ys H1 ⟨s1, rfl, hDD⟩
      rw [rk_length, List.take_length] at hDD
      exact q D H1 hD s1 hDD
end
end Peg
namespace Peg
open PySem L2
section
variable {P : Program} {w : World} {K : PySem.W.Frag} {mg : Str → Option Value} {base : Heap}
/-! ### first_free -/
def spFF (K : PySem.W.Frag) : Sp := fun vs H Q _ => ∃ (a : Addr) (r : Rack) (p : Int), vs = [.ref a, .int (p % (r.length : Int))] ∧ SqL K H a (rk r) ∧ Free r ∧ Q (.int ((p + far r p) % (r.length : Int))) H
theorem scFF : FnScope ["rack", "peg"] ["rack", "peg"] (defScope sFF) := ⟨rfl, rfl, rfl, by decide +kernel, rfl, by decide +kernel, by decide +kernel⟩
theorem ok_ff {f : Addr} {fd : FuncData} (F : Fun K "first_free" "first_free" sFF f fd) (cB : Cal P w K mg base 1 "peg_behind" ["peg", "size"] spBeh) (zl : mg "len" = none) : FnOk P w K mg base CX0 2 f fd ["rack", "peg"] (spFF K) := by
  refine F.ok scFF (fun vs H Q E h => ?_) (fun cdv A outer s H vs Q E hr h => ?_)
  · obtain ⟨a, r, p, rfl, _⟩ := h
    rfl
  · obtain ⟨a, r, p, rfl, hS, hF, q⟩ := h
    have h0 := hF.1
    have D := far_is hF p
    refine ⟨_, pss_cons (ps_while PassesOwn.never (pt_cmp (pc_notN (pe_ix ix_list (pv 0) (pv 1) (fun _ _ => rfl))))
        (pss_one (ps_set (i := 1) scFF.nd rfl (Or.inl rfl) (pe_fn cB hr (pa_cons (pv 1) (pa_cons (pe_callB call_lenN (by rfl) zl PySem.boot_len (pa_cons (pv 0) pa_nil)) pa_nil))))))
      (pss_one (ps_ret (pv 1))), ?_⟩
    refine ⟨fun m σ H1 => ∃ d : Nat, H1 = H ∧ σ = [some (.ref a), some (.int ((p + d) % (r.length : Int)))] ∧ d + m = far r p, ⟨far r p, 0, rfl, by simp [L2.start], by omega⟩, ?_⟩
    rintro m σ H1 ⟨d, rfl, rfl, hd⟩
    refine ⟨_, rfl, _, rfl, a, rk r, _, _, rfl, rfl, hS, atI_rk h0 (p + d), _, rfl, ?_⟩
    rcases Nat.eq_zero_or_pos m with z | z
    · subst z
      have e : d = far r p := by omega
      subst e
      refine iteNone D.fr ?_
      exact ⟨_, rfl, q⟩
    · refine iteSome (D.tk d (by omega)) ?_
      refine ⟨fun σ' H' => H' = H1 ∧ σ' = [some (.ref a), some (.int ((p + (d + 1 : Nat)) % (r.length : Int)))], fun σ' H' ⟨e1, e2⟩ => ⟨m - 1, by omega, d + 1, e1, e2, by omega⟩, ?_⟩
      refine ⟨_, rfl, _, rfl, a, rk r, _, rfl, .inl hS, rk_length r, _, _, rfl, by omega, rfl, ?_⟩
      rw [emod_succ]
      show [some (V.ref a), some (V.int ((p + d + 1) % (r.length : Int)))] = _
      rw [show p + (d : Int) + 1 = p + ((d + 1 : Nat) : Int) by omega]
end
end Peg
namespace Peg
open PySem L2
section
variable {P : Program} {w : World} {K : PySem.W.Frag} {mg : Str → Option Value} {base : Heap}
def spPegOf (K : PySem.W.Frag) : Sp := fun vs H Q _ => ∃ (a : Addr) (r : Rack) (c : Int), vs = [.ref a, .int c] ∧ SqL K H a (rk r) ∧ Sound r ∧ ∀ o, PegIs r c o → Q (oV o) H
theorem scPegOf : FnScope ["rack", "number", "peg"] ["rack", "number"] (defScope sPegOf) := ⟨rfl, rfl, rfl, by decide +kernel, rfl, by decide +kernel, by decide +kernel⟩
theorem ok_pegof {f : Addr} {fd : FuncData} (F : Fun K "peg_of" "peg_of" sPegOf f fd) (cO : Cal P w K mg base 1 "own_peg" ["number", "size"] spOwn) (cB : Cal P w K mg base 1 "peg_behind" ["peg", "size"] spBeh) (zl : mg "len" = none) :
    FnOk P w K mg base CX0 2 f fd ["rack", "number"] (spPegOf K) := by
  refine F.ok scPegOf (fun vs H Q E h => ?_) (fun cdv A outer s H vs Q E hr h => ?_)
  · obtain ⟨a, r, p, rfl, _⟩ := h
    rfl
  · obtain ⟨a, r, c, rfl, hS, S, q⟩ := h
    have h0 := S.pos
    obtain ⟨D, o, po, hb, hd, ho⟩ := peg_walk S c
    refine ⟨_, pss_cons (ps_set (i := 2) scPegOf.nd rfl (Or.inl rfl) (pe_fn cO hr (pa_cons (pv 1) (pa_cons (pe_callB call_lenN (by rfl) zl PySem.boot_len (pa_cons (pv 0) pa_nil)) pa_nil))))
      (pss_cons (ps_while PassesOwn.never (pt_cmp (pc_notN (pe_ix ix_list (pv 0) (pv 2) (fun _ _ => rfl))))
        (pss_cons (ps_if (pt_cmpR op_eq (pe_ix ix_list (pv 0) (pv 2) (fun _ _ => rfl)) (pv 1) (nomark _)) (pss_one (ps_ret (pv 2))) pss_nil)
        (pss_one (ps_set (i := 2) scPegOf.nd rfl (Or.inl rfl) (pe_fn cB hr (pa_cons (pv 2) (pa_cons (pe_callB call_lenN (by rfl) zl PySem.boot_len (pa_cons (pv 0) pa_nil)) pa_nil)))))))
      (pss_one (ps_ret pe_non))), ?_⟩
    refine ⟨_, rfl, _, rfl, a, rk r, _, rfl, .inl hS, rk_length r, _, _, rfl, by omega, ?_⟩
    refine ⟨fun m σ H1 => ∃ d : Nat, H1 = H ∧ σ = [some (.ref a), some (.int c), some (.int ((c + d) % (r.length : Int)))] ∧ d + m = D, ⟨D, 0, rfl, by simp [L2.start], by omega⟩, ?_⟩
    rintro m σ H1 ⟨d, rfl, rfl, hd'⟩
    refine ⟨_, rfl, _, rfl, a, rk r, _, _, rfl, rfl, hS, atI_rk h0 (c + d), _, rfl, ?_⟩
    rcases Nat.eq_zero_or_pos m with z | z
    · subst z
      have e : d = D := by omega
      subst e
      cases o with
      | none =>
        refine iteNone hd ?_
        exact q none po
      | some i =>
        refine iteSome (by rw [hd]; simp) ?_
        refine ⟨fun _ _ => False, fun _ _ z => z.elim, ?_⟩
        refine ⟨_, rfl, _, rfl, a, rk r, _, _, rfl, rfl, hS, atI_rk h0 (c + d), _, rfl, ?_⟩
        rw [hd]
        refine ⟨rfl, _, rfl, ?_⟩
        refine ite2 (fun _ => ?_) (fun z => absurd (decide_eq_true rfl) z)
        refine ⟨_, rfl, ?_⟩
        rw [ho i rfl]
        exact q (some i) po
    · obtain ⟨x, hx, hne⟩ := hb d (by omega)
      refine iteSome (by rw [hx]; simp) ?_
      refine ⟨fun σ' H' => H' = H1 ∧ σ' = [some (.ref a), some (.int c), some (.int ((c + (d + 1 : Nat)) % (r.length : Int)))], fun σ' H' ⟨e1, e2⟩ => ⟨m - 1, by omega, d + 1, e1, e2, by omega⟩, ?_⟩
      refine ⟨_, rfl, _, rfl, a, rk r, _, _, rfl, rfl, hS, atI_rk h0 (c + d), _, rfl, ?_⟩
      rw [hx]
      refine ⟨rfl, _, rfl, ?_⟩
      refine ite2 (fun z => absurd (of_decide_eq_true z) (by intro y; cases y; exact hne rfl)) (fun _ => ?_)
      refine ⟨_, rfl, _, rfl, a, rk r, _, rfl, .inl hS, rk_length r, _, _, rfl, by omega, rfl, ?_⟩
      rw [emod_succ]
      show [some (V.ref a), some (V.int c), some (V.int ((c + d + 1) % (r.length : Int)))] = _
      rw [show c + (d : Int) + 1 = c + ((d + 1 : Nat) : Int) by omega]
end
end Peg
namespace Peg
open PySem L2
section
variable {P : Program} {w : World} {K : PySem.W.Frag} {mg : Str → Option Value} {base : Heap}
/-! ### hung -/
def spHung (K : PySem.W.Frag) : Sp := fun vs H Q _ => ∃ (a : Addr) (r : Rack) (c : Int), vs = [.ref a, .int c] ∧ SqL K H a (rk r) ∧ Free r ∧
  ∀ (p : Addr) (H' : Hp), H p = none → Same H H' → H' p = some (.lst (rk (put r c))) → Q (.ref p) H'
theorem scHung : FnScope ["rack", "number", "behind", "peg"] ["rack", "number"] (defScope sHung) := ⟨rfl, rfl, rfl, by decide +kernel, rfl, by decide +kernel, by decide +kernel⟩
theorem ok_hung {f : Addr} {fd : FuncData} (F : Fun K "hung" "hung" sHung f fd) (cO : Cal P w K mg base 1 "own_peg" ["number", "size"] spOwn) (cF : Cal P w K mg base 2 "first_free" ["rack", "peg"] (spFF K)) (zl : mg "len" = none) (zs : mg "list" = none) :
    FnOk P w K mg base CX0 3 f fd ["rack", "number"] (spHung K) := by
  refine F.ok scHung (fun vs H Q E h => ?_) (fun cdv A outer s H vs Q E hr h => ?_)
  · obtain ⟨a, r, p, rfl, _⟩ := h
    rfl
  · obtain ⟨a, r, c, rfl, hS, hF, q⟩ := h
    have h0 := hF.1
    refine ⟨_, pss_cons (ps_set (i := 2) scHung.nd rfl (Or.inl rfl) (pe_callTy call_list_of (by rfl) zs PyProof.Rows.boot_list (pa_cons (pv 0) pa_nil)))
      (pss_cons (ps_set (i := 3) scHung.nd rfl (Or.inl rfl) (pe_fn cF hr (pa_cons (pv 0) (pa_cons (pe_fn cO (hr.mono (by first | decide | (show (0 : Int) < _; decide) | (rw [sizeLine_eq]; simp))) (pa_cons (pv 1) (pa_cons (pe_callB call_lenN (by rfl) zl PySem.boot_len (pa_cons (pv 0) pa_nil)) pa_nil))) pa_nil))))
      (pss_cons (ps_asg (pv 1) (pg_sub (pv 2) (pv 3) set_list))
      (pss_one (ps_ret (pv 2))))), ?_⟩
    refine ⟨_, rfl, a, rk r, rfl, .inl hS, fun l hl => ?_⟩
    have s1 : Same H (upd H l (.lst (rk r))) := Same.new hl
    refine ⟨_, rfl, _, rfl, _, rfl, a, rk r, _, rfl, .inl (s1.seq hS), rk_length r, _, _, rfl, by omega, a, r, c, rfl, s1.seq hS, hF, ?_⟩
    refine ⟨_, rfl, _, rfl, _, rfl, l, rk r, _, _, rfl, rfl, upd_same, ixN_rk h0 (c + far r c), _, rfl, ?_⟩
    refine q l _ hl (Same.upd s1 hl) ?_
    rw [upd_same]
    exact congrArg (fun z => some (HO.lst z)) (set_rk r (c + far r c) (some c))
end
end Peg
namespace Peg
open PySem L2
section
variable {P : Program} {w : World} {K : PySem.W.Frag} {mg : Str → Option Value} {base : Heap}
/-! ### taken -/
def spTaken (K : PySem.W.Frag) : Sp := fun vs H Q _ => ∃ (a : Addr) (r : Rack) (c i : Int), vs = [.ref a, .int c] ∧ SqL K H a (rk r) ∧ Sound r ∧ lk r i = some c ∧ 0 ≤ i ∧ i < r.length ∧
  ∀ (p : Addr) (H' : Hp), H p = none → Same H H' → H' p = some (.lst (rk (take r i))) → Q (.ref p) H'
theorem scTaken : FnScope ["rack", "number", "behind", "peg", "coat"] ["rack", "number"] (defScope sTaken) := ⟨rfl, rfl, rfl, by decide +kernel, rfl, by decide +kernel, by decide +kernel⟩
theorem ok_taken {f : Addr} {fd : FuncData} (F : Fun K "taken" "taken" sTaken f fd) (cB : Cal P w K mg base 1 "peg_behind" ["peg", "size"] spBeh) (cP : Cal P w K mg base 2 "peg_of" ["rack", "number"] (spPegOf K))
    (cH : Cal P w K mg base 3 "hung" ["rack", "number"] (spHung K)) (zl : mg "len" = none) (zs : mg "list" = none) : FnOk P w K mg base CX0 4 f fd ["rack", "number"] (spTaken K) := by
  refine F.ok scTaken (fun vs H Q E h => ?_) (fun cdv A outer s H vs Q E hr h => ?_)
  · obtain ⟨a, r, c, i, rfl, _⟩ := h
    rfl
  · obtain ⟨a, r, c, i, rfl, hS, S, hi, i0, i1, q⟩ := h
    have h0 := S.pos
    have M := far_is S.free i
    have hm := M.lt S.free
    have h1 : 0 < far r i := by
      rcases Nat.eq_zero_or_pos (far r i) with z | z
      · have := M.fr
        rw [z] at this
        simp at this
        rw [hi] at this; cases this
      · exact z
    have ei : i % (r.length : Int) = i := Int.emod_eq_of_lt i0 i1
    refine ⟨_, pss_cons (ps_set (i := 2) scTaken.nd rfl (Or.inl rfl) (pe_callTy call_list_of (by rfl) zs PyProof.Rows.boot_list (pa_cons (pv 0) pa_nil)))
      (pss_cons (ps_set (i := 3) scTaken.nd rfl (Or.inl rfl) (pe_fn cP (hr.mono (by first | decide | (show (0 : Int) < _; decide) | (rw [sizeLine_eq]; simp))) (pa_cons (pv 0) (pa_cons (pv 1) pa_nil))))
      (pss_cons (ps_asg pe_non (pg_sub (pv 2) (pv 3) set_list))
      (pss_cons (ps_set (i := 3) scTaken.nd rfl (Or.inl rfl) (pe_fn cB (hr.mono (by first | decide | (show (0 : Int) < _; decide) | (rw [sizeLine_eq]; simp))) (pa_cons (pv 3) (pa_cons (pe_callB call_lenN (by rfl) zl PySem.boot_len (pa_cons (pv 0) pa_nil)) pa_nil))))
      (pss_cons (ps_while PassesOwn.never (pt_cmp (pc_notN (pe_ix ix_list (pv 2) (pv 3) (fun _ _ => rfl))))
        (pss_cons (ps_set (i := 4) scTaken.nd rfl (Or.inl rfl) (pe_ix ix_list (pv 2) (pv 3) (fun _ _ => rfl)))
        (pss_cons (ps_asg pe_non (pg_sub (pv 2) (pv 3) set_list))
        (pss_cons (ps_set (i := 2) scTaken.nd rfl (Or.inl rfl) (pe_fn cH hr (pa_cons (pv 2) (pa_cons (pv 4) pa_nil))))
        (pss_one (ps_set (i := 3) scTaken.nd rfl (Or.inl rfl) (pe_fn cB (hr.mono (by first | decide | (show (0 : Int) < _; decide) | (rw [sizeLine_eq]; simp))) (pa_cons (pv 3) (pa_cons (pe_callB call_lenN (by rfl) zl PySem.boot_len (pa_cons (pv 0) pa_nil)) pa_nil)))))))))
      (pss_one (ps_ret (pv 2))))))), ?_⟩
    -- behind = list(rack)
    refine ⟨_, rfl, a, rk r, rfl, .inl hS, fun l hl => ?_⟩
    have s1 : Same H (upd H l (.lst (rk r))) := Same.new hl
    -- peg = peg_of(rack, number)
    refine ⟨_, rfl, _, rfl, a, r, c, rfl, s1.seq hS, S, fun o po => ?_⟩
    obtain rfl : o = some i := by
      cases o with
      | none => exact absurd hi (po i)
      | some j =>
        obtain ⟨j0, j1, hj⟩ := po
        have := S.uniq _ _ _ hj hi
        rw [Int.emod_eq_of_lt j0 j1, ei] at this
        rw [this]
    -- behind[peg] = None
    refine ⟨_, rfl, _, rfl, l, rk r, i, (i % (r.length : Int)).toNat, rfl, rfl, upd_same, by rw [← ixN_rk h0 i, ei], ?_⟩
    have s2 : Same H (upd (upd H l (.lst (rk r))) l (.lst ((rk r).set (i % (r.length : Int)).toNat V.non))) := Same.upd s1 hl
    -- peg = peg_behind(peg, len(rack))
    refine ⟨_, rfl, _, rfl, a, rk r, _, rfl, .inl (s2.seq hS), rk_length r, _, _, rfl, by omega, ?_⟩
    refine ⟨fun m σ H1 => ∃ (j : Nat) (b : Addr) (v : Option V), σ = [some (.ref a), some (.int c), some (.ref b), some (.int ((i + (j + 1 : Nat)) % (r.length : Int))), v] ∧ H b = none ∧ Same H H1 ∧ H1 b = some (.lst (rk (proR r i j))) ∧ j + 1 + m = far r i,
      ⟨far r i - 1, 0, l, none, ?_, hl, s2, ?_, by omega⟩, ?_⟩
    · show [some (V.ref a), some (V.int c), some (V.ref l), some (V.int ((i + 1) % (r.length : Int))), none] = _
      rfl
    · rw [upd_same]
      exact congrArg (fun z => some (HO.lst z)) (set_rk r i none)
    · rintro m σ H1 ⟨j, b, v, rfl, hb, s3, hB, hj⟩
      have lp : (proR r i j).length = r.length := proR_length r i j
      have hp0 : 0 < (proR r i j).length := by rw [lp]; exact h0
      have R := rel_all S M h1 j (by omega)
      have at1 : atI (rk (proR r i j)) ((i + (j + 1 : Nat)) % (r.length : Int)) = some (oV (lk (proR r i j) (i + (j + 1 : Nat)))) := by
        have := atI_rk hp0 (i + (j + 1 : Nat))
        rw [lp] at this; exact this
      refine ⟨_, rfl, _, rfl, b, rk (proR r i j), _, _, rfl, rfl, SqL.of hB, at1, _, rfl, ?_⟩
      rcases Nat.eq_zero_or_pos m with z | z
      · subst z
        have ej : j + 1 = far r i := by omega
        refine iteNone (by rw [ej]; exact R.end_) ?_
        refine ⟨_, rfl, q b H1 hb s3 ?_⟩
        rw [hB]
        have : take r i = proR r i j := by
          unfold take
          rw [← pro_law S M h1]
          rw [show far r i - 1 = j by omega]
        rw [this]
      · have hc := coat_of (M.tk (j + 1) (by omega))
        have hl1 := (R.later (j + 1) (Nat.lt_succ_self _) (by omega)).1
        rw [hc] at hl1
        refine iteSome (by rw [hl1]; simp) ?_
        refine ⟨fun σ' H' => ∃ (b' : Addr) (v' : Option V), σ' = [some (.ref a), some (.int c), some (.ref b'), some (.int ((i + (j + 1 + 1 : Nat)) % (r.length : Int))), v'] ∧ H b' = none ∧ Same H H' ∧ H' b' = some (.lst (rk (proR r i (j + 1)))),
          fun σ' H' ⟨b', v', e1, e2, e3, e4⟩ => ⟨m - 1, by omega, j + 1, b', v', e1, e2, e3, e4, by omega⟩, ?_⟩
        rw [hl1] at at1
        -- coat = behind[peg]; behind[peg] = None
        refine ⟨_, rfl, _, rfl, b, rk (proR r i j), _, _, rfl, rfl, SqL.of hB, at1, ?_⟩
        refine ⟨_, rfl, _, rfl, b, rk (proR r i j), _, ((i + (j + 1 : Nat)) % (r.length : Int)).toNat, rfl, rfl, hB, by rw [← lp]; exact ixN_rk hp0 _, ?_⟩
        have eset : (rk (proR r i j)).set ((i + (j + 1 : Nat)) % (r.length : Int)).toNat V.non = rk (st (proR r i j) (i + (j + 1 : Nat)) none) := by
          have := set_rk (proR r i j) (i + (j + 1 : Nat)) none
          rw [lp] at this; exact this
        rw [eset]
        have s4 : Same H (upd H1 b (.lst (rk (st (proR r i j) (i + (j + 1 : Nat)) none)))) := Same.upd s3 hb
        -- behind = hung(behind, coat)
        refine ⟨_, rfl, _, rfl, b, st (proR r i j) (i + (j + 1 : Nat)) none, coat r i (j + 1), rfl, SqL.of upd_same, ⟨by rw [st_length]; exact hp0, _, lk_st_same hp0 _ _⟩, fun p H2 hp s5 hP => ?_⟩
        have s6 := s4.trans s5
        refine ⟨_, rfl, _, rfl, a, rk r, _, rfl, .inl (s6.seq hS), rk_length r, _, _, rfl, by omega, p, some (V.int (coat r i (j + 1))), ?_, s4.free hp, s6, hP⟩
        rw [emod_succ]
        show [some (V.ref a), some (V.int c), some (V.ref p), some (V.int ((i + (j + 1 : Nat) + 1) % (r.length : Int))), some (V.int (coat r i (j + 1)))] = _
        rw [show i + ((j + 1 : Nat) : Int) + 1 = i + ((j + 1 + 1 : Nat) : Int) by omega]
end
end Peg
namespace Peg
open PySem L2
section
variable {P : Program} {w : World} {K : PySem.W.Frag} {mg : Str → Option Value} {base : Heap}
def spChanged (K : PySem.W.Frag) : Sp := fun vs H Q _ => ∃ (a : Addr) (r : Rack) (n : Nat), vs = [.ref a, .int (n : Int)] ∧ SqL K H a (rk r) ∧ (coats r).length < n ∧ n ≤ 1000000 ∧ r.length ≤ 1000000 ∧
  ∀ (p : Addr) (H' : Hp), H p = none → Same H H' → H' p = some (.lst (rk (change r n))) → Q (.ref p) H'
theorem scChanged : FnScope ["rack", "size", "behind", "coat"] ["rack", "size"] (defScope sChanged) := ⟨rfl, rfl, rfl, by decide +kernel, rfl, by decide +kernel, by decide +kernel⟩
theorem ok_changed {f : Addr} {fd : FuncData} (F : Fun K "changed" "changed" sChanged f fd) (cC : Cal P w K mg base 1 "coats_of" ["rack"] (spCoats K)) (cH : Cal P w K mg base 3 "hung" ["rack", "number"] (spHung K)) :
    FnOk P w K mg base CX0 4 f fd ["rack", "size"] (spChanged K) := by
  refine F.ok scChanged (fun vs H Q E h => ?_) (fun cdv A outer s H vs Q E hr h => ?_)
  · obtain ⟨a, r, n, rfl, _⟩ := h
    rfl
  · obtain ⟨a, r, n, rfl, hS, hcn, hn, hrn, q⟩ := h
    refine ⟨_, pss_cons (ps_set (i := 2) scChanged.nd rfl (Or.inl rfl) (pe_op op_rep (pe_lst (pa_cons pe_non pa_nil)) (pv 1)))
      (pss_cons (ps_for PassesOwn.never rfl (pi_list (pe_fn cC (hr.mono (by first | decide | (show (0 : Int) < _; decide) | (rw [sizeLine_eq]; simp))) (pa_cons (pv 0) pa_nil))) (pg_name (i := 3) scChanged.nd rfl (Or.inl rfl))
        (pss_one (ps_set (i := 2) scChanged.nd rfl (Or.inl rfl) (pe_fn cH hr (pa_cons (pv 2) (pa_cons (pv 3) pa_nil))))))
      (pss_one (ps_ret (pv 2)))), ?_⟩
    refine ⟨by first | decide | (show (0 : Int) < _; decide) | (rw [sizeLine_eq]; simp), fun l0 hl0 => ⟨_, rfl, l0, n, [V.non], rfl, rfl, upd_same, by omega, by omega, ?_, fun lb hlb0 => ?_⟩⟩
    · rw [sizeLine_eq]; simp; omega
    have s0 : Same H (upd H l0 (.lst [V.non])) := Same.new hl0
    have hlb : H lb = none := s0.free hlb0
    have er : (List.replicate (n : Int).toNat [V.non]).flatten = rk (empty n) := by rw [Int.toNat_natCast]; exact rep_empty n
    rw [er]
    have s1 := Same.upd (o := .lst (rk (empty n))) s0 hlb
    refine ⟨_, rfl, a, r, rfl, s1.seq hS, hrn, fun lc H2 hlc s2 hC2 => ?_⟩
    have s3 := s1.trans s2
    refine ⟨lc, rfl, ⟨_, SqL.of hC2⟩, for_list (K := K) (a := lc) (xs := (coats r).map V.int) (fun i σ H3 => ∃ (b : Addr) (v : Option V), σ = [some (.ref a), some (.int (n : Int)), some (.ref b), v] ∧ Same H2 H3 ∧ H b = none ∧ H3 b = some (.lst (rk (((coats r).take i).foldl put (empty n)))))
      ⟨lb, _, rfl, Same.refl H2, hlb, s2 _ _ upd_same⟩ (fun i σ H3 _ ⟨_, _, _, s4, _⟩ => SqL.of (s4 _ _ hC2)) ?_ ?_⟩
    · rintro i y σ H3 hi ⟨b, v, rfl, s4, hb, hB⟩
      obtain ⟨z, hz, rfl⟩ : ∃ z, (coats r)[i]? = some z ∧ y = V.int z := by
        rw [List.getElem?_map] at hi
        cases e : (coats r)[i]? with
        | none => rw [e] at hi; cases hi
        | some z => rw [e] at hi; exact ⟨z, rfl, (Option.some.inj hi).symm⟩
      have fr := (fold_free ((coats r).take i) (empty n) (by
        have h1 := List.length_take_le i (coats r)
        have h2 : ((coats r).take i).length ≤ (coats r).length := by rw [List.length_take]; omega
        rw [coats_empty, empty_length]; simp only [List.length_nil]; omega)).1
      refine ⟨_, rfl, _, rfl, b, _, z, rfl, SqL.of hB, fr, fun p H4 hp s5 hP => ?_⟩
      have s6 := s4.trans s5
      refine ⟨p, _, rfl, s6, (s3.trans s4).free hp, ?_⟩
      rw [List.take_add_one, hz, List.foldl_append]
      exact hP
    · rintro σ H3 ⟨b, v, rfl, s4, hb, hB⟩
      rw [List.length_map, List.take_length] at hB
      exact ⟨_, rfl, q b H3 hb (s3.trans s4) hB⟩
end
end Peg
namespace Peg
open PySem L2
section
variable {P : Program} {w : World} {K : PySem.W.Frag} {mg : Str → Option Value} {base : Heap}
def spScarce (K : PySem.W.Frag) : Sp := fun vs H Q _ => ∃ (a : Addr) (r : Rack), vs = [.ref a] ∧ SqL K H a (rk r) ∧ r.length ≤ 1000000 ∧
  ∀ H' : Hp, Same H H' → Q (.bl (decide (2 * (r.length : Int) < 3 * ((coats r).length : Int)))) H'
theorem scScarce : FnScope ["rack"] ["rack"] (defScope sScarce) := ⟨rfl, rfl, rfl, by decide +kernel, rfl, by decide +kernel, by decide +kernel⟩
theorem ok_scarce {f : Addr} {fd : FuncData} (F : Fun K "is_scarce" "is_scarce" sScarce f fd) (cC : Cal P w K mg base 1 "coats_of" ["rack"] (spCoats K)) (zl : mg "len" = none) : FnOk P w K mg base CX0 2 f fd ["rack"] (spScarce K) := by
  refine F.ok scScarce (fun vs H Q E h => ?_) (fun cdv A outer s H vs Q E hr h => ?_)
  · obtain ⟨a, r, rfl, _⟩ := h
    rfl
  · obtain ⟨a, r, rfl, hS, hn, q⟩ := h
    refine ⟨_, pss_one (ps_ret (pe_cmpR op_gt (pe_op op_mul pe_int (pe_callB call_lenN (by rfl) zl PySem.boot_len (pa_cons (pe_fn cC hr (pa_cons (pv 0) pa_nil)) pa_nil))) (pe_op op_mul pe_int (pe_callB call_lenN (by rfl) zl PySem.boot_len (pa_cons (pv 0) pa_nil))) (nomark _))), ?_⟩
    refine ⟨_, rfl, a, r, rfl, hS, hn, fun p H1 hp s1 hP => ?_⟩
    exact ⟨p, _, (coats r).length, rfl, .inl (SqL.of hP), by rw [List.length_map], _, _, rfl, rfl, .inl ⟨by first | decide | (show (0 : Int) < _; decide) | (rw [sizeLine_eq]; simp), by first | decide | (show (0 : Int) < _; decide) | (rw [sizeLine_eq]; simp)⟩, _, rfl, a, rk r, _, rfl, .inl (s1.seq hS), rk_length r, _, _, rfl, rfl, .inl ⟨by first | decide | (show (0 : Int) < _; decide) | (rw [sizeLine_eq]; simp), by first | decide | (show (0 : Int) < _; decide) | (rw [sizeLine_eq]; simp)⟩, _, _, rfl, rfl, q _ s1⟩
end
end Peg
namespace Peg
open PySem L2
section
variable {P : Program} {w : World} {K : PySem.W.Frag} {mg : Str → Option Value} {base : Heap}
/-- what a deed of kind k promises -/
def spDeed (k : Nat) : Sp := fun vs H Q _ => ∃ (a : Addr) (r : Rack) (c : Int) (cs : List Int) (n : Nat), vs = [.ref a, .int c] ∧ H a = some (.lst (rk r)) ∧ Ready r cs n ∧ n ≤ 1000 ∧
  ∀ (p a' : Addr) (H' : Hp), Same H H' → H p = none → H' p = some (.tup [.ref a', oV (told r (k, c))]) → H' a' = some (.lst (rk (after r (k, c)))) → Q (.ref p) H'
theorem scHang : FnScope ["rack", "number", "behind"] ["rack", "number"] (defScope sHang) := ⟨rfl, rfl, rfl, by decide +kernel, rfl, by decide +kernel, by decide +kernel⟩
theorem ok_hang {f : Addr} {fd : FuncData} (F : Fun K "hang" "hang" sHang f fd) (cP : Cal P w K mg base 2 "peg_of" ["rack", "number"] (spPegOf K)) (cH : Cal P w K mg base 3 "hung" ["rack", "number"] (spHung K)) (cS : Cal P w K mg base 2 "is_scarce" ["rack"] (spScarce K))
    (cC : Cal P w K mg base 4 "changed" ["rack", "size"] (spChanged K)) (zl : mg "len" = none) : FnOk P w K mg base CX0 5 f fd ["rack", "number"] (spDeed 0) := by
  refine F.ok scHang (fun vs H Q E h => ?_) (fun cdv A outer s H vs Q E hr h => ?_)
  · obtain ⟨a, r, c, cs, n, rfl, _⟩ := h
    rfl
  · obtain ⟨a, r, c, cs, n, rfl, hA, R, hn, q⟩ := h
    have hr2 : Room 2 _ := hr.mono (by first | decide | (show (0 : Int) < _; decide) | (rw [sizeLine_eq]; simp))
    have hr3 : Room 3 _ := hr.mono (by first | decide | (show (0 : Int) < _; decide) | (rw [sizeLine_eq]; simp))
    have rn := R.rn
    refine ⟨_, pss_cons (ps_if (pt_cmp (pc_notN (pe_fn cP hr2 (pa_cons (pv 0) (pa_cons (pv 1) pa_nil))))) (pss_one (ps_ret (pe_tup (pa_cons (pv 0) (pa_cons pe_non pa_nil))))) pss_nil)
      (pss_cons (ps_set (i := 2) scHang.nd rfl (Or.inl rfl) (pe_fn cH hr3 (pa_cons (pv 0) (pa_cons (pv 1) pa_nil))))
      (pss_cons (ps_if (pt_val (pe_fn cS hr2 (pa_cons (pv 2) pa_nil))) (pss_one (ps_set (i := 2) scHang.nd rfl (Or.inl rfl) (pe_fn cC hr (pa_cons (pv 2) (pa_cons (pe_op op_add (pe_op op_mul pe_int (pe_callB call_lenN (by rfl) zl PySem.boot_len (pa_cons (pv 2) pa_nil))) pe_int) pa_nil))))) pss_nil)
      (pss_one (ps_ret (pe_tup (pa_cons (pv 2) (pa_cons (pe_fn cP hr2 (pa_cons (pv 2) (pa_cons (pv 1) pa_nil))) pa_nil))))))), ?_⟩
    refine ⟨_, rfl, _, rfl, a, r, c, rfl, SqL.of hA, R.S, fun o po => ?_⟩
    obtain rfl := PegIs.uniq R.S (pegO_is r c) po
    refine ⟨_, rfl, ?_⟩
    by_cases hc : c ∈ cs
    · have hc' := (R.mem' c).mpr hc
      refine iteSome (by unfold pegO; rw [if_pos hc']; simp) ?_
      refine ⟨_, rfl, by first | decide | (show (0 : Int) < _; decide) | (rw [sizeLine_eq]; simp), fun p hp => ?_⟩
      refine q p a _ (Same.new hp) hp ?_ ?_
      · rw [upd_same]
        unfold told
        rw [if_pos hc', if_pos rfl]
        all_goals rfl
      · rw [upd_ne (ne_of_none hA hp), hA]
        unfold after
        rw [if_pos hc', if_neg (by simp)]
    · have hc' : c ∉ coats r := fun z => hc ((R.mem' c).mp z)
      refine iteNone (by unfold pegO; rw [if_neg hc']) ?_
      obtain ⟨S1, e1, m1⟩ := R.putS hc
      have R1 := R.hang hc
      refine ⟨_, rfl, _, rfl, a, r, c, rfl, SqL.of hA, R.S.free, fun b H1 hb s1 hB => ?_⟩
      dsimp only [tAsg, gName]
      refine seq_mid (fun σ' H' => ∃ b', σ' = [some (.ref a), some (.int c), some (.ref b')] ∧ Same H H' ∧ H' b' = some (.lst (rk (grown (put r c))))) (fun N hN => ?_) ?_
      · refine ⟨_, rfl, b, put r c, rfl, SqL.of hB, by rw [put_length]; omega, fun H2 s2 => ⟨_, rfl, ?_⟩⟩
        refine ite2 (fun z => ?_) (fun z => ?_)
        · have z' : 2 * (put r c).length < 3 * (coats (put r c)).length := by
            have := of_decide_eq_true z
            omega
          have ee : 2 * ((put r c).length : Int) + 1 = ((2 * (put r c).length + 1 : Nat) : Int) := by omega
          refine ⟨_, rfl, _, rfl, b, _, (put r c).length, rfl, .inl (SqL.of (s2 _ _ hB)), rk_length _, _, _, rfl, rfl, .inl ⟨by first | decide | (show (0 : Int) < _; decide) | (rw [sizeLine_eq]; simp), by first | decide | (show (0 : Int) < _; decide) | (rw [sizeLine_eq]; simp)⟩, _, _, rfl, rfl, b, put r c, 2 * (put r c).length + 1, congrArg (fun z => [V.ref b, V.int z]) ee, SqL.of (s2 _ _ hB), ?_, ?_, ?_, fun p H3 hp s3 hP => ?_⟩
          · rw [e1, put_length]
            have h1 := R.few
            have h2 := R.five
            omega
          · rw [put_length]; omega
          · rw [put_length]; omega
          refine hN _ _ ⟨p, rfl, (s1.trans s2).trans s3, ?_⟩
          rw [hP]
          unfold grown
          rw [if_pos z']
        · have z' : ¬ 2 * (put r c).length < 3 * (coats (put r c)).length := fun y => z (decide_eq_true (by omega))
          refine hN _ _ ⟨b, rfl, s1.trans s2, ?_⟩
          rw [s2 _ _ hB]
          unfold grown
          rw [if_neg z']
      · rintro σ H2 ⟨b', rfl, s2, hB2⟩
        refine ⟨_, rfl, _, rfl, _, rfl, b', grown (put r c), c, rfl, SqL.of hB2, R1.S, fun o po => ⟨by first | decide | (show (0 : Int) < _; decide) | (rw [sizeLine_eq]; simp), fun p hp => ?_⟩⟩
        refine q p b' _ (Same.upd s2 (s2.free hp)) (s2.free hp) ?_ ?_
        · rw [upd_same]
          have hh : Hangs (grown (put r c)) c := (R1.mem c).mpr (by simp)
          have : o = some (pegI (grown (put r c)) c) := PegIs.uniq R1.S po (show PegIs _ _ (some _) from pegI_is hh)
          rw [this]
          unfold told
          rw [if_neg hc', if_pos rfl]
        · rw [upd_ne (ne_of_none hB2 hp), hB2]
          unfold after
          rw [if_neg hc', if_pos rfl]
end
end Peg
namespace Peg
open PySem L2
section
variable {P : Program} {w : World} {K : PySem.W.Frag} {mg : Str → Option Value} {base : Heap}
theorem scTake : FnScope ["rack", "number", "peg"] ["rack", "number"] (defScope sTake) := ⟨rfl, rfl, rfl, by decide +kernel, rfl, by decide +kernel, by decide +kernel⟩
theorem ok_take {f : Addr} {fd : FuncData} (F : Fun K "take" "take" sTake f fd) (cP : Cal P w K mg base 2 "peg_of" ["rack", "number"] (spPegOf K)) (cT : Cal P w K mg base 4 "taken" ["rack", "number"] (spTaken K)) : FnOk P w K mg base CX0 5 f fd ["rack", "number"] (spDeed 1) := by
  refine F.ok scTake (fun vs H Q E h => ?_) (fun cdv A outer s H vs Q E hr h => ?_)
  · obtain ⟨a, r, c, cs, n, rfl, _⟩ := h
    rfl
  · obtain ⟨a, r, c, cs, n, rfl, hA, R, hn, q⟩ := h
    have hr2 : Room 2 _ := hr.mono (by first | decide | (show (0 : Int) < _; decide) | (rw [sizeLine_eq]; simp))
    refine ⟨_, pss_cons (ps_set (i := 2) scTake.nd rfl (Or.inl rfl) (pe_fn cP hr2 (pa_cons (pv 0) (pa_cons (pv 1) pa_nil))))
      (pss_cons (ps_if (pt_cmp (pc_isN (pv 2))) (pss_one (ps_ret (pe_tup (pa_cons (pv 0) (pa_cons pe_non pa_nil))))) pss_nil)
      (pss_one (ps_ret (pe_tup (pa_cons (pe_fn cT hr (pa_cons (pv 0) (pa_cons (pv 1) pa_nil))) (pa_cons (pv 2) pa_nil)))))), ?_⟩
    refine ⟨_, rfl, _, rfl, a, r, c, rfl, SqL.of hA, R.S, fun o po => ?_⟩
    obtain rfl := PegIs.uniq R.S (pegO_is r c) po
    refine ⟨_, rfl, _, rfl, ?_⟩
    by_cases hc : c ∈ coats r
    · obtain ⟨i0, i1, hi⟩ := pegI_is (mem_coats.mp hc)
      have eo : pegO r c = some (pegI r c) := by unfold pegO; rw [if_pos hc]
      rw [eo]
      refine isN_some ?_
      refine ⟨_, rfl, _, rfl, a, r, c, pegI r c, rfl, SqL.of hA, R.S, hi, i0, i1, fun b H1 hb s1 hB => ⟨_, rfl, by first | decide | (show (0 : Int) < _; decide) | (rw [sizeLine_eq]; simp), fun p hp => ?_⟩⟩
      refine q p b _ (Same.upd s1 (s1.free hp)) (s1.free hp) ?_ ?_
      · rw [upd_same]
        unfold told
        rw [if_pos hc, if_neg (by simp)]
        all_goals rfl
      · rw [upd_ne (ne_of_none hB hp), hB]
        unfold after
        rw [if_pos hc, if_pos rfl]
    · have eo : pegO r c = none := by unfold pegO; rw [if_neg hc]
      rw [eo]
      refine isN_none ?_
      refine ⟨_, rfl, by first | decide | (show (0 : Int) < _; decide) | (rw [sizeLine_eq]; simp), fun p hp => ?_⟩
      refine q p a _ (Same.new hp) hp ?_ ?_
      · rw [upd_same]
        unfold told
        rw [if_neg hc, if_neg (by simp)]
        all_goals rfl
      · rw [upd_ne (ne_of_none hA hp), hA]
        unfold after
        rw [if_neg hc, if_neg (by simp)]
end
end Peg
namespace Peg
open PySem L2
section
variable {P : Program} {w : World} {K : PySem.W.Frag} {mg : Str → Option Value} {base : Heap}
def spDone (K : PySem.W.Frag) : Sp := fun vs H Q _ => ∃ (a da : Addr) (r : Rack) (d : Deed) (cs : List Int) (n : Nat), vs = [.ref a, .ref da] ∧ H a = some (.lst (rk r)) ∧ SqT K H da (dT d) ∧ d.1 < 3 ∧ Ready r cs n ∧ n ≤ 1000 ∧
  ∀ (p a' : Addr) (H' : Hp), Same H H' → H p = none → H' p = some (.tup [.ref a', oV (told r d)]) → H' a' = some (.lst (rk (after r d))) → Q (.ref p) H'
theorem scDone : FnScope ["rack", "deed"] ["rack", "deed"] (defScope sDone) := ⟨rfl, rfl, rfl, by decide +kernel, rfl, by decide +kernel, by decide +kernel⟩
theorem ok_done {f : Addr} {fd : FuncData} (F : Fun K "done" "done" sDone f fd) (cP : Cal P w K mg base 2 "peg_of" ["rack", "number"] (spPegOf K)) (cH : Cal P w K mg base 5 "hang" ["rack", "number"] (spDeed 0)) (cT : Cal P w K mg base 5 "take" ["rack", "number"] (spDeed 1)) :
    FnOk P w K mg base CX0 6 f fd ["rack", "deed"] (spDone K) := by
  refine F.ok scDone (fun vs H Q E h => ?_) (fun cdv A outer s H vs Q E hr h => ?_)
  · obtain ⟨a, da, r, d, cs, n, rfl, _⟩ := h
    rfl
  · obtain ⟨a, da, r, ⟨k, c⟩, cs, n, rfl, hA, hD, hk, R, hn, q⟩ := h
    have hr2 : Room 2 _ := hr.mono (by first | decide | (show (0 : Int) < _; decide) | (rw [sizeLine_eq]; simp))
    refine ⟨_, pss_cons (ps_if (pt_cmpR op_eq (pe_ix ix_tup (pv 1) pe_int (fun _ _ => rfl)) pe_str (nomark _)) (pss_one (ps_ret (pe_fn cH hr (pa_cons (pv 0) (pa_cons (pe_ix ix_tup (pv 1) pe_int (fun _ _ => rfl)) pa_nil))))) pss_nil)
      (pss_cons (ps_if (pt_cmpR op_eq (pe_ix ix_tup (pv 1) pe_int (fun _ _ => rfl)) pe_str (nomark _)) (pss_one (ps_ret (pe_fn cT hr (pa_cons (pv 0) (pa_cons (pe_ix ix_tup (pv 1) pe_int (fun _ _ => rfl)) pa_nil))))) pss_nil)
      (pss_one (ps_ret (pe_tup (pa_cons (pv 0) (pa_cons (pe_fn cP hr2 (pa_cons (pv 0) (pa_cons (pe_ix ix_tup (pv 1) pe_int (fun _ _ => rfl)) pa_nil))) pa_nil)))))), ?_⟩
    have g0 : atI (dT (k, c)) 0 = some (.str (kS k)) := rfl
    have g1 : atI (dT (k, c)) 1 = some (.int c) := rfl
    refine ⟨_, rfl, da, dT (k, c), _, _, rfl, rfl, hD, g0, rfl, _, rfl, ?_⟩
    rw [kS_hang k]
    refine ite2 (fun z => ?_) (fun z => ?_)
    · obtain rfl : k = 0 := of_decide_eq_true z
      exact ⟨_, rfl, _, rfl, da, dT (0, c), _, _, rfl, rfl, hD, g1, a, r, c, cs, n, rfl, hA, R, hn, q⟩
    · have k0 : k ≠ 0 := fun y => z (decide_eq_true y)
      refine ⟨_, rfl, da, dT (k, c), _, _, rfl, rfl, hD, g0, rfl, _, rfl, ?_⟩
      rw [kS_take k]
      refine ite2 (fun z => ?_) (fun z => ?_)
      · obtain rfl : k = 1 := of_decide_eq_true z
        exact ⟨_, rfl, _, rfl, da, dT (1, c), _, _, rfl, rfl, hD, g1, a, r, c, cs, n, rfl, hA, R, hn, q⟩
      · have k1 : k ≠ 1 := fun y => z (decide_eq_true y)
        refine ⟨_, rfl, _, rfl, _, rfl, da, dT (k, c), _, _, rfl, rfl, hD, g1, a, r, c, rfl, SqL.of hA, R.S, fun o po => ⟨by rw [sizeLine_eq]; simp, fun p hp => ?_⟩⟩
        obtain rfl := PegIs.uniq R.S (pegO_is r c) po
        refine q p a _ (Same.new hp) hp ?_ ?_
        · rw [upd_same]
          unfold told pegO
          by_cases hc : c ∈ coats r
          · rw [if_pos hc, if_pos hc, if_neg k0]
          · rw [if_neg hc, if_neg hc, if_neg k0]
        · rw [upd_ne (ne_of_none hA hp), hA]
          unfold after
          by_cases hc : c ∈ coats r
          · rw [if_pos hc, if_neg k1]
          · rw [if_neg hc, if_neg k0]
end
end Peg
namespace Peg
open PySem L2
section
variable {P : Program} {w : World} {K : PySem.W.Frag} {mg : Str → Option Value} {base : Heap}
def spSteps (K : PySem.W.Frag) : Sp := fun vs H Q _ => ∃ (l : Addr) (das : List Addr) (ds : List Deed), vs = [.ref l] ∧ SqL K H l (das.map V.ref) ∧ DeedsAt K H das ds ∧ ds.length ≤ 900 ∧
  ∀ (p : Addr) (ts : List Addr) (H' : Hp), Same H H' → H p = none → H' p = some (.lst (ts.map V.ref)) → ts.length = ds.length + 1 → Walked H' ds ts p → Q (.ref p) H'
theorem scSteps : FnScope ["deeds", "rack", "walked", "deed", "step"] ["deeds"] (defScope sSteps) := ⟨rfl, rfl, rfl, by decide +kernel, rfl, by decide +kernel, by decide +kernel⟩
theorem ok_steps {f : Addr} {fd : FuncData} {ft : Tok} (F : Fun K "steps" "steps" sSteps f fd) (cD : Cal P w K mg base 6 "done" ["rack", "deed"] (spDone K)) (zf : mg "FIRST_SIZE" = some (.int 5 ft)) : FnOk P w K mg base CX0 7 f fd ["deeds"] (spSteps K) := by
  refine F.ok scSteps (fun vs H Q E h => ?_) (fun cdv A outer s H vs Q E hr h => ?_)
  · obtain ⟨l, das, ds, rfl, _⟩ := h
    rfl
  · obtain ⟨l, das, ds, rfl, hS, hDs, hn, q⟩ := h
    refine ⟨_, pss_cons (ps_set (i := 1) scSteps.nd rfl (Or.inl rfl) (pe_op op_rep (pe_lst (pa_cons pe_non pa_nil)) (pe_glob (v := .int 5) (by rfl) zf ⟨_, rfl⟩)))
      (pss_cons (ps_set (i := 2) scSteps.nd rfl (Or.inl rfl) (pe_lst (pa_cons (pe_tup (pa_cons (pv 1) (pa_cons pe_non pa_nil))) pa_nil)))
      (pss_cons (ps_for PassesOwn.never rfl (pi_list (pv 0)) (pg_name (i := 3) scSteps.nd rfl (Or.inl rfl))
        (pss_cons (ps_set (i := 4) scSteps.nd rfl (Or.inl rfl) (pe_fn cD hr (pa_cons (pv 1) (pa_cons (pv 3) pa_nil))))
        (pss_cons (ps_set (i := 1) scSteps.nd rfl (Or.inl rfl) (pe_ix ix_tup (pv 4) pe_int (fun _ _ => rfl)))
        (pss_one (ps_expr (pe_bm PySem.F.plainAttrs_list PySem.F.slot_list_append PySem.F.type_list_append mt_append (pv 2) (pa_cons (pv 4) pa_nil)))))))
      (pss_one (ps_ret (pv 2))))), ?_⟩
    refine ⟨by first | decide | (show (0 : Int) < _; decide) | (rw [sizeLine_eq]; simp), fun l0 hl0 => ⟨l0, 5, [V.non], rfl, rfl, upd_same, by first | decide | (show (0 : Int) < _; decide) | (rw [sizeLine_eq]; simp), by first | decide | (show (0 : Int) < _; decide) | (rw [sizeLine_eq]; simp), ?_, fun ra hra0 => ?_⟩⟩
    · rw [sizeLine_eq]; decide
    have s0 : Same H (upd H l0 (.lst [V.non])) := Same.new hl0
    have hra : H ra = none := s0.free hra0
    have er : (List.replicate (5 : Int).toNat [V.non]).flatten = rk (empty 5) := rep_empty 5
    rw [er]
    have s1 := Same.upd (o := .lst (rk (empty 5))) s0 hra
    refine ⟨_, rfl, by first | decide | (show (0 : Int) < _; decide) | (rw [sizeLine_eq]; simp), fun t0 ht0 => ⟨by first | decide | (show (0 : Int) < _; decide) | (rw [sizeLine_eq]; simp), fun wl hwl0 => ?_⟩⟩
    have ht : H t0 = none := s1.free ht0
    have s2 := Same.upd (o := .tup [V.ref ra, V.non]) s1 ht
    have hwl : H wl = none := s2.free hwl0
    have s3 := Same.upd (o := .lst [V.ref t0]) s2 hwl
    have nrt : ra ≠ t0 := ne_of_none upd_same ht0
    have ntw : t0 ≠ wl := ne_of_none upd_same hwl0
    have nrw : ra ≠ wl := ne_of_none (show (upd (upd (upd H l0 (.lst [V.non])) ra (.lst (rk (empty 5)))) t0 (.tup [V.ref ra, V.non])) ra = some (.lst (rk (empty 5))) by rw [upd_ne nrt, upd_same]) hwl0
    have hR0 : (upd (upd (upd (upd H l0 (.lst [V.non])) ra (.lst (rk (empty 5)))) t0 (.tup [V.ref ra, V.non])) wl (.lst [V.ref t0])) ra = some (.lst (rk (empty 5))) := by rw [upd_ne nrw, upd_ne nrt, upd_same]
    refine ⟨_, rfl, l, rfl, ⟨_, s3.seq hS⟩, for_list (K := K) (a := l) (xs := das.map V.ref) (fun i σ H1 => ∃ (a' : Addr) (v3 v4 : Option V) (ts : List Addr), σ = [some (.ref l), some (.ref a'), some (.ref wl), v3, v4] ∧ Same H H1 ∧ a' ≠ wl ∧
      H1 a' = some (.lst (rk (rackAt (ds.take i)))) ∧ H1 wl = some (.lst (ts.map V.ref)) ∧ ts.length = i + 1 ∧ Walked H1 ds ts wl) ?_ (fun i σ H1 _ ⟨_, _, _, _, _, s4, _⟩ => s4.seq hS) ?_ ?_⟩
    · refine ⟨ra, _, _, [t0], rfl, s3, nrw, hR0, upd_same, rfl, fun j t hj => ?_⟩
      cases j with
      | zero =>
        obtain rfl : t0 = t := by simpa using hj
        exact ⟨ntw, ra, nrw, by rw [upd_ne ntw, upd_same]; rfl, hR0⟩
      | succ j => simp at hj
    · rintro i y σ H1 hi ⟨a', v3, v4, ts, rfl, s4, naw, hA, hW, htl, Wk⟩
      obtain ⟨da, hda, rfl⟩ := refs_get hi
      have hil : i < ds.length := by
        have := (List.getElem?_eq_some_iff.mp hda).1
        rw [hDs.len] at this
        exact this
      have hdi : ds[i]? = some ds[i] := List.getElem?_eq_getElem hil
      have R := ready_at (ds.take i)
      rw [List.length_take, Nat.min_eq_left (Nat.le_of_lt hil)] at R
      refine ⟨_, rfl, _, rfl, a', da, rackAt (ds.take i), ds[i], _, i, rfl, hA, Same.tup s4 (hDs.get i da _ hda hdi), hDs.kind _ (List.getElem_mem hil), R, by omega, fun p b H2 s5 hp hP hB => ?_⟩
      have s6 := s4.trans s5
      have hW2 := s5 _ _ hW
      have eR : rackAt (ds.take (i + 1)) = after (rackAt (ds.take i)) ds[i] := by
        rw [List.take_add_one, hdi]
        exact rackAt_snoc _ _
      have R2 := R.after ds[i]
      have nbw : b ≠ wl := fun z => by
        subst z
        rw [hB] at hW2
        injection hW2 with hW2
        injection hW2 with hW2
        exact rk_ne_refs R2.S.pos ts hW2
      have npw : p ≠ wl := fun z => by
        subst z
        rw [hP] at hW2
        injection hW2 with hW2
        cases hW2
      refine ⟨_, rfl, p, _, _, _, rfl, rfl, SqT.of hP, rfl, ?_⟩
      refine ⟨_, rfl, .inl ⟨rfl, _, SqL.of hW2⟩, _, rfl, wl, ts.map V.ref, _, rfl, rfl, hW2, ?_, ?_⟩
      · rw [sizeLine_eq, List.length_map]; omega
      refine ⟨b, _, _, ts ++ [p], rfl, Same.upd s6 hwl, nbw, by rw [upd_ne nbw, hB, eR], by rw [upd_same, List.map_append]; rfl, by rw [List.length_append, htl]; rfl, fun j t hj => ?_⟩
      rcases Nat.lt_or_ge j ts.length with hjl | hjl
      · rw [List.getElem?_append_left hjl] at hj
        exact ((Wk.same s5).upd _) j t hj
      · rw [List.getElem?_append_right hjl] at hj
        have ej : j = i + 1 := by
          have := (List.getElem?_eq_some_iff.mp hj).1
          simp at this
          omega
        subst ej
        rw [htl, Nat.sub_self] at hj
        obtain rfl : p = t := by simpa using hj
        refine ⟨npw, b, nbw, ?_, by rw [upd_ne nbw, hB, eR]⟩
        rw [upd_ne npw, hP, toldAt_succ hdi]
    · rintro σ H1 ⟨a', v3, v4, ts, rfl, s4, naw, hA, hW, htl, Wk⟩
      rw [List.length_map, hDs.len] at htl
      exact ⟨_, rfl, q wl ts H1 s4 hwl hW htl Wk⟩
end
end Peg
namespace Peg
open PySem L2
section
variable {P : Program} {w : World} {K : PySem.W.Frag} {mg : Str → Option Value} {base : Heap}
def spBehind (K : PySem.W.Frag) : Sp := fun vs H Q _ => ∃ (l : Addr) (das : List Addr) (ds : List Deed), vs = [.ref l] ∧ SqL K H l (das.map V.ref) ∧ DeedsAt K H das ds ∧ ds.length ≤ 900 ∧
  ∀ (p : Addr) (H' : Hp), Same H H' → H' p = some (.lst (rk (rackAt ds))) → Q (.ref p) H'
theorem scBehind : FnScope ["deeds"] ["deeds"] (defScope sBehind) := ⟨rfl, rfl, rfl, by decide +kernel, rfl, by decide +kernel, by decide +kernel⟩
theorem ok_behind {f : Addr} {fd : FuncData} (F : Fun K "rack_behind" "rack_behind" sBehind f fd) (cS : Cal P w K mg base 7 "steps" ["deeds"] (spSteps K)) : FnOk P w K mg base CX0 8 f fd ["deeds"] (spBehind K) := by
  refine F.ok scBehind (fun vs H Q E h => ?_) (fun cdv A outer s H vs Q E hr h => ?_)
  · obtain ⟨l, das, ds, rfl, _⟩ := h
    rfl
  · obtain ⟨l, das, ds, rfl, hS, hDs, hn, q⟩ := h
    refine ⟨_, pss_one (ps_ret (pe_ix ix_tup (pe_ix ix_list (pe_fn cS hr (pa_cons (pv 0) pa_nil)) (pe_un un_neg pe_int) (fun _ _ => rfl)) pe_int (fun _ _ => rfl))), ?_⟩
    refine ⟨_, rfl, l, das, ds, rfl, hS, hDs, hn, fun p ts H1 s1 hp hP htl Wk => ?_⟩
    have hlast : ts[ds.length]? = some (ts[ts.length - 1]'(by omega)) := by
      rw [List.getElem?_eq_getElem (by omega)]
      congr 1
      congr 1
      omega
    obtain ⟨_, a, _, hT, hA⟩ := Wk _ _ hlast
    rw [List.take_length] at hA
    have at1 : atI (ts.map V.ref) (-1) = some (V.ref (ts[ts.length - 1]'(by omega))) := by
      have h1 : (ts.map V.ref)[ts.length - 1]? = some (V.ref (ts[ts.length - 1]'(by omega))) := by
        rw [List.getElem?_map, List.getElem?_eq_getElem (by omega)]
        rfl
      unfold atI ixN
      rw [if_neg (by first | decide | (show (0 : Int) < _; decide) | (rw [sizeLine_eq]; simp)), if_pos (by rw [List.length_map]; omega)]
      show (ts.map V.ref)[(-1 + ((ts.map V.ref).length : Int)).toNat]? = _
      rw [List.length_map, show (-1 + (ts.length : Int)).toNat = ts.length - 1 by omega]
      exact h1
    refine ⟨_, rfl, p, _, _, _, rfl, rfl, SqL.of hP, at1, _, _, _, _, rfl, rfl, SqT.of hT, rfl, ?_⟩
    exact q a H1 s1 hA
end
end Peg
namespace Peg
open PySem L2
/-- pegs and coats behind the j-th deed -/
def sizeT (ds : List Deed) (j : Nat) : List V := [.int ((rackAt (ds.take (j + 1))).length : Int), .int ((coats (rackAt (ds.take (j + 1)))).length : Int)]
section
variable {P : Program} {w : World} {K : PySem.W.Frag} {mg : Str → Option Value} {base : Heap}
def spSizes (K : PySem.W.Frag) : Sp := fun vs H Q _ => ∃ (l : Addr) (das : List Addr) (ds : List Deed), vs = [.ref l] ∧ SqL K H l (das.map V.ref) ∧ DeedsAt K H das ds ∧ ds.length ≤ 900 ∧
  ∀ (p : Addr) (ts : List Addr) (H' : Hp), Same H H' → H p = none → H' p = some (.lst (ts.map V.ref)) → ts.length = ds.length → (∀ (j : Nat) t, ts[j]? = some t → H' t = some (.tup (sizeT ds j))) → Q (.ref p) H'
theorem scSizes : FnScope ["deeds"] ["deeds"] (defScope sSizes) := ⟨rfl, rfl, rfl, by decide +kernel, rfl, by decide +kernel, by decide +kernel⟩
theorem ok_sizes {f : Addr} {fd : FuncData} (F : Fun K "sizes" "sizes" sSizes f fd) (cS : Cal P w K mg base 7 "steps" ["deeds"] (spSteps K)) (cC : Cal P w K mg base 1 "coats_of" ["rack"] (spCoats K)) (zl : mg "len" = none) : FnOk P w K mg base CX0 8 f fd ["deeds"] (spSizes K) := by
  refine F.ok scSizes (fun vs H Q E h => ?_) (fun cdv A outer s H vs Q E hr h => ?_)
  · obtain ⟨l, das, ds, rfl, _⟩ := h
    rfl
  · obtain ⟨l, das, ds, rfl, hS, hDs, hn, q⟩ := h
    have hr1 : Room 1 _ := hr.mono (by first | decide | (show (0 : Int) < _; decide) | (rw [sizeLine_eq]; simp))
    refine ⟨_, pss_one (ps_ret (pe_comp rfl (pi_list (pe_slice sl_list (pe_fn cS hr (pa_cons (pv 0) pa_nil)) (po_some pe_int) po_none)) (by decide +kernel) (by decide +kernel) rfl (by decide +kernel) rfl (fun _ _ _ _ _ => pts_nil)
      (fun _ _ _ _ _ => pe_tup (pa_cons (pe_callB (r := rLenN K) call_lenN (by rfl) zl PySem.boot_len (pa_cons (pe_ix (r := rIxT K) ix_tup (pv 0) pe_int (fun _ _ => rfl)) pa_nil)) (pa_cons (pe_callB (r := rLenN K) call_lenN (by rfl) zl PySem.boot_len (pa_cons (pe_fn cC hr1 (pa_cons (pe_ix (r := rIxT K) ix_tup (pv 0) pe_int (fun _ _ => rfl)) pa_nil)) pa_nil)) pa_nil))))), ?_⟩
    refine ⟨_, rfl, l, das, ds, rfl, hS, hDs, hn, fun p ts H1 s1 hp hP htl Wk => ?_⟩
    refine ⟨_, rfl, p, _, rfl, SqL.of hP, fun l2 hl2 => ?_⟩
    rw [cut_tail]
    have s2 := Same.upd (o := .lst ((ts.drop 1).map V.ref)) s1 (s1.free hl2)
    have Wk2 := Wk.same (Same.new (o := .lst ((ts.drop 1).map V.ref)) hl2)
    have hL2 : (upd H1 l2 (.lst ((ts.drop 1).map V.ref))) l2 = some (.lst ((ts.drop 1).map V.ref)) := upd_same
    generalize upd H1 l2 (.lst ((ts.drop 1).map V.ref)) = H2 at s2 Wk2 hL2
    refine ⟨l2, rfl, ⟨_, SqL.of hL2⟩, fun D hD => ?_⟩
    refine comp_list (K := K) (a := l2) (xs := (ts.drop 1).map V.ref) (fun i ys H3 => ∃ us : List Addr, Same H2 H3 ∧ ys = us.map V.ref ∧ H3 D = some (.lst ys) ∧ us.length = i ∧ ∀ (j : Nat) t, us[j]? = some t → t ≠ D ∧ H3 t = some (.tup (sizeT ds j)))
      ⟨[], Same.new hD, rfl, upd_same, rfl, fun j t h => by simp at h⟩ (fun i ys H3 _ ⟨_, s3, _, e, _⟩ => ⟨SqL.of (s3 _ _ hL2), e⟩) ?_ ?_
    · rintro i x ys H3 hi ⟨us, s3, rfl, hDD, hul, hU⟩ N hN
      obtain ⟨t, ht, rfl⟩ := refs_get hi
      rw [List.getElem?_drop] at ht
      have hil : i < ds.length := by
        have := (List.getElem?_eq_some_iff.mp ht).1
        omega
      obtain ⟨_, a, _, hT, hA⟩ := Wk2 _ t ht
      rw [Nat.add_comm] at hT hA
      have R := ready_at (ds.take (i + 1))
      rw [List.length_take, Nat.min_eq_left hil] at R
      have rn := R.rn
      have hT3 := s3 _ _ hT
      have hA3 := s3 _ _ hA
      refine iteT ?_
      refine ⟨_, rfl, t, _, _, _, rfl, rfl, SqT.of hT3, rfl, a, _, (rackAt (ds.take (i + 1))).length, rfl, .inl (SqL.of hA3), rk_length _, _, rfl, t, _, _, _, rfl, rfl, SqT.of hT3, rfl, a, _, rfl, SqL.of hA3, by omega, fun lc H4 hlc s4 hC => ?_⟩
      refine ⟨lc, _, (coats (rackAt (ds.take (i + 1)))).length, rfl, .inl (SqL.of hC), by rw [List.length_map], by first | decide | (show (0 : Int) < _; decide) | (rw [sizeLine_eq]; simp), fun tp htp => ?_⟩
      have s5 := Same.new (o := .tup [.int ((rackAt (ds.take (i + 1))).length : Int), .int ((coats (rackAt (ds.take (i + 1)))).length : Int)]) htp
      have hD5 := s5 _ _ (s4 _ _ hDD)
      have ntD : tp ≠ D := (ne_of_none (s4 _ _ hDD) htp).symm
      refine ⟨hD5, by rw [List.length_map, sizeLine_eq]; omega, hN _ _ ⟨us ++ [tp], Same.upd ((s3.trans s4).trans s5) hD, by rw [List.map_append]; rfl, upd_same, by rw [List.length_append, hul]; rfl, fun j t' hj => ?_⟩⟩
      rcases Nat.lt_or_ge j us.length with hjl | hjl
      · rw [List.getElem?_append_left hjl] at hj
        obtain ⟨g1, g2⟩ := hU j t' hj
        exact ⟨g1, by rw [upd_ne g1]; exact s5 _ _ (s4 _ _ g2)⟩
      · rw [List.getElem?_append_right hjl] at hj
        have ej : j = i := by
          have := (List.getElem?_eq_some_iff.mp hj).1
          simp at this
          omega
        subst ej
        rw [hul, Nat.sub_self] at hj
        obtain rfl : tp = t' := by simpa using hj
        exact ⟨ntD, by rw [upd_ne ntD, upd_same]; rfl⟩
    · rintro ys H3 ⟨us, s3, rfl, hDD, hul, hU⟩
      rw [List.length_map, List.length_drop, htl, Nat.add_sub_cancel] at hul
      exact q D us H3 (s2.trans s3) (s2.free hD) hDD hul fun j t h => (hU j t h).2
end
end Peg
namespace Peg
open PySem L2
section
variable {P : Program} {w : World} {K : PySem.W.Frag} {mg : Str → Option Value} {base : Heap}
/-! ### the law's small defs -/
def spDraw : Sp := fun vs H Q _ => ∃ (n p m : Int), vs = [.int n, .int p, .int m] ∧ 0 < p ∧ 0 < m ∧ Q (.int (n * 48271 % p % m)) H
theorem scDraw : FnScope ["_law_number", "_law_prime", "_law_many"] ["_law_number", "_law_prime", "_law_many"] (defScope sDraw) := ⟨rfl, rfl, rfl, by decide +kernel, rfl, by decide +kernel, by decide +kernel⟩
theorem ok_draw {f : Addr} {fd : FuncData} (F : Fun K "_law_draw" "_law_draw" sDraw f fd) : FnOk P w K mg base CX0 1 f fd ["_law_number", "_law_prime", "_law_many"] spDraw := by
  refine F.ok scDraw (fun vs H Q E h => ?_) (fun cdv A outer s H vs Q E hr h => ?_)
  · obtain ⟨n, p, m, rfl, _⟩ := h
    rfl
  · obtain ⟨n, p, m, rfl, hp, hm, q⟩ := h
    refine ⟨_, pss_one (ps_ret (pe_op op_mod (pe_op op_mod (pe_op op_mul (pv 0) pe_int) (pv 1)) (pv 2))), ?_⟩
    exact ⟨_, rfl, _, _, rfl, rfl, .inr ⟨by first | decide | (show (0 : Int) < _; decide) | (rw [sizeLine_eq]; simp), by first | decide | (show (0 : Int) < _; decide) | (rw [sizeLine_eq]; simp)⟩, _, rfl, _, _, rfl, rfl, hp, _, rfl, _, _, rfl, rfl, hm, q⟩
end
end Peg
namespace Peg
open PySem L2
section
variable {P : Program} {w : World} {K : PySem.W.Frag} {mg : Str → Option Value} {base : Heap}
def spWhole : Sp := fun vs H Q _ => ∃ (i : Int), vs = [.int i] ∧ Q (.bl true) H
theorem scWhole : FnScope ["_law_found"] ["_law_found"] (defScope sWhole) := ⟨rfl, rfl, rfl, by decide +kernel, rfl, by decide +kernel, by decide +kernel⟩
theorem ok_whole {f : Addr} {fd : FuncData} (F : Fun K "_law_whole" "_law_whole" sWhole f fd) (zi : mg "isinstance" = none) (zn : mg "int" = none) (zb : mg "bool" = none)
    (k1 : PySem.W.kitOne K (.type "int") (.type "int") = some true) (k2 : PySem.W.kitOne K (.type "int") (.type "bool") = some false) : FnOk P w K mg base CX0 1 f fd ["_law_found"] spWhole := by
  refine F.ok scWhole (fun vs H Q E h => ?_) (fun cdv A outer s H vs Q E hr h => ?_)
  · obtain ⟨n, rfl, _⟩ := h
    rfl
  · obtain ⟨n, rfl, q⟩ := h
    refine ⟨_, pss_one (ps_ret (pe_and (pe_callB call_isi (by rfl) zi PyProof.Rows.boot_isinstance (pa_cons (pv 0) (pa_cons (pe_bltn (v := .ty "int") (by rfl) zn PyProof.Rows.boot_int rfl) pa_nil)))
      (pe_one (pe_not (pe_callB call_isi (by rfl) zi PyProof.Rows.boot_isinstance (pa_cons (pv 0) (pa_cons (pe_bltn (v := .ty "bool") (by rfl) zb PyProof.Rows.boot_bool rfl) pa_nil))))))), ?_⟩
    refine ⟨_, rfl, _, _, "int", true, rfl, TyOf.int n, k1, _, rfl, iteT ?_⟩
    exact ⟨_, rfl, _, _, "bool", false, rfl, TyOf.int n, k2, _, rfl, q⟩
end
end Peg
namespace Peg
open PySem L2
section
variable {P : Program} {w : World} {K : PySem.W.Frag} {mg : Str → Option Value} {base : Heap}
/-! ### _law_sound, of a rack that is sound -/
def spSound (K : PySem.W.Frag) : Sp := fun vs H Q _ => ∃ (a b : Addr) (r : Rack) (cs : List Int), vs = [.ref a, .ref b] ∧ H a = some (.lst (rk r)) ∧ SqL K H b (cs.map V.int) ∧ Sound r ∧ (coats r).Perm cs ∧ r.length ≤ 1000000 ∧ ∀ H', Same H H' → Q (.bl true) H'
theorem scSound : FnScope ["_law_found", "_law_coats", "_law_size", "_law_hangs", "_law_peg", "_law_spot"] ["_law_found", "_law_coats"] (defScope sSound) := ⟨rfl, rfl, rfl, by decide +kernel, rfl, by decide +kernel, by decide +kernel⟩
theorem ok_sound {f : Addr} {fd : FuncData} (F : Fun K "_law_sound" "_law_sound" sSound f fd) (cW : Cal P w K mg base 1 "_law_whole" ["_law_found"] spWhole) (zi : mg "isinstance" = none) (zs : mg "list" = none) (zl : mg "len" = none) (zr : mg "range" = none) (zo : mg "sorted" = none)
    (k1 : PySem.W.kitOne K (.type "list") (.type "list") = some true) : FnOk P w K mg base CX0 2 f fd ["_law_found", "_law_coats"] (spSound K) := by
  refine F.ok scSound (fun vs H Q E h => ?_) (fun cdv A outer s H vs Q E hr h => ?_)
  · obtain ⟨a, b, r, cs, rfl, _⟩ := h
    rfl
  · obtain ⟨a, b, r, cs, rfl, hA, hB, S, hP, hn, q⟩ := h
    have h0 := S.pos
    refine ⟨_, pss_cons (ps_if (pt_not (pt_val (pe_callB call_isi (by rfl) zi PyProof.Rows.boot_isinstance (pa_cons (pv 0) (pa_cons (pe_bltn (v := .ty "list") (by rfl) zs PyProof.Rows.boot_list rfl) pa_nil))))) (pss_one (ps_ret pe_bl)) pss_nil)
      (pss_cons (ps_set (i := 2) scSound.nd rfl (Or.inl rfl) (pe_callB call_lenN (by rfl) zl PySem.boot_len (pa_cons (pv 0) pa_nil)))
      (pss_cons (ps_set (i := 3) scSound.nd rfl (Or.inl rfl) (pe_lst pa_nil))
      (pss_cons (ps_for PassesOwn.never rfl (pi_range1 (by rfl) zr (pa_cons (pv 2) pa_nil)) (pg_name (i := 4) scSound.nd rfl (Or.inl rfl))
        (pss_one (ps_if (pt_cmp (pc_notN (pe_ix ix_list (pv 0) (pv 4) (fun _ _ => rfl))))
          (pss_cons (ps_if (pt_not (pt_val (pe_fn cW hr (pa_cons (pe_ix ix_list (pv 0) (pv 4) (fun _ _ => rfl)) pa_nil)))) (pss_one (ps_ret pe_bl)) pss_nil)
          (pss_cons (ps_expr (pe_bm PySem.F.plainAttrs_list PySem.F.slot_list_append PySem.F.type_list_append mt_append (pv 3) (pa_cons (pe_ix ix_list (pv 0) (pv 4) (fun _ _ => rfl)) pa_nil)))
          (pss_cons (ps_set (i := 5) scSound.nd rfl (Or.inl rfl) (pe_op op_mod (pe_ix ix_list (pv 0) (pv 4) (fun _ _ => rfl)) (pv 2)))
          (pss_one (ps_while PassesOwn.never (pt_cmpR op_ne (pv 5) (pv 4) (nomark _))
            (pss_cons (ps_if (pt_cmp (pc_isN (pe_ix ix_list (pv 0) (pv 5) (fun _ _ => rfl)))) (pss_one (ps_ret pe_bl)) pss_nil)
            (pss_one (ps_set (i := 5) scSound.nd rfl (Or.inl rfl) (pe_op op_mod (pe_op op_add (pv 5) pe_int) (pv 2))))))))))
          pss_nil)))
      (pss_one (ps_ret (pe_and (pe_cmpR (op_eqLL hr.units0) (pe_callB call_sortedI (by rfl) zo PyProof.Rows.boot_sorted (pa_cons (pv 3) pa_nil)) (pe_callB call_sortedI (by rfl) zo PyProof.Rows.boot_sorted (pa_cons (pv 1) pa_nil)) (nomark _))
        (pe_one (pe_cmpR op_lt (pe_callB call_lenN (by rfl) zl PySem.boot_len (pa_cons (pv 3) pa_nil)) (pv 2) (nomark _))))))))), ?_⟩
    refine ⟨_, rfl, _, _, "list", true, rfl, TyOf.lst hA, k1, _, rfl, iteF ?_⟩
    refine ⟨_, rfl, a, rk r, _, rfl, .inl (SqL.of hA), rk_length r, ?_⟩
    refine ⟨by first | decide | (rw [sizeLine_eq]; simp), fun hl hhl => ?_⟩
    have nal : a ≠ hl := ne_of_none hA hhl
    refine ⟨_, rfl, _, rfl, by omega, by omega, for_range (lo := 0) (fun i σ H1 => Same H H1 ∧ H1 hl = some (.lst ((coats (r.take i)).map V.int)) ∧ ∃ v4 v5, σ = [some (.ref a), some (.ref b), some (.int (r.length : Int)), some (.ref hl), v4, v5]) ⟨Same.new hhl, upd_same, none, none, rfl⟩ ?_ ?_⟩
    · rintro i σ H1 hi ⟨s1, hL, v4, v5, rfl⟩
      have hi' : i < r.length := by omega
      have at1 := atI_rk_nat hi'
      have hA1 : SqL K H1 a (rk r) := SqL.of (s1 _ _ hA)
      cases e : lk r (i : Int) with
      | none =>
        rw [e] at at1
        refine ⟨_, rfl, _, rfl, a, rk r, _, _, rfl, rfl, hA1, at1, _, rfl, iteNone rfl ?_⟩
        refine ⟨s1, ?_, _, _, rfl⟩
        rw [hL, coats_take (get_nat hi'), e]
        simp
      | some c =>
        rw [e] at at1
        refine ⟨_, rfl, _, rfl, a, rk r, _, _, rfl, rfl, hA1, at1, _, rfl, iteSome (by simp) ?_⟩
        refine ⟨_, rfl, _, rfl, a, rk r, _, _, rfl, rfl, hA1, at1, c, rfl, _, rfl, iteF ?_⟩
        have hlc : (coats (r.take i)).length < sizeLine := by
          have := coats_take_len r i
          have := coats_le r
          rw [sizeLine_eq]
          omega
        refine ⟨_, rfl, .inl ⟨rfl, _, SqL.of hL⟩, _, rfl, _, rfl, a, rk r, _, _, rfl, rfl, hA1, at1, hl, _, _, rfl, rfl, hL, by rw [List.length_map]; exact hlc, ?_⟩
        have s2 : Same H (upd H1 hl (.lst ((coats (r.take i)).map V.int ++ [oV (some c)]))) := Same.upd s1 hhl
        have hL2 : (upd H1 hl (.lst ((coats (r.take i)).map V.int ++ [oV (some c)]))) hl = some (.lst ((coats (r.take (i + 1))).map V.int)) := by
          rw [upd_same, coats_take (get_nat hi'), e, List.map_append]
          rfl
        generalize upd H1 hl (.lst ((coats (r.take i)).map V.int ++ [oV (some c)])) = H2 at s2 hL2
        have hA2 : SqL K H2 a (rk r) := SqL.of (s2 _ _ hA)
        refine ⟨_, rfl, _, rfl, a, rk r, _, _, rfl, rfl, hA2, at1, _, rfl, c, _, rfl, rfl, by omega, ?_⟩
        obtain ⟨W, hW, eW, mW⟩ := way_at h0 (i : Int) c
        have ei : (i : Int) % (r.length : Int) = i := Int.emod_eq_of_lt (by omega) (by omega)
        rw [ei] at mW
        refine ⟨fun m σ H3 => ∃ d : Nat, H3 = H2 ∧ σ = [some (.ref a), some (.ref b), some (.int (r.length : Int)), some (.ref hl), some (.int (0 + (i : Int))), some (.int ((c + d) % (r.length : Int)))] ∧ d + m = W, ⟨W, 0, rfl, ?_, by omega⟩, ?_⟩
        · show _ = [some (V.ref a), some (V.ref b), some (V.int (r.length : Int)), some (V.ref hl), some (V.int (0 + (i : Int))), some (V.int ((c + ((0 : Nat) : Int)) % (r.length : Int)))]
          rw [show c + ((0 : Nat) : Int) = c by omega]
          rfl
        rintro m σ H3 ⟨d, rfl, rfl, hd⟩
        refine ⟨_, rfl, _, rfl, rfl, _, rfl, ?_⟩
        rcases Nat.eq_zero_or_pos m with z | z
        · subst z
          have ed : d = W := by omega
          subst ed
          refine iteNS (by rw [mW, Int.zero_add]) ?_
          exact ⟨s2, hL2, _, _, rfl⟩
        · have hne : ¬ V.int ((c + d) % (r.length : Int)) = V.int (0 + (i : Int)) := fun y => by
            injection y with y
            rw [Int.zero_add, ← mW] at y
            have := step_inj (by omega) hW y
            omega
          rw [decide_eq_false hne]
          refine iteT ?_
          refine ⟨fun σ' H' => H' = H3 ∧ σ' = [some (.ref a), some (.ref b), some (.int (r.length : Int)), some (.ref hl), some (.int (0 + (i : Int))), some (.int ((c + (d + 1 : Nat)) % (r.length : Int)))], fun σ' H' ⟨e1, e2⟩ => ⟨m - 1, by omega, d + 1, e1, e2, by omega⟩, ?_⟩
          have htk := S.walk (i : Int) c e d (by omega)
          obtain ⟨x, hx⟩ := Option.ne_none_iff_exists'.mp htk
          have at2 := atI_rk h0 (c + d)
          rw [hx] at at2
          refine ⟨_, rfl, _, rfl, a, rk r, _, _, rfl, rfl, hA2, at2, _, rfl, isN_some ?_⟩
          refine ⟨_, rfl, _, _, rfl, rfl, _, rfl, _, _, rfl, rfl, by omega, rfl, ?_⟩
          show [some (V.ref a), some (V.ref b), some (V.int (r.length : Int)), some (V.ref hl), some (V.int (0 + (i : Int))), some (V.int (((c + d) % (r.length : Int) + 1) % (r.length : Int)))] = _
          rw [emod_succ, show c + (d : Int) + 1 = c + ((d + 1 : Nat) : Int) by omega]
    · rintro σ H1 ⟨s1, hL, v4, v5, rfl⟩
      rw [show ((r.length : Int)).toNat = r.length by omega, List.take_length] at hL
      refine ⟨_, rfl, hl, coats r, rfl, SqL.of hL, coats_nodup S, fun l1 m1 hl1 p1 o1 => ?_⟩
      have s2 := Same.new (o := .lst (m1.map V.int)) hl1
      have hL1 : (upd H1 l1 (.lst (m1.map V.int))) l1 = some (.lst (m1.map V.int)) := upd_same
      generalize upd H1 l1 (.lst (m1.map V.int)) = H2 at s2 hL1
      refine ⟨_, rfl, b, cs, rfl, Same.seq (s1.trans s2) hB, hP.nodup_iff.mp (coats_nodup S), fun l2 m2 hl2 p2 o2 => ?_⟩
      have s3 := Same.new (o := .lst (m2.map V.int)) hl2
      have hL2 : (upd H2 l2 (.lst (m2.map V.int))) l2 = some (.lst (m2.map V.int)) := upd_same
      generalize upd H2 l2 (.lst (m2.map V.int)) = H3 at s3 hL2
      have em : m1 = m2 := List.Perm.eq_of_pairwise (le := (· ≤ ·)) (fun x y _ _ h1 h2 => Int.le_antisymm h1 h2) o1 o2 (p1.trans (hP.trans p2.symm))
      subst em
      refine ⟨l1, l2, m1.map V.int, rfl, rfl, SqL.of (s3 _ _ hL1), SqL.of hL2, ints_flat m1, true, rfl, iteT ?_⟩
      refine ⟨_, rfl, hl, _, _, rfl, .inl (SqL.of (s3 _ _ (s2 _ _ hL))), by rw [List.length_map], _, rfl, _, _, rfl, rfl, ?_⟩
      have hf := free_coats S.free
      show Q (V.bl (decide (((coats r).length : Int) < (r.length : Int)))) H3
      rw [decide_eq_true (by omega)]
      exact q _ ((s1.trans s2).trans s3)
end
end Peg
namespace Peg
open PySem L2
section
variable {P : Program} {w : World} {K : PySem.W.Frag} {mg : Str → Option Value} {base : Heap}
/-! ### _law_tag: some int -/
def spTag : Sp := fun vs H Q _ => ∃ (n : Int), vs = [.int n] ∧ Builtin.Int.intBits n ≤ 2 ^ 21 ∧ ∀ (c : Int) (H' : Hp), Same H H' → Q (.int c) H'
theorem scTag : FnScope ["_law_seed", "_law_number"] ["_law_seed"] (defScope sTag) := ⟨rfl, rfl, rfl, by decide +kernel, rfl, by decide +kernel, by decide +kernel⟩
theorem ok_tag {f : Addr} {fd : FuncData} (F : Fun K "_law_tag" "_law_tag" sTag f fd) (cD : Cal P w K mg base 1 "_law_draw" ["_law_number", "_law_prime", "_law_many"] spDraw) : FnOk P w K mg base CX0 2 f fd ["_law_seed"] spTag := by
  refine F.ok scTag (fun vs H Q E h => ?_) (fun cdv A outer s H vs Q E hr h => ?_)
  · obtain ⟨n, rfl, _⟩ := h
    rfl
  · obtain ⟨n, rfl, hb, q⟩ := h
    refine ⟨_, pss_cons (ps_set (i := 1) scTag.nd rfl (Or.inl rfl) (pe_op op_sub (pe_op op_mul (pe_op op_mod (pv 0) pe_int) (pe_ix ix_list (pe_lst (pa_cons pe_int (pa_cons pe_int (pa_cons pe_int (pa_cons pe_int pa_nil))))) (pe_op op_mod (pe_op op_fdiv (pv 0) pe_int) pe_int) (fun _ _ => rfl)))
        (pe_fn cD hr (pa_cons (pv 0) (pa_cons pe_int (pa_cons pe_int pa_nil))))))
      (pss_cons (ps_if (pt_cmpR op_eq (pe_op op_mod (pv 0) pe_int) pe_int (nomark _)) (pss_one (ps_set (i := 1) scTag.nd rfl (Or.inl rfl) (pe_op op_mod (pe_op op_mulK (pv 0) (pv 0)) (pe_op op_pow pe_int pe_int)))) pss_nil)
      (pss_cons (ps_if (pt_cmpR op_eq (pe_op op_mod (pv 0) pe_int) pe_int (nomark _)) (pss_one (ps_set (i := 1) scTag.nd rfl (Or.inl rfl) (pe_op op_mul (pe_op op_mod (pe_op op_mul (pe_op op_add (pv 0) pe_int) pe_int) (pe_op op_sub (pe_op op_mulK (pe_op op_pow pe_int pe_int) (pe_op op_pow pe_int pe_int)) pe_int))
          (pe_ix ix_list (pe_lst (pa_cons pe_int (pa_cons (pe_un un_neg pe_int) pa_nil))) (pe_op op_mod (pe_op op_fdiv (pv 0) pe_int) pe_int) (fun _ _ => rfl))))) pss_nil)
      (pss_cons (ps_if (pt_cmpR op_eq (pe_op op_mod (pv 0) pe_int) pe_int (nomark _)) (pss_one (ps_ret (pe_op op_sub (pe_op op_mul (pe_op op_mod (pv 0) pe_int) (pe_ix ix_list (pe_lst (pa_cons (pe_op op_pow pe_int pe_int) (pa_cons (pe_op op_pow pe_int pe_int) (pa_cons (pe_op op_pow pe_int pe_int) pa_nil)))) (pe_op op_mod (pe_op op_fdiv (pv 0) pe_int) pe_int) (fun _ _ => rfl))) pe_int))) pss_nil)
      (pss_one (ps_ret (pv 1)))))), ?_⟩
    have m9 := Int.emod_nonneg n (show (9 : Int) ≠ 0 by first | decide | (show (0 : Int) < _; decide) | (rw [sizeLine_eq]; simp))
    have m9' := Int.emod_lt_of_pos n (show (0 : Int) < 9 by first | decide | (show (0 : Int) < _; decide) | (rw [sizeLine_eq]; simp))
    refine seq_mid (fun σ' H' => ∃ c, σ' = [some (.int n), some (.int c)] ∧ Same H H') (fun N hN => ?_) ?_
    · refine ⟨_, rfl, _, _, rfl, rfl, by first | decide | (show (0 : Int) < _; decide) | (rw [sizeLine_eq]; simp), by first | decide | (show (0 : Int) < _; decide) | (rw [sizeLine_eq]; simp), fun l hl => ?_⟩
      obtain ⟨v, hv, _⟩ := IntsP.pick (P := fun _ => True) (xs := [.int 1, .int 5, .int 11, .int 253]) (.cons trivial (.cons trivial (.cons trivial (.cons trivial .nil)))) (n := 4) rfl (by first | decide | (show (0 : Int) < _; decide) | (rw [sizeLine_eq]; simp)) (n / 9)
      refine ⟨_, rfl, _, _, rfl, rfl, ⟨by first | decide | (show (0 : Int) < _; decide) | (rw [sizeLine_eq]; simp), by first | decide | (show (0 : Int) < _; decide) | (rw [sizeLine_eq]; simp)⟩, _, _, rfl, rfl, by first | decide | (show (0 : Int) < _; decide) | (rw [sizeLine_eq]; simp), l, _, _, _, rfl, rfl, SqL.of upd_same, hv, _, _, rfl, rfl, .inl ⟨by omega, by omega⟩, ?_⟩
      refine ⟨_, rfl, n, 1009, 3, rfl, by first | decide | (show (0 : Int) < _; decide) | (rw [sizeLine_eq]; simp), by first | decide | (show (0 : Int) < _; decide) | (rw [sizeLine_eq]; simp), _, _, rfl, rfl, ?_⟩
      exact hN _ _ ⟨_, rfl, Same.new hl⟩
    · rintro σ1 H1 ⟨c1, rfl, s1⟩
      refine seq_mid (fun σ' H' => ∃ c, σ' = [some (.int n), some (.int c)] ∧ Same H H') (fun N hN => ?_) ?_
      · refine ⟨_, rfl, _, _, rfl, rfl, by first | decide | (show (0 : Int) < _; decide) | (rw [sizeLine_eq]; simp), rfl, _, rfl, ?_⟩
        refine ite2 (fun _ => ?_) (fun _ => hN _ _ ⟨_, rfl, s1⟩)
        refine ⟨_, rfl, _, rfl, _, _, rfl, rfl, PyProof.Rows.mulOk_of_bits hb hb (by first | decide | (show (0 : Int) < _; decide) | (rw [sizeLine_eq]; simp)), _, _, rfl, rfl, ⟨by first | decide | (show (0 : Int) < _; decide) | (rw [sizeLine_eq]; simp), by first | decide | (show (0 : Int) < _; decide) | (rw [sizeLine_eq]; simp), by first | decide | (show (0 : Int) < _; decide) | (rw [sizeLine_eq]; simp)⟩, _, _, rfl, rfl, by first | decide | (show (0 : Int) < _; decide) | (rw [sizeLine_eq]; simp), ?_⟩
        exact hN _ _ ⟨_, rfl, s1⟩
      · rintro σ2 H2 ⟨c2, rfl, s2⟩
        refine seq_mid (fun σ' H' => ∃ c, σ' = [some (.int n), some (.int c)] ∧ Same H H') (fun N hN => ?_) ?_
        · refine ⟨_, rfl, _, _, rfl, rfl, by first | decide | (show (0 : Int) < _; decide) | (rw [sizeLine_eq]; simp), rfl, _, rfl, ?_⟩
          refine ite2 (fun _ => ?_) (fun _ => hN _ _ ⟨_, rfl, s2⟩)
          refine ⟨_, rfl, _, _, rfl, rfl, _, _, rfl, rfl, .inr ⟨by first | decide | (show (0 : Int) < _; decide) | (rw [sizeLine_eq]; simp), by first | decide | (show (0 : Int) < _; decide) | (rw [sizeLine_eq]; simp)⟩, _, _, rfl, rfl, ⟨by first | decide | (show (0 : Int) < _; decide) | (rw [sizeLine_eq]; simp), by first | decide | (show (0 : Int) < _; decide) | (rw [sizeLine_eq]; simp), by first | decide | (show (0 : Int) < _; decide) | (rw [sizeLine_eq]; simp)⟩, _, _, rfl, rfl, ⟨by first | decide | (show (0 : Int) < _; decide) | (rw [sizeLine_eq]; simp), by first | decide | (show (0 : Int) < _; decide) | (rw [sizeLine_eq]; simp), by first | decide | (show (0 : Int) < _; decide) | (rw [sizeLine_eq]; simp)⟩, _, _, rfl, rfl, ?_, _, _, rfl, rfl, _, _, rfl, rfl, ?_, ?_⟩
          · exact PyProof.Rows.mulOk_of_bits (m := 200) (n := 200) (by decide +kernel) (by decide +kernel) (by first | decide | (show (0 : Int) < _; decide) | (rw [sizeLine_eq]; simp))
          · show (0 : Int) < _
            decide
          · refine ⟨_, rfl, by first | decide | (show (0 : Int) < _; decide) | (rw [sizeLine_eq]; simp), fun l hl => ?_⟩
            obtain ⟨v, hv, hv2⟩ := IntsP.pick (P := fun i => -(2 ^ 64) < i ∧ i < 2 ^ 64) (xs := [.int 1, .int (-1)]) (.cons ⟨by first | decide | (show (0 : Int) < _; decide) | (rw [sizeLine_eq]; simp), by first | decide | (show (0 : Int) < _; decide) | (rw [sizeLine_eq]; simp)⟩ (.cons ⟨by first | decide | (show (0 : Int) < _; decide) | (rw [sizeLine_eq]; simp), by first | decide | (show (0 : Int) < _; decide) | (rw [sizeLine_eq]; simp)⟩ .nil)) (n := 2) rfl (by first | decide | (show (0 : Int) < _; decide) | (rw [sizeLine_eq]; simp)) (n / 31)
            refine ⟨_, rfl, _, _, rfl, rfl, ⟨by first | decide | (show (0 : Int) < _; decide) | (rw [sizeLine_eq]; simp), by first | decide | (show (0 : Int) < _; decide) | (rw [sizeLine_eq]; simp)⟩, _, _, rfl, rfl, by first | decide | (show (0 : Int) < _; decide) | (rw [sizeLine_eq]; simp), l, _, _, _, rfl, rfl, SqL.of upd_same, hv, _, _, rfl, rfl, .inr hv2, ?_⟩
            exact hN _ _ ⟨_, rfl, Same.upd s2 (s2.free hl)⟩
        · rintro σ3 H3 ⟨c3, rfl, s3⟩
          refine ⟨_, rfl, _, _, rfl, rfl, by first | decide | (show (0 : Int) < _; decide) | (rw [sizeLine_eq]; simp), rfl, _, rfl, ?_⟩
          refine ite2 (fun _ => ?_) (fun _ => ?_)
          · refine ⟨_, rfl, _, _, rfl, rfl, by first | decide | (show (0 : Int) < _; decide) | (rw [sizeLine_eq]; simp), _, _, rfl, rfl, ⟨by first | decide | (show (0 : Int) < _; decide) | (rw [sizeLine_eq]; simp), by first | decide | (show (0 : Int) < _; decide) | (rw [sizeLine_eq]; simp), by first | decide | (show (0 : Int) < _; decide) | (rw [sizeLine_eq]; simp)⟩, _, _, rfl, rfl, ⟨by first | decide | (show (0 : Int) < _; decide) | (rw [sizeLine_eq]; simp), by first | decide | (show (0 : Int) < _; decide) | (rw [sizeLine_eq]; simp), by first | decide | (show (0 : Int) < _; decide) | (rw [sizeLine_eq]; simp)⟩, _, _, rfl, rfl, ⟨by first | decide | (show (0 : Int) < _; decide) | (rw [sizeLine_eq]; simp), by first | decide | (show (0 : Int) < _; decide) | (rw [sizeLine_eq]; simp), by first | decide | (show (0 : Int) < _; decide) | (rw [sizeLine_eq]; simp)⟩, by first | decide | (show (0 : Int) < _; decide) | (rw [sizeLine_eq]; simp), fun l hl => ?_⟩
            obtain ⟨v, hv, _⟩ := IntsP.pick (P := fun _ => True) (xs := [.int (10 ^ (15 : Int).toNat), .int (10 ^ (30 : Int).toNat), .int (10 ^ (60 : Int).toNat)]) (.cons trivial (.cons trivial (.cons trivial .nil))) (n := 3) rfl (by first | decide | (show (0 : Int) < _; decide) | (rw [sizeLine_eq]; simp)) (n / 29)
            refine ⟨_, rfl, _, _, rfl, rfl, ⟨by first | decide | (show (0 : Int) < _; decide) | (rw [sizeLine_eq]; simp), by first | decide | (show (0 : Int) < _; decide) | (rw [sizeLine_eq]; simp)⟩, _, _, rfl, rfl, by first | decide | (show (0 : Int) < _; decide) | (rw [sizeLine_eq]; simp), l, _, _, _, rfl, rfl, SqL.of upd_same, hv, _, _, rfl, rfl, .inl ⟨by omega, by omega⟩, _, _, rfl, rfl, ?_⟩
            exact q _ _ (Same.upd s3 (s3.free hl))
          · exact ⟨_, rfl, q _ _ s3⟩
end
end Peg
namespace Peg
open PySem L2
section
variable {P : Program} {w : World} {K : PySem.W.Frag} {mg : Str → Option Value} {base : Heap}
def spDeeds (K : PySem.W.Frag) : Sp := fun vs H Q _ => ∃ (a : Addr) (ns : List Int), vs = [.ref a] ∧ SqL K H a (ns.map V.int) ∧ (∀ m ∈ ns, Builtin.Int.intBits m ≤ 2 ^ 20) ∧ ns.length ≤ 1000 ∧
  ∀ (p : Addr) (das : List Addr) (ds : List Deed) (H' : Hp), Same H H' → H p = none → H' p = some (.lst (das.map V.ref)) → DeedsTr H' das ds → ds.length = ns.length → Q (.ref p) H'
theorem scDeeds : FnScope ["_law_cells", "_law_made", "_law_k", "_law_number", "_law_turn"] ["_law_cells"] (defScope sDeeds) := ⟨rfl, rfl, rfl, by decide +kernel, rfl, by decide +kernel, by decide +kernel⟩
theorem ok_deeds {f : Addr} {fd : FuncData} (F : Fun K "_law_deeds" "_law_deeds" sDeeds f fd) (cT : Cal P w K mg base 2 "_law_tag" ["_law_seed"] spTag) (zl : mg "len" = none) (zr : mg "range" = none) : FnOk P w K mg base CX0 3 f fd ["_law_cells"] (spDeeds K) := by
  refine F.ok scDeeds (fun vs H Q E h => ?_) (fun cdv A outer s H vs Q E hr h => ?_)
  · obtain ⟨a, ns, rfl, _⟩ := h
    rfl
  · obtain ⟨a, ns, rfl, hS, hbits, hn, q⟩ := h
    refine ⟨_, pss_cons (ps_set (i := 1) scDeeds.nd rfl (Or.inl rfl) (pe_lst pa_nil))
      (pss_cons (ps_for PassesOwn.never rfl (pi_range1 (by rfl) zr (pa_cons (pe_callB call_lenN (by rfl) zl PySem.boot_len (pa_cons (pv 0) pa_nil)) pa_nil)) (pg_name (i := 2) scDeeds.nd rfl (Or.inl rfl))
        (pss_cons (ps_set (i := 3) scDeeds.nd rfl (Or.inl rfl) (pe_fn cT hr (pa_cons (pe_op op_add (pe_op op_fdiv (pe_ix ix_list (pv 0) (pv 2) (fun _ _ => rfl)) pe_int) (pe_op op_mod (pv 2) pe_int)) pa_nil)))
        (pss_cons (ps_set (i := 4) scDeeds.nd rfl (Or.inl rfl) (pe_op op_mod (pe_op op_add (pe_ix ix_list (pv 0) (pv 2) (fun _ _ => rfl)) (pe_op op_fdiv (pv 2) pe_int)) pe_int))
        (pss_cons (ps_if (pw_and (pt_cmpR op_gt (pv 4) pe_int (nomark _)) (pw_and (pt_cmpR op_gt (pv 2) pe_int (nomark _)) (pw_and1 (pt_cmpR op_gt (pe_op op_mod (pe_op op_fdiv (pe_ix ix_list (pv 0) (pv 2) (fun _ _ => rfl)) pe_int) pe_int) pe_int (nomark _))))).pt
          (pss_one (ps_set (i := 3) scDeeds.nd rfl (Or.inl rfl) (pe_ix ix_tup (pe_ix ix_list (pv 1) (pe_op op_mod (pe_op op_fdiv (pe_ix ix_list (pv 0) (pv 2) (fun _ _ => rfl)) pe_int) (pv 2)) (fun _ _ => rfl)) pe_int (fun _ _ => rfl)))) pss_nil)
        (pss_one (ps_if (pt_cmpR op_lt (pv 4) pe_int (nomark _)) (pss_one (ps_expr (pe_bm PySem.F.plainAttrs_list PySem.F.slot_list_append PySem.F.type_list_append mt_append (pv 1) (pa_cons (pe_tup (pa_cons pe_str (pa_cons (pv 3) pa_nil))) pa_nil))))
          (pss_one (ps_if (pt_cmpR op_lt (pv 4) pe_int (nomark _)) (pss_one (ps_expr (pe_bm PySem.F.plainAttrs_list PySem.F.slot_list_append PySem.F.type_list_append mt_append (pv 1) (pa_cons (pe_tup (pa_cons pe_str (pa_cons (pv 3) pa_nil))) pa_nil))))
            (pss_one (ps_expr (pe_bm PySem.F.plainAttrs_list PySem.F.slot_list_append PySem.F.type_list_append mt_append (pv 1) (pa_cons (pe_tup (pa_cons pe_str (pa_cons (pv 3) pa_nil))) pa_nil))))))))))))
      (pss_one (ps_ret (pv 1)))), ?_⟩
    refine ⟨by first | decide | (rw [sizeLine_eq]; simp), fun ml hml => ?_⟩
    have s0 : Same H (upd H ml (.lst [])) := Same.new hml
    refine ⟨_, rfl, a, ns.map V.int, ns.length, rfl, .inl (s0.seq hS), by rw [List.length_map], _, rfl, by omega, by omega, for_range (lo := 0) (fun i σ H1 => ∃ (das : List Addr) (ds : List Deed) (v2 v3 v4 : Option V), σ = [some (.ref a), some (.ref ml), v2, v3, v4] ∧
      Same H H1 ∧ H1 ml = some (.lst (das.map V.ref)) ∧ DeedsTr H1 das ds ∧ ds.length = i) ⟨[], [], _, _, _, rfl, s0, upd_same, deeds_nil _, rfl⟩ ?_ ?_⟩
    · rintro i σ H1 hi ⟨das, ds, v2, v3, v4, rfl, s1, hM, D, hdl⟩
      have hi' : i < ns.length := by omega
      have at1 := atI_ints hi'
      have bz := hbits _ (List.getElem_mem hi')
      have m3 := Int.emod_nonneg (0 + (i : Int)) (show (3 : Int) ≠ 0 by decide)
      have m3' := Int.emod_lt_of_pos (0 + (i : Int)) (show (0 : Int) < 3 by decide)
      -- number = tag(..)
      refine seq_mid (fun σ' H' => ∃ c, σ' = [some (.ref a), some (.ref ml), some (.int (0 + (i : Int))), some (.int c), v4] ∧ Same H1 H') (fun N hN => ?_) ?_
      · refine ⟨_, rfl, _, rfl, a, _, _, _, rfl, rfl, s1.seq hS, at1, _, _, rfl, rfl, ⟨by decide, by decide⟩, _, rfl, _, _, rfl, rfl, by show (0 : Int) < _; decide, _, _, rfl, rfl, _, rfl, bits_div_add bz (by decide) (by omega) (by omega), fun c H2 s2 => hN _ _ ⟨c, rfl, s2⟩⟩
      rintro σ H2 ⟨c0, rfl, s2⟩
      -- turn
      refine seq_mid (fun σ' H' => ∃ t : Int, σ' = [some (.ref a), some (.ref ml), some (.int (0 + (i : Int))), some (.int c0), some (.int t)] ∧ H' = H2) (fun N hN => ?_) ?_
      · exact ⟨_, rfl, _, rfl, a, _, _, _, rfl, rfl, (s1.trans s2).seq hS, at1, _, rfl, _, _, rfl, rfl, ⟨by decide, by decide⟩, _, _, rfl, rfl, _, _, rfl, rfl, by show (0 : Int) < _; decide, hN _ _ ⟨_, rfl, rfl⟩⟩
      rintro σ H2' ⟨t, rfl, rfl⟩
      have hM2 := s2 _ _ hM
      have D2 := D.same s2
      -- number of an earlier deed
      refine seq_mid (fun σ' H' => ∃ c, σ' = [some (.ref a), some (.ref ml), some (.int (0 + (i : Int))), some (.int c), some (.int t)] ∧ H' = H2') (fun N hN => ?_) ?_
      · refine ⟨_, rfl, _, _, rfl, rfl, _, rfl, ite2 (fun _ => ?_) (fun _ => iteF (hN _ _ ⟨_, rfl, rfl⟩))⟩
        refine ⟨_, rfl, _, _, rfl, rfl, _, rfl, ite2 (fun hk => ?_) (fun _ => iteF (hN _ _ ⟨_, rfl, rfl⟩))⟩
        have hk' : 0 < (0 + (i : Int)) := of_decide_eq_true hk
        refine ⟨_, rfl, _, rfl, a, _, _, _, rfl, rfl, (s1.trans s2).seq hS, at1, _, _, rfl, rfl, ⟨by decide, by decide⟩, _, _, rfl, rfl, by show (0 : Int) < _; decide, _, _, rfl, rfl, _, rfl, ite2 (fun _ => ?_) (fun _ => hN _ _ ⟨_, rfl, rfl⟩)⟩
        obtain ⟨da, j, at2, hj⟩ := refs_pick (das := das) (n := 0 + (i : Int)) (by rw [D.len]; omega) hk' (ns[i] / 32)
        obtain ⟨d, _, hda⟩ := D2.has hj
        refine ⟨_, rfl, _, rfl, _, rfl, a, _, _, _, rfl, rfl, (s1.trans s2).seq hS, at1, _, _, rfl, rfl, ⟨by decide, by decide⟩, _, rfl, _, _, rfl, rfl, hk', ml, _, _, _, rfl, rfl, SqL.of hM2, at2, da, dT d, _, .int d.2, rfl, rfl, SqT.of hda, rfl, ?_⟩
        exact hN _ _ ⟨_, rfl, rfl⟩
      rintro σ H3 ⟨c, rfl, rfl⟩
      have app : ∀ (k : Nat) (tp : Addr), k < 3 → H3 tp = none → ∃ (das' : List Addr) (ds' : List Deed) (v2 v3 v4 : Option V), [some (.ref a), some (.ref ml), some (.int (0 + (i : Int))), some (.int c), some (.int t)] = [some (.ref a), some (.ref ml), v2, v3, v4] ∧
          Same H (upd (upd H3 tp (.tup (dT (k, c)))) ml (.lst (das.map V.ref ++ [.ref tp]))) ∧ (upd (upd H3 tp (.tup (dT (k, c)))) ml (.lst (das.map V.ref ++ [.ref tp]))) ml = some (.lst (das'.map V.ref)) ∧
          DeedsTr (upd (upd H3 tp (.tup (dT (k, c)))) ml (.lst (das.map V.ref ++ [.ref tp]))) das' ds' ∧ ds'.length = i + 1 := fun k tp hk ht => by
        have s3 : Same H3 (upd H3 tp (.tup (dT (k, c)))) := Same.new ht
        have nt : tp ≠ ml := (ne_of_none hM2 ht).symm
        refine ⟨das ++ [tp], ds ++ [(k, c)], _, _, _, rfl, Same.upd ((s1.trans s2).trans s3) hml, by rw [upd_same, List.map_append]; rfl, ?_, by rw [List.length_append, hdl]; rfl⟩
        exact ((D2.same s3).upd (s3 _ _ hM2) _).snoc (by rw [upd_ne nt, upd_same]) hk
      have fit : (das.map V.ref).length < sizeLine := by rw [sizeLine_eq, List.length_map, D.len]; omega
      refine ⟨_, rfl, _, _, rfl, rfl, _, rfl, ite2 (fun _ => ?_) (fun _ => ?_)⟩
      · exact ⟨_, rfl, .inl ⟨rfl, _, SqL.of hM2⟩, _, rfl, by rw [sizeLine_eq]; simp, fun tp ht => ⟨ml, das.map V.ref, _, rfl, rfl, by rw [upd_ne (ne_of_none hM2 ht)]; exact hM2, fit, app 0 tp (by decide) ht⟩⟩
      · refine ⟨_, rfl, _, _, rfl, rfl, _, rfl, ite2 (fun _ => ?_) (fun _ => ?_)⟩
        · exact ⟨_, rfl, .inl ⟨rfl, _, SqL.of hM2⟩, _, rfl, by rw [sizeLine_eq]; simp, fun tp ht => ⟨ml, das.map V.ref, _, rfl, rfl, by rw [upd_ne (ne_of_none hM2 ht)]; exact hM2, fit, app 1 tp (by decide) ht⟩⟩
        · exact ⟨_, rfl, .inl ⟨rfl, _, SqL.of hM2⟩, _, rfl, by rw [sizeLine_eq]; simp, fun tp ht => ⟨ml, das.map V.ref, _, rfl, rfl, by rw [upd_ne (ne_of_none hM2 ht)]; exact hM2, fit, app 2 tp (by decide) ht⟩⟩
    · rintro σ H1 ⟨das, ds, v2, v3, v4, rfl, s1, hM, D, hdl⟩
      exact ⟨_, rfl, q ml das ds H1 s1 hml hM D (by omega)⟩
end
end Peg
namespace Peg
open PySem L2
section
variable {P : Program} {w : World} {K : PySem.W.Frag} {mg : Str → Option Value} {base : Heap}
def spKept (K : PySem.W.Frag) : Sp := fun vs H Q _ => ∃ (a b : Addr) (das : List Addr) (ds : List Deed), vs = [.ref a, .ref b] ∧ SqL K H a (das.map V.ref) ∧ SqL K H b (das.map V.ref) ∧ DeedsTr H das ds ∧ das.length ≤ 1000 ∧ Q (.bl true) H
theorem scKept : FnScope ["_law_handed", "_law_asked", "_law_k"] ["_law_handed", "_law_asked"] (defScope sKept) := ⟨rfl, rfl, rfl, by decide +kernel, rfl, by decide +kernel, by decide +kernel⟩
theorem ok_kept {f : Addr} {fd : FuncData} (F : Fun K "_law_kept" "_law_kept" sKept f fd) (cW : Cal P w K mg base 1 "_law_whole" ["_law_found"] spWhole) (zl : mg "len" = none) (zr : mg "range" = none) (zi : mg "isinstance" = none) (zt : mg "tuple" = none) (zs : mg "str" = none)
    (k1 : PySem.W.kitOne K (.type "tuple") (.type "tuple") = some true) (k2 : PySem.W.kitOne K (.type "str") (.type "str") = some true) : FnOk P w K mg base CX0 2 f fd ["_law_handed", "_law_asked"] (spKept K) := by
  refine F.ok scKept (fun vs H Q E h => ?_) (fun cdv A outer s H vs Q E hr h => ?_)
  · obtain ⟨a, b, das, ds, rfl, _⟩ := h
    rfl
  · obtain ⟨a, b, das, ds, rfl, hA, hB, D, hn, q⟩ := h
    refine ⟨_, pss_cons (ps_if (pt_cmpR op_ne (pe_callB call_lenN (by rfl) zl PySem.boot_len (pa_cons (pv 0) pa_nil)) (pe_callB call_lenN (by rfl) zl PySem.boot_len (pa_cons (pv 1) pa_nil)) (nomark _)) (pss_one (ps_ret pe_bl)) pss_nil)
      (pss_cons (ps_for PassesOwn.never rfl (pi_range1 (by rfl) zr (pa_cons (pe_callB call_lenN (by rfl) zl PySem.boot_len (pa_cons (pv 1) pa_nil)) pa_nil)) (pg_name (i := 2) scKept.nd rfl (Or.inl rfl))
        (pss_cons (ps_if (pw_or (pt_not (pt_val (pe_callB call_isi (by rfl) zi PyProof.Rows.boot_isinstance (pa_cons (pe_ix ix_list (pv 0) (pv 2) (fun _ _ => rfl)) (pa_cons (pe_bltn (v := .ty "tuple") (by rfl) zt PyProof.Rows.boot_tuple rfl) pa_nil)))))
            (pw_or1 (pt_cmpR op_ne (pe_callB call_lenN (by rfl) zl PySem.boot_len (pa_cons (pe_ix ix_list (pv 0) (pv 2) (fun _ _ => rfl)) pa_nil)) pe_int (nomark _)))).pt (pss_one (ps_ret pe_bl)) pss_nil)
        (pss_cons (ps_if (pw_or (pt_not (pt_val (pe_callB call_isi (by rfl) zi PyProof.Rows.boot_isinstance (pa_cons (pe_ix ix_tup (pe_ix ix_list (pv 0) (pv 2) (fun _ _ => rfl)) pe_int (fun _ _ => rfl)) (pa_cons (pe_bltn (v := .ty "str") (by rfl) zs PyProof.Rows.boot_str rfl) pa_nil)))))
            (pw_or1 (pt_not (pt_val (pe_fn cW hr (pa_cons (pe_ix ix_tup (pe_ix ix_list (pv 0) (pv 2) (fun _ _ => rfl)) pe_int (fun _ _ => rfl)) pa_nil)))))).pt (pss_one (ps_ret pe_bl)) pss_nil)
        (pss_one (ps_if (pt_cmpR (op_neTT hr.units0) (pe_ix ix_list (pv 0) (pv 2) (fun _ _ => rfl)) (pe_ix ix_list (pv 1) (pv 2) (fun _ _ => rfl)) (nomark _)) (pss_one (ps_ret pe_bl)) pss_nil)))))
      (pss_one (ps_ret pe_bl))), ?_⟩
    have el : (das.map V.ref).length = das.length := List.length_map ..
    refine ⟨_, rfl, a, _, das.length, rfl, .inl hA, el, _, rfl, b, _, das.length, rfl, .inl hB, el, rfl, _, rfl, iteNS rfl ?_⟩
    refine ⟨_, rfl, b, _, das.length, rfl, .inl hB, el, _, rfl, by omega, by omega, for_range (lo := 0) (fun i σ H1 => H1 = H ∧ ∃ v, σ = [some (.ref a), some (.ref b), v]) ⟨rfl, none, rfl⟩ ?_ ?_⟩
    · rintro i σ H1 hi ⟨rfl, v, rfl⟩
      have hi' : i < das.length := by omega
      have hj : das[i]? = some das[i] := List.getElem?_eq_getElem hi'
      obtain ⟨d, _, hd⟩ := D.has hj
      have at1 := atI_refs hj
      refine ⟨_, rfl, _, rfl, a, _, _, _, rfl, rfl, hA, at1, _, _, "tuple", true, rfl, TyOf.tup hd, k1, _, rfl, iteF ?_⟩
      refine ⟨_, rfl, _, rfl, a, _, _, _, rfl, rfl, hA, at1, das[i], dT d, 2, rfl, .inr (SqT.of hd), rfl, rfl, _, rfl, iteNS rfl ?_⟩
      refine ⟨_, rfl, _, rfl, a, _, _, _, rfl, rfl, hA, at1, das[i], dT d, _, .str (kS d.1), rfl, rfl, SqT.of hd, rfl, _, _, "str", true, rfl, TyOf.str _, k2, _, rfl, iteF ?_⟩
      refine ⟨_, rfl, _, rfl, a, _, _, _, rfl, rfl, hA, at1, das[i], dT d, _, .int d.2, rfl, rfl, SqT.of hd, rfl, d.2, rfl, _, rfl, iteF ?_⟩
      refine ⟨_, rfl, _, rfl, a, _, _, _, rfl, rfl, hA, at1, _, rfl, _, rfl, b, _, _, _, rfl, rfl, hB, at1, das[i], das[i], dT d, rfl, rfl, SqT.of hd, SqT.of hd, rfl, _, rfl, iteF ?_⟩
      exact ⟨rfl, _, rfl⟩
    · rintro σ H1 ⟨rfl, v, rfl⟩
      exact q
end
end Peg
namespace Peg
open PySem L2
/-- the pegs behind a deed, by the rule -/
theorem after_size {r : Rack} {cs : List Int} {n : Nat} (R : Ready r cs n) (d : Deed) : (after r d).length = if 2 * r.length < 3 * (coatsAfter cs d).length then 2 * r.length + 1 else r.length := by
  have hf := R.few
  unfold after coatsAfter
  by_cases h : d.2 ∈ cs
  · rw [if_pos ((R.mem' _).mpr h)]
    by_cases h0 : d.1 = 0
    · rw [if_neg (by omega), if_pos h0, if_pos h, if_neg (by omega)]
    · rw [if_neg h0]
      by_cases h1 : d.1 = 1
      · have := List.length_erase_of_mem h
        rw [if_pos h1, if_pos h1, take_length, if_neg (by omega)]
      · rw [if_neg h1, if_neg h1, if_neg (by omega)]
  · rw [if_neg (fun z => h ((R.mem' _).mp z))]
    by_cases h0 : d.1 = 0
    · obtain ⟨S, e, _⟩ := R.putS h
      have h5 := R.five
      rw [if_pos h0, if_pos h0, if_neg h, List.length_append, List.length_singleton]
      unfold grown
      rw [e, put_length]
      by_cases c : 2 * r.length < 3 * (cs.length + 1)
      · rw [if_pos c, if_pos c]
        exact change_length (by rw [e]; omega)
      · rw [if_neg c, if_neg c, put_length]
    · rw [if_neg h0, if_neg h0]
      by_cases h1 : d.1 = 1
      · rw [if_pos h1, List.erase_of_not_mem h, if_neg (by omega)]
      · rw [if_neg h1, if_neg (by omega)]
section
variable {P : Program} {w : World} {K : PySem.W.Frag} {mg : Str → Option Value} {base : Heap}
theorem scLaw : FnScope ["_law_script", "_law_asked", "_law_step", "_law_k", "_law_handed", "_law_found", "_law_given", "_law_told", "_law_coats", "_law_size"] ["_law_script"] (defScope sLaw) := ⟨rfl, rfl, rfl, by decide +kernel, rfl, by decide +kernel, by decide +kernel⟩
theorem ok_law {f : Addr} {fd : FuncData} (F : Fun K "law" "law" sLaw f fd) (cB : Cal P w K mg base 8 "rack_behind" ["deeds"] (spBehind K)) (cZ : Cal P w K mg base 8 "sizes" ["deeds"] (spSizes K)) (cW : Cal P w K mg base 1 "_law_whole" ["_law_found"] spWhole)
    (cS : Cal P w K mg base 2 "_law_sound" ["_law_found", "_law_coats"] (spSound K)) (cD : Cal P w K mg base 3 "_law_deeds" ["_law_cells"] (spDeeds K)) (cK : Cal P w K mg base 2 "_law_kept" ["_law_handed", "_law_asked"] (spKept K))
    (zl : mg "len" = none) (zs : mg "list" = none) (zi : mg "isinstance" = none) (zr : mg "range" = none) (zt : mg "tuple" = none)
    (k1 : PySem.W.kitOne K (.type "list") (.type "list") = some true) (k2 : PySem.W.kitOne K (.type "tuple") (.type "tuple") = some true) : FnOk P w K mg base CX0 9 f fd ["_law_script"] (spLaw K) := by
  refine F.ok scLaw (fun vs H Q E h => ?_) (fun cdv A outer s H vs Q E hr h => ?_)
  · obtain ⟨a, ns, rfl, _⟩ := h
    rfl
  · obtain ⟨a, ns, rfl, hS, hlen, hbits, q⟩ := h
    have hr1 : Room 1 _ := hr.mono (by decide)
    have hr2 : Room 2 _ := hr.mono (by decide)
    have hr3 : Room 3 _ := hr.mono (by decide)
    refine ⟨_, pss_cons (ps_set (i := 1) scLaw.nd rfl (Or.inl rfl) (pe_fn cD hr3 (pa_cons (pe_slice sl_list (pv 0) po_none (po_some pe_int)) pa_nil)))
      (pss_cons (ps_if (pw_and (pt_cmpR op_gt (pe_callB call_lenN (by rfl) zl PySem.boot_len (pa_cons (pv 0) pa_nil)) pe_int (nomark _)) (pw_and1 (pt_cmpR op_eq (pe_op op_mod (pe_ix ix_list (pv 0) pe_int (fun _ _ => rfl)) pe_int) pe_int (nomark _)))).pt
        (pss_cons (ps_set (i := 2) scLaw.nd rfl (Or.inr rfl) (pe_op op_add pe_int (pe_op op_mod (pe_ix ix_list (pv 0) pe_int (fun _ _ => rfl)) pe_int)))
        (pss_one (ps_set (i := 1) scLaw.nd rfl (Or.inl rfl) (pe_op op_cat (pe_compC (fv := ["_law_script", "_law_step"]) rfl (pi_range1 (by rfl) zr (pa_cons pe_int pa_nil)) [0, 2] rfl (fun j i y h1 h2 => by match j, h1, h2 with | 0, h1, h2 => cases h1; cases h2; rfl | 1, h1, h2 => cases h1; cases h2; rfl | n + 2, h1, _ => cases h1) rfl rfl rfl (by decide +kernel) (by decide +kernel) rfl (by decide +kernel) rfl (fun _ _ _ _ _ _ => pts_nil)
            (fun _ _ _ _ _ _ => pe_tup (pa_cons pe_str (pa_cons (pe_op op_add (pe_op op_mul (pv 2) (pv 0)) (pe_op op_mod (pe_ix (r := rIxL K) ix_list (pv 1) pe_int (fun _ _ => rfl)) pe_int)) pa_nil)))) (pv 1))))) pss_nil)
      (pss_cons (ps_set (i := 4) scLaw.nd rfl (Or.inl rfl) (pe_callTy call_list_of (by rfl) zs PyProof.Rows.boot_list (pa_cons (pv 1) pa_nil)))
      (pss_cons (ps_set (i := 5) scLaw.nd rfl (Or.inl rfl) (pe_fn cB hr (pa_cons (pv 4) pa_nil)))
      (pss_cons (ps_set (i := 6) scLaw.nd rfl (Or.inl rfl) (pe_callTy call_list_of (by rfl) zs PyProof.Rows.boot_list (pa_cons (pv 1) pa_nil)))
      (pss_cons (ps_set (i := 7) scLaw.nd rfl (Or.inl rfl) (pe_fn cZ hr (pa_cons (pv 6) pa_nil)))
      (pss_cons (ps_if (pw_or (pt_not (pt_val (pe_fn cK hr2 (pa_cons (pv 4) (pa_cons (pv 1) pa_nil))))) (pw_or1 (pt_not (pt_val (pe_fn cK hr2 (pa_cons (pv 6) (pa_cons (pv 1) pa_nil))))))).pt (pss_one (ps_ret pe_bl)) pss_nil)
      (pss_cons (ps_if (pw_or (pt_not (pt_val (pe_callB call_isi (by rfl) zi PyProof.Rows.boot_isinstance (pa_cons (pv 7) (pa_cons (pe_bltn (v := .ty "list") (by rfl) zs PyProof.Rows.boot_list rfl) pa_nil)))))
          (pw_or1 (pt_cmpR op_ne (pe_callB call_lenN (by rfl) zl PySem.boot_len (pa_cons (pv 7) pa_nil)) (pe_callB call_lenN (by rfl) zl PySem.boot_len (pa_cons (pv 1) pa_nil)) (nomark _)))).pt (pss_one (ps_ret pe_bl)) pss_nil)
      (pss_cons (ps_set (i := 8) scLaw.nd rfl (Or.inl rfl) (pe_lst pa_nil))
      (pss_cons (ps_set (i := 9) scLaw.nd rfl (Or.inl rfl) pe_int)
      (pss_cons (ps_for PassesOwn.never rfl (pi_range1 (by rfl) zr (pa_cons (pe_callB call_lenN (by rfl) zl PySem.boot_len (pa_cons (pv 1) pa_nil)) pa_nil)) (pg_name (i := 3) scLaw.nd rfl (Or.inl rfl))
        (pss_cons (ps_if (pw_and (pt_cmpR op_eq (pe_ix ix_tup (pe_ix ix_list (pv 1) (pv 3) (fun _ _ => rfl)) pe_int (fun _ _ => rfl)) pe_str (nomark _)) (pw_and1 (pt_cmpR op_notIn_seq (pe_ix ix_tup (pe_ix ix_list (pv 1) (pv 3) (fun _ _ => rfl)) pe_int (fun _ _ => rfl)) (pv 8) (by rfl)))).pt
          (pss_one (ps_expr (pe_bm PySem.F.plainAttrs_list PySem.F.slot_list_append PySem.F.type_list_append mt_append (pv 8) (pa_cons (pe_ix ix_tup (pe_ix ix_list (pv 1) (pv 3) (fun _ _ => rfl)) pe_int (fun _ _ => rfl)) pa_nil)))) pss_nil)
        (pss_cons (ps_if (pw_and (pt_cmpR op_eq (pe_ix ix_tup (pe_ix ix_list (pv 1) (pv 3) (fun _ _ => rfl)) pe_int (fun _ _ => rfl)) pe_str (nomark _)) (pw_and1 (pt_cmpR op_in_seq (pe_ix ix_tup (pe_ix ix_list (pv 1) (pv 3) (fun _ _ => rfl)) pe_int (fun _ _ => rfl)) (pv 8) (by rfl)))).pt
          (pss_one (ps_expr (pe_bm PySem.F.plainAttrs_list PySem.F.slot_list_remove PySem.F.type_list_remove mt_remove (pv 8) (pa_cons (pe_ix ix_tup (pe_ix ix_list (pv 1) (pv 3) (fun _ _ => rfl)) pe_int (fun _ _ => rfl)) pa_nil)))) pss_nil)
        (pss_cons (ps_if (pt_cmpR op_gt (pe_op op_mul pe_int (pe_callB call_lenN (by rfl) zl PySem.boot_len (pa_cons (pv 8) pa_nil))) (pe_op op_mul pe_int (pv 9)) (nomark _)) (pss_one (ps_set (i := 9) scLaw.nd rfl (Or.inl rfl) (pe_op op_add (pe_op op_add (pv 9) (pv 9)) pe_int))) pss_nil)
        (pss_cons (ps_if (pw_or (pt_not (pt_val (pe_callB call_isi (by rfl) zi PyProof.Rows.boot_isinstance (pa_cons (pe_ix ix_list (pv 7) (pv 3) (fun _ _ => rfl)) (pa_cons (pe_bltn (v := .ty "tuple") (by rfl) zt PyProof.Rows.boot_tuple rfl) pa_nil)))))
            (pw_or1 (pt_cmpR op_ne (pe_callB call_lenN (by rfl) zl PySem.boot_len (pa_cons (pe_ix ix_list (pv 7) (pv 3) (fun _ _ => rfl)) pa_nil)) pe_int (nomark _)))).pt (pss_one (ps_ret pe_bl)) pss_nil)
        (pss_cons (ps_if (pw_or (pt_not (pt_val (pe_fn cW hr1 (pa_cons (pe_ix ix_tup (pe_ix ix_list (pv 7) (pv 3) (fun _ _ => rfl)) pe_int (fun _ _ => rfl)) pa_nil)))) (pw_or1 (pt_not (pt_val (pe_fn cW hr1 (pa_cons (pe_ix ix_tup (pe_ix ix_list (pv 7) (pv 3) (fun _ _ => rfl)) pe_int (fun _ _ => rfl)) pa_nil)))))).pt (pss_one (ps_ret pe_bl)) pss_nil)
        (pss_one (ps_if (pt_cmpR (op_neTT hr.units0) (pe_ix ix_list (pv 7) (pv 3) (fun _ _ => rfl)) (pe_tup (pa_cons (pv 9) (pa_cons (pe_callB call_lenN (by rfl) zl PySem.boot_len (pa_cons (pv 8) pa_nil)) pa_nil))) (nomark _)) (pss_one (ps_ret pe_bl)) pss_nil))))))))
      (pss_one (ps_ret (pe_and (pe_fn cS hr2 (pa_cons (pv 5) (pa_cons (pv 8) pa_nil))) (pe_one (pe_cmpR op_eq (pe_callB call_lenN (by rfl) zl PySem.boot_len (pa_cons (pv 5) pa_nil)) (pv 9) (nomark _)))))))))))))))), ?_⟩
    -- asked
    refine ⟨_, rfl, _, rfl, a, _, rfl, hS, fun l1 hl1 => ?_⟩
    rw [cut_to200 ns (by omega)]
    have s0 : Same H (upd H l1 (.lst (ns.map V.int))) := Same.new hl1
    refine ⟨l1, ns, rfl, SqL.of upd_same, hbits, by omega, fun al das ds H2 s1 hal hAL D hdl => ?_⟩
    dsimp only [gName]
    have hS2 : SqL K H2 a (ns.map V.int) := Same.seq (s0.trans s1) hS
    refine seq_mid (fun σ' H' => ∃ (al' : Addr) (das' : List Addr) (ds' : List Deed) (v2 : Option V), σ' = [some (.ref a), some (.ref al'), v2, none, none, none, none, none, none, none] ∧ H' al' = some (.lst (das'.map V.ref)) ∧ DeedsTr H' das' ds' ∧ ds'.length ≤ 133) (fun N hN => ?_) ?_
    · refine ⟨_, rfl, a, _, ns.length, rfl, .inl hS2, by rw [List.length_map], _, _, rfl, rfl, _, rfl, ?_⟩
      refine ite2 (fun z => ?_) (fun _ => iteF (hN _ _ ⟨al, das, ds, none, rfl, hAL, D, by omega⟩))
      have z' : 2 < ns.length := by
        have := of_decide_eq_true z
        omega
      have g0 : atI (ns.map V.int) 0 = some (.int ns[0]) := atI_ints (i := 0) (by omega)
      have g1 : atI (ns.map V.int) 1 = some (.int ns[1]) := atI_ints (i := 1) (by omega)
      have g2 : atI (ns.map V.int) 2 = some (.int ns[2]) := atI_ints (i := 2) (by omega)
      refine ⟨_, rfl, a, _, _, _, rfl, rfl, hS2, g2, _, _, rfl, rfl, (show (0 : Int) < 6 by decide), rfl, _, rfl, ?_⟩
      refine ite2 (fun _ => ?_) (fun _ => hN _ _ ⟨al, das, ds, none, rfl, hAL, D, by omega⟩)
      refine ⟨_, rfl, a, _, _, _, rfl, rfl, hS2, g0, _, _, rfl, rfl, (show (0 : Int) < 9 by decide), _, _, rfl, rfl, ?_⟩
      dsimp only [gName]
      have h9a := Int.emod_nonneg ns[0] (show (9 : Int) ≠ 0 by decide)
      have h9b := Int.emod_lt_of_pos ns[0] (show (0 : Int) < 9 by decide)
      generalize hst : (1 : Int) + ns[0] % 9 = stp
      refine ⟨70, rfl, by omega, by omega, fun Dl hDl => ?_⟩
      refine comp_range (lo := 0) (n := 70) (fun i ys H4 => ∃ us : List Addr, ys = us.map V.ref ∧ Same H2 H4 ∧ H4 Dl = some (.lst ys) ∧ DeedsTr H4 us ((List.range i).map fun j : Nat => ((0 : Nat), stp * ((0 : Int) + (j : Int)) + ns[1] % 50))) ⟨[], rfl, Same.new hDl, upd_same, deeds_nil _⟩ (fun i ys H4 _ ⟨_, _, _, e, _⟩ => e) ?_ ?_
      · rintro i ys H4 hi ⟨us, rfl, s4, hL4, U⟩ N2 hN2
        refine iteT ?_
        refine ⟨_, rfl, _, rfl, _, _, rfl, rfl, .inl ⟨by omega, by omega⟩, _, rfl, a, _, _, _, rfl, rfl, Same.seq s4 hS2, g1, _, _, rfl, rfl, (show (0 : Int) < 50 by decide), _, _, rfl, rfl, ?_⟩
        refine ⟨by rw [sizeLine_eq]; simp, fun tp htp => ?_⟩
        have s5 : Same H4 (upd H4 tp (.tup (dT (0, stp * ((0 : Int) + (i : Int)) + ns[1] % 50)))) := Same.new htp
        have hL5 := s5 _ _ hL4
        refine ⟨hL5, ?_, hN2 _ _ ⟨us ++ [tp], by rw [List.map_append]; rfl, Same.upd (s4.trans s5) hDl, upd_same, ?_⟩⟩
        · have := U.len
          rw [List.length_map, List.length_range] at this
          rw [List.length_map, sizeLine_eq]; omega
        · rw [List.range_succ, List.map_append]
          exact ((U.same s5).upd hL5 _).snoc (by rw [upd_ne (ne_of_none hL4 htp).symm, upd_same]) (by show 0 < 3; decide)
      · rintro ys H4 ⟨us, rfl, s4, hL4, U⟩
        have hul := U.len
        rw [List.length_map, List.length_range] at hul
        have hdl2 := D.len
        have D4 := D.same s4
        refine ⟨_, rfl, Dl, al, _, _, rfl, rfl, hL4, s4 _ _ hAL, by rw [List.length_map, List.length_map, sizeLine_eq]; omega, fun p5 hp5 => ?_⟩
        have s5 : Same H4 (upd H4 p5 (.lst (us.map V.ref ++ das.map V.ref))) := Same.new hp5
        refine hN _ _ ⟨p5, us ++ das, _, some (.int stp), rfl, by rw [upd_same, List.map_append], (U.same s5).append (D4.same s5), ?_⟩
        rw [List.length_append, List.length_map, List.length_range]
        omega
    rintro σ H3 ⟨al', das', ds', v2, rfl, hAL3, D3, hn3⟩
    clear hAL D hdl s1 hal hS2
    have hd3 := D3.len
    -- handed, found
    refine ⟨_, rfl, al', _, rfl, .inl (SqL.of hAL3), fun lh hlh => ?_⟩
    have s4 : Same H3 (upd H3 lh (.lst (das'.map V.ref))) := Same.new hlh
    have hLH : (upd H3 lh (.lst (das'.map V.ref))) lh = some (.lst (das'.map V.ref)) := upd_same
    have hAL4 := s4 _ _ hAL3
    have D4 := D3.same s4
    generalize upd H3 lh (.lst (das'.map V.ref)) = H4 at s4 hLH hAL4 D4
    refine ⟨_, rfl, lh, das', ds', rfl, SqL.of hLH, D4.at, by omega, fun fo H5 s5 hFO => ?_⟩
    have hAL5 := s5 _ _ hAL4
    have hLH5 := s5 _ _ hLH
    have D5 := D4.same s5
    -- given, told
    refine ⟨_, rfl, al', _, rfl, .inl (SqL.of hAL5), fun lg hlg => ?_⟩
    have s6 : Same H5 (upd H5 lg (.lst (das'.map V.ref))) := Same.new hlg
    have hLG : (upd H5 lg (.lst (das'.map V.ref))) lg = some (.lst (das'.map V.ref)) := upd_same
    have hAL6 := s6 _ _ hAL5
    have hLH6 := s6 _ _ hLH5
    have hFO6 := s6 _ _ hFO
    have D6 := D5.same s6
    generalize upd H5 lg (.lst (das'.map V.ref)) = H6 at s6 hLG hAL6 hLH6 hFO6 D6
    refine ⟨_, rfl, lg, das', ds', rfl, SqL.of hLG, D6.at, by omega, fun tl ts H7 s7 htl hTL htsl hTS => ?_⟩
    have hAL7 := s7 _ _ hAL6
    have hLH7 := s7 _ _ hLH6
    have hLG7 := s7 _ _ hLG
    have hFO7 := s7 _ _ hFO6
    have D7 := D6.same s7
    -- kept
    refine ⟨_, rfl, _, rfl, lh, al', das', ds', rfl, SqL.of hLH7, SqL.of hAL7, D7, by omega, _, rfl, iteF ?_⟩
    refine ⟨_, rfl, _, rfl, lg, al', das', ds', rfl, SqL.of hLG7, SqL.of hAL7, D7, by omega, _, rfl, iteF ?_⟩
    -- told
    refine ⟨_, rfl, _, _, "list", true, rfl, TyOf.lst hTL, k1, _, rfl, iteF ?_⟩
    refine ⟨_, rfl, tl, _, ds'.length, rfl, .inl (SqL.of hTL), by rw [List.length_map]; exact htsl, _, rfl, al', _, ds'.length, rfl, .inl (SqL.of hAL7), by rw [List.length_map]; exact hd3, rfl, _, rfl, iteNS rfl ?_⟩
    -- coats, size
    refine ⟨by rw [sizeLine_eq]; simp, fun cl hcl => ?_⟩
    have s8 : Same H7 (upd H7 cl (.lst [])) := Same.new hcl
    dsimp only [gName]
    refine ⟨_, rfl, al', _, ds'.length, rfl, .inl (SqL.of (s8 _ _ hAL7)), by rw [List.length_map]; exact hd3, _, rfl, by omega, by omega, for_range (lo := 0) (fun i σ H8 => ∃ v3 : Option V, σ = [some (.ref a), some (.ref al'), v2, v3, some (.ref lh), some (.ref fo), some (.ref lg), some (.ref tl), some (.ref cl), some (.int ((rackAt (ds'.take i)).length : Int))] ∧ Same H7 H8 ∧ H8 cl = some (.lst ((coatsAt (ds'.take i)).map V.int))) ⟨none, rfl, s8, upd_same⟩ ?_ ?_⟩
    · rintro i σ H8 hi ⟨v3, rfl, s9, hC⟩
      have hil : i < ds'.length := by omega
      obtain ⟨da, hj⟩ : ∃ da, das'[i]? = some da := ⟨das'[i], List.getElem?_eq_getElem (by omega)⟩
      obtain ⟨tt, ht⟩ : ∃ tt, ts[i]? = some tt := ⟨ts[i], List.getElem?_eq_getElem (by omega)⟩
      obtain ⟨⟨k, c⟩, hdi, hT7⟩ := D7.has hj
      have at1 := atI_refs hj
      have at2 := atI_refs ht
      have hTT7 := hTS i tt ht
      have Rd := ready_at (ds'.take i)
      rw [List.length_take, Nat.min_eq_left (Nat.le_of_lt hil)] at Rd
      have eC : coatsAt (ds'.take (i + 1)) = coatsAfter (coatsAt (ds'.take i)) (k, c) := by
        rw [List.take_add_one, hdi]
        exact coatsAt_snoc _ _
      have eR : rackAt (ds'.take (i + 1)) = after (rackAt (ds'.take i)) (k, c) := by
        rw [List.take_add_one, hdi]
        exact rackAt_snoc _ _
      unfold sizeT at hTT7
      rw [eR] at hTT7
      rw [eR, eC]
      generalize rackAt (ds'.take i) = r at Rd hTT7
      generalize coatsAt (ds'.take i) = cs at hC Rd
      have Rd1 := Rd.after (k, c)
      have eS := after_size Rd (k, c)
      have rn := Rd.rn
      have cn := Rd.cn
      rw [Rd1.len] at hTT7
      have g0 : atI (dT (k, c)) 0 = some (.str (kS k)) := rfl
      have g1 : atI (dT (k, c)) 1 = some (.int c) := rfl
      dsimp only [gName]
      -- hang
      refine seq_mid (fun σ' H' => σ' = [some (.ref a), some (.ref al'), v2, some (.int (0 + (i : Int))), some (.ref lh), some (.ref fo), some (.ref lg), some (.ref tl), some (.ref cl), some (.int (r.length : Int))] ∧ Same H7 H' ∧ H' cl = some (.lst ((if k = 0 ∧ c ∉ cs then cs ++ [c] else cs).map V.int))) (fun N hN => ?_) ?_
      · have hA8 : SqL K H8 al' (das'.map V.ref) := SqL.of (s9 _ _ hAL7)
        have hT8 : SqT K H8 da (dT (k, c)) := SqT.of (s9 _ _ hT7)
        refine ⟨_, rfl, _, rfl, al', _, _, _, rfl, rfl, hA8, at1, da, _, _, _, rfl, rfl, hT8, g0, rfl, _, rfl, ?_⟩
        rw [kS_hang k]
        refine ite2 (fun z => ?_) (fun z => iteF (hN _ _ ⟨rfl, s9, ?_⟩))
        · have k0 : k = 0 := of_decide_eq_true z
          refine ⟨_, rfl, _, rfl, al', _, _, _, rfl, rfl, hA8, at1, da, _, _, _, rfl, rfl, hT8, g1, _, rfl, cl, _, rfl, .inl (SqL.of hC), rfl, ints_flat cs, _, rfl, ?_⟩
          rw [inV_dec]
          by_cases hc : c ∈ cs
          · rw [decide_eq_true hc]
            refine iteF (hN _ _ ⟨rfl, s9, ?_⟩)
            rw [hC, if_neg (fun y => y.2 hc)]
          · rw [decide_eq_false hc]
            refine iteT ?_
            refine ⟨_, rfl, .inl ⟨rfl, _, SqL.of hC⟩, _, rfl, _, rfl, al', _, _, _, rfl, rfl, hA8, at1, da, _, _, _, rfl, rfl, hT8, g1, cl, _, _, rfl, rfl, hC, by rw [sizeLine_eq, List.length_map]; omega, hN _ _ ⟨rfl, Same.upd s9 hcl, ?_⟩⟩
            rw [upd_same, if_pos ⟨k0, hc⟩, List.map_append]
            rfl
        · rw [hC, if_neg (fun y => z (decide_eq_true y.1))]
      rintro σ H9 ⟨rfl, s10, hC9⟩
      -- take
      refine seq_mid (fun σ' H' => σ' = [some (.ref a), some (.ref al'), v2, some (.int (0 + (i : Int))), some (.ref lh), some (.ref fo), some (.ref lg), some (.ref tl), some (.ref cl), some (.int (r.length : Int))] ∧ Same H7 H' ∧ H' cl = some (.lst ((coatsAfter cs (k, c)).map V.int))) (fun N hN => ?_) ?_
      · have hA8 : SqL K H9 al' (das'.map V.ref) := SqL.of (s10 _ _ hAL7)
        have hT8 : SqT K H9 da (dT (k, c)) := SqT.of (s10 _ _ hT7)
        refine ⟨_, rfl, _, rfl, al', _, _, _, rfl, rfl, hA8, at1, da, _, _, _, rfl, rfl, hT8, g0, rfl, _, rfl, ?_⟩
        rw [kS_take k]
        refine ite2 (fun z => ?_) (fun z => iteF (hN _ _ ⟨rfl, s10, ?_⟩))
        · have k1' : k = 1 := of_decide_eq_true z
          subst k1'
          rw [if_neg (fun y => by cases y.1)] at hC9
          refine ⟨_, rfl, _, rfl, al', _, _, _, rfl, rfl, hA8, at1, da, _, _, _, rfl, rfl, hT8, g1, _, rfl, cl, _, rfl, .inl (SqL.of hC9), rfl, ints_flat cs, _, rfl, ?_⟩
          rw [inV_dec]
          by_cases hc : c ∈ cs
          · rw [decide_eq_true hc]
            refine iteT ?_
            refine ⟨_, rfl, .inl ⟨rfl, _, SqL.of hC9⟩, _, rfl, _, rfl, al', _, _, _, rfl, rfl, hA8, at1, da, _, _, _, rfl, rfl, hT8, g1, cl, cs, c, rfl, rfl, hC9, hc, hN _ _ ⟨rfl, Same.upd s10 hcl, ?_⟩⟩
            rw [upd_same]
            rfl
          · rw [decide_eq_false hc]
            refine iteF (hN _ _ ⟨rfl, s10, ?_⟩)
            rw [hC9]
            show _ = some (HO.lst ((cs.erase c).map V.int))
            rw [List.erase_of_not_mem hc]
        · have k1' : k ≠ 1 := fun y => z (decide_eq_true y)
          rw [hC9]
          unfold coatsAfter
          by_cases k0 : k = 0
          · rw [if_pos k0]
            by_cases hc : c ∈ cs
            · rw [if_pos hc, if_neg (fun y => y.2 hc)]
            · rw [if_neg hc, if_pos ⟨k0, hc⟩]
          · rw [if_neg k0, if_neg k1', if_neg (fun y => k0 y.1)]
      rintro σ H10 ⟨rfl, s11, hC10⟩
      -- more pegs
      refine seq_mid (fun σ' H' => σ' = [some (.ref a), some (.ref al'), v2, some (.int (0 + (i : Int))), some (.ref lh), some (.ref fo), some (.ref lg), some (.ref tl), some (.ref cl), some (.int ((after r (k, c)).length : Int))] ∧ H' = H10) (fun N hN => ?_) ?_
      · refine ⟨_, rfl, cl, _, (coatsAfter cs (k, c)).length, rfl, .inl (SqL.of hC10), by rw [List.length_map], _, _, rfl, rfl, .inl ⟨by decide, by decide⟩, _, rfl, _, _, rfl, rfl, .inl ⟨by decide, by decide⟩, _, _, rfl, rfl, _, rfl, ?_⟩
        refine ite2 (fun y => ?_) (fun y => ?_)
        · have y' : 2 * r.length < 3 * (coatsAfter cs (k, c)).length := by
            have := of_decide_eq_true y
            omega
          refine ⟨_, rfl, _, rfl, _, _, rfl, rfl, _, _, rfl, rfl, ?_⟩
          refine hN _ _ ⟨?_, rfl⟩
          rw [eS, if_pos y', show ((2 * r.length + 1 : Nat) : Int) = (r.length : Int) + (r.length : Int) + 1 by omega]
          rfl
        · have y' : ¬ 2 * r.length < 3 * (coatsAfter cs (k, c)).length := fun x => y (decide_eq_true (by omega))
          refine hN _ _ ⟨?_, rfl⟩
          rw [eS, if_neg y']
      rintro σ H11 ⟨rfl, rfl⟩
      have hTL8 : SqL K H11 tl (ts.map V.ref) := SqL.of (s11 _ _ hTL)
      have hTT8 := s11 _ _ hTT7
      refine ⟨_, rfl, _, rfl, tl, _, _, _, rfl, rfl, hTL8, at2, _, _, "tuple", true, rfl, TyOf.tup hTT8, k2, _, rfl, iteF ?_⟩
      refine ⟨_, rfl, _, rfl, tl, _, _, _, rfl, rfl, hTL8, at2, tt, _, 2, rfl, .inr (SqT.of hTT8), rfl, rfl, _, rfl, iteNS rfl ?_⟩
      refine ⟨_, rfl, _, rfl, tl, _, _, _, rfl, rfl, hTL8, at2, tt, _, _, _, rfl, rfl, SqT.of hTT8, rfl, _, rfl, _, rfl, iteF ?_⟩
      refine ⟨_, rfl, _, rfl, tl, _, _, _, rfl, rfl, hTL8, at2, tt, _, _, _, rfl, rfl, SqT.of hTT8, rfl, _, rfl, _, rfl, iteF ?_⟩
      refine ⟨_, rfl, _, rfl, tl, _, _, _, rfl, rfl, hTL8, at2, _, rfl, _, rfl, cl, _, (coatsAfter cs (k, c)).length, rfl, .inl (SqL.of hC10), by rw [List.length_map], by rw [sizeLine_eq]; simp, fun tp htp => ?_⟩
      have s12 := Same.new (o := .tup [V.int ((after r (k, c)).length : Int), V.int ((coatsAfter cs (k, c)).length : Int)]) htp
      refine ⟨tt, tp, _, rfl, rfl, SqT.of (s12 _ _ hTT8), SqT.of upd_same, rfl, _, rfl, iteF ?_⟩
      exact ⟨_, rfl, s11.trans s12, s12 _ _ hC10⟩
    · rintro σ H8 ⟨v3, rfl, s9, hC⟩
      rw [show ((ds'.length : Int)).toNat = ds'.length by omega, List.take_length] at hC ⊢
      have R := ready_at ds'
      have rn := R.rn
      refine ⟨_, rfl, _, rfl, fo, cl, rackAt ds', coatsAt ds', rfl, s9 _ _ hFO7, SqL.of hC, R.S, R.perm, by omega, fun H9 s10 => ⟨true, rfl, iteT ?_⟩⟩
      refine ⟨_, rfl, fo, _, _, rfl, .inl (SqL.of (s10 _ _ (s9 _ _ hFO7))), rk_length _, _, rfl, rfl, ?_⟩
      show Q (V.bl (decide (V.int ((rackAt ds').length : Int) = V.int ((rackAt ds').length : Int)))) H9
      rw [decide_eq_true rfl]
      exact q _
end
end Peg
namespace Peg
open PySem L2
theorem all_mk {l : PySem.W.OpenLaw} {w : World} {K : PySem.W.Frag} {h : Heap} {mg : Str → Option Value} {fa f0 f1 f2 f3 f4 f5 f6 f7 f8 f9 f10 f11 f12 f13 f14 f15 f16 f17 f18 f19 f20 f21 : Addr} (X : K.In h) (G : h.Ns mainGlobals mg) (hfa : mg "law" = some (.ref fa))
    {od0 an0 od1 an1 od2 an2 od3 an3 od4 an4 od5 an5 od6 an6 od7 an7 od8 an8 od9 an9 od10 an10 od11 an11 od12 an12 od13 an13 od14 an14 od15 an15 od16 an16 od17 an17 od18 an18 od19 an19 od20 an20 od21 an21 : Option Addr} {sl0 sl1 sl2 sl3 sl4 sl5 sl6 sl7 sl8 sl9 sl10 sl11 sl12 sl13 sl14 sl15 sl16 sl17 sl18 sl19 sl20 sl21 : Array (Option Value)} {oc0 kV0 dc0 pm0 cd0 ct0 oc1 kV1 dc1 pm1 cd1 ct1 oc2 kV2 dc2 pm2 cd2 ct2 oc3 kV3 dc3 pm3 cd3 ct3 oc4 kV4 dc4 pm4 cd4 ct4 oc5 kV5 dc5 pm5 cd5 ct5 oc6 kV6 dc6 pm6 cd6 ct6 oc7 kV7 dc7 pm7 cd7 ct7 oc8 kV8 dc8 pm8 cd8 ct8 oc9 kV9 dc9 pm9 cd9 ct9 oc10 kV10 dc10 pm10 cd10 ct10 oc11 kV11 dc11 pm11 cd11 ct11 oc12 kV12 dc12 pm12 cd12 ct12 oc13 kV13 dc13 pm13 cd13 ct13 oc14 kV14 dc14 pm14 cd14 ct14 oc15 kV15 dc15 pm15 cd15 ct15 oc16 kV16 dc16 pm16 cd16 ct16 oc17 kV17 dc17 pm17 cd17 ct17 oc18 kV18 dc18 pm18 cd18 ct18 oc19 kV19 dc19 pm19 cd19 ct19 oc20 kV20 dc20 pm20 cd20 ct20 oc21 kV21 dc21 pm21 cd21 ct21 : Value}
    {gt0 : Tok} (gg0 : PySem.W.nsIn K mainGlobals "FIRST_SIZE" = some (some (.int 5 gt0)))
    (a0 : PySem.W.nsIn K mainGlobals "own_peg" = some (some (.ref f0))) (l0 : K.lookup f0 = some ⟨oc0, od0, .func (PySem.W.fnOf "own_peg" "own_peg" (defArgs sOwn) (defBody sOwn) (defScope sOwn) .none kV0 dc0 pm0 an0 cd0 ct0), sl0⟩) (c0 : PySem.W.codeIn K cd0 "own_peg" = true) (k0 : PySem.W.keepIn K (.ref f0) = true)
    (a1 : PySem.W.nsIn K mainGlobals "peg_behind" = some (some (.ref f1))) (l1 : K.lookup f1 = some ⟨oc1, od1, .func (PySem.W.fnOf "peg_behind" "peg_behind" (defArgs sBeh) (defBody sBeh) (defScope sBeh) .none kV1 dc1 pm1 an1 cd1 ct1), sl1⟩) (c1 : PySem.W.codeIn K cd1 "peg_behind" = true) (k1 : PySem.W.keepIn K (.ref f1) = true)
    (a2 : PySem.W.nsIn K mainGlobals "coats_of" = some (some (.ref f2))) (l2 : K.lookup f2 = some ⟨oc2, od2, .func (PySem.W.fnOf "coats_of" "coats_of" (defArgs sCoats) (defBody sCoats) (defScope sCoats) .none kV2 dc2 pm2 an2 cd2 ct2), sl2⟩) (c2 : PySem.W.codeIn K cd2 "coats_of" = true) (k2 : PySem.W.keepIn K (.ref f2) = true)
    (a3 : PySem.W.nsIn K mainGlobals "first_free" = some (some (.ref f3))) (l3 : K.lookup f3 = some ⟨oc3, od3, .func (PySem.W.fnOf "first_free" "first_free" (defArgs sFF) (defBody sFF) (defScope sFF) .none kV3 dc3 pm3 an3 cd3 ct3), sl3⟩) (c3 : PySem.W.codeIn K cd3 "first_free" = true) (k3 : PySem.W.keepIn K (.ref f3) = true)
    (a4 : PySem.W.nsIn K mainGlobals "peg_of" = some (some (.ref f4))) (l4 : K.lookup f4 = some ⟨oc4, od4, .func (PySem.W.fnOf "peg_of" "peg_of" (defArgs sPegOf) (defBody sPegOf) (defScope sPegOf) .none kV4 dc4 pm4 an4 cd4 ct4), sl4⟩) (c4 : PySem.W.codeIn K cd4 "peg_of" = true) (k4 : PySem.W.keepIn K (.ref f4) = true)
    (a5 : PySem.W.nsIn K mainGlobals "hung" = some (some (.ref f5))) (l5 : K.lookup f5 = some ⟨oc5, od5, .func (PySem.W.fnOf "hung" "hung" (defArgs sHung) (defBody sHung) (defScope sHung) .none kV5 dc5 pm5 an5 cd5 ct5), sl5⟩) (c5 : PySem.W.codeIn K cd5 "hung" = true) (k5 : PySem.W.keepIn K (.ref f5) = true)
    (a6 : PySem.W.nsIn K mainGlobals "taken" = some (some (.ref f6))) (l6 : K.lookup f6 = some ⟨oc6, od6, .func (PySem.W.fnOf "taken" "taken" (defArgs sTaken) (defBody sTaken) (defScope sTaken) .none kV6 dc6 pm6 an6 cd6 ct6), sl6⟩) (c6 : PySem.W.codeIn K cd6 "taken" = true) (k6 : PySem.W.keepIn K (.ref f6) = true)
    (a7 : PySem.W.nsIn K mainGlobals "changed" = some (some (.ref f7))) (l7 : K.lookup f7 = some ⟨oc7, od7, .func (PySem.W.fnOf "changed" "changed" (defArgs sChanged) (defBody sChanged) (defScope sChanged) .none kV7 dc7 pm7 an7 cd7 ct7), sl7⟩) (c7 : PySem.W.codeIn K cd7 "changed" = true) (k7 : PySem.W.keepIn K (.ref f7) = true)
    (a8 : PySem.W.nsIn K mainGlobals "is_scarce" = some (some (.ref f8))) (l8 : K.lookup f8 = some ⟨oc8, od8, .func (PySem.W.fnOf "is_scarce" "is_scarce" (defArgs sScarce) (defBody sScarce) (defScope sScarce) .none kV8 dc8 pm8 an8 cd8 ct8), sl8⟩) (c8 : PySem.W.codeIn K cd8 "is_scarce" = true) (k8 : PySem.W.keepIn K (.ref f8) = true)
    (a9 : PySem.W.nsIn K mainGlobals "hang" = some (some (.ref f9))) (l9 : K.lookup f9 = some ⟨oc9, od9, .func (PySem.W.fnOf "hang" "hang" (defArgs sHang) (defBody sHang) (defScope sHang) .none kV9 dc9 pm9 an9 cd9 ct9), sl9⟩) (c9 : PySem.W.codeIn K cd9 "hang" = true) (k9 : PySem.W.keepIn K (.ref f9) = true)
    (a10 : PySem.W.nsIn K mainGlobals "take" = some (some (.ref f10))) (l10 : K.lookup f10 = some ⟨oc10, od10, .func (PySem.W.fnOf "take" "take" (defArgs sTake) (defBody sTake) (defScope sTake) .none kV10 dc10 pm10 an10 cd10 ct10), sl10⟩) (c10 : PySem.W.codeIn K cd10 "take" = true) (k10 : PySem.W.keepIn K (.ref f10) = true)
    (a11 : PySem.W.nsIn K mainGlobals "done" = some (some (.ref f11))) (l11 : K.lookup f11 = some ⟨oc11, od11, .func (PySem.W.fnOf "done" "done" (defArgs sDone) (defBody sDone) (defScope sDone) .none kV11 dc11 pm11 an11 cd11 ct11), sl11⟩) (c11 : PySem.W.codeIn K cd11 "done" = true) (k11 : PySem.W.keepIn K (.ref f11) = true)
    (a12 : PySem.W.nsIn K mainGlobals "steps" = some (some (.ref f12))) (l12 : K.lookup f12 = some ⟨oc12, od12, .func (PySem.W.fnOf "steps" "steps" (defArgs sSteps) (defBody sSteps) (defScope sSteps) .none kV12 dc12 pm12 an12 cd12 ct12), sl12⟩) (c12 : PySem.W.codeIn K cd12 "steps" = true) (k12 : PySem.W.keepIn K (.ref f12) = true)
    (a13 : PySem.W.nsIn K mainGlobals "rack_behind" = some (some (.ref f13))) (l13 : K.lookup f13 = some ⟨oc13, od13, .func (PySem.W.fnOf "rack_behind" "rack_behind" (defArgs sBehind) (defBody sBehind) (defScope sBehind) .none kV13 dc13 pm13 an13 cd13 ct13), sl13⟩) (c13 : PySem.W.codeIn K cd13 "rack_behind" = true) (k13 : PySem.W.keepIn K (.ref f13) = true)
    (a14 : PySem.W.nsIn K mainGlobals "sizes" = some (some (.ref f14))) (l14 : K.lookup f14 = some ⟨oc14, od14, .func (PySem.W.fnOf "sizes" "sizes" (defArgs sSizes) (defBody sSizes) (defScope sSizes) .none kV14 dc14 pm14 an14 cd14 ct14), sl14⟩) (c14 : PySem.W.codeIn K cd14 "sizes" = true) (k14 : PySem.W.keepIn K (.ref f14) = true)
    (a15 : PySem.W.nsIn K mainGlobals "_law_draw" = some (some (.ref f15))) (l15 : K.lookup f15 = some ⟨oc15, od15, .func (PySem.W.fnOf "_law_draw" "_law_draw" (defArgs sDraw) (defBody sDraw) (defScope sDraw) .none kV15 dc15 pm15 an15 cd15 ct15), sl15⟩) (c15 : PySem.W.codeIn K cd15 "_law_draw" = true) (k15 : PySem.W.keepIn K (.ref f15) = true)
    (a16 : PySem.W.nsIn K mainGlobals "_law_whole" = some (some (.ref f16))) (l16 : K.lookup f16 = some ⟨oc16, od16, .func (PySem.W.fnOf "_law_whole" "_law_whole" (defArgs sWhole) (defBody sWhole) (defScope sWhole) .none kV16 dc16 pm16 an16 cd16 ct16), sl16⟩) (c16 : PySem.W.codeIn K cd16 "_law_whole" = true) (k16 : PySem.W.keepIn K (.ref f16) = true)
    (a17 : PySem.W.nsIn K mainGlobals "_law_sound" = some (some (.ref f17))) (l17 : K.lookup f17 = some ⟨oc17, od17, .func (PySem.W.fnOf "_law_sound" "_law_sound" (defArgs sSound) (defBody sSound) (defScope sSound) .none kV17 dc17 pm17 an17 cd17 ct17), sl17⟩) (c17 : PySem.W.codeIn K cd17 "_law_sound" = true) (k17 : PySem.W.keepIn K (.ref f17) = true)
    (a18 : PySem.W.nsIn K mainGlobals "_law_tag" = some (some (.ref f18))) (l18 : K.lookup f18 = some ⟨oc18, od18, .func (PySem.W.fnOf "_law_tag" "_law_tag" (defArgs sTag) (defBody sTag) (defScope sTag) .none kV18 dc18 pm18 an18 cd18 ct18), sl18⟩) (c18 : PySem.W.codeIn K cd18 "_law_tag" = true) (k18 : PySem.W.keepIn K (.ref f18) = true)
    (a19 : PySem.W.nsIn K mainGlobals "_law_deeds" = some (some (.ref f19))) (l19 : K.lookup f19 = some ⟨oc19, od19, .func (PySem.W.fnOf "_law_deeds" "_law_deeds" (defArgs sDeeds) (defBody sDeeds) (defScope sDeeds) .none kV19 dc19 pm19 an19 cd19 ct19), sl19⟩) (c19 : PySem.W.codeIn K cd19 "_law_deeds" = true) (k19 : PySem.W.keepIn K (.ref f19) = true)
    (a20 : PySem.W.nsIn K mainGlobals "_law_kept" = some (some (.ref f20))) (l20 : K.lookup f20 = some ⟨oc20, od20, .func (PySem.W.fnOf "_law_kept" "_law_kept" (defArgs sKept) (defBody sKept) (defScope sKept) .none kV20 dc20 pm20 an20 cd20 ct20), sl20⟩) (c20 : PySem.W.codeIn K cd20 "_law_kept" = true) (k20 : PySem.W.keepIn K (.ref f20) = true)
    (a21 : PySem.W.nsIn K mainGlobals "law" = some (some (.ref f21))) (l21 : K.lookup f21 = some ⟨oc21, od21, .func (PySem.W.fnOf "law" "law" (defArgs sLaw) (defBody sLaw) (defScope sLaw) .none kV21 dc21 pm21 an21 cd21 ct21), sl21⟩) (c21 : PySem.W.codeIn K cd21 "law" = true) (k21 : PySem.W.keepIn K (.ref f21) = true)
    (z_len : PySem.W.nsIn K mainGlobals "len" = some none)
    (z_list : PySem.W.nsIn K mainGlobals "list" = some none)
    (z_isinstance : PySem.W.nsIn K mainGlobals "isinstance" = some none)
    (z_int : PySem.W.nsIn K mainGlobals "int" = some none)
    (z_bool : PySem.W.nsIn K mainGlobals "bool" = some none)
    (z_range : PySem.W.nsIn K mainGlobals "range" = some none)
    (z_sorted : PySem.W.nsIn K mainGlobals "sorted" = some none)
    (z_tuple : PySem.W.nsIn K mainGlobals "tuple" = some none)
    (z_str : PySem.W.nsIn K mainGlobals "str" = some none)
    : ∃ fd : FuncData, (∀ (s : Shared) (v : Value), BindsTo s fd ⟨[v], []⟩ [("_law_script", v)]) ∧ ∀ base : Heap, K.In base → base.Ns mainGlobals mg → FnOk l.prog w K mg base CX0 9 fa fd ["_law_script"] (spLaw K) := by
  have e := hfa.symm.trans (PySem.W.mg_of X G a21)
  cases e
  have Z_len := PySem.W.mg_none_of X G z_len
  have Z_list := PySem.W.mg_none_of X G z_list
  have Z_isinstance := PySem.W.mg_none_of X G z_isinstance
  have Z_int := PySem.W.mg_none_of X G z_int
  have Z_bool := PySem.W.mg_none_of X G z_bool
  have Z_range := PySem.W.mg_none_of X G z_range
  have Z_sorted := PySem.W.mg_none_of X G z_sorted
  have Z_tuple := PySem.W.mg_none_of X G z_tuple
  have Z_str := PySem.W.mg_none_of X G z_str
  have G_FIRST_SIZE := PySem.W.mg_of X G gg0
  have F0 := fun_mk (st := sOwn) l0 c0 k0
  have b0 := F0.binds (ps := ["number", "size"]) fun _ _ _ _ _ _ us hl => match us, hl with | [_, _], _ => rfl
  have F1 := fun_mk (st := sBeh) l1 c1 k1
  have b1 := F1.binds (ps := ["peg", "size"]) fun _ _ _ _ _ _ us hl => match us, hl with | [_, _], _ => rfl
  have F2 := fun_mk (st := sCoats) l2 c2 k2
  have b2 := F2.binds (ps := ["rack"]) fun _ _ _ _ _ _ us hl => match us, hl with | [_], _ => rfl
  have F3 := fun_mk (st := sFF) l3 c3 k3
  have b3 := F3.binds (ps := ["rack", "peg"]) fun _ _ _ _ _ _ us hl => match us, hl with | [_, _], _ => rfl
  have F4 := fun_mk (st := sPegOf) l4 c4 k4
  have b4 := F4.binds (ps := ["rack", "number"]) fun _ _ _ _ _ _ us hl => match us, hl with | [_, _], _ => rfl
  have F5 := fun_mk (st := sHung) l5 c5 k5
  have b5 := F5.binds (ps := ["rack", "number"]) fun _ _ _ _ _ _ us hl => match us, hl with | [_, _], _ => rfl
  have F6 := fun_mk (st := sTaken) l6 c6 k6
  have b6 := F6.binds (ps := ["rack", "number"]) fun _ _ _ _ _ _ us hl => match us, hl with | [_, _], _ => rfl
  have F7 := fun_mk (st := sChanged) l7 c7 k7
  have b7 := F7.binds (ps := ["rack", "size"]) fun _ _ _ _ _ _ us hl => match us, hl with | [_, _], _ => rfl
  have F8 := fun_mk (st := sScarce) l8 c8 k8
  have b8 := F8.binds (ps := ["rack"]) fun _ _ _ _ _ _ us hl => match us, hl with | [_], _ => rfl
  have F9 := fun_mk (st := sHang) l9 c9 k9
  have b9 := F9.binds (ps := ["rack", "number"]) fun _ _ _ _ _ _ us hl => match us, hl with | [_, _], _ => rfl
  have F10 := fun_mk (st := sTake) l10 c10 k10
  have b10 := F10.binds (ps := ["rack", "number"]) fun _ _ _ _ _ _ us hl => match us, hl with | [_, _], _ => rfl
  have F11 := fun_mk (st := sDone) l11 c11 k11
  have b11 := F11.binds (ps := ["rack", "deed"]) fun _ _ _ _ _ _ us hl => match us, hl with | [_, _], _ => rfl
  have F12 := fun_mk (st := sSteps) l12 c12 k12
  have b12 := F12.binds (ps := ["deeds"]) fun _ _ _ _ _ _ us hl => match us, hl with | [_], _ => rfl
  have F13 := fun_mk (st := sBehind) l13 c13 k13
  have b13 := F13.binds (ps := ["deeds"]) fun _ _ _ _ _ _ us hl => match us, hl with | [_], _ => rfl
  have F14 := fun_mk (st := sSizes) l14 c14 k14
  have b14 := F14.binds (ps := ["deeds"]) fun _ _ _ _ _ _ us hl => match us, hl with | [_], _ => rfl
  have F15 := fun_mk (st := sDraw) l15 c15 k15
  have b15 := F15.binds (ps := ["_law_number", "_law_prime", "_law_many"]) fun _ _ _ _ _ _ us hl => match us, hl with | [_, _, _], _ => rfl
  have F16 := fun_mk (st := sWhole) l16 c16 k16
  have b16 := F16.binds (ps := ["_law_found"]) fun _ _ _ _ _ _ us hl => match us, hl with | [_], _ => rfl
  have F17 := fun_mk (st := sSound) l17 c17 k17
  have b17 := F17.binds (ps := ["_law_found", "_law_coats"]) fun _ _ _ _ _ _ us hl => match us, hl with | [_, _], _ => rfl
  have F18 := fun_mk (st := sTag) l18 c18 k18
  have b18 := F18.binds (ps := ["_law_seed"]) fun _ _ _ _ _ _ us hl => match us, hl with | [_], _ => rfl
  have F19 := fun_mk (st := sDeeds) l19 c19 k19
  have b19 := F19.binds (ps := ["_law_cells"]) fun _ _ _ _ _ _ us hl => match us, hl with | [_], _ => rfl
  have F20 := fun_mk (st := sKept) l20 c20 k20
  have b20 := F20.binds (ps := ["_law_handed", "_law_asked"]) fun _ _ _ _ _ _ us hl => match us, hl with | [_, _], _ => rfl
  have F21 := fun_mk (st := sLaw) l21 c21 k21
  refine ⟨PySem.W.fnOf "law" "law" (defArgs sLaw) (defBody sLaw) (defScope sLaw) .none kV21 dc21 pm21 an21 cd21 ct21, fun s v => .of_eq rfl, fun base _ _ => ?_⟩
  have C0 : Cal l.prog w K mg base 1 "own_peg" ["number", "size"] spOwn := ⟨_, _, PySem.W.mg_of X G a0, k0, b0, ok_own F0⟩
  have C1 : Cal l.prog w K mg base 1 "peg_behind" ["peg", "size"] spBeh := ⟨_, _, PySem.W.mg_of X G a1, k1, b1, ok_beh F1⟩
  have C2 : Cal l.prog w K mg base 1 "coats_of" ["rack"] (spCoats K) := ⟨_, _, PySem.W.mg_of X G a2, k2, b2, ok_coats F2⟩
  have C3 : Cal l.prog w K mg base 2 "first_free" ["rack", "peg"] (spFF K) := ⟨_, _, PySem.W.mg_of X G a3, k3, b3, ok_ff F3 C1 Z_len⟩
  have C4 : Cal l.prog w K mg base 2 "peg_of" ["rack", "number"] (spPegOf K) := ⟨_, _, PySem.W.mg_of X G a4, k4, b4, ok_pegof F4 C0 C1 Z_len⟩
  have C5 : Cal l.prog w K mg base 3 "hung" ["rack", "number"] (spHung K) := ⟨_, _, PySem.W.mg_of X G a5, k5, b5, ok_hung F5 C0 C3 Z_len Z_list⟩
  have C6 : Cal l.prog w K mg base 4 "taken" ["rack", "number"] (spTaken K) := ⟨_, _, PySem.W.mg_of X G a6, k6, b6, ok_taken F6 C1 C4 C5 Z_len Z_list⟩
  have C7 : Cal l.prog w K mg base 4 "changed" ["rack", "size"] (spChanged K) := ⟨_, _, PySem.W.mg_of X G a7, k7, b7, ok_changed F7 C2 C5⟩
  have C8 : Cal l.prog w K mg base 2 "is_scarce" ["rack"] (spScarce K) := ⟨_, _, PySem.W.mg_of X G a8, k8, b8, ok_scarce F8 C2 Z_len⟩
  have C9 : Cal l.prog w K mg base 5 "hang" ["rack", "number"] (spDeed 0) := ⟨_, _, PySem.W.mg_of X G a9, k9, b9, ok_hang F9 C4 C5 C8 C7 Z_len⟩
  have C10 : Cal l.prog w K mg base 5 "take" ["rack", "number"] (spDeed 1) := ⟨_, _, PySem.W.mg_of X G a10, k10, b10, ok_take F10 C4 C6⟩
  have C11 : Cal l.prog w K mg base 6 "done" ["rack", "deed"] (spDone K) := ⟨_, _, PySem.W.mg_of X G a11, k11, b11, ok_done F11 C4 C9 C10⟩
  have C12 : Cal l.prog w K mg base 7 "steps" ["deeds"] (spSteps K) := ⟨_, _, PySem.W.mg_of X G a12, k12, b12, ok_steps F12 C11 G_FIRST_SIZE⟩
  have C13 : Cal l.prog w K mg base 8 "rack_behind" ["deeds"] (spBehind K) := ⟨_, _, PySem.W.mg_of X G a13, k13, b13, ok_behind F13 C12⟩
  have C14 : Cal l.prog w K mg base 8 "sizes" ["deeds"] (spSizes K) := ⟨_, _, PySem.W.mg_of X G a14, k14, b14, ok_sizes F14 C12 C2 Z_len⟩
  have C15 : Cal l.prog w K mg base 1 "_law_draw" ["_law_number", "_law_prime", "_law_many"] spDraw := ⟨_, _, PySem.W.mg_of X G a15, k15, b15, ok_draw F15⟩
  have C16 : Cal l.prog w K mg base 1 "_law_whole" ["_law_found"] spWhole := ⟨_, _, PySem.W.mg_of X G a16, k16, b16, ok_whole F16 Z_isinstance Z_int Z_bool (kit_int_int K) (kit_int_bool K)⟩
  have C17 : Cal l.prog w K mg base 2 "_law_sound" ["_law_found", "_law_coats"] (spSound K) := ⟨_, _, PySem.W.mg_of X G a17, k17, b17, ok_sound F17 C16 Z_isinstance Z_list Z_len Z_range Z_sorted (kit_list_list K)⟩
  have C18 : Cal l.prog w K mg base 2 "_law_tag" ["_law_seed"] spTag := ⟨_, _, PySem.W.mg_of X G a18, k18, b18, ok_tag F18 C15⟩
  have C19 : Cal l.prog w K mg base 3 "_law_deeds" ["_law_cells"] (spDeeds K) := ⟨_, _, PySem.W.mg_of X G a19, k19, b19, ok_deeds F19 C18 Z_len Z_range⟩
  have C20 : Cal l.prog w K mg base 2 "_law_kept" ["_law_handed", "_law_asked"] (spKept K) := ⟨_, _, PySem.W.mg_of X G a20, k20, b20, ok_kept F20 C16 Z_len Z_range Z_isinstance Z_tuple Z_str (kit_tuple_tuple K) (kit_str_str K)⟩
  exact ok_law F21 C13 C14 C16 C17 C19 C20 Z_len Z_list Z_isinstance Z_range Z_tuple (kit_list_list K) (kit_tuple_tuple K)
end Peg
open PySem PySem.W PyProof.Rows
set_option maxRecDepth 100000 in
set_option maxHeartbeats 0 in
theorem PySem.Challenge.cw_peghall_k07_whole_rack_holds : PySem.Challenge.rw_peghall_k07_whole_rack.Holds := by
  w_on; o_law; k_head; (case hw => w_witness2)
  k_fill
  refine L2.walk_bits (l := PySem.Challenge.rw_peghall_k07_whole_rack) (k := 9) (x := "_law_script") rfl rfl ⟨rfl, by decide, by decide⟩ (fun w h Y => PySem.W.kIn_of Y) ?F
  case F =>
    intro w mg fa h KX G hmg
    refine' Peg.all_mk KX G hmg ?gg0 ?a0 ?l0 ?c0 ?k0 ?a1 ?l1 ?c1 ?k1 ?a2 ?l2 ?c2 ?k2 ?a3 ?l3 ?c3 ?k3 ?a4 ?l4 ?c4 ?k4 ?a5 ?l5 ?c5 ?k5 ?a6 ?l6 ?c6 ?k6 ?a7 ?l7 ?c7 ?k7 ?a8 ?l8 ?c8 ?k8 ?a9 ?l9 ?c9 ?k9 ?a10 ?l10 ?c10 ?k10 ?a11 ?l11 ?c11 ?k11 ?a12 ?l12 ?c12 ?k12 ?a13 ?l13 ?c13 ?k13 ?a14 ?l14 ?c14 ?k14 ?a15 ?l15 ?c15 ?k15 ?a16 ?l16 ?c16 ?k16 ?a17 ?l17 ?c17 ?k17 ?a18 ?l18 ?c18 ?k18 ?a19 ?l19 ?c19 ?k19 ?a20 ?l20 ?c20 ?k20 ?a21 ?l21 ?c21 ?k21 ?z_len ?z_list ?z_isinstance ?z_int ?z_bool ?z_range ?z_sorted ?z_tuple ?z_str
    (case gg0 => k_is)
    (case a0 => k_is)
    (case l0 => k_is)
    (case c0 => k_is)
    (case k0 => k_is)
    (case a1 => k_is)
    (case l1 => k_is)
    (case c1 => k_is)
    (case k1 => k_is)
    (case a2 => k_is)
    (case l2 => k_is)
    (case c2 => k_is)
    (case k2 => k_is)
    (case a3 => k_is)
    (case l3 => k_is)
    (case c3 => k_is)
    (case k3 => k_is)
    (case a4 => k_is)
    (case l4 => k_is)
    (case c4 => k_is)
    (case k4 => k_is)
    (case a5 => k_is)
    (case l5 => k_is)
    (case c5 => k_is)
    (case k5 => k_is)
    (case a6 => k_is)
    (case l6 => k_is)
    (case c6 => k_is)
    (case k6 => k_is)
    (case a7 => k_is)
    (case l7 => k_is)
    (case c7 => k_is)
    (case k7 => k_is)
    (case a8 => k_is)
    (case l8 => k_is)
    (case c8 => k_is)
    (case k8 => k_is)
    (case a9 => k_is)
    (case l9 => k_is)
    (case c9 => k_is)
    (case k9 => k_is)
    (case a10 => k_is)
    (case l10 => k_is)
    (case c10 => k_is)
    (case k10 => k_is)
    (case a11 => k_is)
    (case l11 => k_is)
    (case c11 => k_is)
    (case k11 => k_is)
    (case a12 => k_is)
    (case l12 => k_is)
    (case c12 => k_is)
    (case k12 => k_is)
    (case a13 => k_is)
    (case l13 => k_is)
    (case c13 => k_is)
    (case k13 => k_is)
    (case a14 => k_is)
    (case l14 => k_is)
    (case c14 => k_is)
    (case k14 => k_is)
    (case a15 => k_is)
    (case l15 => k_is)
    (case c15 => k_is)
    (case k15 => k_is)
    (case a16 => k_is)
    (case l16 => k_is)
    (case c16 => k_is)
    (case k16 => k_is)
    (case a17 => k_is)
    (case l17 => k_is)
    (case c17 => k_is)
    (case k17 => k_is)
    (case a18 => k_is)
    (case l18 => k_is)
    (case c18 => k_is)
    (case k18 => k_is)
    (case a19 => k_is)
    (case l19 => k_is)
    (case c19 => k_is)
    (case k19 => k_is)
    (case a20 => k_is)
    (case l20 => k_is)
    (case c20 => k_is)
    (case k20 => k_is)
    (case a21 => k_is)
    (case l21 => k_is)
    (case c21 => k_is)
    (case k21 => k_is)
    (case z_len => k_is)
    (case z_list => k_is)
    (case z_isinstance => k_is)
    (case z_int => k_is)
    (case z_bool => k_is)
    (case z_range => k_is)
    (case z_sorted => k_is)
    (case z_tuple => k_is)
    (case z_str => k_is)

