import PyProof.Rows.All
import Wide.All
import OpenK.AllK
import Wide.FinOn
import Lean
import PyProof.EqAt
import PyProof.EqKinds
import PyProof.TupleCall
import KE.KIsAll
import PyProof.NeKinds
import KE.KTryMore
import KE.KRevIter
import PyProof.WalksEnum
import PyProof.EnumMake
import PyProof.ExcArgsOwn
import PyProof.ExcAttrAll.ValueError
import PyProof.ListRange
import PySem.Challenge.RW_figuretape_k07_compared_or_refused
set_option Elab.async false
set_option linter.all false
set_option maxRecDepth 100000
namespace L2
open PySem PySem.Spec PyProof.Rows

/-- a key: an int or a str -/
abbrev Key := Sum Int Str
def keyIs : Key → Value → Bool
  | .inl k, v => Value.isInt k v
  | .inr x, v => Value.isStrOf x v
def keyH (w : World) : Key → Int
  | .inl k => hashInt k
  | .inr x => hashStr w x
theorem keyIs_shape : ∀ {k : Key} {v : Value}, keyIs k v = true → (∃ i t, k = Sum.inl i ∧ v = Value.int i t) ∨ (∃ x t, k = Sum.inr x ∧ v = Value.str x t)
  | .inl i, v, h => by
    obtain ⟨t, e⟩ := Value.isInt_shape (k := i) (v := v) h
    exact .inl ⟨i, t, rfl, e⟩
  | .inr x, v, h => by
    obtain ⟨t, e⟩ := Value.isStrOf_shape (x := x) (v := v) h
    exact .inr ⟨x, t, rfl, e⟩
theorem keyIs_int (i : Int) (t : Tok) : keyIs (.inl i) (.int i t) = true := by simp [keyIs, Value.isInt]
theorem keyIs_str (x : Str) (t : Tok) : keyIs (.inr x) (.str x t) = true := by simp [keyIs, Value.isStrOf]
theorem key_ll (a b : Int) : decide ((Sum.inl a : Key) = Sum.inl b) = (a == b) := by
  by_cases e : a = b
  · subst e; simp
  · have h : ¬ (Sum.inl a : Key) = Sum.inl b := fun q => e (Sum.inl.inj q)
    rw [decide_eq_false h]
    exact (beq_eq_false_iff_ne.mpr e).symm
theorem key_rr (a b : Str) : decide ((Sum.inr a : Key) = Sum.inr b) = decide (a = b) := by
  by_cases e : a = b
  · subst e; simp
  · have h : ¬ (Sum.inr a : Key) = Sum.inr b := fun q => e (Sum.inr.inj q)
    rw [decide_eq_false h, decide_eq_false e]
theorem key_lr (a : Int) (b : Str) : decide ((Sum.inl a : Key) = Sum.inr b) = false := decide_eq_false (fun q => nomatch q)
theorem key_rl (a : Str) (b : Int) : decide ((Sum.inr a : Key) = Sum.inl b) = false := decide_eq_false (fun q => nomatch q)

def mixKind (prog : Program) (w : World) : PySem.KeyKind prog w Key where
  is := keyIs
  hash := keyH w
  inj := fun v a b ha hb => by
    rcases keyIs_shape ha with ⟨i, t, rfl, rfl⟩ | ⟨x, t, rfl, rfl⟩
    · rcases keyIs_shape hb with ⟨j, u, rfl, e⟩ | ⟨y, u, rfl, e⟩
      · injection e with e1 _; rw [e1]
      · exact nomatch e
    · rcases keyIs_shape hb with ⟨j, u, rfl, e⟩ | ⟨y, u, rfl, e⟩
      · exact nomatch e
      · injection e with e1 _; rw [e1]
  byValue := fun k v h => by
    rcases keyIs_shape h with ⟨i, t, rfl, rfl⟩ | ⟨x, t, rfl, rfl⟩ <;> rfl
  pyHash := fun hv h => by
    rcases keyIs_shape hv with ⟨i, t, rfl, rfl⟩ | ⟨x, t, rfl, rfl⟩
    · exact wpAny_pyHash_int h
    · exact wpAny_pyHash_str h
  eqBool := fun hu hv h => by
    rcases keyIs_shape hu with ⟨i, t, rfl, rfl⟩ | ⟨x, t, rfl, rfl⟩
    · rcases keyIs_shape hv with ⟨j, u, rfl, rfl⟩ | ⟨y, u, rfl, rfl⟩
      · rw [key_ll] at h; exact wpAny_eqBool_int h
      · rw [key_lr] at h; exact SeqAt.EqAt.int_str i t y u _ _ _ _ h
    · rcases keyIs_shape hv with ⟨j, u, rfl, rfl⟩ | ⟨y, u, rfl, rfl⟩
      · rw [key_rl] at h; exact SeqAt.EqAt.str_int x t j u _ _ _ _ h
      · rw [key_rr] at h; exact wpAny_eqBool_str h
  «strs» := fun k x t v h => by
    rcases keyIs_shape h with ⟨i, u, rfl, e⟩ | ⟨y, u, rfl, e⟩
    · exact nomatch e
    · injection e with e1 _
      subst e1
      cases v <;> rfl

theorem mixKind_is (prog : Program) (w : World) (k : Key) (v : Value) : (mixKind prog w).is k v = keyIs k v := rfl
theorem mixKind_int (prog : Program) (w : World) (i : Int) (t : Tok) : (mixKind prog w).is (.inl i) (.int i t) = true := keyIs_int i t
theorem mixKind_str (prog : Program) (w : World) (x : Str) (t : Tok) : (mixKind prog w).is (.inr x) (.str x t) = true := keyIs_str x t
end L2

namespace L2
open PySem PySem.Spec PyProof.Rows

/-- a value, without the heap -/
inductive V where
  | non | bl (b : Bool) | int (i : Int) | str (x : Str) | byt (b : Array UInt8) | flt (b : UInt64) | ref (a : Addr) | ty (n : String)
  deriving DecidableEq

def RelV : V → Value → Prop
  | .non, u => u = Value.none
  | .bl b, u => u = Value.bool b
  | .int i, u => ∃ t, u = Value.int i t
  | .str x, u => ∃ t, u = Value.str x t
  | .byt b, u => ∃ t, u = Value.bytes b t
  | .flt b, u => ∃ t, u = Value.float b t
  | .ref a, u => u = Value.ref a
  | .ty n, u => u = Value.type n

abbrev Vals : List V → List Value → Prop := Paired RelV
theorem Vals.length {xs : List V} {us : List Value} (r : Vals xs us) : xs.length = us.length := Paired.length r
theorem Vals.get : ∀ {xs : List V} {us : List Value} {i : Nat} {x : V}, Vals xs us → xs[i]? = some x → ∃ u, us[i]? = some u ∧ RelV x u
  | _, _, _, _, .nil, e => by simp at e
  | _, _, 0, _, .cons r _, e => by simp at e; subst e; exact ⟨_, rfl, r⟩
  | _, _, i + 1, x, .cons _ t, e => by
    obtain ⟨u, h1, h2⟩ := Vals.get (i := i) (x := x) t (by simpa using e)
    exact ⟨u, by simpa using h1, h2⟩
theorem Vals.set {x : V} {u : Value} (r : RelV x u) : ∀ {xs : List V} {us : List Value} (i : Nat), Vals xs us → Vals (xs.set i x) (us.set i u)
  | _, _, _, .nil => .nil
  | _, _, 0, .cons _ t => .cons r t
  | _, _, i + 1, .cons q t => .cons q (Vals.set r i t)
theorem Vals.append : ∀ {xs ys : List V} {us ws : List Value}, Vals xs us → Vals ys ws → Vals (xs ++ ys) (us ++ ws)
  | _, _, _, _, .nil, s => s
  | _, _, _, _, .cons r t, s => .cons r (Vals.append t s)
theorem Vals.take : ∀ {xs : List V} {us : List Value} (n : Nat), Vals xs us → Vals (xs.take n) (us.take n)
  | _, _, 0, _ => .nil
  | _, _, _ + 1, .nil => .nil
  | _, _, n + 1, .cons r t => .cons r (Vals.take n t)
theorem Vals.drop : ∀ {xs : List V} {us : List Value} (n : Nat), Vals xs us → Vals (xs.drop n) (us.drop n)
  | _, _, 0, r => r
  | _, _, _ + 1, .nil => .nil
  | _, _, n + 1, .cons _ t => Vals.drop n t
theorem Vals.none_of : ∀ {xs : List V} {us : List Value} {i : Nat}, Vals xs us → xs[i]? = none → us[i]? = none := fun {xs us i} r e => by
  have h1 := r.length
  have h2 : xs.length ≤ i := List.getElem?_eq_none_iff.mp e
  exact List.getElem?_eq_none_iff.mpr (by omega)

def RelO : Option V → Option Value → Prop
  | some v, some u => RelV v u
  | none, none => True
  | _, _ => False
def KV {κ : Type} : List (κ × V) → List (κ × Value) → Prop := Paired fun (p : κ × V) (q : κ × Value) => p.1 = q.1 ∧ RelV p.2 q.2

/-- a key of a dict (00_mix): an int or a text -/
def kV : Key → V
  | .inl i => .int i
  | .inr x => .str x

/-- what stands at a tracked address -/
inductive HO where
  /-- a list -/
  | lst (xs : List V)
  /-- a tuple (never changes) -/
  | tup (xs : List V)
  /-- a dict whose keys are ints and texts; one whose keys are tuples of ints and texts (the empty one is both) -/
  | dK (kvs : List (Key × V)) | dT (kvs : List (List Key × V))
  /-- a set of ints: its members, its size -/
  | set (S : Int → Bool) (n : Nat)
  /-- an instance of the class at C, its dict at dx, its attributes -/
  | ins (C dx : Addr) (fs : List (Str × V))
  /-- the dict of the instance at x -/
  | own (x : Addr)
  /-- the dict of an exception -/
  | xd (fs : List (Str × V))
  /-- a bound method, f of x -/
  | met (f x : Addr)
  /-- a range object lo, lo + 1, .. below hi -/
  | rng (lo hi : Int)
  /-- a thing that is known to the object (the script; a dict while a loop walks it): read, never written while it is so -/
  | frz (o : Obj) (u : HO)
  /-- a code object's table -/
  | tbl (ps : Array Value)
  /-- any other thing, by what is true of its one object (a def of one's own: SetO a S n := HO.ext fun h => ..) -/
  | ext (φ : Heap → Prop)

abbrev Hp := Addr → Option HO
def upd (H : Hp) (a : Addr) (o : HO) : Hp := fun b => if b = a then some o else H b
theorem upd_same {H : Hp} {a : Addr} {o : HO} : upd H a o a = some o := by unfold upd; rw [if_pos rfl]
theorem upd_ne {H : Hp} {a b : Addr} {o : HO} (h : b ≠ a) : upd H a o b = H b := by unfold upd; rw [if_neg h]
theorem upd_upd {H : Hp} {a : Addr} {o u : HO} : upd (upd H a o) a u = upd H a u := by
  funext b; unfold upd; split <;> rfl
/-- two objects of different content stand apart -/
theorem ne_of {H : Hp} {a b : Addr} {o u : HO} (h : H a = some o) (h' : H b = some u) (d : o ≠ u) : a ≠ b := by
  intro e; subst e; rw [h] at h'; exact d (Option.some.inj h')
theorem ne_of_none {H : Hp} {a b : Addr} {o : HO} (h : H a = some o) (h' : H b = none) : a ≠ b := by
  intro e; subst e; rw [h] at h'; cases h'

section
variable (P : Program) (w : World)
def ObjOk (H : Hp) (h : Heap) (a : Addr) : HO → Prop
  | .lst xs => xs.length ≤ sizeLine ∧ ∃ (its : List Value) (n : Nat), Vals xs its ∧ h.get? a = some { cls := .type "list", data := .seq its.toArray n }
  | .tup xs => xs.length ≤ sizeLine ∧ ∃ its : List Value, Vals xs its ∧ IsTup h a its.toArray
  | .dK kvs => kvs.length ≤ sizeLine ∧ (a == sysModules) = false ∧ ∃ vs, KV kvs vs ∧ h.DictOf (mixKind P w) a vs
  | .dT kvs => kvs.length ≤ sizeLine ∧ (a == sysModules) = false ∧ ∃ xs : List (List Key × Addr × Value),
      Paired (fun (p : List Key × V) (q : List Key × Addr × Value) => p.1 = q.1 ∧ H q.2.1 = some (.tup (p.1.map kV)) ∧ RelV p.2 q.2.2) kvs xs ∧
      ∃ o es ep, h.get? a = some o ∧ o.ExactDict ∧ o.data = .dict es ep ∧ es.toList = xs.map (entryOfKey (tupleKind (mixKind P w))) ∧ (xs.map (·.1)).Nodup
  | .set S n => h.SetOf (intKind P w) a S n
  | .ins C dx fs => H dx = some (.own a) ∧ fs.length ≤ 1000 ∧ dx ≠ a ∧ h.get? a = some (PySem.W.instObj C dx) ∧
      ∃ mA, h.Ns1 dx mA ∧ (∀ f, RelO (fs.lookup f) (mA f)) ∧ PySem.Within mA (fs.map (·.1))
  | .own _ => ∃ o, h.get? a = some o
  | .xd fs => ∃ mA, h.Ns1 a mA ∧ ∀ f, RelO (fs.lookup f) (mA f)
  | .rng lo hi => ∃ t u v, h.get? a = some { cls := .type "range", data := .fields #[.int lo t, .int hi u, .int 1 v] }
  | .frz o u => h.get? a = some o ∧ ObjOk H h a u
  | .tbl ps => h.get? a = some { cls := .none, data := .fields ps }
  | .met f x => h.get? a = some (PySem.W.methodObj (.ref f) (.ref x))
  | .ext φ => φ h ∧ (∃ o, h.get? a = some o) ∧ ∀ h1 h2 : Heap, φ h1 → (∀ o, h1.get? a = some o → h2.get? a = some o) → φ h2
/-- the abstract heap is held -/
def HOk (H : Hp) (h : Heap) : Prop := ∀ a o, H a = some o → ObjOk P w H h a o
end

section
variable {P : Program} {w : World} {H H' : Hp} {h h' : Heap} {a : Addr} {o : HO}
theorem ObjOk.lt (x : ObjOk P w H h a o) : a < h.objs.size := by
  cases o with
  | lst xs => obtain ⟨_, _, _, _, e⟩ := x; exact Heap.lt_size e
  | tup xs => obtain ⟨_, _, _, p⟩ := x; exact p.lt
  | dK kvs => obtain ⟨_, _, _, _, o, _, _, e, _⟩ := x; exact Heap.lt_size e
  | dT kvs => obtain ⟨_, _, _, _, o, _, _, e, _⟩ := x; exact Heap.lt_size e
  | set S n => obtain ⟨o, _, _, _, e, _⟩ := x; exact Heap.lt_size e
  | ins C dx fs => obtain ⟨_, _, _, e, _⟩ := x; exact Heap.lt_size e
  | own y => obtain ⟨_, e⟩ := x; exact Heap.lt_size e
  | xd fs => obtain ⟨_, ⟨_, _, _, e, _⟩, _⟩ := x; exact Heap.lt_size e
  | rng lo hi => obtain ⟨_, _, _, e⟩ := x; exact Heap.lt_size e
  | frz ob u => obtain ⟨e, _⟩ := x; exact Heap.lt_size e
  | tbl ps => exact Heap.lt_size (show h.get? a = some _ from x)
  | met f y => exact Heap.lt_size (show h.get? a = some _ from x)
  | ext φ => obtain ⟨_, ⟨_, e⟩, _⟩ := x; exact Heap.lt_size e
theorem Paired.mapP {α β : Type} {F G : α → β → Prop} : ∀ {l₁ : List α} {l₂ : List β}, Paired F l₁ l₂ → (∀ a b, F a b → G a b) → Paired G l₁ l₂
  | _, _, .nil, _ => .nil
  | _, _, .cons r t, f => .cons (f _ _ r) (Paired.mapP t f)
theorem Paired.imp' {α β : Type} {F G : α → β → Prop} (f : ∀ a b, F a b → G a b) {l₁ : List α} {l₂ : List β} (r : Paired F l₁ l₂) : Paired G l₁ l₂ := Paired.mapP r f
/-- what an object's description leans on: its own object, its own dict, the tuples -/
theorem ObjOk.stay (x : ObjOk P w H h a o) (k : ∀ b u, (b = a ∨ H b = some (.own a)) → h.get? b = some u → h'.get? b = some u)
    (ho : ∀ b, H b = some (.own a) → H' b = some (.own a)) (ht : ∀ b xs, H b = some (.tup xs) → H' b = some (.tup xs)) : ObjOk P w H' h' a o := by
  induction o with
  | lst xs => obtain ⟨z, its, n, r, e⟩ := x; exact ⟨z, its, n, r, k _ _ (.inl rfl) e⟩
  | tup xs => obtain ⟨z, its, r, ob, e, c⟩ := x; exact ⟨z, its, r, ob, k _ _ (.inl rfl) e, c⟩
  | dK kvs => obtain ⟨z, y, vs, r, ob, es, ep, e, c⟩ := x; exact ⟨z, y, vs, r, ob, es, ep, k _ _ (.inl rfl) e, c⟩
  | dT kvs =>
    obtain ⟨z, y, xs, r, ob, es, ep, e, c⟩ := x
    exact ⟨z, y, xs, Paired.mapP r fun p q z => ⟨z.1, ht _ _ z.2.1, z.2.2⟩, ob, es, ep, k _ _ (.inl rfl) e, c⟩
  | set S n => obtain ⟨ob, es, ep, t, e, c⟩ := x; exact ⟨ob, es, ep, t, k _ _ (.inl rfl) e, c⟩
  | ins C dx fs =>
    obtain ⟨d, z, ne, e, mA, ⟨od, es, ep, e2, c⟩, r⟩ := x
    exact ⟨ho _ d, z, ne, k _ _ (.inl rfl) e, mA, ⟨od, es, ep, k _ _ (.inr d) e2, c⟩, r⟩
  | own y => obtain ⟨ob, e⟩ := x; exact ⟨ob, k _ _ (.inl rfl) e⟩
  | xd fs => obtain ⟨mA, ⟨od, es, ep, e, c⟩, r⟩ := x; exact ⟨mA, ⟨od, es, ep, k _ _ (.inl rfl) e, c⟩, r⟩
  | rng lo hi => obtain ⟨t, u, v, e⟩ := x; exact ⟨t, u, v, k _ _ (.inl rfl) e⟩
  | frz ob u ih => obtain ⟨e, q⟩ := x; exact ⟨k _ _ (.inl rfl) e, ih q⟩
  | tbl ps =>
    have e : h.get? a = some { cls := .none, data := .fields ps } := x
    show h'.get? a = some { cls := .none, data := .fields ps }
    exact k a _ (.inl rfl) e
  | met f y =>
    have e : h.get? a = some (PySem.W.methodObj (.ref f) (.ref y)) := x
    show h'.get? a = some (PySem.W.methodObj (.ref f) (.ref y))
    exact k a _ (.inl rfl) e
  | ext φ => obtain ⟨p, ⟨o, e⟩, st⟩ := x; exact ⟨st _ _ p fun o q => k _ _ (.inl rfl) q, ⟨o, k _ _ (.inl rfl) e⟩, st⟩
theorem HOk.lt (x : HOk P w H h) (e : H a = some o) : a < h.objs.size := (x a o e).lt
theorem HOk.fresh (x : HOk P w H h) (e : h.objs.size ≤ a) : H a = none := by
  cases q : H a with
  | none => rfl
  | some u => exact absurd (Nat.lt_of_lt_of_le (x.lt q) e) (Nat.lt_irrefl _)
/-- every object of the heap is kept -/
theorem HOk.kept (x : HOk P w H h) (k : ∀ b u, h.get? b = some u → h'.get? b = some u) : HOk P w H h' := fun a o e =>
  (x a o e).stay (fun b u _ q => k b u q) (fun _ q => q) fun _ _ q => q
/-- a new object is laid and tracked -/
theorem HOk.laid (x : HOk P w H h) (k : ∀ b u, h.get? b = some u → h'.get? b = some u) (hp : h.objs.size ≤ a) (new : ObjOk P w (upd H a o) h' a o) : HOk P w (upd H a o) h' := fun b u e => by
  have hn := x.fresh hp
  by_cases hb : b = a
  · subst hb; rw [upd_same] at e; cases e; exact new
  · rw [upd_ne hb] at e
    exact (x b u e).stay (fun c v _ q => k c v q) (fun c q => by rw [upd_ne (ne_of_none q hn)]; exact q) fun c xs q => by rw [upd_ne (ne_of_none q hn)]; exact q
end

/-- what may be read as u: it is u, or a known u -/
def Rd (H : Hp) (a : Addr) (u : HO) : Prop := H a = some u ∨ ∃ o, H a = some (.frz o u)
theorem Rd.of {H : Hp} {a : Addr} {u : HO} (h : H a = some u) : Rd H a u := .inl h
theorem Rd.ok {P : Program} {w : World} {H : Hp} {h : Heap} {a : Addr} {u : HO} (r : Rd H a u) (x : HOk P w H h) : ObjOk P w H h a u := by
  rcases r with r | ⟨o, r⟩
  · exact x a u r
  · obtain ⟨_, q⟩ := x a _ r
    exact q
/-- what may be written -/
def Mut : Option HO → Prop
  | some (.lst _) => True
  | some (.dK _) => True
  | some (.dT _) => True
  | some (.set _ _) => True
  | some (.ins _ _ _) => True
  | some (.ext _) => True
  | _ => False
section
variable {P : Program} {w : World} {H : Hp} {h h' : Heap} {x e : Addr} {o' : HO}
/-- the object at e is changed: x itself, or the dict of the instance x -/
theorem HOk.write (ok : HOk P w H h) (mu : Mut (H x)) (he : e = x ∨ H e = some (.own x)) (k : ∀ b u, b ≠ e → h.get? b = some u → h'.get? b = some u) (heo : ∃ u, h'.get? e = some u)
    (new : ObjOk P w (upd H x o') h' x o') : HOk P w (upd H x o') h' := fun b u q => by
  have nown : ∀ c y, H c = some (.own y) → c ≠ x := fun c y r z => by subst z; rw [r] at mu; exact mu
  have ntup : ∀ c xs, H c = some (.tup xs) → c ≠ x := fun c xs r z => by subst z; rw [r] at mu; exact mu
  by_cases hb : b = x
  · subst hb; rw [upd_same] at q; cases q; exact new
  · rw [upd_ne hb] at q
    by_cases hbe : b = e
    · have q' : H b = some (.own x) := by
        rcases he with z | z
        · exact absurd (hbe.trans z) hb
        · rw [hbe]; exact z
      rw [q] at q'; cases q'
      obtain ⟨v, hv⟩ := heo
      exact ⟨v, by rw [hbe]; exact hv⟩
    · refine (ok b u q).stay (fun c v hc r => k c v ?_ r) (fun c r => by rw [upd_ne (nown c b r)]; exact r) fun c xs r => by rw [upd_ne (ntup c xs r)]; exact r
      rcases hc with rfl | hc
      · exact hbe
      · rintro rfl
        rcases he with z | z
        · exact nown c b hc z
        · rw [hc] at z; cases z; exact hb rfl
end

/-! ### kept unless tracked; of the frames at fs (the callers') the slots may change (an exception that passes writes there); of the records at ex (iterators) nothing is said -/
structure Un (fs ex : List Addr) (H H' : Hp) (h h' : Heap) : Prop where
  keep : ∀ b o, h.get? b = some o → H b = none → b ∉ fs → b ∉ ex → h'.get? b = some o
  slot : ∀ b o, h.get? b = some o → H b = none → b ∈ fs → b ∉ ex → ∃ sl, h'.get? b = some { o with slots := sl }
  free : ∀ b o, h.get? b = some o → H b = none → b ∉ ex → H' b = none
  there : ∀ b o, h.get? b = some o → b ∉ ex → ∃ o', h'.get? b = some o'
  tups : ∀ b xs, H b = some (.tup xs) → H' b = some (.tup xs)
  frzs : ∀ b o u, H b = some (.frz o u) → H' b = some (.frz o u)
  tbls : ∀ b ps, H b = some (.tbl ps) → ∃ more, H' b = some (.tbl (ps ++ more))
section
variable {fs fs' ex ex' : List Addr} {H H1 H2 : Hp} {h h1 h2 h' : Heap} {a x e : Addr} {o : HO}
theorem Un.any (u : Un fs ex H H1 h h1) {b : Addr} {ob : Obj} (q : h.get? b = some ob) (n : H b = none) (hx : b ∉ ex) : ∃ sl, h1.get? b = some { ob with slots := sl } := by
  by_cases hb : b ∈ fs
  · exact u.slot b ob q n hb hx
  · exact ⟨ob.slots, u.keep b ob q n hb hx⟩
theorem Un.trans (a : Un fs ex H H1 h h1) (b : Un fs ex H1 H2 h1 h2) : Un fs ex H H2 h h2 where
  keep := fun c ob q n hc hx => b.keep c ob (a.keep c ob q n hc hx) (a.free c ob q n hx) hc hx
  slot := fun c ob q n hc hx => by
    obtain ⟨sl, e1⟩ := a.slot c ob q n hc hx
    obtain ⟨sl', e2⟩ := b.slot c _ e1 (a.free c ob q n hx) hc hx
    exact ⟨sl', e2⟩
  free := fun c ob q n hx => by
    obtain ⟨o', e1⟩ := a.there c ob q hx
    exact b.free c o' e1 (a.free c ob q n hx) hx
  there := fun c ob q hx => by
    obtain ⟨o', e1⟩ := a.there c ob q hx
    exact b.there c o' e1 hx
  tups := fun c xs q => b.tups c xs (a.tups c xs q)
  frzs := fun c ob xs q => b.frzs c ob xs (a.frzs c ob xs q)
  tbls := fun c ps q => by
    obtain ⟨m1, e1⟩ := a.tbls c ps q
    obtain ⟨m2, e2⟩ := b.tbls c _ e1
    exact ⟨m1 ++ m2, by rw [e2, Array.append_assoc]⟩
theorem Un.kept (k : ∀ b u, h.get? b = some u → h'.get? b = some u) : Un fs ex H H h h' :=
  ⟨fun b ob q _ _ _ => k b ob q, fun b ob q _ _ _ => ⟨ob.slots, k b ob q⟩, fun _ _ _ n _ => n, fun b ob q _ => ⟨ob, k b ob q⟩, fun _ _ q => q, fun _ _ _ q => q, fun _ ps q => ⟨#[], by rw [q]; simp⟩⟩
theorem Un.refl : Un fs ex H H h h := Un.kept fun _ _ q => q
theorem Un.laid (k : ∀ b u, h.get? b = some u → h'.get? b = some u) (hp : h.objs.size ≤ a) (hn : H a = none) : Un fs ex H (upd H a o) h h' where
  keep := fun b u q _ _ _ => k b u q
  slot := fun b u q _ _ _ => ⟨u.slots, k b u q⟩
  free := fun b u q n _ => by rw [upd_ne (Nat.ne_of_lt (Nat.lt_of_lt_of_le (Heap.lt_size q) hp))]; exact n
  there := fun b u q _ => ⟨u, k b u q⟩
  tups := fun b xs q => by rw [upd_ne (ne_of_none q hn)]; exact q
  frzs := fun b u xs q => by rw [upd_ne (ne_of_none q hn)]; exact q
  tbls := fun b ps q => ⟨#[], by rw [upd_ne (ne_of_none q hn), q]; simp⟩
theorem Un.write (mu : Mut (H x)) (he : e = x ∨ H e = some (.own x)) (k : ∀ b u, b ≠ e → h.get? b = some u → h'.get? b = some u) (heo : ∃ u, h'.get? e = some u) : Un fs ex H (upd H x o) h h' := by
  have hx : ∀ b, H b = none → b ≠ x := fun b n z => by subst z; rw [n] at mu; exact mu
  have hb : ∀ b, H b = none → b ≠ e := fun b n z => by
    subst z
    rcases he with r | r
    · exact hx b n r
    · rw [n] at r; cases r
  have hm : ∀ b u, H b = some u → ¬ Mut (some u) → b ≠ x := fun b u q nm z => by subst z; rw [q] at mu; exact nm mu
  refine ⟨fun b u q n _ _ => k b u (hb b n) q, fun b u q n _ _ => ⟨u.slots, k b u (hb b n) q⟩, fun b u q n _ => by rw [upd_ne (hx b n)]; exact n, fun b u q _ => ?_,
    fun b xs q => by rw [upd_ne (hm b _ q fun z => z)]; exact q, fun b u xs q => by rw [upd_ne (hm b _ q fun z => z)]; exact q, fun b ps q => ⟨#[], by rw [upd_ne (hm b _ q fun z => z), q]; simp⟩⟩
  by_cases hbe : b = e
  · subst hbe; exact heo
  · exact ⟨u, k b u hbe q⟩
theorem Un.mono (u : Un fs ex H H1 h h1) (hs : ∀ b ∈ fs, b ∈ fs') (hx : ∀ b ∈ ex, b ∈ ex') : Un fs' ex' H H1 h h1 :=
  ⟨fun b ob q n hb he => u.keep b ob q n (fun z => hb (hs b z)) fun z => he (hx b z), fun _ _ q n _ he => u.any q n fun z => he (hx _ z), fun b ob q n he => u.free b ob q n fun z => he (hx b z), fun b ob q he => u.there b ob q fun z => he (hx b z), u.tups, u.frzs, u.tbls⟩
end

/-! ### the heap without what is tracked -/
def trk (h : Heap) (H : Hp) : List Addr := (List.range h.objs.size).filter fun a => (H a).isSome
def hidT (h : Heap) (H : Hp) : Heap := PySem.W.hideAll h (trk h H)
theorem hidT_size (h : Heap) (H : Hp) : (hidT h H).objs.size = h.objs.size := PySem.W.hideAll_size _ _
theorem hidT_get {h : Heap} {H : Hp} {b : Addr} {o : Obj} (e : h.get? b = some o) (n : H b = none) : (hidT h H).get? b = some o :=
  PySem.W.hideAll_get _ e fun hm => by
    have q : (H b).isSome = true := (List.mem_filter.mp hm).2
    rw [n] at q; simp at q
theorem of_hidT {h : Heap} {H : Hp} {b : Addr} {o : Obj} (e : (hidT h H).get? b = some o) : h.get? b = some o ∧ H b = none := by
  have e' : h.get? b = some o := PySem.W.of_hideAll (trk h H) e
  refine ⟨e', ?_⟩
  cases q : H b with
  | none => rfl
  | some x =>
    have hm : b ∈ trk h H := List.mem_filter.mpr ⟨List.mem_range.mpr (Heap.lt_size e'), by simp [q]⟩
    have z : (hidT h H).get? b = none := PySem.W.hideAll_none (trk h H) hm
    rw [z] at e; cases e

/-! ### OpenK's ledger, filled with every new object but one -/
def allNews (g h : Heap) (L : Addr) : List (Addr × Obj) := (List.range h.objs.size).filterMap fun a => if a = L ∨ (g.get? a).isSome = true then none else (h.get? a).map fun o => (a, o)
theorem mem_allNews {g h : Heap} {L a : Addr} {o : Obj} (h1 : a ≠ L) (h2 : g.get? a = none) (h3 : h.get? a = some o) : (a, o) ∈ allNews g h L :=
  List.mem_filterMap.mpr ⟨a, List.mem_range.mpr (Heap.lt_size h3), by simp [h1, h2, h3]⟩
theorem of_mem_allNews {g h : Heap} {L : Addr} {p : Addr × Obj} (hp : p ∈ allNews g h L) : p.1 ≠ L ∧ g.get? p.1 = none ∧ h.get? p.1 = some p.2 := by
  obtain ⟨b, _, e⟩ := List.mem_filterMap.mp hp
  split at e
  · cases e
  · rename_i hn
    cases q : h.get? b with
    | none => rw [q] at e; simp at e
    | some u =>
      rw [q] at e
      simp only [Option.map_some, Option.some.injEq] at e
      subst e
      refine ⟨fun z => hn (.inl z), ?_, q⟩
      show g.get? b = none
      cases r : g.get? b with
      | none => rfl
      | some v => exact (hn (.inr (by simp [r]))).elim
def rest (g h : Heap) (L d : Addr) : List (Addr × Obj) := (allNews g h L).filter fun p => decide (p.1 ≠ d)
theorem rest_ne {g h : Heap} {L d : Addr} : ∀ p ∈ rest g h L d, p.1 ≠ d := fun p hp => of_decide_eq_true (List.mem_filter.mp hp).2
theorem mem_rest {g h : Heap} {L d a : Addr} {o : Obj} (h1 : a ≠ L) (h2 : g.get? a = none) (h3 : h.get? a = some o) (h4 : a ≠ d) : (a, o) ∈ rest g h L d :=
  List.mem_filter.mpr ⟨mem_allNews h1 h2 h3, decide_eq_true h4⟩
theorem news_all {g h : Heap} {L : Addr} : News g L h (allNews g h L) := fun p hp => let ⟨a, b, c⟩ := of_mem_allNews hp; ⟨c, a, b⟩
theorem news_at {g h : Heap} {L d : Addr} {o : Obj} (h1 : d ≠ L) (h2 : g.get? d = none) (h3 : h.get? d = some o) : News g L h ((d, o) :: rest g h L d) := fun p hp => by
  rcases List.mem_cons.mp hp with rfl | hp
  · exact ⟨h3, h1, h2⟩
  · exact news_all p (List.mem_filter.mp hp).1
/-- behind a rule that changed d alone: all else but the frame is kept -/
theorem kept_of_news {g h h' : Heap} {L d : Addr} {m : Str → Option Value} (k : ∀ b o, g.get? b = some o → h.get? b = some o) (F : Fr g L h' m) (N : News g L h' (rest g h L d)) :
    ∀ b o, b ≠ L → b ≠ d → h.get? b = some o → h'.get? b = some o := fun b o h1 h2 e => by
  cases q : g.get? b with
  | some u =>
    have := k b u q
    rw [e] at this; cases this
    exact F.keep b _ q
  | none => exact (N (b, o) (mem_rest h1 q e h2)).1
end L2

namespace L2
open PySem PySem.Spec PyProof.Rows

/-- the module's facts, over the base: the heap at the law's entry without what is tracked there -/
structure Mod (K : PySem.W.Frag) (mg : Str → Option Value) (base : Heap) : Prop where
  kin : K.In base
  glob : base.Ns mainGlobals mg
  blt : ∃ mb, base.Ns builtinsNs mb ∧ ∀ x : Str, x ≠ "__name__" → mb x = bootBuiltins x
  nolimit : base.NoLimit

/-- the context: a def's body (or a comprehension's block) running. base: fixed through the whole law; s₀, H₀: the entry; outer: the frames whose slots others may change (a def's callers); stack: all frames that run;
   ex: iterators that were made ahead of the entry and are walked here (a comprehension's); fn: the names whose cells were made at the entry (a def: all; a comprehension's block: its own); calm: not within an except suite; pn: pins that every state bears; xe: what is wanted of an exception that leaves the code -/
structure Cx where
  prog : Program
  w : World
  K : PySem.W.Frag
  mg : Str → Option Value
  base : Heap
  A : Around
  N : List Str
  s₀ : Shared
  H₀ : Hp
  env : Env
  outer : List Env
  stack : List Env
  ex : List Addr
  fn : Str → Bool
  calm : Bool
  pn : List (Addr × Obj)
  xe : Value → Shared → Prop
/-- the callers' frames -/
def frs (l : List Env) : List Addr := l.filterMap (·.frame)
abbrev Cx.fs (X : Cx) : List Addr := frs X.outer

def Vis (sc : Scope) (x : Str) : Prop := sc.names.lookup x = some .local ∨ sc.names.lookup x = some .cell ∨ sc.names.lookup x = some .free
def Loc (sc : Scope) (x : Str) : Prop := sc.names.lookup x = some .local ∨ sc.names.lookup x = some .cell
def Look (env : Env) (h : Heap) (m : Str → Option Value) (x : Str) (u : Value) : Prop :=
  (env.kindOf x = some .local ∧ m x = some u) ∨ ((env.kindOf x = some .cell ∨ env.kindOf x = some .free) ∧ ∃ c, env.cells.lookup x = some c ∧ h.IsCell c (some u))

structure Cx.Ok (X : Cx) : Prop where
  mod : Mod X.K X.mg X.base
  kind : X.env.scope.kind = .function
  glob : X.env.globals = mainGlobals
  blt : X.env.builtins = builtinsNs
  above : X.s₀.heap.objs.size ≤ X.env.locals
  inj : ∀ x y c, X.env.cells.lookup x = some c → X.env.cells.lookup y = some c → x = y
  has : ∀ x, (X.env.kindOf x = some .cell ∨ X.env.kindOf x = some .free) → ∃ c, X.env.cells.lookup x = some c
  cab : ∀ x c, X.fn x = true → X.env.cells.lookup x = some c → X.s₀.heap.objs.size ≤ c
  hd : X.calm = true → X.A.handled = none
  frames : X.A.frames = some X.stack
  stk : X.stack = X.outer ∨ (X.stack = X.env :: X.outer ∧ X.env.frame = some X.env.locals)
  exf : ∀ b ∈ X.ex, b ≠ X.env.locals ∧ ∀ x c, X.env.cells.lookup x = some c → c ≠ b
  bs : ∀ b o, X.base.get? b = some o → X.s₀.heap.get? b = some o ∧ X.H₀ b = none
  bsz : X.base.objs.size ≤ X.s₀.heap.objs.size
  noex : ∀ b o, X.base.get? b = some o → b ∉ X.ex
  exfs : ∀ b ∈ X.ex, b ∉ X.fs
  funs : X.s₀.heap.FunFrames X.base X.outer
  frf : ∀ b ∈ X.fs, X.H₀ b = none

structure Inv (X : Cx) (pins : List (Addr × Obj)) (σ : List (Option V)) (H : Hp) (s : Shared) : Prop where
  ok : X.Ok
  os : s.os = X.s₀.os
  bare : AllBare s.gens
  base : Un X.fs X.ex X.H₀ H X.s₀.heap s.heap
  loc : ∃ m, s.heap.Ns X.env.locals m ∧ ∀ (i : Nat) (x : Str) (v : V), X.N[i]? = some x → σ[i]? = some (some v) → Vis X.env.scope x → ∃ u, RelV v u ∧ Look X.env s.heap m x u
  cell : ∀ x c, X.env.cells.lookup x = some c → ∃ v, s.heap.IsCell c v
  free : H X.env.locals = none
  freeC : ∀ x c, X.env.cells.lookup x = some c → H c = none
  pin : ∀ p ∈ X.pn ++ pins, s.heap.get? p.1 = some p.2 ∧ H p.1 = none ∧ p.1 ≠ X.env.locals ∧ p.1 ∉ X.fs ∧ ∀ v, p.2.data ≠ .cell v
  hok : HOk X.prog X.w H s.heap
  len : σ.length = X.N.length

section
variable {X : Cx} {pins : List (Addr × Obj)} {σ : List (Option V)} {H H' : Hp} {s : Shared} {h' : Heap}

theorem Cx.Ok.nofr (ok : X.Ok) {b : Addr} {o : Obj} (e : X.base.get? b = some o) : b ∉ X.fs := fun hb => by
  have := (ok.funs.mem hb).1
  rw [e] at this; cases this
theorem Inv.bs (I : Inv X pins σ H s) : ∀ b o, X.base.get? b = some o → s.heap.get? b = some o ∧ H b = none := fun b o e =>
  ⟨I.base.keep b o (I.ok.bs b o e).1 (I.ok.bs b o e).2 (I.ok.nofr e) (I.ok.noex b o e), I.base.free b o (I.ok.bs b o e).1 (I.ok.bs b o e).2 (I.ok.noex b o e)⟩
theorem Inv.bk (I : Inv X pins σ H s) : ∀ b o, X.base.get? b = some o → s.heap.get? b = some o := fun b o e => (I.bs b o e).1
theorem Inv.mod (I : Inv X pins σ H s) : Mod X.K X.mg X.base := I.ok.mod
theorem Inv.kIn (I : Inv X pins σ H s) : X.K.In s.heap := I.ok.mod.kin.keeps I.bk
theorem Inv.nolimit (I : Inv X pins σ H s) : s.heap.NoLimit := I.ok.mod.nolimit.keeps I.bk
/-- the frame over the base: for OpenK's rules (K.In X.base is I.mod.kin) -/
theorem Inv.fr (I : Inv X pins σ H s) : ∃ m, Fr X.base X.env.locals s.heap m :=
  let ⟨m, hn, _⟩ := I.loc
  ⟨m, hn, I.bk, Nat.le_trans I.ok.bsz I.ok.above⟩
theorem Inv.lt (I : Inv X pins σ H s) : X.env.locals < s.heap.objs.size := let ⟨_, hn, _⟩ := I.loc; hn.lt
theorem Inv.sz (I : Inv X pins σ H s) : X.s₀.heap.objs.size ≤ s.heap.objs.size := Nat.le_trans I.ok.above (Nat.le_of_lt I.lt)
theorem Inv.nofs (I : Inv X pins σ H s) {a : Addr} (h : s.heap.objs.size ≤ a) : a ∉ X.fs := fun hb => by
  obtain ⟨_, o, ho, _⟩ := I.ok.funs.mem hb
  exact absurd (Nat.lt_of_lt_of_le (Heap.lt_size ho) (Nat.le_trans I.sz h)) (Nat.lt_irrefl _)
theorem Inv.cne (I : Inv X pins σ H s) : ∀ x c, X.env.cells.lookup x = some c → c ≠ X.env.locals := fun x c e z => by
  obtain ⟨v, o, ho, hd⟩ := I.cell x c e
  obtain ⟨m, ⟨o', es, ep, ho', hd', _⟩, _⟩ := I.loc
  rw [z, ho'] at ho; cases ho; rw [hd'] at hd; cases hd
theorem Inv.funs (I : Inv X pins σ H s) : s.heap.FunFrames X.base X.outer := by
  have all : ∀ (l : List Env), (∀ b ∈ frs l, b ∈ X.fs) → X.s₀.heap.FunFrames X.base l → s.heap.FunFrames X.base l := by
    intro l
    induction l with
    | nil => intro _ _; trivial
    | cons env r ih =>
      intro hs hl
      obtain ⟨hk, ⟨L, o, hf, hn, ho, hd⟩, hr⟩ := hl
      have hL : L ∈ X.fs := hs L (by unfold frs; rw [List.filterMap_cons, hf]; exact List.mem_cons_self)
      obtain ⟨sl, e⟩ := I.base.slot L o ho (I.ok.frf L hL) hL fun z => I.ok.exfs L z hL
      exact ⟨hk, ⟨L, _, hf, hn, e, hd⟩, ih (fun b hb => hs b (by unfold frs; rw [List.filterMap_cons, hf]; exact List.mem_cons_of_mem _ hb)) hr⟩
  exact all X.outer (fun _ hb => hb) I.ok.funs

/-- the frames that run, for a call -/
theorem Inv.stack (I : Inv X pins σ H s) : s.heap.FunFrames X.base X.stack := by
  rcases I.ok.stk with e | ⟨e, hf⟩
  · rw [e]; exact I.funs
  · rw [e]
    obtain ⟨m, hn, _⟩ := I.loc
    refine .cons (by rw [I.ok.kind]; decide) hf hn ?_ I.funs
    exact Heap.get?_none_of_le (Nat.le_trans I.ok.bsz I.ok.above)
theorem Inv.stkSub (I : Inv X pins σ H s) : ∀ b ∈ frs X.stack, b ∈ X.env.locals :: X.fs := fun b hb => by
  rcases I.ok.stk with e | ⟨e, hf⟩
  · rw [e] at hb; exact List.mem_cons_of_mem _ hb
  · rw [e] at hb
    unfold frs at hb
    rw [List.filterMap_cons, hf] at hb
    exact hb
theorem Inv.stkFree (I : Inv X pins σ H s) : ∀ b ∈ frs X.stack, H b = none := fun b hb => by
  rcases List.mem_cons.mp (I.stkSub b hb) with e | hb
  · rw [e]; exact I.free
  · obtain ⟨_, o, ho, _⟩ := I.ok.funs.mem hb
    exact I.base.free b o ho (I.ok.frf b hb) fun z => I.ok.exfs b z hb

/-- THE STEP: the untracked objects but the frame and the records at ch are kept (the callers' frames up to slots), the frame's map is kept, the new abstract heap is held -/
theorem Inv.step {g' : Array GenState} {t' : Nat} {d' : Drawn} {ch : List Addr} (I : Inv X pins σ H s)
    (hch : ∀ b ∈ ch, (b ∈ X.ex ∨ X.s₀.heap.objs.size ≤ b) ∧ b ≠ X.env.locals ∧ (∀ x c, X.env.cells.lookup x = some c → c ≠ b) ∧ ∀ p ∈ X.pn ++ pins, p.1 ≠ b)
    (keep : ∀ b o, b ≠ X.env.locals → b ∉ X.fs → b ∉ ch → s.heap.get? b = some o → H b = none → h'.get? b = some o)
    (slot : ∀ b o, b ≠ X.env.locals → b ∈ X.fs → b ∉ ch → s.heap.get? b = some o → H b = none → ∃ sl, h'.get? b = some { o with slots := sl }) (free : ∀ b o, b ∉ ch → s.heap.get? b = some o → H b = none → H' b = none)
    (there : ∀ b o, b ∉ ch → s.heap.get? b = some o → ∃ o', h'.get? b = some o')
    (tups : ∀ b xs, H b = some (.tup xs) → H' b = some (.tup xs)) (frzs : ∀ b o u, H b = some (.frz o u) → H' b = some (.frz o u)) (tbls : ∀ b ps, H b = some (.tbl ps) → ∃ more, H' b = some (.tbl (ps ++ more)))
    (ns : ∀ m, s.heap.Ns X.env.locals m → h'.Ns X.env.locals m) (hok : HOk X.prog X.w H' h') (hg : AllBare g') :
    Inv X pins σ H' { s with heap := h', gens := g', drawn := d', toks := t' } := by
  have neL : ∀ b o, X.s₀.heap.get? b = some o → b ≠ X.env.locals := fun b o e => Nat.ne_of_lt (Nat.lt_of_lt_of_le (Heap.lt_size e) I.ok.above)
  have neC : ∀ b o, X.s₀.heap.get? b = some o → b ∉ X.ex → b ∉ ch := fun b o e hx hb => by
    rcases (hch b hb).1 with z | z
    · exact hx z
    · exact absurd (Nat.lt_of_lt_of_le (Heap.lt_size e) z) (Nat.lt_irrefl _)
  have cellK : ∀ x c, X.env.cells.lookup x = some c → ∀ v, s.heap.IsCell c v → h'.IsCell c v := fun x c e v ⟨o, ho, hd⟩ => by
    have nch : c ∉ ch := fun z => (hch c z).2.2.1 x c e rfl
    by_cases hc : c ∈ X.fs
    · obtain ⟨sl, q⟩ := slot c o (I.cne x c e) hc nch ho (I.freeC x c e)
      exact ⟨_, q, hd⟩
    · exact ⟨o, keep c o (I.cne x c e) hc nch ho (I.freeC x c e), hd⟩
  refine ⟨I.ok, I.os, hg, ⟨fun b o e n hb hx => ?_, fun b o e n hb hx => ?_, fun b o e n hx => ?_, fun b o e hx => ?_, fun b xs e => tups b xs (I.base.tups b xs e), fun b o xs e => frzs b o xs (I.base.frzs b o xs e), fun b ps e => ?_⟩, ?_, fun x c e => ?_, ?_, fun x c e => ?_, fun p hp => ?_, hok, I.len⟩
  · exact keep b o (neL b o e) hb (neC b o e hx) (I.base.keep b o e n hb hx) (I.base.free b o e n hx)
  · obtain ⟨sl, e1⟩ := I.base.slot b o e n hb hx
    obtain ⟨sl', e2⟩ := slot b _ (neL b o e) hb (neC b o e hx) e1 (I.base.free b o e n hx)
    exact ⟨sl', e2⟩
  · obtain ⟨o', e1⟩ := I.base.there b o e hx
    exact free b o' (neC b o e hx) e1 (I.base.free b o e n hx)
  · obtain ⟨o', e1⟩ := I.base.there b o e hx
    exact there b o' (neC b o e hx) e1
  · obtain ⟨m1, e1⟩ := I.base.tbls b ps e
    obtain ⟨m2, e2⟩ := tbls b _ e1
    exact ⟨m1 ++ m2, by rw [e2, Array.append_assoc]⟩
  · obtain ⟨m, hn, hl⟩ := I.loc
    refine ⟨m, ns m hn, fun i x v e1 e2 e3 => ?_⟩
    obtain ⟨u, r, l⟩ := hl i x v e1 e2 e3
    refine ⟨u, r, ?_⟩
    rcases l with l | ⟨k, c, e, z⟩
    · exact .inl l
    · exact .inr ⟨k, c, e, cellK x c e _ z⟩
  · obtain ⟨v, z⟩ := I.cell x c e
    exact ⟨v, cellK x c e v z⟩
  · obtain ⟨m, ⟨o, _, _, ho, _⟩, _⟩ := I.loc
    exact free _ o (fun z => (hch _ z).2.1 rfl) ho I.free
  · obtain ⟨v, o, ho, hd⟩ := I.cell x c e
    exact free c o (fun z => (hch c z).2.2.1 x c e rfl) ho (I.freeC x c e)
  · obtain ⟨e, n, ne, nf, d⟩ := I.pin p hp
    have nch : p.1 ∉ ch := fun z => (hch p.1 z).2.2.2 p hp rfl
    exact ⟨keep p.1 p.2 ne nf nch e n, free p.1 p.2 nch e n, ne, nf, d⟩
/-- .. where the frame's own object is kept too -/
theorem Inv.un {t' : Nat} (I : Inv X pins σ H s) (u : Un X.fs [] H H' s.heap h') (hok : HOk X.prog X.w H' h') : Inv X pins σ H' { s with heap := h', toks := t' } := by
  obtain ⟨m, ⟨o, es, ep, ho, r⟩, _⟩ := id I.loc
  obtain ⟨sl, hL⟩ := u.any ho I.free (by simp)
  exact I.step (g' := s.gens) (d' := s.drawn) (ch := []) (fun _ z => nomatch z) (fun b o _ hb _ e n => u.keep b o e n hb (by simp)) (fun b o _ hb _ e n => u.slot b o e n hb (by simp)) (fun b o _ e n => u.free b o e n (by simp)) (fun b o _ e => u.there b o e (by simp)) u.tups u.frzs u.tbls (fun m' hm => by
    obtain ⟨o', es', ep', ho', r'⟩ := hm
    rw [ho] at ho'; cases ho'
    exact ⟨_, es', ep', hL, r'⟩) hok I.bare
/-- behind a call (or a comprehension's block): the slots of this frame may have changed too, the records at ch may have turned -/
theorem Inv.call {g' : Array GenState} {t' : Nat} {d' : Drawn} {ch : List Addr} (I : Inv X pins σ H s) (u : Un (frs X.stack) ch H H' s.heap h') (hok : HOk X.prog X.w H' h') (hg : AllBare g')
    (hch : ∀ b ∈ ch, (b ∈ X.ex ∨ X.s₀.heap.objs.size ≤ b) ∧ b ≠ X.env.locals ∧ (∀ x c, X.env.cells.lookup x = some c → c ≠ b) ∧ ∀ p ∈ X.pn ++ pins, p.1 ≠ b) :
    Inv X pins σ H' { s with heap := h', gens := g', drawn := d', toks := t' } := by
  obtain ⟨m, ⟨o, es, ep, ho, r⟩, _⟩ := id I.loc
  obtain ⟨sl, hL⟩ := u.any ho I.free fun z => (hch _ z).2.1 rfl
  exact I.step (ch := ch) hch (fun b o hL hb hc e n => u.keep b o e n (fun z => (List.mem_cons.mp (I.stkSub b z)).elim hL hb) hc) (fun b o _ _ hc e n => u.any e n hc) (fun b o hc e n => u.free b o e n hc) (fun b o hc e => u.there b o e hc) u.tups u.frzs u.tbls (fun m' hm => by
    obtain ⟨o', es', ep', ho', r'⟩ := hm
    rw [ho] at ho'; cases ho'
    exact ⟨_, es', ep', hL, r'⟩) hok hg
/-- an untracked record of ours (an iterator) has turned -/
theorem Inv.turned {t' : Nat} {it : Addr} (I : Inv X pins σ H s) (k : ∀ b o, b ≠ it → s.heap.get? b = some o → h'.get? b = some o) (hn : H it = none) (hL : it ≠ X.env.locals)
    (h1 : it ∈ X.ex ∨ X.s₀.heap.objs.size ≤ it) (h2 : ∀ x c, X.env.cells.lookup x = some c → c ≠ it) (h3 : ∀ p ∈ X.pn ++ pins, p.1 ≠ it) : Inv X pins σ H { s with heap := h', toks := t' } := by
  have nit : ∀ b u, H b = some u → b ≠ it := fun b u e z => by rw [z, hn] at e; cases e
  refine I.step (g' := s.gens) (d' := s.drawn) (ch := [it]) (fun b hb => ?_) (fun b o _ _ hc e _ => k b o (fun z => hc (by simp [z])) e) (fun b o _ _ hc e _ => ⟨o.slots, k b o (fun z => hc (by simp [z])) e⟩) (fun _ _ _ _ n => n)
    (fun b o hc e => ⟨o, k b o (fun z => hc (by simp [z])) e⟩) (fun _ _ e => e) (fun _ _ _ e => e) (fun b ps e => ⟨#[], by rw [e]; simp⟩) (fun m hm => ?_) (fun b u e => ?_) I.bare
  · have e : b = it := by simpa using hb
    subst e
    exact ⟨h1, hL, h2, h3⟩
  · obtain ⟨o, es, ep, ho, r⟩ := hm
    exact ⟨o, es, ep, k _ o (Ne.symm hL) ho, r⟩
  · refine (I.hok b u e).stay (fun c v hc q => k c v ?_ q) (fun _ q => q) fun _ _ q => q
    rcases hc with z | z
    · rw [z]; exact nit b u e
    · exact nit c _ z
theorem Inv.tok (I : Inv X pins σ H s) (t : Nat) : Inv X pins σ H { s with toks := t } := I.un (h' := s.heap) (t' := t) Un.refl I.hok
/-- all objects kept -/
theorem Inv.kept {t' : Nat} (I : Inv X pins σ H s) (k : ∀ b u, s.heap.get? b = some u → h'.get? b = some u) : Inv X pins σ H { s with heap := h', toks := t' } := I.un (Un.kept k) (I.hok.kept k)
/-- a new object laid and tracked -/
theorem Inv.laid {a : Addr} {o : HO} {t' : Nat} (I : Inv X pins σ H s) (k : ∀ b u, s.heap.get? b = some u → h'.get? b = some u) (hp : s.heap.objs.size ≤ a) (new : ObjOk X.prog X.w (upd H a o) h' a o) :
    Inv X pins σ (upd H a o) { s with heap := h', toks := t' } := I.un (Un.laid k hp (I.hok.fresh hp)) (I.hok.laid k hp new)
/-- an object written -/
theorem Inv.write {x e : Addr} {o : HO} {t' : Nat} (I : Inv X pins σ H s) (mu : Mut (H x)) (he : e = x ∨ H e = some (.own x)) (k : ∀ b u, b ≠ e → s.heap.get? b = some u → h'.get? b = some u) (heo : ∃ u, h'.get? e = some u)
    (new : ObjOk X.prog X.w (upd H x o) h' x o) : Inv X pins σ (upd H x o) { s with heap := h', toks := t' } := I.un (Un.write mu he k heo) (I.hok.write mu he k heo new)
/-- forgetting slots, pins -/
theorem Inv.weak {σ' : List (Option V)} (I : Inv X pins σ H s) (hl : σ'.length = σ.length) (w : ∀ (i : Nat) v, σ'[i]? = some (some v) → σ[i]? = some (some v)) : Inv X pins σ' H s :=
  ⟨I.ok, I.os, I.bare, I.base, let ⟨m, hn, hl'⟩ := I.loc; ⟨m, hn, fun i x v e1 e2 e3 => hl' i x v e1 (w i v e2) e3⟩, I.cell, I.free, I.freeC, I.pin, I.hok, hl.trans I.len⟩
theorem Inv.pins_of {pins' : List (Addr × Obj)} (I : Inv X pins σ H s) (h : ∀ p ∈ pins', s.heap.get? p.1 = some p.2 ∧ H p.1 = none ∧ p.1 ≠ X.env.locals ∧ p.1 ∉ X.fs ∧ ∀ v, p.2.data ≠ .cell v) : Inv X pins' σ H s :=
  ⟨I.ok, I.os, I.bare, I.base, I.loc, I.cell, I.free, I.freeC, fun p hp => (List.mem_append.mp hp).elim (fun z => I.pin p (List.mem_append_left _ z)) (h p), I.hok, I.len⟩

theorem nodup_ix {N : List Str} (hN : N.Nodup) {i j : Nat} {x : Str} (a : N[i]? = some x) (b : N[j]? = some x) : i = j := by
  obtain ⟨h1, e1⟩ := List.getElem?_eq_some_iff.mp a
  obtain ⟨h2, e2⟩ := List.getElem?_eq_some_iff.mp b
  exact (List.getElem_inj hN).mp (e1.trans e2.symm)

/-- a name is stored; what changed -/
theorem store_ok2 {M : Model} {A : Around} {E : Value → Shared → Prop} {i : Nat} {x : Str} {v : V} {u : Value} {Q : Unit → Shared → Prop} (I : Inv X pins σ H s) (hN : X.N.Nodup) (hi : X.N[i]? = some x) (hx : Loc X.env.scope x) (r : RelV v u)
    (h : ∀ s', Inv X pins (σ.set i (some v)) H s' → (∃ a, Heap.SameBut a s.heap s'.heap ∧ (a = X.env.locals ∨ X.env.cells.lookup x = some a)) → Q () s') (hf : X.fn x = true ∨ X.env.scope.names.lookup x = some .local := by first | exact .inl rfl | exact .inr rfl | assumption) : wpAny M A (storeName X.env x u) Q E s := by
  obtain ⟨m, hn, hl⟩ := id I.loc
  have hcls : (X.env.scope.kind == .class || (X.env.scope.kind == .module && X.env.locals != X.env.globals)) = false := by rw [I.ok.kind]; rfl
  have hiσ : i < σ.length := by rw [I.len]; exact (List.getElem?_eq_some_iff.mp hi).1
  have cne := I.cne
  have tracked : ∀ {a : Addr} {h' : Heap}, (∃ o, s.heap.get? a = some o ∧ H a = none) → Heap.SameBut a s.heap h' → HOk X.prog X.w H h' := fun {a h'} ha hs b ob e => by
    obtain ⟨_, _, hfree⟩ := ha
    refine (I.hok b ob e).stay (fun c w' hc q => (hs.2 c ?_).trans q) (fun _ q => q) fun _ _ q => q
    rintro rfl
    rcases hc with rfl | hc
    · rw [hfree] at e; cases e
    · rw [hfree] at hc; cases hc
  rcases hx with hk | hk
  · refine wpAny_storeName_local hk hn (fun h' hn' hs => ?_) hcls
    obtain ⟨oL, _, _, hoL, _⟩ := id hn
    refine h _ ⟨I.ok, I.os, I.bare, ⟨fun b o e n hb hx => ?_, fun b o e n hb hx => ?_, I.base.free, fun b o e hx => ?_, I.base.tups, I.base.frzs, I.base.tbls⟩, ⟨_, hn', fun j y v' e1 e2 e3 => ?_⟩, fun y c e => ?_, I.free, I.freeC, fun p hp => ?_, tracked ⟨oL, hoL, I.free⟩ hs, by simpa using I.len⟩ ⟨_, hs, .inl rfl⟩
    · exact (hs.2 b (Nat.ne_of_lt (Nat.lt_of_lt_of_le (Heap.lt_size e) I.ok.above))).trans (I.base.keep b o e n hb hx)
    · obtain ⟨sl, e1⟩ := I.base.slot b o e n hb hx
      exact ⟨sl, (hs.2 b (Nat.ne_of_lt (Nat.lt_of_lt_of_le (Heap.lt_size e) I.ok.above))).trans e1⟩
    · obtain ⟨o', e1⟩ := I.base.there b o e hx
      exact ⟨o', (hs.2 b (Nat.ne_of_lt (Nat.lt_of_lt_of_le (Heap.lt_size e) I.ok.above))).trans e1⟩
    · by_cases hj : j = i
      · subst hj
        rw [hi] at e1; cases e1
        rw [List.getElem?_set_self hiσ] at e2
        cases e2
        exact ⟨u, r, .inl ⟨hk, by simp⟩⟩
      · rw [List.getElem?_set_ne (Ne.symm hj)] at e2
        obtain ⟨u', r', q⟩ := hl j y v' e1 e2 e3
        refine ⟨u', r', ?_⟩
        rcases q with ⟨k, e⟩ | ⟨k, c, e, z⟩
        · refine .inl ⟨k, ?_⟩
          have : y ≠ x := fun e => hj (nodup_ix hN e1 (e ▸ hi))
          simp [this, e]
        · exact .inr ⟨k, c, e, z.sameBut hs (cne y c e)⟩
    · obtain ⟨w', z⟩ := I.cell y c e
      exact ⟨w', z.sameBut hs (cne y c e)⟩
    · obtain ⟨e, n, ne, nf, d⟩ := I.pin p hp
      exact ⟨(hs.2 p.1 ne).trans e, n, ne, nf, d⟩
  · have hfn : X.fn x = true := by
      rcases hf with z | z
      · exact z
      · rw [z] at hk; cases hk
    obtain ⟨c, hc⟩ := I.ok.has x (.inl hk)
    obtain ⟨w', z⟩ := I.cell x c hc
    refine wpAny_storeName_cell I.ok.kind hk hc z (fun h' hc' hs => ?_)
    obtain ⟨oc, hoc, hocd⟩ := id z
    refine h { s with heap := h' } ⟨I.ok, I.os, I.bare, ⟨fun b o e n hb hx => ?_, fun b o e n hb hx => ?_, I.base.free, fun b o e hx => ?_, I.base.tups, I.base.frzs, I.base.tbls⟩, ⟨m, hn.sameBut hs (Ne.symm (cne x c hc)), fun j y v' e1 e2 e3 => ?_⟩, fun y c' e => ?_, I.free, I.freeC, fun p hp => ?_, tracked ⟨oc, hoc, I.freeC x c hc⟩ hs, by simpa using I.len⟩ ⟨c, hs, .inr hc⟩
    · exact (hs.2 b (Nat.ne_of_lt (Nat.lt_of_lt_of_le (Heap.lt_size e) (I.ok.cab x c hfn hc)))).trans (I.base.keep b o e n hb hx)
    · obtain ⟨sl, e1⟩ := I.base.slot b o e n hb hx
      exact ⟨sl, (hs.2 b (Nat.ne_of_lt (Nat.lt_of_lt_of_le (Heap.lt_size e) (I.ok.cab x c hfn hc)))).trans e1⟩
    · obtain ⟨o', e1⟩ := I.base.there b o e hx
      exact ⟨o', (hs.2 b (Nat.ne_of_lt (Nat.lt_of_lt_of_le (Heap.lt_size e) (I.ok.cab x c hfn hc)))).trans e1⟩
    · by_cases hj : j = i
      · subst hj
        rw [hi] at e1; cases e1
        rw [List.getElem?_set_self hiσ] at e2
        cases e2
        exact ⟨u, r, .inr ⟨.inl hk, c, hc, hc'⟩⟩
      · rw [List.getElem?_set_ne (Ne.symm hj)] at e2
        obtain ⟨u', r', q⟩ := hl j y v' e1 e2 e3
        refine ⟨u', r', ?_⟩
        rcases q with q | ⟨k, c', e, z'⟩
        · exact .inl q
        · refine .inr ⟨k, c', e, z'.sameBut hs ?_⟩
          rintro rfl
          exact hj (nodup_ix hN e1 (I.ok.inj _ _ _ e hc ▸ hi))
    · by_cases hcc : c' = c
      · subst hcc; exact ⟨_, hc'⟩
      · obtain ⟨w2, z2⟩ := I.cell y c' e
        exact ⟨w2, z2.sameBut hs hcc⟩
    · obtain ⟨e, n, ne, nf, d⟩ := I.pin p hp
      refine ⟨(hs.2 p.1 ?_).trans e, n, ne, nf, d⟩
      intro q
      rw [q, hoc] at e
      have q' : oc = p.2 := Option.some.inj e
      exact d w' (by rw [← q']; exact hocd)
theorem store_ok {M : Model} {A : Around} {E : Value → Shared → Prop} {i : Nat} {x : Str} {v : V} {u : Value} {Q : Unit → Shared → Prop} (I : Inv X pins σ H s) (hN : X.N.Nodup) (hi : X.N[i]? = some x) (hx : Loc X.env.scope x) (r : RelV v u)
    (h : ∀ s', Inv X pins (σ.set i (some v)) H s' → Q () s') (hf : X.fn x = true ∨ X.env.scope.names.lookup x = some .local := by first | exact .inl rfl | exact .inr rfl | assumption) : wpAny M A (storeName X.env x u) Q E s :=
  store_ok2 I hN hi hx r (fun s' I' _ => h s' I') hf
/-- behind a call or a block, the state as it is -/
theorem Inv.call' {s' : Shared} {ch : List Addr} (I : Inv X pins σ H s) (ho : s'.os = s.os) (u : Un (frs X.stack) ch H H' s.heap s'.heap) (hok : HOk X.prog X.w H' s'.heap) (hg : AllBare s'.gens)
    (hch : ∀ b ∈ ch, (b ∈ X.ex ∨ X.s₀.heap.objs.size ≤ b) ∧ b ≠ X.env.locals ∧ (∀ x c, X.env.cells.lookup x = some c → c ≠ b) ∧ ∀ p ∈ X.pn ++ pins, p.1 ≠ b) : Inv X pins σ H' s' := by
  obtain ⟨h', g', d', t', o'⟩ := s'
  have e : o' = s.os := ho
  subst e
  exact I.call (g' := g') (t' := t') (d' := d') u hok hg hch
end

/-! ### the judgements -/
/-- an exception: its class, its own dict's address (where it has one), the abstract heap behind it -/
abbrev XK := Value → Option Addr → Hp → Prop
abbrev St := List (Option V)
abbrev VK := V → Hp → Prop
/-- an expression's reading; a test's; an argument list's -/
abbrev TE := St → Hp → VK → Prop
abbrev TT := St → Hp → (Bool → Hp → Prop) → Prop
abbrev TA := St → Hp → (List V → Hp → Prop) → Prop
/-- what is wanted behind a statement -/
structure Ends where
  nx : St → Hp → Prop
  rt : VK
  bk : St → Hp → Prop := fun _ _ => False
  ct : St → Hp → Prop := fun _ _ => False
abbrev TS := Ends → St → Hp → Prop

def EP (X : Cx) (pins : List (Addr × Obj)) (σ : St) (Q : VK) (u : Value) (s' : Shared) : Prop := ∃ v H', Inv X pins σ H' s' ∧ RelV v u ∧ Q v H'
def TP (X : Cx) (pins : List (Addr × Obj)) (σ : St) (Q : Bool → Hp → Prop) (b : Bool) (s' : Shared) : Prop := ∃ H', Inv X pins σ H' s' ∧ Q b H'
def AP (X : Cx) (pins : List (Addr × Obj)) (σ : St) (Q : List V → Hp → Prop) (us : List Value) (s' : Shared) : Prop := ∃ vs H', Inv X pins σ H' s' ∧ Vals vs us ∧ Q vs H'
def SP (X : Cx) (pins : List (Addr × Obj)) (D : Ends) (f : Flow) (s' : Shared) : Prop :=
  match f with
  | .next => ∃ σ' H', Inv X pins σ' H' s' ∧ D.nx σ' H'
  | .brk => ∃ σ' H', Inv X pins σ' H' s' ∧ D.bk σ' H'
  | .cont => ∃ σ' H', Inv X pins σ' H' s' ∧ D.ct σ' H'
  | .ret u => ∃ v σ' H', Inv X pins σ' H' s' ∧ RelV v u ∧ D.rt v H'

def PE (X : Cx) (e : Expr) (t : TE) : Prop :=
  ∀ (pins : List (Addr × Obj)) (s : Shared) (σ : St) (H : Hp) (Q : VK), Inv X pins σ H s → t σ H Q → wpAny (model X.prog X.w) X.A (eval e X.env) (EP X pins σ Q) X.xe s
def PT (X : Cx) (e : Expr) (t : TT) : Prop :=
  ∀ (pins : List (Addr × Obj)) (s : Shared) (σ : St) (H : Hp) (Q : Bool → Hp → Prop), Inv X pins σ H s → t σ H Q → wpAny (model X.prog X.w) X.A (isTrue e X.env (eval e X.env)) (TP X pins σ Q) X.xe s
/-- a test whatever its 'whole' is (and, or) -/
def PW (X : Cx) (e : Expr) (t : TT) : Prop :=
  ∀ (whole : Sem Value) (pins : List (Addr × Obj)) (s : Shared) (σ : St) (H : Hp) (Q : Bool → Hp → Prop), Inv X pins σ H s → t σ H Q → wpAny (model X.prog X.w) X.A (isTrue e X.env whole) (TP X pins σ Q) X.xe s
theorem PW.pt {X : Cx} {e : Expr} {t : TT} (h : PW X e t) : PT X e t := h _
/-- an argument list (no star), from the left -/
def PA (X : Cx) (es : List Expr) (t : TA) : Prop :=
  ∀ (pos : Pos) (pins : List (Addr × Obj)) (s : Shared) (σ : St) (H : Hp) (Q : List V → Hp → Prop), Inv X pins σ H s → t σ H Q → wpAny (model X.prog X.w) X.A (spliced (backTo pos (starEach es X.env))) (AP X pins σ Q) X.xe s
def PS (X : Cx) (st : Stmt) (t : TS) : Prop :=
  ∀ (pins : List (Addr × Obj)) (s : Shared) (σ : St) (H : Hp) (D : Ends), Inv X pins σ H s → t D σ H → wpAny (model X.prog X.w) X.A (exec st X.env) (SP X pins D) X.xe s
def PSs (X : Cx) (st : List Stmt) (t : TS) : Prop :=
  ∀ (pins : List (Addr × Obj)) (s : Shared) (σ : St) (H : Hp) (D : Ends), Inv X pins σ H s → t D σ H → wpAny (model X.prog X.w) X.A (execs st X.env) (SP X pins D) X.xe s
/-- weaken the end -/
theorem thn {α : Type} {t : Sem α} {Q Q' : α → Shared → Prop} {M : Model} {A : Around} {E : Value → Shared → Prop} {s : Shared} (h : wpAny M A t Q E s) (hQ : ∀ a s, Q a s → Q' a s) : wpAny M A t Q' E s := wpAny_mono h hQ fun _ _ x => x
end L2

namespace L2
open PySem PySem.Spec PyProof.Rows
section
variable {X : Cx}

/-- two expressions in a row -/
theorem bin {a b : Expr} {ta tb : TE} (ha : PE X a ta) (hb : PE X b tb) {pins : List (Addr × Obj)} {s : Shared} {σ : St} {H : Hp} {R : V → V → Hp → Prop} (I : Inv X pins σ H s) (h : ta σ H fun x H1 => tb σ H1 fun y H2 => R x y H2)
    {α : Type} {Q : α → Shared → Prop} {f : Value → Value → Sem α}
    (hf : ∀ v u s2 x y H2, Inv X pins σ H2 s2 → RelV x v → RelV y u → R x y H2 → wpAny (model X.prog X.w) X.A (f v u) Q X.xe s2) :
    wpAny (model X.prog X.w) X.A (eval a X.env) (fun v s₁ => wpAny (model X.prog X.w) X.A (eval b X.env) (fun u s₂ => wpAny (model X.prog X.w) X.A (f v u) Q X.xe s₂) X.xe s₁) X.xe s := by
  refine thn (ha pins s σ H _ I h) fun v s1 ⟨x, H1, I1, r1, q1⟩ => ?_
  refine thn (hb pins s1 σ H1 _ I1 q1) fun u s2 ⟨y, H2, I2, r2, q2⟩ => ?_
  exact hf v u s2 x y H2 I2 r1 r2 q2

/-! ### names and constants -/
def tVar (i : Nat) : TE := fun σ H Q => ∃ v, σ[i]? = some (some v) ∧ Q v H
def tC (v : V) : TE := fun _ H Q => Q v H
theorem pe_var {i : Nat} {x : Str} {pos : Pos} (hN : X.N[i]? = some x) (hv : Vis X.env.scope x) (hd : (x == ("__debug__" : Str)) = false := by decide) (hcd : (x == ("__classdict__" : Str)) = false := by decide) : PE X (.Name x pos) (tVar i) := by
  intro pins s σ H Q I h
  obtain ⟨v, e, h⟩ := h
  obtain ⟨m, hn, hl⟩ := I.loc
  obtain ⟨u, r, l⟩ := hl i x v hN e hv
  have fin : EP X pins σ Q u s := ⟨v, H, I, r, h⟩
  rcases l with ⟨hk, hm⟩ | ⟨hk, c, hc, hcell⟩
  · exact wpAny_Name (wpAny_loadName_local I.ok.kind hk hn hm fin) hd
  · rcases hk with hk | hk
    · exact wpAny_Name (wpAny_loadName_cell I.ok.kind hk hc hcell fin) hd
    · exact wpAny_Name (wpAny_loadName_free I.ok.kind hk hc hcell fin hcd) hd
theorem pe_int {i j pos} : PE X (.Constant (.int i) j pos) (tC (.int i)) := fun _ _ _ H _ I h => wpAny_Constant_int ⟨.int i, H, I.tok _, ⟨_, rfl⟩, h⟩
theorem pe_bl {b j pos} : PE X (.Constant (.bool b) j pos) (tC (.bl b)) := fun _ _ _ H _ I h => Constant_bool ⟨.bl b, H, I, rfl, h⟩
theorem pe_non {j pos} : PE X (.Constant .none j pos) (tC .non) := fun _ _ _ H _ I h => Constant_none ⟨.non, H, I, rfl, h⟩
theorem pe_str {x j pos} : PE X (.Constant (.str x) j pos) (tC (.str x)) := fun _ _ _ H _ I h => Calls.Constant_str ⟨.str x, H, I.tok _, ⟨_, rfl⟩, h⟩

/-- a global name of the def -/
def Gl (X : Cx) (x : Str) : Prop := X.env.kindOf x = some .globalImplicit
theorem ld_glob {E : Value → Shared → Prop} {pins : List (Addr × Obj)} {s : Shared} {σ : St} {H : Hp} {x : Str} {u : Value} {pos : Pos} {Q : Value → Shared → Prop} (I : Inv X pins σ H s) (hg : Gl X x) (hm : X.mg x = some u) (h : Q u s)
    (hd : (x == ("__debug__" : Str)) = false := by decide) : wpAny (model X.prog X.w) X.A (eval (.Name x pos) X.env) Q E s :=
  Calls.Name_function_global I.ok.kind hg (Calls.loadGlobal_global (by rw [I.ok.glob]; exact I.mod.glob.keeps I.bk) hm h) hd
theorem ld_blt {E : Value → Shared → Prop} {pins : List (Addr × Obj)} {s : Shared} {σ : St} {H : Hp} {x : Str} {u : Value} {pos : Pos} {Q : Value → Shared → Prop} (I : Inv X pins σ H s) (hg : Gl X x) (hm : X.mg x = none) (hv : bootBuiltins x = some u) (h : Q u s)
    (hn : x ≠ "__name__" := by decide) (hd : (x == ("__debug__" : Str)) = false := by decide) : wpAny (model X.prog X.w) X.A (eval (.Name x pos) X.env) Q E s := by
  obtain ⟨mb, h1, h2⟩ := I.mod.blt
  exact Calls.Name_function_global I.ok.kind hg (Calls.loadGlobal_builtin (by rw [I.ok.glob]; exact I.mod.glob.keeps I.bk) hm (by rw [I.ok.blt]; exact h1.keeps I.bk) ((h2 x hn).trans hv) h) hd
/-- a module's constant, a class, a function, as a value -/
theorem pe_glob {x : Str} {v : V} {u : Value} {pos : Pos} (hg : Gl X x) (hm : X.mg x = some u) (r : RelV v u) (hd : (x == ("__debug__" : Str)) = false := by decide) : PE X (.Name x pos) (tC v) :=
  fun _ _ _ H _ I h => ld_glob I hg hm ⟨v, H, I, r, h⟩ hd
theorem pe_bltn {x : Str} {v : V} {u : Value} {pos : Pos} (hg : Gl X x) (hm : X.mg x = none) (hv : bootBuiltins x = some u) (r : RelV v u) (hn : x ≠ "__name__" := by decide) (hd : (x == ("__debug__" : Str)) = false := by decide) : PE X (.Name x pos) (tC v) :=
  fun _ _ _ H _ I h => ld_blt I hg hm hv ⟨v, H, I, r, h⟩ hn hd

/-! ### arithmetic -/
/-- two ints -/
def t2I (ta tb : TE) (k : Int → Int → Hp → Prop) : St → Hp → Prop := fun σ H => ta σ H fun x H1 => tb σ H1 fun y H2 => ∃ i j, x = .int i ∧ y = .int j ∧ k i j H2
def tAdd (ta tb : TE) : TE := fun σ H Q => t2I ta tb (fun i j H2 => Q (.int (i + j)) H2) σ H
def tSub (ta tb : TE) : TE := fun σ H Q => t2I ta tb (fun i j H2 => Q (.int (i - j)) H2) σ H
/-- the left factor below 2^64 -/
def tMul (ta tb : TE) : TE := fun σ H Q => t2I ta tb (fun i j H2 => (-(2 ^ 64) < i ∧ i < 2 ^ 64) ∧ Q (.int (i * j)) H2) σ H
variable {a b : Expr} {ta tb : TE} {pos : Pos}
theorem pe_add (ha : PE X a ta) (hb : PE X b tb) : PE X (.BinOp a .Add b pos) (tAdd ta tb) := by
  intro pins s σ H Q I h
  refine wpAny_BinOp (bin ha hb I h fun v u s2 x y H2 I2 rx ry q => ?_)
  obtain ⟨i, j, rfl, rfl, q⟩ := q
  obtain ⟨t, rfl⟩ := rx
  obtain ⟨t', rfl⟩ := ry
  exact add_int ⟨.int _, H2, I2.tok _, ⟨_, rfl⟩, q⟩
theorem pe_sub (ha : PE X a ta) (hb : PE X b tb) : PE X (.BinOp a .Sub b pos) (tSub ta tb) := by
  intro pins s σ H Q I h
  refine wpAny_BinOp (bin ha hb I h fun v u s2 x y H2 I2 rx ry q => ?_)
  obtain ⟨i, j, rfl, rfl, q⟩ := q
  obtain ⟨t, rfl⟩ := rx
  obtain ⟨t', rfl⟩ := ry
  exact sub_int ⟨.int _, H2, I2.tok _, ⟨_, rfl⟩, q⟩
theorem pe_mul (ha : PE X a ta) (hb : PE X b tb) : PE X (.BinOp a .Mult b pos) (tMul ta tb) := by
  intro pins s σ H Q I h
  refine wpAny_BinOp (bin ha hb I h fun v u s2 x y H2 I2 rx ry q => ?_)
  obtain ⟨i, j, rfl, rfl, ⟨q1, q2⟩, q⟩ := q
  obtain ⟨t, rfl⟩ := rx
  obtain ⟨t', rfl⟩ := ry
  exact mul_int ⟨.int _, H2, I2.tok _, ⟨_, rfl⟩, q⟩ (.of_left (intBits_le_64 q1 q2))

/-! ### comparisons -/
def PC (X : Cx) (op : CmpOp) (a b : Expr) (t : TE) : Prop :=
  ∀ (pins : List (Addr × Obj)) (s : Shared) (σ : St) (H : Hp) (Q : VK), Inv X pins σ H s → t σ H Q →
    wpAny (model X.prog X.w) X.A (eval a X.env) (fun v s₁ => wpAny (model X.prog X.w) X.A (eval b X.env) (fun u s₂ => wpAny (model X.prog X.w) X.A (compareOp op v u) (EP X pins σ Q) X.xe s₂) X.xe s₁) X.xe s
theorem nobehind (b : Expr) {op : CmpOp} (h : op ≠ .In) (h2 : op ≠ .NotIn) : behindInMarks op b = false := by
  have e1 : (op == CmpOp.In) = false := by cases op <;> first | rfl | exact absurd rfl h
  have e2 : (op == CmpOp.NotIn) = false := by cases op <;> first | rfl | exact absurd rfl h2
  cases b <;> simp [behindInMarks, e1, e2]
def tCmp (p : Int → Int → Bool) (ta tb : TE) : TE := fun σ H Q => t2I ta tb (fun i j H2 => Q (.bl (p i j)) H2) σ H
abbrev tLt : TE → TE → TE := tCmp fun i j => decide (i < j)
abbrev tLe : TE → TE → TE := tCmp fun i j => decide (i ≤ j)
abbrev tGt : TE → TE → TE := tCmp fun i j => decide (j < i)
abbrev tGe : TE → TE → TE := tCmp fun i j => decide (j ≤ i)
abbrev tEqI : TE → TE → TE := tCmp fun i j => decide (i = j)
abbrev tNeI : TE → TE → TE := tCmp fun i j => !decide (i = j)
/-- a comparison of two ints, by its rule -/
theorem pc_int {op : CmpOp} {p : Int → Int → Bool} (ha : PE X a ta) (hb : PE X b tb)
    (rule : ∀ (i j : Int) (t u : Tok) (Q : Value → Shared → Prop) (s : Shared), Q (.bool (p i j)) s → wpAny (model X.prog X.w) X.A (compareOp op (.int i t) (.int j u)) Q X.xe s) : PC X op a b (tCmp p ta tb) := by
  intro pins s σ H Q I h
  refine bin ha hb I h fun v u s2 x y H2 I2 rx ry q => ?_
  obtain ⟨i, j, rfl, rfl, q⟩ := q
  obtain ⟨t, rfl⟩ := rx
  obtain ⟨t', rfl⟩ := ry
  exact rule i j t t' _ s2 ⟨.bl _, H2, I2, rfl, q⟩
theorem pc_lt (ha : PE X a ta) (hb : PE X b tb) : PC X .Lt a b (tLt ta tb) := pc_int ha hb fun _ _ _ _ _ _ h => lt_int h
theorem pc_le (ha : PE X a ta) (hb : PE X b tb) : PC X .LtE a b (tLe ta tb) := pc_int ha hb fun _ _ _ _ _ _ h => le_int h
theorem pc_gt (ha : PE X a ta) (hb : PE X b tb) : PC X .Gt a b (tGt ta tb) := pc_int ha hb fun _ _ _ _ _ _ h => gt_int h
theorem pc_ge (ha : PE X a ta) (hb : PE X b tb) : PC X .GtE a b (tGe ta tb) := pc_int ha hb fun _ _ _ _ _ _ h => ge_int h
theorem pc_eqI (ha : PE X a ta) (hb : PE X b tb) : PC X .Eq a b (tEqI ta tb) := pc_int ha hb fun _ _ _ _ _ _ h => eq_int (by rw [Bool.beq_eq_decide_eq]; exact h)
theorem pc_neI (ha : PE X a ta) (hb : PE X b tb) : PC X .NotEq a b (tNeI ta tb) := pc_int ha hb fun _ _ _ _ _ _ h => ne_int (by rw [bne, Bool.beq_eq_decide_eq]; exact h)
/-- is None -/
def tIsN (ta : TE) : TE := fun σ H Q => ta σ H fun x H1 => Q (.bl (decide (x = .non))) H1
def tNotN (ta : TE) : TE := fun σ H Q => ta σ H fun x H1 => Q (.bl (!decide (x = .non))) H1
theorem RelV.none_iff {x : V} {v : Value} (r : RelV x v) : (v == Value.none) = decide (x = .non) := by
  cases x with
  | non => cases r; rfl
  | bl _ => cases r; rfl
  | int _ => obtain ⟨t, rfl⟩ := r; rfl
  | str _ => obtain ⟨t, rfl⟩ := r; rfl
  | byt _ => obtain ⟨t, rfl⟩ := r; rfl
  | flt _ => obtain ⟨t, rfl⟩ := r; rfl
  | ref _ => cases r; rfl
  | ty _ => cases r; rfl
theorem pc_isN {j pos'} (ha : PE X a ta) : PC X .Is a (.Constant .none j pos') (tIsN ta) := by
  intro pins s σ H Q I h
  refine thn (ha pins s σ H _ I h) fun v s1 ⟨x, H1, I1, r1, q1⟩ => ?_
  exact Constant_none (is_none_gen ⟨.bl _, H1, I1, by rw [r1.none_iff]; rfl, q1⟩)
theorem pc_notN {j pos'} (ha : PE X a ta) : PC X .IsNot a (.Constant .none j pos') (tNotN ta) := by
  intro pins s σ H Q I h
  refine thn (ha pins s σ H _ I h) fun v s1 ⟨x, H1, I1, r1, q1⟩ => ?_
  exact Constant_none (isnot_none_gen ⟨.bl _, H1, I1, by rw [r1.none_iff]; rfl, q1⟩)
/-- a comparison as a value, as a test -/
def tB (t : TE) : TT := fun σ H Q => t σ H fun x H1 => ∃ c, x = .bl c ∧ Q c H1
theorem pe_cmp {op : CmpOp} {t : TE} (h : PC X op a b t) (h1 : behindInMarks op b = false := by first | exact nobehind _ (by decide) (by decide) | rfl) : PE X (.Compare a [op] [b] pos) t := fun pins s σ H Q I hw => wpAny_Compare1 (h pins s σ H Q I hw) h1
theorem pt_cmp {op : CmpOp} {t : TE} (h : PC X op a b t) (h1 : behindInMarks op b = false := by first | exact nobehind _ (by decide) (by decide) | rfl) : PT X (.Compare a [op] [b] pos) (tB t) := by
  intro pins s σ H Q I hw
  refine wpAny_isTrue_Compare1 (thn (h pins s σ H _ I hw) fun v s1 h1 => thn h1 fun u s2 h2 => thn h2 fun c s3 ⟨x, H1, I1, r1, q1⟩ => ?_) h1
  obtain ⟨d, rfl, q⟩ := q1
  cases r1
  exact wpAny_truthy_bool ⟨H1, I1, q⟩
/-- an expression whose value is a bool, as a test -/
theorem pt_val {e : Expr} {t : TE} (h : PE X e t) (he : ∀ whole, isTrue e X.env whole = (do let v ← whole; standAt e.pos; holding [v] (truthy v)) := by intro _; rfl) : PT X e (tB t) := by
  intro pins s σ H Q I hw
  refine isTrue_plain (thn (h pins s σ H _ I hw) fun v s1 ⟨x, H1, I1, r1, q1⟩ => ?_) (he _)
  obtain ⟨d, rfl, q⟩ := q1
  cases r1
  exact wpAny_truthy_bool ⟨H1, I1, q⟩

/-! ### and, or, not -/
variable {tA tB' : TT} {rest : List Expr}
def tAnd (t u : TT) : TT := fun σ H Q => t σ H fun c H1 => if c = true then u σ H1 Q else Q false H1
def tOr (t u : TT) : TT := fun σ H Q => t σ H fun c H1 => if c = true then Q true H1 else u σ H1 Q
def tNot (t : TT) : TT := fun σ H Q => t σ H fun c H1 => Q (!c) H1
theorem pw_and1 (ha : PT X a tA) : PW X (.BoolOp .And [a] pos) tA := by
  intro wh pins s σ H Q I h
  refine isTrue_and (thn (ha pins s σ H Q I h) fun c s1 e => ?_)
  cases c with
  | true => exact isTrue_and_nil e
  | false => exact e
theorem pw_or1 (ha : PT X a tA) : PW X (.BoolOp .Or [a] pos) tA := by
  intro wh pins s σ H Q I h
  refine isTrue_or (thn (ha pins s σ H Q I h) fun c s1 e => ?_)
  cases c with
  | false => exact isTrue_or_nil e
  | true => exact e
theorem pw_and (ha : PT X a tA) (hb : PW X (.BoolOp .And (b :: rest) pos) tB') : PW X (.BoolOp .And (a :: b :: rest) pos) (tAnd tA tB') := by
  intro wh pins s σ H Q I h
  refine isTrue_and (thn (ha pins s σ H _ I h) fun c s1 ⟨H1, I1, q1⟩ => ?_)
  cases c with
  | true => exact hb wh pins s1 σ H1 Q I1 q1
  | false => exact ⟨H1, I1, q1⟩
theorem pw_or (ha : PT X a tA) (hb : PW X (.BoolOp .Or (b :: rest) pos) tB') : PW X (.BoolOp .Or (a :: b :: rest) pos) (tOr tA tB') := by
  intro wh pins s σ H Q I h
  refine isTrue_or (thn (ha pins s σ H _ I h) fun c s1 ⟨H1, I1, q1⟩ => ?_)
  cases c with
  | true => exact ⟨H1, I1, q1⟩
  | false => exact hb wh pins s1 σ H1 Q I1 q1
theorem pt_not (ha : PT X a tA) : PT X (.UnaryOp .Not a pos) (tNot tA) := by
  intro pins s σ H Q I h
  exact isTrue_not (ha pins s σ H (fun c H1 => Q (!c) H1) I h)
/-- .. as values (bools) -/
def tAndV (ta tb : TE) : TE := fun σ H Q => ta σ H fun x H1 => ∃ c, x = .bl c ∧ if c = true then tb σ H1 Q else Q (.bl false) H1
def tOrV (ta tb : TE) : TE := fun σ H Q => ta σ H fun x H1 => ∃ c, x = .bl c ∧ if c = true then Q (.bl true) H1 else tb σ H1 Q
def tNotV (ta : TE) : TE := fun σ H Q => ta σ H fun x H1 => ∃ c, x = .bl c ∧ Q (.bl (!c)) H1
theorem pe_one {op} {t : TE} (h : PE X a t) : PE X (.BoolOp op [a] pos) t := fun pins s σ H Q I hw => BoolOp_one (h pins s σ H Q I hw)
theorem pe_and (ha : PE X a ta) (hb : PE X (.BoolOp .And (b :: rest) pos) tb) : PE X (.BoolOp .And (a :: b :: rest) pos) (tAndV ta tb) := by
  intro pins s σ H Q I h
  refine BoolOp_and (thn (ha pins s σ H _ I h) fun v s1 ⟨x, H1, I1, r1, q1⟩ => ?_)
  obtain ⟨c, rfl, q1⟩ := q1
  cases r1
  refine wpAny_truthy_bool ?_
  cases c with
  | true => exact hb pins s1 σ H1 Q I1 q1
  | false => exact ⟨.bl false, H1, I1, rfl, q1⟩
theorem pe_or (ha : PE X a ta) (hb : PE X (.BoolOp .Or (b :: rest) pos) tb) : PE X (.BoolOp .Or (a :: b :: rest) pos) (tOrV ta tb) := by
  intro pins s σ H Q I h
  refine BoolOp_or (thn (ha pins s σ H _ I h) fun v s1 ⟨x, H1, I1, r1, q1⟩ => ?_)
  obtain ⟨c, rfl, q1⟩ := q1
  cases r1
  refine wpAny_truthy_bool ?_
  cases c with
  | false => exact hb pins s1 σ H1 Q I1 q1
  | true => exact ⟨.bl true, H1, I1, rfl, q1⟩
theorem pe_not (ha : PE X a ta) : PE X (.UnaryOp .Not a pos) (tNotV ta) := by
  intro pins s σ H Q I h
  refine UnaryOp_ (thn (ha pins s σ H _ I h) fun v s1 ⟨x, H1, I1, r1, q1⟩ => ?_)
  obtain ⟨c, rfl, q1⟩ := q1
  cases r1
  exact not_of (wpAny_truthy_bool ⟨.bl (!c), H1, I1, rfl, q1⟩)
/-- a if t else b -/
def tIf (t : TT) (ta tb : TE) : TE := fun σ H Q => t σ H fun c H1 => if c = true then ta σ H1 Q else tb σ H1 Q
theorem pe_ifExp {c : Expr} (hc : PT X c tA) (ha : PE X a ta) (hb : PE X b tb) : PE X (.IfExp c a b pos) (tIf tA ta tb) := by
  intro pins s σ H Q I h
  refine wpAny_IfExp (thn (hc pins s σ H _ I h) fun d s1 ⟨H1, I1, q1⟩ => ?_)
  cases d with
  | true => exact ha pins s1 σ H1 Q I1 q1
  | false => exact hb pins s1 σ H1 Q I1 q1
end
end L2

namespace L2
open PySem PySem.Spec PyProof.Rows

/-! ### a list, a tuple that is read: tracked, frozen, or an object of the module -/
def SqL (K : PySem.W.Frag) (H : Hp) (a : Addr) (xs : List V) : Prop :=
  Rd H a (.lst xs) ∨
    ∃ (o : Obj) (its : Array Value) (n : Nat), K.lookup a = some o ∧ o.cls = .type "list" ∧ o.dict = none ∧ o.data = .seq its n ∧ its.size ≤ sizeLine ∧ Vals xs its.toList
def SqT (K : PySem.W.Frag) (H : Hp) (a : Addr) (xs : List V) : Prop :=
  Rd H a (.tup xs) ∨
    ∃ (o : Obj) (its : Array Value) (n : Nat), K.lookup a = some o ∧ o.cls = .type "tuple" ∧ o.data = .seq its n ∧ its.size ≤ sizeLine ∧ Vals xs its.toList
def absV : Value → Option V
  | .none => some .non
  | .bool b => some (.bl b)
  | .int i _ => some (.int i)
  | .str x _ => some (.str x)
  | .bytes b _ => some (.byt b)
  | .float b _ => some (.flt b)
  | .ref a => some (.ref a)
  | .type n => some (.ty n)
  | _ => none
theorem RelV.abs {x : V} {u : Value} (r : RelV x u) : absV u = some x := by
  cases x with
  | non => cases r; rfl
  | bl _ => cases r; rfl
  | int _ => obtain ⟨t, rfl⟩ := r; rfl
  | str _ => obtain ⟨t, rfl⟩ := r; rfl
  | byt _ => obtain ⟨t, rfl⟩ := r; rfl
  | flt _ => obtain ⟨t, rfl⟩ := r; rfl
  | ref _ => cases r; rfl
  | ty _ => cases r; rfl
theorem RelV.inj {x y : V} {u : Value} (r : RelV x u) (q : RelV y u) : x = y := Option.some.inj (r.abs.symm.trans q.abs)
theorem Vals.inj : ∀ {xs ys : List V} {us : List Value}, Vals xs us → Vals ys us → xs = ys
  | _, _, _, .nil, .nil => rfl
  | _, _, _, .cons r t, .cons r' t' => by rw [r.inj r', Vals.inj t t']
section
variable {X : Cx} {pins : List (Addr × Obj)} {σ : St} {H : Hp} {s : Shared} {a : Addr} {xs ys : List V}
theorem SqL.of {K : PySem.W.Frag} (h : H a = some (.lst xs)) : SqL K H a xs := .inl (.inl h)
theorem SqT.of {K : PySem.W.Frag} (h : H a = some (.tup xs)) : SqT K H a xs := .inl (.inl h)
theorem Inv.list (I : Inv X pins σ H s) (h : SqL X.K H a xs) : ∃ its : List Value, Vals xs its ∧ PlainL s.heap a its.toArray ∧ xs.length ≤ sizeLine := by
  rcases h with h | ⟨o, its, n, hk, hc, hd, hs, hz, r⟩
  · obtain ⟨z, its, n, r, e⟩ := h.ok I.hok
    exact ⟨its, r, ⟨_, n, e, rfl, rfl, rfl⟩, z⟩
  · refine ⟨its.toList, r, ⟨o, n, I.kIn a o hk, hc, hd, by simpa using hs⟩, ?_⟩
    have e := r.length
    simp only [Array.length_toList] at e
    omega
theorem Inv.tuple (I : Inv X pins σ H s) (h : SqT X.K H a xs) : ∃ its : List Value, Vals xs its ∧ IsTup s.heap a its.toArray ∧ xs.length ≤ sizeLine := by
  rcases h with h | ⟨o, its, n, hk, hc, hs, hz, r⟩
  · obtain ⟨z, its, r, p⟩ := h.ok I.hok
    exact ⟨its, r, p, z⟩
  · refine ⟨its.toList, r, ⟨o, I.kIn a o hk, hc, n, by simpa using hs⟩, ?_⟩
    have e := r.length
    simp only [Array.length_toList] at e
    omega
theorem Inv.list_inj (I : Inv X pins σ H s) (h : SqL X.K H a xs) (h' : SqL X.K H a ys) : xs = ys := by
  obtain ⟨its, r, ⟨o, n, e, _, _, d⟩, _⟩ := I.list h
  obtain ⟨its', r', ⟨o', n', e', _, _, d'⟩, _⟩ := I.list h'
  rw [e] at e'; cases e'
  rw [d] at d'
  injection d' with d1 _
  have : its = its' := by simpa using congrArg Array.toList d1
  subst this
  exact r.inj r'
theorem Inv.tuple_inj (I : Inv X pins σ H s) (h : SqT X.K H a xs) (h' : SqT X.K H a ys) : xs = ys := by
  obtain ⟨its, r, ⟨o, e, _, n, d⟩, _⟩ := I.tuple h
  obtain ⟨its', r', ⟨o', e', _, n', d'⟩, _⟩ := I.tuple h'
  rw [e] at e'; cases e'
  rw [d] at d'
  injection d' with d1 _
  have : its = its' := by simpa using congrArg Array.toList d1
  subst this
  exact r.inj r'
end

/-! ### another wish about exceptions -/
abbrev Cx.wish (X : Cx) (E : Value → Shared → Prop) : Cx := { X with xe := E }
/-- no exception leaves -/
abbrev Cx.nox (X : Cx) : Cx := X.wish fun _ _ => False
theorem Cx.Ok.wish {X : Cx} (ok : X.Ok) (E : Value → Shared → Prop) : (X.wish E).Ok :=
  ⟨ok.mod, ok.kind, ok.glob, ok.blt, ok.above, ok.inj, ok.has, ok.cab, ok.hd, ok.frames, ok.stk, ok.exf, ok.bs, ok.bsz, ok.noex, ok.exfs, ok.funs, ok.frf⟩
theorem Cx.Ok.unwish {X : Cx} {E : Value → Shared → Prop} (ok : (X.wish E).Ok) : X.Ok :=
  ⟨ok.mod, ok.kind, ok.glob, ok.blt, ok.above, ok.inj, ok.has, ok.cab, ok.hd, ok.frames, ok.stk, ok.exf, ok.bs, ok.bsz, ok.noex, ok.exfs, ok.funs, ok.frf⟩
section
variable {X : Cx} {pins : List (Addr × Obj)} {σ : St} {H : Hp} {s : Shared} {E : Value → Shared → Prop}
theorem Inv.wish (I : Inv X pins σ H s) (E : Value → Shared → Prop) : Inv (X.wish E) pins σ H s := ⟨I.ok.wish E, I.os, I.bare, I.base, I.loc, I.cell, I.free, I.freeC, I.pin, I.hok, I.len⟩
theorem Inv.unwish (I : Inv (X.wish E) pins σ H s) : Inv X pins σ H s := ⟨I.ok.unwish, I.os, I.bare, I.base, I.loc, I.cell, I.free, I.freeC, I.pin, I.hok, I.len⟩
theorem SP.unwish {D : Ends} {f : Flow} {s' : Shared} (h : SP (X.wish E) pins D f s') : SP X pins D f s' := by
  cases f with
  | next => obtain ⟨σ', H', I, q⟩ := h; exact ⟨σ', H', I.unwish, q⟩
  | brk => obtain ⟨σ', H', I, q⟩ := h; exact ⟨σ', H', I.unwish, q⟩
  | cont => obtain ⟨σ', H', I, q⟩ := h; exact ⟨σ', H', I.unwish, q⟩
  | ret u => obtain ⟨v, σ', H', I, r, q⟩ := h; exact ⟨v, σ', H', I.unwish, r, q⟩
theorem PE.nox {e : Expr} {t : TE} (h : PE X.nox e t) : PE X e t := fun pins s σ H Q I hw =>
  wpAny_mono (h pins s σ H Q (I.wish _) hw) (fun _ _ ⟨v, H', I', r, q⟩ => ⟨v, H', I'.unwish, r, q⟩) fun _ _ z => False.elim z
theorem PT.nox {e : Expr} {t : TT} (h : PT X.nox e t) : PT X e t := fun pins s σ H Q I hw =>
  wpAny_mono (h pins s σ H Q (I.wish _) hw) (fun _ _ ⟨H', I', q⟩ => ⟨H', I'.unwish, q⟩) fun _ _ z => False.elim z
theorem PSs.nox {st : List Stmt} {t : TS} (h : PSs X.nox st t) : PSs X st t := fun pins s σ H D I hw =>
  wpAny_mono (h pins s σ H D (I.wish _) hw) (fun _ _ q => q.unwish) fun _ _ z => False.elim z
end

/-! ### blocks and small statements -/
section
variable {X : Cx} {st : Stmt} {rest : List Stmt} {t u : TS} {e : Expr} {te : TE} {pos : Pos}
def tNext : TS := fun D σ H => D.nx σ H
def tSeq (t u : TS) : TS := fun D σ H => t { D with nx := u D } σ H
theorem pss_nil : PSs X [] tNext := fun _ _ σ H _ I h => wpAny_execs_nil ⟨σ, H, I, h⟩
theorem pss_cons (h1 : PS X st t) (h2 : PSs X rest u) : PSs X (st :: rest) (tSeq t u) := by
  intro pins s σ H D I h
  refine wpAny_execs_cons (thn (h1 pins s σ H { D with nx := u D } I h) fun f s1 q => ?_)
  cases f with
  | next =>
    obtain ⟨σ', H', I', q⟩ := q
    exact h2 pins s1 σ' H' D I' q
  | ret v => exact q
  | brk => exact q
  | cont => exact q
theorem pss_one (h1 : PS X st t) : PSs X [st] t := by
  intro pins s σ H D I h
  refine wpAny_execs_cons (thn (h1 pins s σ H D I h) fun f s1 q => ?_)
  cases f with
  | next => exact wpAny_execs_nil q
  | ret v => exact q
  | brk => exact q
  | cont => exact q
def tBreak : TS := fun D σ H => D.bk σ H
def tCont : TS := fun D σ H => D.ct σ H
theorem ps_pass : PS X (.Pass pos) tNext := fun _ _ σ H _ I h => wpAny_Pass ⟨σ, H, I, h⟩
theorem ps_break : PS X (.Break pos) tBreak := fun _ _ σ H _ I h => wpAny_Break ⟨σ, H, I, h⟩
theorem ps_continue : PS X (.Continue pos) tCont := fun _ _ σ H _ I h => wpAny_Continue ⟨σ, H, I, h⟩
/-- in a def's body nothing is shown -/
theorem Inv.quiet {pins : List (Addr × Obj)} {σ : St} {H : Hp} {s : Shared} (I : Inv X pins σ H s) : interactive X.env = false := by simp [interactive, I.ok.kind]
/-- a docstring -/
theorem ps_doc {x j pos pos'} : PS X (.Expr (.Constant (.str x) j pos) pos') tNext := fun _ s σ H _ I h => wpAny_Expr (Calls.Constant_str (show SP X _ _ .next { s with toks := s.toks + 1 } from ⟨σ, H, I.tok _, h⟩)) I.quiet
/-- an expression whose value is dropped -/
def tDrop (te : TE) : TS := fun D σ H => te σ H fun _ H1 => D.nx σ H1
theorem ps_expr (he : PE X e te) (hs : swapsWith e none pos.line X.env = pure false := by rfl) : PS X (.Expr e pos) (tDrop te) := by
  intro pins s σ H D I h
  exact wpAny_Expr_any (thn (he pins s σ H _ I h) fun v s1 ⟨x, H1, I1, r1, q1⟩ => ⟨σ, H1, I1, q1⟩) I.quiet hs
def tRet (te : TE) : TS := fun D σ H => te σ H D.rt
theorem ps_ret (he : PE X e te) : PS X (.Return (some e) pos) (tRet te) := by
  intro pins s σ H D I h
  exact wpAny_Return_some (thn (he pins s σ H _ I h) fun v s1 ⟨x, H1, I1, r1, q1⟩ => ⟨x, σ, H1, I1, r1, q1⟩)
def tRetN : TS := fun D _ H => D.rt .non H
theorem ps_retN : PS X (.Return none pos) tRetN := fun _ _ σ H _ I h => wpAny_Return_none ⟨.non, σ, H, I, rfl, h⟩
def tIfS (c : TT) (t u : TS) : TS := fun D σ H => c σ H fun b H1 => if b = true then t D σ H1 else u D σ H1
theorem ps_if {c : Expr} {a b : List Stmt} {tc : TT} (hc : PT X c tc) (ha : PSs X a t) (hb : PSs X b u) : PS X (.If c a b pos) (tIfS tc t u) := by
  intro pins s σ H D I h
  refine wpAny_If (thn (hc pins s σ H _ I h) fun d s1 ⟨H1, I1, q1⟩ => ?_)
  cases d with
  | true => exact ha pins s1 σ H1 D I1 q1
  | false => exact hb pins s1 σ H1 D I1 q1
/-- code that the proof never comes to -/
def tNever : TS := fun _ _ _ => False
theorem ps_never : PS X st tNever := fun _ _ _ _ _ _ h => h.elim
theorem pss_never {sts : List Stmt} : PSs X sts tNever := fun _ _ _ _ _ _ h => h.elim
end

/-! ### targets -/
abbrev TG := V → St → Hp → (St → Hp → Prop) → Prop
abbrev TGs := List V → St → Hp → (St → Hp → Prop) → Prop
def PG (X : Cx) (target : Expr) (t : TG) : Prop :=
  ∀ (pins : List (Addr × Obj)) (s : Shared) (σ : St) (H : Hp) (v : V) (u : Value) (Q : St → Hp → Prop), Inv X pins σ H s → RelV v u → t v σ H Q →
    wpAny (model X.prog X.w) X.A (assign target X.env u) (fun _ s' => ∃ σ' H', Inv X pins σ' H' s' ∧ Q σ' H') X.xe s
/-- several targets, one after another -/
def PGs (X : Cx) (ts : List Expr) (t : TGs) : Prop :=
  ∀ (pins : List (Addr × Obj)) (s : Shared) (σ : St) (H : Hp) (vs : List V) (us : List Value) (Q : St → Hp → Prop), Inv X pins σ H s → Vals vs us → t vs σ H Q →
    wpAny (model X.prog X.w) X.A (assignInOrder ((assignEach ts X.env).map (·.2)) us) (fun _ s' => ∃ σ' H', Inv X pins σ' H' s' ∧ Q σ' H') X.xe s
/-- o[i] = v, by values -/
abbrev TSet := V → V → V → Hp → (Hp → Prop) → Prop
def PSet (X : Cx) (t : TSet) : Prop :=
  ∀ (pins : List (Addr × Obj)) (s : Shared) (σ : St) (H : Hp) (o i v : V) (ov iv u : Value) (Q : Hp → Prop), Inv X pins σ H s → RelV o ov → RelV i iv → RelV v u → t o i v H Q →
    wpAny (model X.prog X.w) X.A (setItem ov iv u) (fun _ s' => ∃ H', Inv X pins σ H' s' ∧ Q H') X.xe s
/-- a op= b, by values -/
abbrev TIp := V → V → Hp → VK → Prop
def PIp (X : Cx) (op : Operator) (t : TIp) : Prop :=
  ∀ (pins : List (Addr × Obj)) (s : Shared) (σ : St) (H : Hp) (x y : V) (v u : Value) (Q : VK), Inv X pins σ H s → RelV x v → RelV y u → t x y H Q →
    wpAny (model X.prog X.w) X.A (inplaceOp op v u) (EP X pins σ Q) X.xe s
section
variable {X : Cx} {pos : Pos}
def gName (i : Nat) : TG := fun v σ H Q => Q (σ.set i (some v)) H
theorem pg_name {i : Nat} {x : Str} (hN : X.N.Nodup) (hi : X.N[i]? = some x) (hx : Loc X.env.scope x) (hf : X.fn x = true ∨ X.env.scope.names.lookup x = some .local := by first | exact .inl rfl | exact .inr rfl | assumption) : PG X (.Name x pos) (gName i) := by
  intro pins s σ H v u Q I r h
  exact wpAny_assign_Name (store_ok I hN hi hx r (fun s' I' => ⟨_, H, I', h⟩) hf)
def gNil : TGs := fun vs σ H Q => vs = [] ∧ Q σ H
def gCons (t : TG) (u : TGs) : TGs := fun vs σ H Q => ∃ v r, vs = v :: r ∧ t v σ H fun σ' H' => u r σ' H' Q
theorem pgs_nil : PGs X [] gNil := by
  intro pins s σ H vs us Q I r h
  obtain ⟨e, h⟩ := h
  subst e
  cases r
  exact assignInOrder_nil ⟨σ, H, I, h⟩
theorem pgs_cons {e : Expr} {es : List Expr} {t : TG} {u : TGs} (h1 : PG X e t) (h2 : PGs X es u)
    (hs : (assignEach (e :: es) X.env).map (·.2) = assign e X.env :: (assignEach es X.env).map (·.2) := by rfl) : PGs X (e :: es) (gCons t u) := by
  intro pins s σ H vs us Q I r h
  obtain ⟨v, vr, e1, h⟩ := h
  subst e1
  cases r with
  | cons r rr =>
    rw [hs]
    refine assignInOrder_cons (thn (h1 pins s σ H _ _ _ I r h) fun _ s1 ⟨σ1, H1, I1, q1⟩ => ?_)
    exact h2 pins s1 σ1 H1 _ _ Q I1 rr q1
/-- (a, b, ..) = a tuple of that length -/
def gTup (K : PySem.W.Frag) (n : Nat) (t : TGs) : TG := fun v σ H Q => ∃ a xs, v = .ref a ∧ SqT K H a xs ∧ xs.length = n ∧ t xs σ H Q
theorem pg_tup {es : List Expr} {k : Nat} {t : TGs} {n : Nat} (hc : X.calm = true) (h : PGs X es t)
    (hn : (assignEach es X.env).length = n := by rfl) (hst : (assignEach es X.env).findIdx? (·.1) = none := by rfl) : PG X (.Tuple es k pos) (gTup X.K n t) := by
  intro pins s σ H v u Q I r hw
  obtain ⟨a, xs, e1, hq, hl, hw⟩ := hw
  subst e1
  cases r
  obtain ⟨its, rv, ht, hz⟩ := I.tuple hq
  refine assign_Tuple_tuple (I.ok.hd hc) ht (by simp [hn, ← hl, rv.length]) hst fun h' hx => ?_
  have I1 : Inv X pins σ H { s with heap := h' } := I.kept (t' := s.toks) fun b o e => hx b o (Nat.ne_of_lt (Heap.lt_size e)) e
  exact h pins _ σ H xs _ Q I1 (by simpa using rv) hw
/-- o[i] = .. -/
def gSub (to ti : TE) (t : TSet) : TG := fun v σ H Q => to σ H fun o H1 => ti σ H1 fun i H2 => t o i v H2 fun H3 => Q σ H3
theorem pg_sub {o i : Expr} {to ti : TE} {t : TSet} (ho : PE X o to) (hi : PE X i ti) (hs : PSet X t)
    (ha : ∀ v, assign (.Subscript o i pos) X.env v = (do
      let ov ← holding [v] (eval o X.env)
      let iv ← holding [v, ov] (eval i X.env)
      standAt pos
      holding [v, ov, iv] (setItem ov iv v)
      release [v, ov, iv] []) := by intro _; rfl) : PG X (.Subscript o i pos) (gSub to ti t) := by
  intro pins s σ H v u Q I r h
  rw [ha]
  refine wpAny_bind (wpAny_holding (thn (ho pins s σ H _ I h) fun ov s1 ⟨x, H1, I1, r1, q1⟩ => ?_))
  refine wpAny_bind (wpAny_holding (thn (hi pins s1 σ H1 _ I1 q1) fun iv s2 ⟨y, H2, I2, r2, q2⟩ => ?_))
  refine wpAny_bind (wpAny_standAt (wpAny_bind (wpAny_holding (thn (hs pins s2 σ H2 x y v ov iv u _ I2 r1 r2 r q2) fun _ s3 ⟨H3, I3, q3⟩ => ?_))))
  exact wpAny_release ⟨σ, H3, I3, q3⟩
/-- target = value -/
def tAsg (te : TE) (g : TG) : TS := fun D σ H => te σ H fun x H1 => g x σ H1 D.nx
theorem ps_asg {tg e : Expr} {te : TE} {g : TG} (he : PE X e te) (hg : PG X tg g) (hs : swapsWithSole [tg] e pos.line X.env = pure false := by rfl) (hw : swappedStores [tg] e X.env = pure none := by rfl)
    (h1 : (assignEach [tg] X.env).map (·.2) = [assign tg X.env] := by rfl) : PS X (.Assign [tg] e pos) (tAsg te g) := by
  intro pins s σ H D I h
  refine wpAny_Assign_stores (thn (he pins s σ H _ I h) fun v s1 ⟨x, H1, I1, r1, q1⟩ => ?_) hs hw
  rw [h1]
  exact thn (hg pins s1 σ H1 x v _ I1 r1 q1) fun _ s2 q => q
/-- name = value -/
theorem ps_set {i : Nat} {x : Str} {e : Expr} {te : TE} {pos' : Pos} (hN : X.N.Nodup) (hi : X.N[i]? = some x) (hx : Loc X.env.scope x) (he : PE X e te) (hs : swapsWith e (some (.Name x pos')) pos.line X.env = pure false := by rfl) (hf : X.fn x = true ∨ X.env.scope.names.lookup x = some .local := by first | exact .inl rfl | exact .inr rfl | assumption) :
    PS X (.Assign [.Name x pos'] e pos) (tAsg te (gName i)) := by
  intro pins s σ H D I h
  refine wpAny_Assign_Name (thn (he pins s σ H _ I h) fun v s1 ⟨y, H1, I1, r1, q1⟩ => ?_) hs
  exact store_ok I1 hN hi hx r1 (fun s2 I2 => ⟨_, H1, I2, q1⟩) hf
/-- a, b = x, y with plain local names: stored from the right; the pair itself is not tracked (the opening rows as in PyProof/Rows/TupAssign.lean:23) -/
def tPar (i j : Nat) (ta : TA) : TS := fun D σ H => ta σ H fun vs H1 => ∃ v w, vs = [v, w] ∧ D.nx ((σ.set i (some v)).set j (some w)) H1
theorem ps_par {i j : Nat} {x y : Str} {a b : Expr} {ta : TA} {px py pt : Pos} {kt k2 pt2} (hc : X.calm = true) (hN : X.N.Nodup) (hi : X.N[i]? = some x) (hj : X.N[j]? = some y) (hij : i ≠ j)
    (hx : X.env.scope.names.lookup x = some .local) (hy : X.env.scope.names.lookup y = some .local) (ha : PA X [a, b] ta)
    (hw : swappedStores [.Tuple [.Name x px, .Name y py] kt pt] (.Tuple [a, b] k2 pt2) X.env = pure (some [x, y]))
    (hs : swapsWithSole [.Tuple [.Name x px, .Name y py] kt pt] (.Tuple [a, b] k2 pt2) pos.line X.env = pure false := by rfl) :
    PS X (.Assign [.Tuple [.Name x px, .Name y py] kt pt] (.Tuple [a, b] k2 pt2) pos) (tPar i j ta) := by
  intro pins s σ H D I h
  rw [exec_Assign_arm]
  refine wpAny_bind (wpAny_standAt ?_)
  rw [hs]
  refine wpAny_bind (wpAny_pure ?_)
  rw [if_neg (by decide)]
  refine wpAny_bind (Tuple_ (thn (ha _ pins s σ H _ I h) fun us s1 ⟨vs, H1, I1, r1, q1⟩ => ?_))
  obtain ⟨v, w, e1, q1⟩ := q1
  subst e1
  obtain ⟨u1, u2, rfl, rv, rw'⟩ : ∃ u1 u2, us = [u1, u2] ∧ RelV v u1 ∧ RelV w u2 := by
    cases r1 with
    | cons p q =>
      cases q with
      | cons p' q' =>
        cases q'
        exact ⟨_, _, rfl, p, p'⟩
  refine wpAny_newObj_type ?_ (by show 2 ≤ sizeLine; decide)
  have I2 : Inv X pins σ H1 { s1 with heap := s1.heap.push { cls := .type "tuple", data := .seq [u1, u2].toArray } } := I1.kept (t' := s1.toks) fun b o e => Heap.get?_push_of_some _ e
  rw [hw]
  refine wpAny_bind (wpAny_pure ?_)
  show wpAny (model X.prog X.w) X.A (do rule "assign.swapped-stores"; let items ← unpackItems (.ref s1.heap.objs.size) 2 none; assignInOrder [fun v => bindName X.env y v, fun v => bindName X.env x v] items.reverse; pure Flow.next) _ _ _
  refine wpAny_bind (wpAny_rule (wpAny_bind (unpackItems_tuple (items := #[u1, u2]) (I.ok.hd hc) (IsTup.new s1.heap _) fun h' hx' => ?_)))
  have I3 := I2.kept (h' := h') (t' := s1.toks) fun b o e => hx' b o (Nat.ne_of_lt (Heap.lt_size e)) e
  show wpAny _ _ (assignInOrder [fun v => bindName X.env y v, fun v => bindName X.env x v] [u2, u1] >>= fun _ => pure Flow.next) _ _ _
  refine wpAny_bind (assignInOrder_cons (wpAny_bindName (store_ok I3 hN hj (.inl hy) rw' (fun s2 I4 => ?_) (.inr hy))))
  refine assignInOrder_cons (wpAny_bindName (store_ok I4 hN hi (.inl hx) rv (fun s3 I5 => assignInOrder_nil (wpAny_pure ?_)) (.inr hx)))
  rw [List.set_comm _ _ (Ne.symm hij)] at I5
  exact ⟨_, H1, I5, q1⟩
/-- name op= e -/
def tAug (i : Nat) (te : TE) (ti : TIp) : TS := fun D σ H => ∃ x, σ[i]? = some (some x) ∧ te σ H fun y H1 => ti x y H1 fun z H2 => D.nx (σ.set i (some z)) H2
theorem ps_aug {i : Nat} {x : Str} {e : Expr} {te : TE} {op : Operator} {ti : TIp} {pos' : Pos} (hN : X.N.Nodup) (hi : X.N[i]? = some x) (hx : Loc X.env.scope x) (he : PE X e te) (ho : PIp X op ti) (hf : X.fn x = true ∨ X.env.scope.names.lookup x = some .local := by first | exact .inl rfl | exact .inr rfl | assumption) :
    PS X (.AugAssign (.Name x pos') op e pos) (tAug i te ti) := by
  intro pins s σ H D I h
  obtain ⟨v, e1, h⟩ := h
  obtain ⟨m, hn, hl⟩ := I.loc
  have vis : Vis X.env.scope x := by rcases hx with k | k; exact .inl k; exact .inr (.inl k)
  obtain ⟨u, r, l⟩ := hl i x v hi e1 vis
  refine wpAny_AugAssign_Name ?_
  have go : wpAny (model X.prog X.w) X.A (eval e X.env) (fun w s₂ => wpAny (model X.prog X.w) X.A (inplaceOp op u w) (fun r s₃ => wpAny (model X.prog X.w) X.A (storeName X.env x r) (fun _ => SP X pins D .next) X.xe s₃) X.xe s₂) X.xe s := by
    refine thn (he pins s σ H _ I h) fun w s1 ⟨y, H1, I1, r1, q1⟩ => ?_
    refine thn (ho pins s1 σ H1 v y u w _ I1 r r1 q1) fun z s2 ⟨zv, H2, I2, r2, q2⟩ => ?_
    exact store_ok I2 hN hi hx r2 (fun s3 I3 => ⟨_, H2, I3, q2⟩) hf
  rcases l with ⟨hk, hm⟩ | ⟨hk, c, hc, hcell⟩
  · exact wpAny_loadName_local I.ok.kind hk hn hm go
  · rcases hk with hk | hk
    · exact wpAny_loadName_cell I.ok.kind hk hc hcell go
    · rcases hx with k | k
      · have : X.env.scope.names.lookup x = some .free := hk
        rw [k] at this; cases this
      · have : X.env.scope.names.lookup x = some .free := hk
        rw [k] at this; cases this
/-- o[i] op= e -/
def tAugS (to ti te : TE) (tget : V → V → Hp → VK → Prop) (tip : TIp) (tset : TSet) : TS := fun D σ H => to σ H fun o H1 => ti σ H1 fun i H2 => tget o i H2 fun x H3 => te σ H3 fun y H4 => tip x y H4 fun z H5 => tset o i z H5 fun H6 => D.nx σ H6
/-- o[i], by values -/
def PGet (X : Cx) (t : V → V → Hp → VK → Prop) : Prop :=
  ∀ (pins : List (Addr × Obj)) (s : Shared) (σ : St) (H : Hp) (o i : V) (ov iv : Value) (Q : VK), Inv X pins σ H s → RelV o ov → RelV i iv → t o i H Q →
    wpAny (model X.prog X.w) X.A (getItem ov iv) (EP X pins σ Q) X.xe s
theorem ps_augS {o i e : Expr} {to ti te : TE} {tget : V → V → Hp → VK → Prop} {tip : TIp} {tset : TSet} {op : Operator} {tpos : Pos} (ho : PE X o to) (hi : PE X i ti) (hg : PGet X tget) (he : PE X e te) (hp : PIp X op tip) (hs : PSet X tset)
    (ha : ∀ ov iv new, augStore i ov iv new = (do holding [new, ov, iv] (setItem ov iv new); release [new, ov, iv] []; pure .next) := by intros; rfl) : PS X (.AugAssign (.Subscript o i tpos) op e pos) (tAugS to ti te tget tip tset) := by
  intro pins s σ H D I h
  refine wpAny_AugAssign_SubscriptAny (thn (ho pins s σ H _ I h) fun ov s1 ⟨x1, H1, I1, r1, q1⟩ => ?_) ha
  refine thn (hi pins s1 σ H1 _ I1 q1) fun iv s2 ⟨x2, H2, I2, r2, q2⟩ => ?_
  refine thn (hg pins s2 σ H2 x1 x2 ov iv _ I2 r1 r2 q2) fun old s3 ⟨x3, H3, I3, r3, q3⟩ => ?_
  refine thn (he pins s3 σ H3 _ I3 q3) fun v s4 ⟨x4, H4, I4, r4, q4⟩ => ?_
  refine thn (hp pins s4 σ H4 x3 x4 old v _ I4 r3 r4 q4) fun new s5 ⟨x5, H5, I5, r5, q5⟩ => ?_
  exact thn (hs pins s5 σ H5 x1 x2 x5 ov iv new _ I5 r1 r2 r5 q5) fun _ s6 ⟨H6, I6, q6⟩ => ⟨σ, H6, I6, q6⟩
/-- ints -/
def ipI (f : Int → Int → Int) : TIp := fun x y H Q => ∃ i j, x = .int i ∧ y = .int j ∧ Q (.int (f i j)) H
theorem ip_add : PIp X .Add (ipI fun i j => i + j) := by
  intro pins s σ H x y v u Q I r1 r2 h
  obtain ⟨i, j, e1, e2, q⟩ := h
  subst e1; subst e2
  obtain ⟨t, rfl⟩ := r1
  obtain ⟨t', rfl⟩ := r2
  exact iadd_int ⟨.int _, H, I.tok _, ⟨_, rfl⟩, q⟩
theorem ip_sub : PIp X .Sub (ipI fun i j => i - j) := by
  intro pins s σ H x y v u Q I r1 r2 h
  obtain ⟨i, j, e1, e2, q⟩ := h
  subst e1; subst e2
  obtain ⟨t, rfl⟩ := r1
  obtain ⟨t', rfl⟩ := r2
  exact isub_int ⟨.int _, H, I.tok _, ⟨_, rfl⟩, q⟩
end

/-! ### while -/
section
variable {X : Cx} {pos : Pos}
/-- the invariant W with its measure -/
def tWhile (c : TT) (tb : TS) : TS := fun D σ H => ∃ W : Nat → St → Hp → Prop, (∃ m, W m σ H) ∧ ∀ m σ H, W m σ H →
  c σ H fun b H1 => if b = true then ∃ N : St → Hp → Prop, (∀ σ' H', N σ' H' → ∃ m', m' < m ∧ W m' σ' H') ∧ tb { D with nx := N, ct := N, bk := D.nx } σ H1 else D.nx σ H1
theorem ps_while {c : Expr} {body : List Stmt} {tc : TT} {tb : TS} (hp : PassesOwn (model X.prog X.w) X.A X.env X.xe) (hc : PT X c tc) (hb : PSs X body tb) : PS X (.While c body [] pos) (tWhile tc tb) := by
  intro pins s σ H D I h
  obtain ⟨W, ⟨m0, w0⟩, turn⟩ := h
  refine wpAny_While (codeAny_whileLoop (fun n s' => ∃ σ' H', Inv X pins σ' H' s' ∧ W n σ' H') ?_ m0 ⟨σ, H, I, w0⟩)
  rintro n s1 ⟨σ1, H1, I1, w1⟩
  refine wpAny_passesOwn hp (thn (hc pins s1 σ1 H1 _ I1 (turn n σ1 H1 w1)) fun b s2 ⟨H2, I2, q2⟩ => ?_)
  cases b with
  | true =>
    obtain ⟨N, hN, q2⟩ := q2
    rw [if_pos rfl]
    refine wpAny_passesOwn hp (thn (hb pins s2 σ1 H2 _ I2 q2) fun f s3 q3 => ?_)
    cases f with
    | next =>
      obtain ⟨σ3, H3, I3, n3⟩ := q3
      obtain ⟨m', hm, w3⟩ := hN σ3 H3 n3
      exact ⟨m', hm, σ3, H3, I3, w3⟩
    | cont =>
      obtain ⟨σ3, H3, I3, n3⟩ := q3
      obtain ⟨m', hm, w3⟩ := hN σ3 H3 n3
      exact ⟨m', hm, σ3, H3, I3, w3⟩
    | brk => exact q3
    | ret v => exact q3
  | false =>
    rw [if_neg Bool.false_ne_true]
    exact wpAny_execs_nil ⟨σ1, H2, I2, q2⟩
end

/-! ### what a loop or a comprehension walks -/
/-- at turn i: it yields x (the heap may grow), or it stops -/
structure It where
  go : Nat → Hp → Prop
  yld : Nat → Hp → V → Hp → Prop
  stop : Nat → Hp → Prop
/-- the iterator's own objects may turn: they are not the frame's, not pinned, younger than the entry (or a comprehension's own) -/
def FpOk (X : Cx) (pins : List (Addr × Obj)) (H : Hp) (b : Addr) : Prop :=
  H b = none ∧ b ≠ X.env.locals ∧ b ∉ X.fs ∧ (b ∈ X.ex ∨ X.s₀.heap.objs.size ≤ b) ∧ (∀ x c, X.env.cells.lookup x = some c → c ≠ b) ∧ ∀ p ∈ X.pn ++ pins, p.1 ≠ b
theorem Inv.fpOk {X : Cx} {pins : List (Addr × Obj)} {σ : St} {H H' : Hp} {s : Shared} {b : Addr} (I : Inv X pins σ H s) (hb : s.heap.objs.size ≤ b) (hn : H' b = none) : FpOk X pins H' b := by
  refine ⟨hn, Nat.ne_of_gt (Nat.lt_of_lt_of_le I.lt hb), I.nofs hb, .inr (Nat.le_trans I.sz hb), fun x c e z => ?_, fun p hp z => ?_⟩
  · obtain ⟨v, q⟩ := I.cell x c e
    exact absurd (Nat.lt_of_lt_of_le q.lt (by rw [z]; exact hb)) (Nat.lt_irrefl _)
  · exact absurd (Nat.lt_of_lt_of_le (Heap.lt_size (I.pin p hp).1) (by rw [z]; exact hb)) (Nat.lt_irrefl _)
structure Turn (P : Program) (w : World) (K : PySem.W.Frag) (tg : Expr) (J : It) (fp : List Addr) (it : Addr) (tn : Nat → Heap → Prop) : Prop where
  mem : it ∈ fp
  obj : ∀ i h, tn i h → ∀ b ∈ fp, ∃ o, h.get? b = some o ∧ ∀ v, o.data ≠ .cell v
  keep : ∀ i h h', tn i h → (∀ b ∈ fp, ∀ o, h.get? b = some o → h'.get? b = some o) → tn i h'
  item : ∀ (X : Cx), X.prog = P → X.w = w → X.K = K → X.calm = true → ∀ (i : Nat) (pins : List (Addr × Obj)) (s : Shared) (σ : St) (H : Hp) (E : Value → Shared → Prop), Inv X pins σ H s → (∀ b ∈ fp, FpOk X pins H b) → tn i s.heap → J.go i H →
    wpAny (model P w) X.A (pyNext (.ref it)) (fun r s1 => ∃ u, r = some u ∧
      wpAny (model P w) X.A (letOwnedTupleGo tg (.ref it) u) (fun _ s2 => ∃ x H', Inv X pins σ H' s2 ∧ RelV x u ∧ J.yld i H x H' ∧ tn (i + 1) s2.heap ∧ ∀ b ∈ fp, H' b = none) E s1) E s
  done : ∀ (X : Cx), X.prog = P → X.w = w → X.K = K → X.calm = true → ∀ (i : Nat) (pins : List (Addr × Obj)) (s : Shared) (σ : St) (H : Hp) (E : Value → Shared → Prop), Inv X pins σ H s → (∀ b ∈ fp, FpOk X pins H b) → tn i s.heap → J.stop i H →
    wpAny (model P w) X.A (pyNext (.ref it)) (fun r s1 => r = none ∧ Inv X pins σ H s1) E s
  self : ∀ (A : Around) (i : Nat) (s : Shared) (Q : Value → Shared → Prop) (E : Value → Shared → Prop), tn i s.heap → Q (.ref it) s → wpAny (model P w) A (pyIter (.ref it)) Q E s
abbrev TI := St → Hp → (It → Hp → Prop) → Prop
/-- an iterator has come -/
def PIE (X : Cx) (pins : List (Addr × Obj)) (σ : St) (tg : Expr) (R : It → Hp → Prop) (itv : Value) (s2 : Shared) : Prop :=
  ∃ (it : Addr) (fp : List Addr) (tn : Nat → Heap → Prop) (J : It) (H' : Hp), itv = .ref it ∧ Inv X pins σ H' s2 ∧ Turn X.prog X.w X.K tg J fp it tn ∧ tn 0 s2.heap ∧ (∀ b ∈ fp, FpOk X pins H' b) ∧ R J H'
def PI (X : Cx) (tg iter : Expr) (wi : TI) : Prop :=
  ∀ (pins : List (Addr × Obj)) (s : Shared) (σ : St) (H : Hp) (R : It → Hp → Prop), Inv X pins σ H s → wi σ H R →
    wpAny (model X.prog X.w) X.A (eval iter X.env) (fun v s1 => wpAny (model X.prog X.w) X.A (pyIter v) (PIE X pins σ tg R) X.xe s1) X.xe s

/-- the step ahead of the store is nothing for an iterator that keeps no tuple -/
theorem go_of {M : Model} {A : Around} {E : Value → Shared → Prop} {s : Shared} {tg : Expr} {it : Addr} {u : Value} {o : Obj} {n : String} {vs : Array Value} {Q : Unit → Shared → Prop} (ho : s.heap.get? it = some o) (hc : o.cls = .type n) (hd : o.data = .fields vs)
    (hn : ["enumerate", "zip", "dict_itemiterator", "dict_reverseitemiterator", "odict_iterator", "itertools.zip_longest", "itertools.pairwise"].contains n = false) (hQ : Q () s) : wpAny M A (letOwnedTupleGo tg (.ref it) u) Q E s := by
  unfold letOwnedTupleGo
  cases tg <;> first
    | exact wpAny_pure hQ
    | (cases u <;> first
        | exact wpAny_pure hQ
        | (refine wpAny_bind (wpAny_load ho ?_)
           rw [hc, hd]
           show wpAny M A (if (["enumerate", "zip", "dict_itemiterator", "dict_reverseitemiterator", "odict_iterator", "itertools.zip_longest", "itertools.pairwise"].contains n && vs[0]? == some (rawInt _)) = true then _ else _) Q E s
           rw [if_neg (by intro h; rw [hn, Bool.false_and] at h; cases h)]
           exact wpAny_pure hQ))

/-- the list at a, as it stands at each turn (a loop may append to it) -/
def Itl (K : PySem.W.Frag) (a : Addr) : It :=
  ⟨fun i H => ∃ xs x, SqL K H a xs ∧ xs[i]? = some x, fun i H x H' => H' = H ∧ ∀ xs, SqL K H a xs → xs[i]? = some x, fun i H => ∃ xs, SqL K H a xs ∧ xs.length ≤ i⟩
def Itt (K : PySem.W.Frag) (a : Addr) : It :=
  ⟨fun i H => ∃ xs x, SqT K H a xs ∧ xs[i]? = some x, fun i H x H' => H' = H ∧ ∀ xs, SqT K H a xs → xs[i]? = some x, fun i H => ∃ xs, SqT K H a xs ∧ xs.length ≤ i⟩
/-- lo, lo + 1, .. (n of them) -/
def Itr (lo : Int) (n : Nat) : It := ⟨fun i _ => i < n, fun i H x H' => H' = H ∧ x = .int (lo + i), fun i _ => n ≤ i⟩
theorem turn_list {P : Program} {w : World} {K : PySem.W.Frag} {tg : Expr} (a it : Addr) : Turn P w K tg (Itl K a) [it] it (fun i h => h.IsListIter it a i) where
  mem := by simp
  obj := fun i h st b hb => by
    have e : b = it := by simpa using hb
    subst e
    obtain ⟨o, e, c, d⟩ := st
    exact ⟨o, e, fun v z => by rw [d] at z; cases z⟩
  keep := fun i h h' st k => st.at fun o e => k it (by simp) o e
  item := by
    intro X hP hw hK hc i pins s σ H E I hf st hg
    subst hP hw hK
    obtain ⟨xs, x, hq, hx⟩ := hg
    obtain ⟨its, rv, p, hz⟩ := I.list hq
    obtain ⟨u, hu, ru⟩ := rv.get hx
    obtain ⟨f0, f1, f2, f3, f4, f5⟩ := hf it (by simp)
    refine wpAny_pyNext_list_item st p.isList (x := u) (by simpa using hu) fun h' st' sb => ?_
    have I1 : Inv X pins σ H { s with heap := h' } := I.turned (t' := s.toks) (fun b o hb e => (sb.2 b hb).trans e) f0 f1 f3 f4 f5
    obtain ⟨o, e, c, d⟩ := id st'
    exact ⟨u, rfl, go_of (s := { s with heap := h' }) e c d (by decide) ⟨x, H, I1, ru, ⟨rfl, fun ys hy => by rw [I.list_inj hy hq]; exact hx⟩, st', fun b hb => (hf b hb).1⟩⟩
  done := by
    intro X hP hw hK hc i pins s σ H E I hf st hg
    subst hP hw hK
    obtain ⟨xs, hq, hx⟩ := hg
    obtain ⟨its, rv, p, hz⟩ := I.list hq
    obtain ⟨f0, f1, f2, f3, f4, f5⟩ := hf it (by simp)
    have hl := rv.length
    exact wpAny_pyNext_list_end (I.ok.hd hc) st p.isList (by simp; omega) fun h' eb => ⟨rfl, I.turned (t' := s.toks) (fun b o hb e => eb b o hb e) f0 f1 f3 f4 f5⟩
  self := fun _ _ _ _ _ st h => wpAny_pyIter_listiter st h
theorem turn_tuple {P : Program} {w : World} {K : PySem.W.Frag} {tg : Expr} (a it : Addr) : Turn P w K tg (Itt K a) [it] it (fun i h => h.IsTupleIter it a i) where
  mem := by simp
  obj := fun i h st b hb => by
    have e : b = it := by simpa using hb
    subst e
    obtain ⟨o, e, c, d⟩ := st
    exact ⟨o, e, fun v z => by rw [d] at z; cases z⟩
  keep := fun i h h' st k => st.at fun o e => k it (by simp) o e
  item := by
    intro X hP hw hK hc i pins s σ H E I hf st hg
    subst hP hw hK
    obtain ⟨xs, x, hq, hx⟩ := hg
    obtain ⟨its, rv, p, hz⟩ := I.tuple hq
    obtain ⟨u, hu, ru⟩ := rv.get hx
    obtain ⟨f0, f1, f2, f3, f4, f5⟩ := hf it (by simp)
    refine wpAny_pyNext_tuple_item st (show s.heap.IsTuple a its.toArray from p) (x := u) (by simpa using hu) fun h' st' sb => ?_
    have I1 : Inv X pins σ H { s with heap := h' } := I.turned (t' := s.toks) (fun b o hb e => (sb.2 b hb).trans e) f0 f1 f3 f4 f5
    obtain ⟨o, e, c, d⟩ := id st'
    exact ⟨u, rfl, go_of (s := { s with heap := h' }) e c d (by decide) ⟨x, H, I1, ru, ⟨rfl, fun ys hy => by rw [I.tuple_inj hy hq]; exact hx⟩, st', fun b hb => (hf b hb).1⟩⟩
  done := by
    intro X hP hw hK hc i pins s σ H E I hf st hg
    subst hP hw hK
    obtain ⟨xs, hq, hx⟩ := hg
    obtain ⟨its, rv, p, hz⟩ := I.tuple hq
    obtain ⟨f0, f1, f2, f3, f4, f5⟩ := hf it (by simp)
    have hl := rv.length
    exact wpAny_pyNext_tuple_end (I.ok.hd hc) st (show s.heap.IsTuple a its.toArray from p) (by simp; omega) fun h' eb => ⟨rfl, I.turned (t' := s.toks) (fun b o hb e => eb b o hb e) f0 f1 f3 f4 f5⟩
  self := fun _ _ _ _ _ st h => wpAny_pyIter_tupleiter st h
theorem turn_range {P : Program} {w : World} {K : PySem.W.Frag} {tg : Expr} (it : Addr) (lo : Int) (n : Nat) : Turn P w K tg (Itr lo n) [it] it (fun i h => IsRangeIter h it (lo + (i : Nat) * 1) ((n : Int) - (i : Nat)) 1) where
  mem := by simp
  obj := fun i h st b hb => by
    have e : b = it := by simpa using hb
    subst e
    exact ⟨_, st, fun v z => by
      have z' : Data.fields _ = Data.cell v := z
      cases z'⟩
  keep := fun i h h' st k => k it (by simp) _ st
  item := by
    intro X hP hw hK hc i pins s σ H E I hf st hg
    subst hP hw hK
    obtain ⟨f0, f1, f2, f3, f4, f5⟩ := hf it (by simp)
    have W := Walks.range (prog := X.prog) (w := X.w) (I.ok.hd hc) it lo 1 n
    refine W.item i s _ _ hg st fun v h' tk hv st' kk => ?_
    obtain ⟨t, rfl⟩ := hv
    have I1 : Inv X pins σ H { s with heap := h', toks := tk } := I.turned (fun b o hb e => kk b o (by simpa using hb) e) f0 f1 f3 f4 f5
    refine ⟨_, rfl, go_of (s := { s with heap := h', toks := tk }) (n := "range_iterator") st' rfl rfl (by decide) ⟨.int (lo + i), H, I1, ⟨t, ?_⟩, ⟨rfl, rfl⟩, st', fun b hb => (hf b hb).1⟩⟩
    rw [Int.mul_one]
  done := by
    intro X hP hw hK hc i pins s σ H E I hf st hg
    subst hP hw hK
    obtain ⟨f0, f1, f2, f3, f4, f5⟩ := hf it (by simp)
    exact wpAny_pyNext_range_end (I.ok.hd hc) st (by have : n ≤ i := hg; omega) fun h' eb => ⟨rfl, I.turned (t' := s.toks) (fun b o hb e => eb b o hb e) f0 f1 f3 f4 f5⟩
  self := fun _ _ _ _ _ st h => wpAny_pyIter_rangeiter st h
end L2

namespace L2
open PySem PySem.Spec PyProof.Rows
section
variable {X : Cx} {tg : Expr}
def iList (K : PySem.W.Frag) (tl : TE) : TI := fun σ H R => tl σ H fun x H1 => ∃ a, x = .ref a ∧ (∃ xs, SqL K H1 a xs) ∧ R (Itl K a) H1
def iTup (K : PySem.W.Frag) (tl : TE) : TI := fun σ H R => tl σ H fun x H1 => ∃ a, x = .ref a ∧ (∃ xs, SqT K H1 a xs) ∧ R (Itt K a) H1
theorem pi_list {l : Expr} {tl : TE} (hl : PE X l tl) : PI X tg l (iList X.K tl) := by
  intro pins s σ H R I h
  refine thn (hl pins s σ H _ I h) fun v s1 ⟨x, H1, I1, r1, q1⟩ => ?_
  obtain ⟨a, e, ⟨xs, hq⟩, q⟩ := q1
  subst e
  cases r1
  obtain ⟨its, rv, p, hz⟩ := I1.list hq
  refine wpAny_pyIter_list p.isList ?_
  refine ⟨s1.heap.objs.size, [s1.heap.objs.size], _, _, H1, rfl, I1.kept (t' := s1.toks) fun b o e => Heap.get?_push_of_some _ e, turn_list a _, ⟨_, Heap.get?_push_size _ rfl, rfl, rfl⟩, fun b hb => ?_, q⟩
  have e : b = s1.heap.objs.size := by simpa using hb
  subst e
  exact I1.fpOk (Nat.le_refl _) (I1.hok.fresh (Nat.le_refl _))
theorem pi_tup {l : Expr} {tl : TE} (hl : PE X l tl) : PI X tg l (iTup X.K tl) := by
  intro pins s σ H R I h
  refine thn (hl pins s σ H _ I h) fun v s1 ⟨x, H1, I1, r1, q1⟩ => ?_
  obtain ⟨a, e, ⟨xs, hq⟩, q⟩ := q1
  subst e
  cases r1
  obtain ⟨its, rv, p, hz⟩ := I1.tuple hq
  refine wpAny_pyIter_tuple (show s1.heap.IsTuple a its.toArray from p) ?_
  refine ⟨s1.heap.objs.size, [s1.heap.objs.size], _, _, H1, rfl, I1.kept (t' := s1.toks) fun b o e => Heap.get?_push_of_some _ e, turn_tuple a _, ⟨_, Heap.get?_push_size _ rfl, rfl, rfl⟩, fun b hb => ?_, q⟩
  have e : b = s1.heap.objs.size := by simpa using hb
  subst e
  exact I1.fpOk (Nat.le_refl _) (I1.hok.fresh (Nat.le_refl _))
/-- a range object just made, walked -/
theorem range_it {pins : List (Addr × Obj)} {σ : St} {H : Hp} {s : Shared} {R : It → Hp → Prop} {E : Value → Shared → Prop} {lo hi : Int} {t u v : Tok} {tk : Nat} (I : Inv X pins σ H s) (h1 : -(2 ^ 62) ≤ lo) (h2 : lo < 2 ^ 62) (h3 : -(2 ^ 62) ≤ hi) (h4 : hi < 2 ^ 62)
    (q : R (Itr lo (hi - lo).toNat) H) : wpAny (model X.prog X.w) X.A (pyIter (.ref s.heap.objs.size)) (PIE X pins σ tg R) E { s with heap := s.heap.push { cls := .type "range", data := .fields #[.int lo t, .int hi u, .int 1 v] }, toks := tk } := by
  refine wpAny_pyIter_range (IsRange.new ..) (small_one h1 h2 h3 h4) ?_
  have I1 : Inv X pins σ H { s with heap := s.heap.push { cls := .type "range", data := .fields #[.int lo t, .int hi u, .int 1 v] }, toks := tk } := I.kept fun b o e => Heap.get?_push_of_some _ e
  refine ⟨(s.heap.push { cls := .type "range", data := .fields #[.int lo t, .int hi u, .int 1 v] }).objs.size, [(s.heap.push { cls := .type "range", data := .fields #[.int lo t, .int hi u, .int 1 v] }).objs.size], _, _, H, rfl,
    I1.kept (t' := tk) fun b o e => Heap.get?_push_of_some _ e, turn_range _ lo (hi - lo).toNat, ?_, fun b hb => ?_, q⟩
  · have e1 : lo + ((0 : Nat) : Int) * 1 = lo := by simp
    have e2 : (((hi - lo).toNat : Nat) : Int) - ((0 : Nat) : Int) = Builtin.Range.rangeSize lo hi 1 := by rw [rangeSize_one]; split <;> omega
    show IsRangeIter _ _ (lo + ((0 : Nat) : Int) * 1) ((((hi - lo).toNat : Nat) : Int) - ((0 : Nat) : Int)) 1
    rw [e1, e2]
    exact Heap.get?_push_size _ rfl
  · have e : b = (s.heap.push { cls := .type "range", data := .fields #[.int lo t, .int hi u, .int 1 v] }).objs.size := by simpa using hb
    subst e
    exact I1.fpOk (Nat.le_refl _) (I1.hok.fresh (Nat.le_refl _))
def iRng1 (ta : TA) : TI := fun σ H R => ta σ H fun vs H1 => ∃ j : Int, vs = [.int j] ∧ -(2 ^ 62) ≤ j ∧ j < 2 ^ 62 ∧ R (Itr 0 j.toNat) H1
def iRng2 (ta : TA) : TI := fun σ H R => ta σ H fun vs H1 => ∃ i j : Int, vs = [.int i, .int j] ∧ (-(2 ^ 62) ≤ i ∧ i < 2 ^ 62 ∧ -(2 ^ 62) ≤ j ∧ j < 2 ^ 62) ∧ R (Itr i (j - i).toNat) H1
theorem pi_range1 {a : Expr} {ta : TA} {p pos : Pos} (hg : Gl X "range") (hm : X.mg "range" = none) (ha : PA X [a] ta) (hs : starEach [a] X.env = [(false, eval a X.env)] := by rfl) : PI X tg (.Call (.Name "range" p) [a] [] pos) (iRng1 ta) := by
  intro pins s σ H R I h
  refine Call_ (ld_blt I hg hm boot_range (PyProof.Rows.callWith_type1 (thn (ha pos pins s σ H _ I h) fun us s1 ⟨vs, H1, I1, r1, q1⟩ => ?_) hs rfl))
  obtain ⟨j, e, q1, q2, q⟩ := q1
  subst e
  cases r1 with
  | cons r rr =>
    cases rr
    obtain ⟨t, rfl⟩ := r
    exact call_range_1 (range_it I1 (by omega) (by omega) q1 q2 (by simpa using q))
theorem pi_range2 {a b : Expr} {ta : TA} {p pos : Pos} (hg : Gl X "range") (hm : X.mg "range" = none) (ha : PA X [a, b] ta) (hs : starEach [a, b] X.env = [(false, eval a X.env), (false, eval b X.env)] := by rfl) (hs2 : starEach [b] X.env = [(false, eval b X.env)] := by rfl) :
    PI X tg (.Call (.Name "range" p) [a, b] [] pos) (iRng2 ta) := by
  intro pins s σ H R I h
  refine Call_ (ld_blt I hg hm boot_range (PyProof.Rows.callWith_type1 (thn (ha pos pins s σ H _ I h) fun us s1 ⟨vs, H1, I1, r1, q1⟩ => ?_) (by rw [hs, hs2]) (by rw [hs2]; rfl)))
  obtain ⟨i, j, e, ⟨q1, q2, q3, q4⟩, q⟩ := q1
  subst e
  cases r1 with
  | cons r rr =>
    cases rr with
    | cons r' rr =>
      cases rr
      obtain ⟨t, rfl⟩ := r
      obtain ⟨t', rfl⟩ := r'
      exact call_range_2 (range_it I1 q1 q2 q3 q4 q)

/-! ### for -/
/-- W: the invariant by the turn and a measure; N: what the body is to reach -/
def tFor (wi : TI) (g : TG) (tb : TS) : TS := fun D σ H => wi σ H fun J H1 => ∃ W : Nat → Nat → St → Hp → Prop, (∃ m, W 0 m σ H1) ∧ ∀ i m σ H, W i m σ H →
  (J.stop i H ∧ D.nx σ H) ∨ (J.go i H ∧ ∃ N : St → Hp → Prop, (∀ σ' H', N σ' H' → ∃ m', m' < m ∧ W (i + 1) m' σ' H') ∧ ∀ x H', J.yld i H x H' → g x σ H' fun σ2 H2 => tb { D with nx := N, ct := N, bk := D.nx } σ2 H2)
/-- the records at fp as they stand -/
def pinsAt (fp : List Addr) (h : Heap) : List (Addr × Obj) := fp.filterMap fun b => (h.get? b).map fun o => (b, o)
theorem mem_pinsAt {fp : List Addr} {h : Heap} {b : Addr} {o : Obj} (hb : b ∈ fp) (e : h.get? b = some o) : (b, o) ∈ pinsAt fp h := List.mem_filterMap.mpr ⟨b, hb, by rw [e]; rfl⟩
theorem of_pinsAt {fp : List Addr} {h : Heap} {p : Addr × Obj} (hp : p ∈ pinsAt fp h) : p.1 ∈ fp ∧ h.get? p.1 = some p.2 := by
  obtain ⟨b, hb, e⟩ := List.mem_filterMap.mp hp
  cases q : h.get? b with
  | none => rw [q] at e; cases e
  | some o =>
    rw [q] at e
    have e' : (b, o) = p := Option.some.inj e
    subst e'
    exact ⟨hb, q⟩
theorem Inv.pinned {pins : List (Addr × Obj)} {σ : St} {H : Hp} {s : Shared} {fp : List Addr} (I : Inv X pins σ H s) (hf : ∀ b ∈ fp, FpOk X pins H b) (ho : ∀ b ∈ fp, ∃ o, s.heap.get? b = some o ∧ ∀ v, o.data ≠ .cell v) : Inv X (pins ++ pinsAt fp s.heap) σ H s :=
  I.pins_of fun p hp => (List.mem_append.mp hp).elim (fun z => I.pin p (List.mem_append_right _ z)) fun z => by
    obtain ⟨hb, e⟩ := of_pinsAt z
    obtain ⟨f0, f1, f2, _⟩ := hf p.1 hb
    obtain ⟨o, e', d⟩ := ho p.1 hb
    rw [e] at e'; cases e'
    exact ⟨e, f0, f1, f2, d⟩
theorem Inv.unpinned {pins pl : List (Addr × Obj)} {σ : St} {H : Hp} {s : Shared} (I : Inv X (pins ++ pl) σ H s) : Inv X pins σ H s := I.pins_of fun p hp => I.pin p (List.mem_append_right _ (List.mem_append_left _ hp))
theorem ps_for {iter : Expr} {body : List Stmt} {wi : TI} {g : TG} {tb : TS} {pos : Pos} (hp : PassesOwn (model X.prog X.w) X.A X.env X.xe) (hc : X.calm = true) (hi : PI X tg iter wi) (hg : PG X tg g) (hb : PSs X body tb)
    (hs : ∀ x, foldedSetIterable iter X.env x = pure x := by intro _; rfl) : PS X (.For tg iter body [] pos) (tFor wi g tb) := by
  intro pins s σ H D I h
  refine wpAny_For (thn (hi pins s σ H _ I h) fun v s1 h1 => thn h1 fun itv s2 h2 => ?_) hs
  obtain ⟨it, fp, tn, J, H2, e, I2, T, st2, f2, W, ⟨m0, w0⟩, turn⟩ := h2
  subst e
  -- what stays true of the iterator's objects through the loop
  have stat : ∀ {H' : Hp}, (∀ b ∈ fp, H' b = none) → ∀ b ∈ fp, FpOk X pins H' b := fun hn b hb => ⟨hn b hb, (f2 b hb).2⟩
  refine codeAny_forLoop_any (fun n s' => ∃ i σ' H', Inv X pins σ' H' s' ∧ tn i s'.heap ∧ (∀ b ∈ fp, H' b = none) ∧ W i n σ' H') ?_ m0 ⟨0, σ, H2, I2, st2, fun b hb => (f2 b hb).1, w0⟩
  rintro n s3 ⟨i, σ3, H3, I3, st3, fr3, w3⟩
  rcases turn i n σ3 H3 w3 with ⟨stop, qn⟩ | ⟨go, N, hN, step⟩
  · refine wpAny_passesOwn hp (thn (T.done X rfl rfl rfl hc i pins s3 σ3 H3 X.xe I3 (stat fr3) st3 stop) fun r s4 ⟨hr, I4⟩ => ?_)
    subst hr
    exact wpAny_execs_nil ⟨σ3, H3, I4, qn⟩
  · refine wpAny_passesOwn hp (thn (T.item X rfl rfl rfl hc i pins s3 σ3 H3 X.xe I3 (stat fr3) st3 go) fun r s4 ⟨u, hr, h4⟩ => ?_)
    subst hr
    refine wpAny_passesOwn hp (thn h4 fun _ s5 ⟨x, H5, I5, r5, y5, st5, fr5⟩ => ?_)
    have I5' := I5.pinned (stat fr5) (T.obj _ _ st5)
    refine wpAny_passesOwn hp (thn (hg _ s5 σ3 H5 x u _ I5' r5 (step x H5 y5)) fun _ s6 ⟨σ6, H6, I6, q6⟩ => ?_)
    refine wpAny_passesOwn hp (thn (hb _ s6 σ6 H6 _ I6 q6) fun f s7 q7 => ?_)
    have again : ∀ {σ7 : St} {H7 : Hp}, Inv X (pins ++ pinsAt fp s5.heap) σ7 H7 s7 → N σ7 H7 → ∃ m, m < n ∧ ∃ i σ' H', Inv X pins σ' H' s7 ∧ tn i s7.heap ∧ (∀ b ∈ fp, H' b = none) ∧ W i m σ' H' := fun {σ7 H7} I7 n7 => by
      obtain ⟨m', hm, w7⟩ := hN σ7 H7 n7
      refine ⟨m', hm, i + 1, σ7, H7, I7.unpinned, T.keep _ _ _ st5 fun b hb o e => (I7.pin (b, o) (List.mem_append_right _ (List.mem_append_right _ (mem_pinsAt hb e)))).1, fun b hb => ?_, w7⟩
      obtain ⟨o, e, d⟩ := T.obj _ _ st5 b hb
      exact (I7.pin (b, o) (List.mem_append_right _ (List.mem_append_right _ (mem_pinsAt hb e)))).2.1
    cases f with
    | next => obtain ⟨σ7, H7, I7, n7⟩ := q7; exact again I7 n7
    | cont => obtain ⟨σ7, H7, I7, n7⟩ := q7; exact again I7 n7
    | brk => obtain ⟨σ7, H7, I7, q7⟩ := q7; exact ⟨σ7, H7, I7.unpinned, q7⟩
    | ret v => obtain ⟨x7, σ7, H7, I7, r7, q7⟩ := q7; exact ⟨x7, σ7, H7, I7.unpinned, r7, q7⟩
end

/-! ### the forms one uses -/
/-- over a list that the body leaves as it is -/
theorem for_list {K : PySem.W.Frag} {a : Addr} {xs : List V} {g : TG} {tb : TS} {D : Ends} {σ : St} {H : Hp} (Pv : Nat → St → Hp → Prop) (h0 : Pv 0 σ H) (hl : ∀ i σ H, i ≤ xs.length → Pv i σ H → SqL K H a xs)
    (hs : ∀ i x σ H, xs[i]? = some x → Pv i σ H → g x σ H fun σ2 H2 => tb { D with nx := Pv (i + 1), ct := Pv (i + 1), bk := D.nx } σ2 H2) (hd : ∀ σ H, Pv xs.length σ H → D.nx σ H) :
    ∃ W : Nat → Nat → St → Hp → Prop, (∃ m, W 0 m σ H) ∧ ∀ i m σ H, W i m σ H →
      ((Itl K a).stop i H ∧ D.nx σ H) ∨ ((Itl K a).go i H ∧ ∃ N : St → Hp → Prop, (∀ σ' H', N σ' H' → ∃ m', m' < m ∧ W (i + 1) m' σ' H') ∧ ∀ x H', (Itl K a).yld i H x H' → g x σ H' fun σ2 H2 => tb { D with nx := N, ct := N, bk := D.nx } σ2 H2) := by
  refine ⟨fun i m σ H => m = xs.length - i ∧ i ≤ xs.length ∧ Pv i σ H, ⟨xs.length, by simp, Nat.zero_le _, h0⟩, ?_⟩
  rintro i m σ H ⟨rfl, hi, p⟩
  have q := hl i σ H hi p
  by_cases hlt : i < xs.length
  · refine .inr ⟨⟨xs, xs[i], q, by simp [hlt]⟩, Pv (i + 1), fun σ' H' p' => ⟨xs.length - (i + 1), by omega, rfl, hlt, p'⟩, fun x H' y => ?_⟩
    obtain ⟨e, y⟩ := y
    subst e
    exact hs i x σ _ (y xs q) p
  · have e : i = xs.length := by omega
    subst e
    exact .inl ⟨⟨xs, q, Nat.le_refl _⟩, hd σ H p⟩
theorem for_tup {K : PySem.W.Frag} {a : Addr} {xs : List V} {g : TG} {tb : TS} {D : Ends} {σ : St} {H : Hp} (Pv : Nat → St → Hp → Prop) (h0 : Pv 0 σ H) (hl : ∀ i σ H, i ≤ xs.length → Pv i σ H → SqT K H a xs)
    (hs : ∀ i x σ H, xs[i]? = some x → Pv i σ H → g x σ H fun σ2 H2 => tb { D with nx := Pv (i + 1), ct := Pv (i + 1), bk := D.nx } σ2 H2) (hd : ∀ σ H, Pv xs.length σ H → D.nx σ H) :
    ∃ W : Nat → Nat → St → Hp → Prop, (∃ m, W 0 m σ H) ∧ ∀ i m σ H, W i m σ H →
      ((Itt K a).stop i H ∧ D.nx σ H) ∨ ((Itt K a).go i H ∧ ∃ N : St → Hp → Prop, (∀ σ' H', N σ' H' → ∃ m', m' < m ∧ W (i + 1) m' σ' H') ∧ ∀ x H', (Itt K a).yld i H x H' → g x σ H' fun σ2 H2 => tb { D with nx := N, ct := N, bk := D.nx } σ2 H2) := by
  refine ⟨fun i m σ H => m = xs.length - i ∧ i ≤ xs.length ∧ Pv i σ H, ⟨xs.length, by simp, Nat.zero_le _, h0⟩, ?_⟩
  rintro i m σ H ⟨rfl, hi, p⟩
  have q := hl i σ H hi p
  by_cases hlt : i < xs.length
  · refine .inr ⟨⟨xs, xs[i], q, by simp [hlt]⟩, Pv (i + 1), fun σ' H' p' => ⟨xs.length - (i + 1), by omega, rfl, hlt, p'⟩, fun x H' y => ?_⟩
    obtain ⟨e, y⟩ := y
    subst e
    exact hs i x σ _ (y xs q) p
  · have e : i = xs.length := by omega
    subst e
    exact .inl ⟨⟨xs, q, Nat.le_refl _⟩, hd σ H p⟩
theorem for_range {lo : Int} {n : Nat} {g : TG} {tb : TS} {D : Ends} {σ : St} {H : Hp} (Pv : Nat → St → Hp → Prop) (h0 : Pv 0 σ H)
    (hs : ∀ i σ H, i < n → Pv i σ H → g (.int (lo + i)) σ H fun σ2 H2 => tb { D with nx := Pv (i + 1), ct := Pv (i + 1), bk := D.nx } σ2 H2) (hd : ∀ σ H, Pv n σ H → D.nx σ H) :
    ∃ W : Nat → Nat → St → Hp → Prop, (∃ m, W 0 m σ H) ∧ ∀ i m σ H, W i m σ H →
      ((Itr lo n).stop i H ∧ D.nx σ H) ∨ ((Itr lo n).go i H ∧ ∃ N : St → Hp → Prop, (∀ σ' H', N σ' H' → ∃ m', m' < m ∧ W (i + 1) m' σ' H') ∧ ∀ x H', (Itr lo n).yld i H x H' → g x σ H' fun σ2 H2 => tb { D with nx := N, ct := N, bk := D.nx } σ2 H2) := by
  refine ⟨fun i m σ H => m = n - i ∧ i ≤ n ∧ Pv i σ H, ⟨n, by simp, Nat.zero_le _, h0⟩, ?_⟩
  rintro i m σ H ⟨rfl, hi, p⟩
  by_cases hlt : i < n
  · refine .inr ⟨hlt, Pv (i + 1), fun σ' H' p' => ⟨n - (i + 1), by omega, rfl, hlt, p'⟩, fun x H' y => ?_⟩
    obtain ⟨e, y⟩ := y
    subst e y
    exact hs i σ _ hlt p
  · have e : i = n := by omega
    subst e
    exact .inl ⟨Nat.le_refl _, hd σ H p⟩
/-- while, by a word and a measure of the state -/
theorem while_by {c : TT} {tb : TS} {D : Ends} {σ : St} {H : Hp} (Pv : St → Hp → Prop) (μ : St → Hp → Nat) (h0 : Pv σ H)
    (hs : ∀ σ H, Pv σ H → c σ H fun b H1 => if b = true then tb { D with nx := fun σ' H' => Pv σ' H' ∧ μ σ' H' < μ σ H, ct := fun σ' H' => Pv σ' H' ∧ μ σ' H' < μ σ H, bk := D.nx } σ H1 else D.nx σ H1)
    (mono : ∀ σ H Q Q', (∀ b H1, Q b H1 → Q' b H1) → c σ H Q → c σ H Q') : tWhile c tb D σ H := by
  refine ⟨fun m σ H => m = μ σ H ∧ Pv σ H, ⟨_, rfl, h0⟩, ?_⟩
  rintro m σ H ⟨rfl, p⟩
  refine mono σ H _ _ (fun b H1 q => ?_) (hs σ H p)
  cases b with
  | true => exact ⟨_, fun σ' H' ⟨p', l⟩ => ⟨_, l, rfl, p'⟩, q⟩
  | false => exact q
end L2

namespace L2
open PySem PySem.Spec PyProof.Rows

abbrev R2 := V → V → Hp → VK → Prop
/-- a two-place operation on values: f is binaryOp op, inplaceOp op or compareOp op -/
def OpR (X : Cx) (f : Value → Value → Sem Value) (r : R2) : Prop :=
  ∀ (pins : List (Addr × Obj)) (s : Shared) (σ : St) (H : Hp) (x y : V) (v u : Value) (Q : VK), Inv X pins σ H s → RelV x v → RelV y u → r x y H Q →
    wpAny (model X.prog X.w) X.A (f v u) (EP X pins σ Q) X.xe s
/-- a one-place operation -/
def UnR (X : Cx) (f : Value → Sem Value) (r : V → Hp → VK → Prop) : Prop :=
  ∀ (pins : List (Addr × Obj)) (s : Shared) (σ : St) (H : Hp) (x : V) (v : Value) (Q : VK), Inv X pins σ H s → RelV x v → r x H Q →
    wpAny (model X.prog X.w) X.A (f v) (EP X pins σ Q) X.xe s
/-- a call of a value that is known (a builtin, a type) with values -/
def CallR (X : Cx) (f : Value) (r : List V → Hp → VK → Prop) : Prop :=
  ∀ (pins : List (Addr × Obj)) (s : Shared) (σ : St) (H : Hp) (xs : List V) (us : List Value) (Q : VK), Inv X pins σ H s → Vals xs us → r xs H Q →
    wpAny (model X.prog X.w) X.A (call f us) (EP X pins σ Q) X.xe s
/-- a value's truth -/
def TruR (X : Cx) (r : V → Hp → (Bool → Hp → Prop) → Prop) : Prop :=
  ∀ (pins : List (Addr × Obj)) (s : Shared) (σ : St) (H : Hp) (x : V) (v : Value) (Q : Bool → Hp → Prop), Inv X pins σ H s → RelV x v → r x H Q →
    wpAny (model X.prog X.w) X.A (truthy v) (TP X pins σ Q) X.xe s

def tOp (r : R2) (ta tb : TE) : TE := fun σ H Q => ta σ H fun x H1 => tb σ H1 fun y H2 => r x y H2 Q
def tUn (r : V → Hp → VK → Prop) (ta : TE) : TE := fun σ H Q => ta σ H fun x H1 => r x H1 Q
/-- ints in, under C, and a value out -/
def rI (C : Int → Int → Prop) (g : Int → Int → V) : R2 := fun x y H Q => ∃ i j, x = .int i ∧ y = .int j ∧ C i j ∧ Q (g i j) H
def rI0 (g : Int → Int → V) : R2 := fun x y H Q => ∃ i j, x = .int i ∧ y = .int j ∧ Q (g i j) H
def rU (g : Int → V) : V → Hp → VK → Prop := fun x H Q => ∃ i, x = .int i ∧ Q (g i) H

section
variable {X : Cx} {a b c : Expr} {ta tb tc : TE} {pos : Pos}

theorem binT (ha : PE X a ta) (hb : PE X b tb) {pins : List (Addr × Obj)} {s : Shared} {σ : St} {H : Hp} {R : V → V → Hp → Prop} (I : Inv X pins σ H s)
    (h : ta σ H fun x H1 => tb σ H1 fun y H2 => R x y H2) {Q : Value → Shared → Prop} {f : Value → Value → Sem Value}
    (hf : ∀ v u s2 x y H2, Inv X pins σ H2 s2 → RelV x v → RelV y u → R x y H2 → wpAny (model X.prog X.w) X.A (f v u) Q X.xe s2) :
    wpAny (model X.prog X.w) X.A (eval a X.env) (fun v s₁ => wpAny (model X.prog X.w) X.A (eval b X.env) (fun u s₂ => wpAny (model X.prog X.w) X.A (f v u) Q X.xe s₂) X.xe s₁) X.xe s := by
  refine thn (ha pins s σ H _ I h) fun v s1 ⟨x, H1, I1, r1, q1⟩ => ?_
  refine thn (hb pins s1 σ H1 _ I1 q1) fun u s2 ⟨y, H2, I2, r2, q2⟩ => ?_
  exact hf v u s2 x y H2 I2 r1 r2 q2

theorem pe_op {op : Operator} {r : R2} (ho : OpR X (binaryOp op) r) (ha : PE X a ta) (hb : PE X b tb) : PE X (.BinOp a op b pos) (tOp r ta tb) := by
  intro pins s σ H Q I h
  exact wpAny_BinOp (binT ha hb I h fun v u s2 x y H2 I2 rx ry q => ho pins s2 σ H2 x y v u Q I2 rx ry q)
theorem pe_un {op : UnaryOp} {r : V → Hp → VK → Prop} (ho : UnR X (unaryOp op) r) (ha : PE X a ta) : PE X (.UnaryOp op a pos) (tUn r ta) := by
  intro pins s σ H Q I h
  exact UnaryOp_ (thn (ha pins s σ H _ I h) fun v s1 ⟨x, H1, I1, r1, q1⟩ => ho pins s1 σ H1 x v Q I1 r1 q1)
/-- a op= e at a name: the name's slot i -/
theorem augR {op : Operator} {r : R2} (ho : OpR X (inplaceOp op) r) {pins : List (Addr × Obj)} {s : Shared} {σ : St} {H : Hp} {x y : V} {v u : Value} {Q : VK} (I : Inv X pins σ H s)
    (rx : RelV x v) (ry : RelV y u) (q : r x y H Q) : wpAny (model X.prog X.w) X.A (inplaceOp op v u) (EP X pins σ Q) X.xe s := ho pins s σ H x y v u Q I rx ry q

/-! ### ints -/
theorem opI {f : Value → Value → Sem Value} {C : Int → Int → Prop} {g : Int → Int → Int}
    (rule : ∀ (i j : Int) (t u : Tok) (s : Shared) (Q : Value → Shared → Prop) (E : Value → Shared → Prop), C i j → Q (.int (g i j) s.toks) { s with toks := s.toks + 1 } → wpAny (model X.prog X.w) X.A (f (.int i t) (.int j u)) Q E s) :
    OpR X f (rI C fun i j => .int (g i j)) := by
  intro pins s σ H x y v u Q I rx ry h
  obtain ⟨i, j, rfl, rfl, hc, q⟩ := h
  obtain ⟨t, rfl⟩ := rx
  obtain ⟨t', rfl⟩ := ry
  exact rule i j t t' s _ _ hc ⟨.int (g i j), H, I.tok _, ⟨_, rfl⟩, q⟩
theorem opI0 {f : Value → Value → Sem Value} {g : Int → Int → Int}
    (rule : ∀ (i j : Int) (t u : Tok) (s : Shared) (Q : Value → Shared → Prop) (E : Value → Shared → Prop), Q (.int (g i j) s.toks) { s with toks := s.toks + 1 } → wpAny (model X.prog X.w) X.A (f (.int i t) (.int j u)) Q E s) :
    OpR X f (rI0 fun i j => .int (g i j)) := by
  intro pins s σ H x y v u Q I rx ry h
  obtain ⟨i, j, rfl, rfl, q⟩ := h
  obtain ⟨t, rfl⟩ := rx
  obtain ⟨t', rfl⟩ := ry
  exact rule i j t t' s _ _ ⟨.int (g i j), H, I.tok _, ⟨_, rfl⟩, q⟩
theorem opB0 {f : Value → Value → Sem Value} {g : Int → Int → Bool}
    (rule : ∀ (i j : Int) (t u : Tok) (s : Shared) (Q : Value → Shared → Prop) (E : Value → Shared → Prop), Q (.bool (g i j)) s → wpAny (model X.prog X.w) X.A (f (.int i t) (.int j u)) Q E s) :
    OpR X f (rI0 fun i j => .bl (g i j)) := by
  intro pins s σ H x y v u Q I rx ry h
  obtain ⟨i, j, rfl, rfl, q⟩ := h
  obtain ⟨t, rfl⟩ := rx
  obtain ⟨t', rfl⟩ := ry
  exact rule i j t t' s _ _ ⟨.bl (g i j), H, I, rfl, q⟩

def CDiv (i j : Int) : Prop := 0 < j ∧ j < 1073741824
def CDivN (i j : Int) : Prop := j ≠ 0 ∧ j.natAbs < 1073741824
def CPow (i j : Int) : Prop := 0 ≤ j ∧ j ≤ 1000000 ∧ i.natAbs < 2 ^ 64
def CMul (i j : Int) : Prop := (-(2 ^ 64) < i ∧ i < 2 ^ 64) ∨ (-(2 ^ 64) < j ∧ j < 2 ^ 64)
theorem CMul.ok {i j : Int} (h : CMul i j) : IntMulOk i j := by
  rcases h with ⟨h1, h2⟩ | ⟨h1, h2⟩
  · exact .of_left (intBits_le_64 h1 h2)
  · exact .of_right (intBits_le_64 h1 h2)
theorem two_pow_nn (k : Nat) : (0 : Int) ≤ 2 ^ k := by
  rw [two_pow_cast]
  exact Int.natCast_nonneg _

theorem op_add : OpR X (binaryOp .Add) (rI0 fun i j => .int (i + j)) := opI0 fun _ _ _ _ _ _ _ q => add_int q
theorem op_sub : OpR X (binaryOp .Sub) (rI0 fun i j => .int (i - j)) := opI0 fun _ _ _ _ _ _ _ q => sub_int q
theorem op_mul : OpR X (binaryOp .Mult) (rI CMul fun i j => .int (i * j)) := opI fun _ _ _ _ _ _ _ hc q => mul_int q hc.ok
/-- // by a positive divisor -/
theorem op_fdiv : OpR X (binaryOp .FloorDiv) (rI CDiv fun i j => .int (i / j)) := opI fun i j _ _ _ _ _ hc q => by
  have h1 : (0 : Int) < j := hc.1
  have h2 : j < 1073741824 := hc.2
  exact floordiv_int (by omega) (by rw [Int.fdiv_eq_ediv_of_nonneg i (by omega)]; exact q) (.inl (PyProof.noPylong_small (by omega)))
theorem op_fdivN : OpR X (binaryOp .FloorDiv) (rI CDivN fun i j => .int (i.fdiv j)) := opI fun _ _ _ _ _ _ _ hc q => floordiv_int hc.1 q (.inl (PyProof.noPylong_small hc.2))
/-- % by a positive divisor of any size -/
theorem op_mod : OpR X (binaryOp .Mod) (rI (fun _ j => 0 < j) fun i j => .int (i % j)) := opI fun i j _ _ _ _ _ hc q => by
  have h1 : (0 : Int) < j := hc
  exact mod_int' (by omega) (by rw [Int.fmod_eq_emod_of_nonneg i (by omega)]; exact q)
theorem op_modN : OpR X (binaryOp .Mod) (rI (fun _ j => j ≠ 0) fun i j => .int (i.fmod j)) := opI fun _ _ _ _ _ _ _ hc q => mod_int' hc q
theorem op_pow : OpR X (binaryOp .Pow) (rI CPow fun i j => .int (i ^ j.toNat)) := opI fun _ _ _ _ _ _ _ hc q => pow_int_small hc.1 hc.2.1 hc.2.2 q
theorem op_shl : OpR X (binaryOp .LShift) (rI CPow fun i j => .int (i * 2 ^ j.toNat)) := opI fun _ _ _ _ _ _ _ hc q => lshift_int_small hc.1 hc.2.1 hc.2.2 q
theorem op_shr : OpR X (binaryOp .RShift) (rI (fun _ j => 0 ≤ j) fun i j => .int (i / 2 ^ j.toNat)) := opI fun i j _ _ _ _ _ hc q =>
  rshift_int hc (by rw [Int.fdiv_eq_ediv_of_nonneg i (two_pow_nn _)]; exact q)
theorem op_and : OpR X (binaryOp .BitAnd) (rI0 fun i j => .int (Builtin.bitAnd i j)) := opI0 fun _ _ _ _ _ _ _ q => and_int q
theorem op_or : OpR X (binaryOp .BitOr) (rI0 fun i j => .int (Builtin.bitOr i j)) := opI0 fun _ _ _ _ _ _ _ q => or_int q
theorem op_xor : OpR X (binaryOp .BitXor) (rI0 fun i j => .int (Builtin.bitXor i j)) := opI0 fun _ _ _ _ _ _ _ q => xor_int q

theorem iop_add : OpR X (inplaceOp .Add) (rI0 fun i j => .int (i + j)) := opI0 fun _ _ _ _ _ _ _ q => iadd_int q
theorem iop_sub : OpR X (inplaceOp .Sub) (rI0 fun i j => .int (i - j)) := opI0 fun _ _ _ _ _ _ _ q => isub_int q
theorem iop_mul : OpR X (inplaceOp .Mult) (rI CMul fun i j => .int (i * j)) := opI fun _ _ _ _ _ _ _ hc q => imul_int q hc.ok
theorem iop_fdiv : OpR X (inplaceOp .FloorDiv) (rI CDiv fun i j => .int (i / j)) := opI fun i j _ _ _ _ _ hc q => by
  have h1 : (0 : Int) < j := hc.1
  have h2 : j < 1073741824 := hc.2
  exact ifloordiv_int (by omega) (by rw [Int.fdiv_eq_ediv_of_nonneg i (by omega)]; exact q) (.inl (PyProof.noPylong_small (by omega)))
theorem iop_mod : OpR X (inplaceOp .Mod) (rI (fun _ j => 0 < j) fun i j => .int (i % j)) := opI fun i j _ _ _ _ _ hc q => by
  have h1 : (0 : Int) < j := hc
  exact imod_int (by omega) (by rw [Int.fmod_eq_emod_of_nonneg i (by omega)]; exact q)
theorem iop_shl : OpR X (inplaceOp .LShift) (rI CPow fun i j => .int (i * 2 ^ j.toNat)) := opI fun _ _ _ _ _ _ _ hc q => ilshift_int_small hc.1 hc.2.1 hc.2.2 q
theorem iop_shr : OpR X (inplaceOp .RShift) (rI (fun _ j => 0 ≤ j) fun i j => .int (i / 2 ^ j.toNat)) := opI fun i j _ _ _ _ _ hc q =>
  irshift_int hc (by rw [Int.fdiv_eq_ediv_of_nonneg i (two_pow_nn _)]; exact q)
theorem iop_and : OpR X (inplaceOp .BitAnd) (rI0 fun i j => .int (Builtin.bitAnd i j)) := opI0 fun _ _ _ _ _ _ _ q => iand_int q
theorem iop_or : OpR X (inplaceOp .BitOr) (rI0 fun i j => .int (Builtin.bitOr i j)) := opI0 fun _ _ _ _ _ _ _ q => ior_int q
theorem iop_xor : OpR X (inplaceOp .BitXor) (rI0 fun i j => .int (Builtin.bitXor i j)) := opI0 fun _ _ _ _ _ _ _ q => ixor_int q

theorem unI {f : Value → Sem Value} {g : Int → Int}
    (rule : ∀ (i : Int) (t : Tok) (s : Shared) (Q : Value → Shared → Prop) (E : Value → Shared → Prop), Q (.int (g i) s.toks) { s with toks := s.toks + 1 } → wpAny (model X.prog X.w) X.A (f (.int i t)) Q E s) :
    UnR X f (rU fun i => .int (g i)) := by
  intro pins s σ H x v Q I rx h
  obtain ⟨i, rfl, q⟩ := h
  obtain ⟨t, rfl⟩ := rx
  exact rule i t s _ _ ⟨.int (g i), H, I.tok _, ⟨_, rfl⟩, q⟩
theorem un_neg : UnR X (unaryOp .USub) (rU fun i => .int (-i)) := unI fun _ _ _ _ _ q => neg_int q
theorem un_inv : UnR X (unaryOp .Invert) (rU fun i => .int (Builtin.bitNot i)) := unI fun _ _ _ _ _ q => invert_int q

/-! ### bools among ints: n += (a < b) -/
theorem op_add_ib : OpR X (binaryOp .Add) (fun x y H Q => ∃ i k, x = .int i ∧ y = .bl k ∧ Q (.int (i + b2i k)) H) := by
  intro pins s σ H x y v u Q I rx ry h
  obtain ⟨i, k, rfl, rfl, q⟩ := h
  obtain ⟨t, rfl⟩ := rx
  cases ry
  exact add_int_bool ⟨.int (i + b2i k), H, I.tok _, ⟨_, rfl⟩, q⟩
end

/-! ### comparisons -/
/-- the scalars that == tells apart as data does -/
def scal : V → V → Bool
  | .non, .non => true | .non, .int _ => true | .int _, .non => true | .non, .bl _ => true | .bl _, .non => true | .non, .str _ => true | .str _, .non => true
  | .int _, .int _ => true | .bl _, .bl _ => true | .str _, .str _ => true | .byt _, .byt _ => true
  | .int _, .str _ => true | .str _, .int _ => true | .bl _, .str _ => true | .str _, .bl _ => true
  | _, _ => false
def rEq : R2 := fun x y H Q => scal x y = true ∧ Q (.bl (decide (x = y))) H
def rNe : R2 := fun x y H Q => scal x y = true ∧ Q (.bl (!decide (x = y))) H

theorem dec_int {i j : Int} : decide (V.int i = V.int j) = (i == j) := by
  rw [Bool.eq_iff_iff]
  simp
theorem dec_bl {i j : Bool} : decide (V.bl i = V.bl j) = (i == j) := by
  rw [Bool.eq_iff_iff]
  simp
theorem dec_str {i j : Str} : decide (V.str i = V.str j) = (i == j) := by
  rw [Bool.eq_iff_iff]
  simp
theorem dec_byt {i j : Array UInt8} : decide (V.byt i = V.byt j) = (i.toList == j.toList) := by
  rw [Bool.eq_iff_iff]
  cases i
  cases j
  simp

section
variable {X : Cx} {a b c : Expr} {ta tb tc : TE} {pos : Pos}
theorem fin_bl {pins : List (Addr × Obj)} {σ : St} {H : Hp} {s : Shared} {Q : VK} {k k' : Bool} (I : Inv X pins σ H s) (q : Q (.bl k) H) (e : k = k') : EP X pins σ Q (.bool k') s := by
  subst e
  exact ⟨.bl k, H, I, rfl, q⟩
theorem op_eq : OpR X (compareOp .Eq) rEq := by
  intro pins s σ H x y v u Q I rx ry h
  obtain ⟨hs, q⟩ := h
  cases x with
  | non =>
    cases rx
    cases y with
    | non => cases ry; exact PySem.EqNone.eq_none_none (fin_bl I q (by simp))
    | bl j => cases ry; exact PySem.EqNone.eq_none_bool (fin_bl I q (by simp))
    | int j => obtain ⟨t', rfl⟩ := ry; exact PySem.EqNone.eq_none_int (fin_bl I q (by simp))
    | str j => obtain ⟨t', rfl⟩ := ry; exact PySem.EqNone.eq_none_str (fin_bl I q (by simp))
    | _ => exact absurd (show false = true from hs) Bool.false_ne_true
  | bl i =>
    cases rx
    cases y with
    | non => cases ry; exact PySem.EqNone.eq_bool_none (fin_bl I q (by simp))
    | bl j => cases ry; exact eq_bool (fin_bl I q dec_bl)
    | str j => obtain ⟨t', rfl⟩ := ry; exact PySem.EqMixed.eq_bool_str (fin_bl I q (by simp))
    | _ => exact absurd (show false = true from hs) Bool.false_ne_true
  | int i =>
    obtain ⟨t, rfl⟩ := rx
    cases y with
    | non => cases ry; exact PySem.EqNone.eq_int_none (fin_bl I q (by simp))
    | int j => obtain ⟨t', rfl⟩ := ry; exact eq_int (fin_bl I q dec_int)
    | str j => obtain ⟨t', rfl⟩ := ry; exact PySem.EqMixed.eq_int_str (fin_bl I q (by simp))
    | _ => exact absurd (show false = true from hs) Bool.false_ne_true
  | str i =>
    obtain ⟨t, rfl⟩ := rx
    cases y with
    | non => cases ry; exact PySem.EqNone.eq_str_none (fin_bl I q (by simp))
    | bl j => cases ry; exact PySem.EqMixed.eq_str_bool (fin_bl I q (by simp))
    | int j => obtain ⟨t', rfl⟩ := ry; exact PySem.EqMixed.eq_str_int (fin_bl I q (by simp))
    | str j => obtain ⟨t', rfl⟩ := ry; exact eq_str (fin_bl I q dec_str)
    | _ => exact absurd (show false = true from hs) Bool.false_ne_true
  | byt i =>
    obtain ⟨t, rfl⟩ := rx
    cases y with
    | byt j => obtain ⟨t', rfl⟩ := ry; exact PySem.W.eq_bytes (fin_bl I q dec_byt)
    | _ => exact absurd (show false = true from hs) Bool.false_ne_true
  | _ => cases y <;> exact absurd (show false = true from hs) Bool.false_ne_true
theorem op_ne : OpR X (compareOp .NotEq) rNe := by
  intro pins s σ H x y v u Q I rx ry h
  obtain ⟨hs, q⟩ := h
  cases x with
  | non =>
    cases rx
    cases y with
    | non => cases ry; exact PySem.EqNone.ne_none_none (fin_bl I q (by simp))
    | bl j => cases ry; exact PySem.EqNone.ne_none_bool (fin_bl I q (by simp))
    | int j => obtain ⟨t', rfl⟩ := ry; exact PySem.EqNone.ne_none_int (fin_bl I q (by simp))
    | str j => obtain ⟨t', rfl⟩ := ry; exact PySem.EqNone.ne_none_str (fin_bl I q (by simp))
    | _ => exact absurd (show false = true from hs) Bool.false_ne_true
  | bl i =>
    cases rx
    cases y with
    | non => cases ry; exact PySem.EqNone.ne_bool_none (fin_bl I q (by simp))
    | bl j => cases ry; exact ne_bool (fin_bl I q (congrArg not dec_bl))
    | str j => obtain ⟨t', rfl⟩ := ry; exact PySem.EqMixed.ne_bool_str (fin_bl I q (by simp))
    | _ => exact absurd (show false = true from hs) Bool.false_ne_true
  | int i =>
    obtain ⟨t, rfl⟩ := rx
    cases y with
    | non => cases ry; exact PySem.EqNone.ne_int_none (fin_bl I q (by simp))
    | int j => obtain ⟨t', rfl⟩ := ry; exact ne_int (fin_bl I q (congrArg not dec_int))
    | str j => obtain ⟨t', rfl⟩ := ry; exact PySem.EqMixed.ne_int_str (fin_bl I q (by simp))
    | _ => exact absurd (show false = true from hs) Bool.false_ne_true
  | str i =>
    obtain ⟨t, rfl⟩ := rx
    cases y with
    | non => cases ry; exact PySem.EqNone.ne_str_none (fin_bl I q (by simp))
    | bl j => cases ry; exact PySem.EqMixed.ne_str_bool (fin_bl I q (by simp))
    | int j => obtain ⟨t', rfl⟩ := ry; exact PySem.EqMixed.ne_str_int (fin_bl I q (by simp))
    | str j => obtain ⟨t', rfl⟩ := ry; exact ne_str (fin_bl I q (congrArg not dec_str))
    | _ => exact absurd (show false = true from hs) Bool.false_ne_true
  | byt i =>
    obtain ⟨t, rfl⟩ := rx
    cases y with
    | byt j => obtain ⟨t', rfl⟩ := ry; exact PySem.W.ne_bytes (fin_bl I q (congrArg not dec_byt))
    | _ => exact absurd (show false = true from hs) Bool.false_ne_true
  | _ => cases y <;> exact absurd (show false = true from hs) Bool.false_ne_true

theorem op_lt : OpR X (compareOp .Lt) (rI0 fun i j => .bl (decide (i < j))) := opB0 fun _ _ _ _ _ _ _ q => lt_int q
theorem op_le : OpR X (compareOp .LtE) (rI0 fun i j => .bl (decide (i ≤ j))) := opB0 fun _ _ _ _ _ _ _ q => le_int q
theorem op_gt : OpR X (compareOp .Gt) (rI0 fun i j => .bl (decide (j < i))) := opB0 fun _ _ _ _ _ _ _ q => gt_int q
theorem op_ge : OpR X (compareOp .GtE) (rI0 fun i j => .bl (decide (j ≤ i))) := opB0 fun _ _ _ _ _ _ _ q => ge_int q
theorem op_lt_str : OpR X (compareOp .Lt) (fun x y H Q => ∃ i j, x = .str i ∧ y = .str j ∧ Q (.bl (decide (i.cps.toList < j.cps.toList))) H) := by
  intro pins s σ H x y v u Q I rx ry h
  obtain ⟨i, j, rfl, rfl, q⟩ := h
  obtain ⟨t, rfl⟩ := rx
  obtain ⟨t', rfl⟩ := ry
  exact lt_str (fin_bl I q rfl)
/-- the one string within the other -/
theorem op_in_str : OpR X (compareOp .In) (fun x y H Q => ∃ i j, x = .str i ∧ y = .str j ∧ Q (.bl (!(Builtin.Str.occurrences j i 0 j.length 1).isEmpty)) H) := by
  intro pins s σ H x y v u Q I rx ry h
  obtain ⟨i, j, rfl, rfl, q⟩ := h
  obtain ⟨t, rfl⟩ := rx
  obtain ⟨t', rfl⟩ := ry
  exact in_str (fin_bl I q rfl)

/-- is None, is not None: the right side a value none -/
theorem op_isN : OpR X (compareOp .Is) (fun x y H Q => y = .non ∧ Q (.bl (decide (x = .non))) H) := by
  intro pins s σ H x y v u Q I rx ry h
  obtain ⟨rfl, q⟩ := h
  cases ry
  refine is_none_gen (fin_bl I q ?_)
  cases x <;> first
    | (cases rx; rfl)
    | (obtain ⟨t, rfl⟩ := rx; rfl)
theorem op_notN : OpR X (compareOp .IsNot) (fun x y H Q => y = .non ∧ Q (.bl (!decide (x = .non))) H) := by
  intro pins s σ H x y v u Q I rx ry h
  obtain ⟨rfl, q⟩ := h
  cases ry
  refine isnot_none_gen (fin_bl I q ?_)
  cases x <;> first
    | (cases rx; rfl)
    | (obtain ⟨t, rfl⟩ := rx; rfl)

theorem op_notin_str : OpR X (compareOp .NotIn) (fun x y H Q => ∃ i j, x = .str i ∧ y = .str j ∧ Q (.bl (!(!(Builtin.Str.occurrences j i 0 j.length 1).isEmpty))) H) := by
  intro pins s σ H x y v u Q I rx ry h
  obtain ⟨i, j, rfl, rfl, q⟩ := h
  obtain ⟨t, rfl⟩ := rx
  obtain ⟨t', rfl⟩ := ry
  exact notIn_str (fin_bl I q rfl)
/-- is, is not of two objects that are tracked lists or instances -/
def isObj : HO → Bool
  | .lst _ => true
  | .ins _ _ _ => true
  | _ => false
theorem obj_there {pins : List (Addr × Obj)} {s : Shared} {σ : St} {H : Hp} {a : Addr} {o : HO} (I : Inv X pins σ H s) (h : H a = some o) (p : isObj o = true) : ∃ ob, s.heap.get? a = some ob ∧ ob.cls ≠ .type "tuple" := by
  cases o with
  | lst xs =>
    obtain ⟨_, its, n, _, e⟩ : xs.length ≤ sizeLine ∧ ∃ (its : List Value) (n : Nat), Vals xs its ∧ s.heap.get? a = some { cls := .type "list", data := .seq its.toArray n } := I.hok a _ h
    exact ⟨_, e, (by show Value.type "list" ≠ .type "tuple"; decide +kernel)⟩
  | ins C dx fs =>
    have x := I.hok a _ h
    obtain ⟨_, _, _, e, _⟩ := x
    exact ⟨_, e, (by show Value.ref C ≠ .type "tuple"; exact fun z => by cases z)⟩
  | _ => exact absurd (show false = true from p) Bool.false_ne_true
theorem op_is_ref : OpR X (compareOp .Is) (fun x y H Q => ∃ a b oa ob, x = .ref a ∧ y = .ref b ∧ H a = some oa ∧ isObj oa = true ∧ H b = some ob ∧ isObj ob = true ∧ Q (.bl (decide (a = b))) H) := by
  intro pins s σ H x y v u Q I rx ry h
  obtain ⟨a, b, oa, ob, rfl, rfl, ha, pa, hb, pb, q⟩ := h
  cases rx
  cases ry
  obtain ⟨o1, e1, n1⟩ := obj_there I ha pa
  obtain ⟨o2, e2, _⟩ := obj_there I hb pb
  by_cases z : a = b
  · subst z
    exact wpAny_is_ref_self (fin_bl I q (by simp))
  · exact wpAny_is_ref_other z e1 e2 n1 (fin_bl I q (by simp [z]))
theorem op_isnot_ref : OpR X (compareOp .IsNot) (fun x y H Q => ∃ a b oa ob, x = .ref a ∧ y = .ref b ∧ H a = some oa ∧ isObj oa = true ∧ H b = some ob ∧ isObj ob = true ∧ Q (.bl (!decide (a = b))) H) := by
  intro pins s σ H x y v u Q I rx ry h
  obtain ⟨a, b, oa, ob, rfl, rfl, ha, pa, hb, pb, q⟩ := h
  cases rx
  cases ry
  obtain ⟨o1, e1, n1⟩ := obj_there I ha pa
  obtain ⟨o2, e2, _⟩ := obj_there I hb pb
  by_cases z : a = b
  · subst z
    exact wpAny_isNot_ref_self (fin_bl I q (by simp))
  · exact wpAny_isNot_ref_other z e1 e2 n1 (fin_bl I q (by simp [z]))

/-- two rules for one operation: by cases -/
theorem OpR.or {f : Value → Value → Sem Value} {r r' : R2} (h : OpR X f r) (h' : OpR X f r') : OpR X f (fun x y H Q => r x y H Q ∨ r' x y H Q) := by
  intro pins s σ H x y v u Q I rx ry q
  rcases q with q | q
  · exact h pins s σ H x y v u Q I rx ry q
  · exact h' pins s σ H x y v u Q I rx ry q

theorem nomark (b : Expr) {op : CmpOp} (h : op ≠ .In := by decide) (h2 : op ≠ .NotIn := by decide) : behindInMarks op b = false := by
  have e1 : (op == CmpOp.In) = false := by cases op <;> first | rfl | exact absurd rfl h
  have e2 : (op == CmpOp.NotIn) = false := by cases op <;> first | rfl | exact absurd rfl h2
  cases b <;> simp [behindInMarks, e1, e2]
/-- a comparison as a value; hm: nomark b, or (for in, not in) by with_unfolding_all rfl -/
theorem pe_cmpR {op : CmpOp} {r : R2} (ho : OpR X (compareOp op) r) (ha : PE X a ta) (hb : PE X b tb) (hm : behindInMarks op b = false) : PE X (.Compare a [op] [b] pos) (tOp r ta tb) := by
  intro pins s σ H Q I h
  exact wpAny_Compare1 (binT ha hb I h fun v u s2 x y H2 I2 rx ry q => ho pins s2 σ H2 x y v u Q I2 rx ry q) hm
/-- a reading of a value as a test -/
def tTest (t : TE) : TT := fun σ H Q => t σ H fun x H' => ∃ k, x = .bl k ∧ Q k H'
theorem pt_cmpR {op : CmpOp} {r : R2} (ho : OpR X (compareOp op) r) (ha : PE X a ta) (hb : PE X b tb) (hm : behindInMarks op b = false) : PT X (.Compare a [op] [b] pos) (tTest (tOp r ta tb)) := by
  intro pins s σ H Q I h
  refine wpAny_isTrue_Compare1 (thn (ha pins s σ H _ I h) fun v s1 ⟨x, H1, I1, r1, q1⟩ => thn (hb pins s1 σ H1 _ I1 q1) fun u s2 ⟨y, H2, I2, r2, q2⟩ =>
    thn (ho pins s2 σ H2 x y v u _ I2 r1 r2 q2) fun c s3 ⟨z, H3, I3, r3, k, e, q3⟩ => ?_) hm
  subst e
  cases r3
  exact wpAny_truthy_bool ⟨H3, I3, q3⟩
/-- a op1 b op2 c -/
def tChain (r r' : R2) (ta tb tc : TE) : TE := fun σ H Q => ta σ H fun x H1 => tb σ H1 fun y H2 => r x y H2 fun z H3 => ∃ k, z = .bl k ∧
  (if k = true then tc σ H3 fun w' H4 => r' y w' H4 Q else Q (.bl false) H3)
theorem pe_chain {op op' : CmpOp} {r r' : R2} (ho : OpR X (compareOp op) r) (ho' : OpR X (compareOp op') r') (ha : PE X a ta) (hb : PE X b tb) (hc : PE X c tc)
    (hm : lastMarks [op, op'] [b, c] = false := by with_unfolding_all rfl) : PE X (.Compare a [op, op'] [b, c] pos) (tChain r r' ta tb tc) := by
  intro pins s σ H Q I h
  refine Compare_chain (thn (ha pins s σ H _ I h) fun v s1 ⟨x, H1, I1, r1, q1⟩ => chain_link (thn (hb pins s1 σ H1 _ I1 q1) fun u s2 ⟨y, H2, I2, r2, q2⟩ =>
    thn (ho pins s2 σ H2 x y v u _ I2 r1 r2 q2) fun d s3 ⟨z, H3, I3, r3, k, e, q3⟩ => ?_)) hm
  subst e
  cases r3
  refine wpAny_truthy_bool ?_
  cases k with
  | false => exact ite_ff ⟨.bl false, H3, I3, rfl, q3⟩
  | true => exact ite_tt (chain_last (thn (hc pins s3 σ H3 _ I3 q3) fun w' s4 ⟨z', H4, I4, r4, q4⟩ => ho' pins s4 σ H4 y z' u w' Q I4 r2 r4 q4))
theorem pt_chain {op op' : CmpOp} {r r' : R2} (ho : OpR X (compareOp op) r) (ho' : OpR X (compareOp op') r') (ha : PE X a ta) (hb : PE X b tb) (hc : PE X c tc)
    (hm : lastMarks [op, op'] [b, c] = false := by with_unfolding_all rfl) : PT X (.Compare a [op, op'] [b, c] pos) (tTest (tChain r r' ta tb tc)) := by
  intro pins s σ H Q I h
  refine isTrue_chain (thn (ha pins s σ H _ I h) fun v s1 ⟨x, H1, I1, r1, q1⟩ => test_link (thn (hb pins s1 σ H1 _ I1 q1) fun u s2 ⟨y, H2, I2, r2, q2⟩ =>
    thn (ho pins s2 σ H2 x y v u _ I2 r1 r2 q2) fun d s3 ⟨z, H3, I3, r3, k, e, q3⟩ => ?_)) hm
  subst e
  cases r3
  refine wpAny_truthy_bool ?_
  cases k with
  | false =>
    obtain ⟨k', e', q'⟩ := q3
    cases e'
    exact ite_ff ⟨H3, I3, q'⟩
  | true =>
    refine ite_tt (test_last (thn (hc pins s3 σ H3 _ I3 q3) fun w' s4 ⟨z', H4, I4, r4, q4⟩ => thn (ho' pins s4 σ H4 y z' u w' _ I4 r2 r4 q4) fun d' s5 ⟨z2, H5, I5, r5, k2, e2, q5⟩ => ?_))
    subst e2
    cases r5
    exact wpAny_truthy_bool ⟨H5, I5, q5⟩

/-! ### truth -/
/-- a value's truth by the abstract heap -/
def TruV (K : PySem.W.Frag) (x : V) (H : Hp) (k : Bool) : Prop :=
  match x with
  | .non => k = false
  | .bl b => k = b
  | .int i => k = (i != 0)
  | .str y => y.length ≤ sizeLine ∧ k = ((y.length : Int) != 0)
  | .byt y => y.size ≤ sizeLine ∧ k = ((y.size : Int) != 0)
  | .ref p => (∃ xs, SqL K H p xs ∧ k = !xs.isEmpty) ∨ (∃ xs, SqT K H p xs ∧ k = !xs.isEmpty) ∨ ∃ kvs, H p = some (.dK kvs) ∧ k = !kvs.isEmpty
  | _ => False
theorem isEmpty_kv {κ : Type} {kvs : List (κ × V)} {vs : List (κ × Value)} (r : KV kvs vs) : (!vs.isEmpty) = !kvs.isEmpty := by
  cases r <;> rfl
theorem isEmpty_of {xs : List V} {its : List Value} (r : Vals xs its) : (!its.toArray.isEmpty) = !xs.isEmpty := by
  cases r <;> simp
theorem line63 : (sizeLine : Nat) < 2 ^ 63 := by rw [sizeLine_eq]; decide
theorem tru_ok : TruR X (fun x H Q => ∃ k, TruV X.K x H k ∧ Q k H) := by
  intro pins s σ H x v Q I rx h
  obtain ⟨k, e, q⟩ := h
  have hl := line63
  have hs : sizeLine = 16777216 := sizeLine_eq
  cases x with
  | non =>
    cases rx
    have e' : k = false := e
    subst e'
    exact truthy_none ⟨H, I, q⟩
  | bl b =>
    cases rx
    have e' : k = b := e
    subst e'
    exact wpAny_truthy_bool ⟨H, I, q⟩
  | int i =>
    obtain ⟨t, rfl⟩ := rx
    have e' : k = (i != 0) := e
    subst e'
    exact PySem.P.truthy_int ⟨H, I, q⟩
  | str y =>
    obtain ⟨t, rfl⟩ := rx
    obtain ⟨hy, e'⟩ : y.length ≤ sizeLine ∧ k = ((y.length : Int) != 0) := e
    subst e'
    exact PySem.P.truthy_str (by omega) ⟨H, I.tok _, q⟩
  | byt y =>
    obtain ⟨t, rfl⟩ := rx
    obtain ⟨hy, e'⟩ : y.size ≤ sizeLine ∧ k = ((y.size : Int) != 0) := e
    subst e'
    exact PySem.W.truthy_bytes (by omega) ⟨H, I.tok _, q⟩
  | ref p =>
    cases rx
    have e' : (∃ xs, SqL X.K H p xs ∧ k = !xs.isEmpty) ∨ (∃ xs, SqT X.K H p xs ∧ k = !xs.isEmpty) ∨ ∃ kvs, H p = some (.dK kvs) ∧ k = !kvs.isEmpty := e
    rcases e' with ⟨xs, hx, e'⟩ | ⟨xs, hx, e'⟩ | ⟨kvs, hx, e'⟩
    · subst e'
      obtain ⟨its, r, pl, hz⟩ := I.list hx
      have hlen := r.length
      exact wpAny_truthy_list pl.isList (by simp only [List.size_toArray]; omega) ⟨H, I.tok _, by rw [isEmpty_of r]; exact q⟩
    · subst e'
      obtain ⟨its, r, pl, hz⟩ := I.tuple hx
      have hlen := r.length
      exact truthy_tuple pl (by simp only [List.size_toArray]; omega) ⟨H, I.tok _, by rw [isEmpty_of r]; exact q⟩
    · subst e'
      obtain ⟨hz, hS, vs, r, m⟩ : kvs.length ≤ sizeLine ∧ (p == sysModules) = false ∧ ∃ vs, KV kvs vs ∧ s.heap.DictOf (mixKind X.prog X.w) p vs := I.hok p _ hx
      have hlen : kvs.length = vs.length := Paired.length r
      exact wpAny_truthy_dict hS m (by omega) ⟨H, I.tok _, by rw [isEmpty_kv r]; exact q⟩
  | _ => exact (show False from e).elim
/-- any expression whose test is its value's truth (a name, a call, a subscript, a field ..: he by fun _ => rfl) -/
theorem pt_truth (ha : PE X a ta) (he : ∀ whole, isTrue a X.env whole = (do let v ← whole; standAt a.pos; holding [v] (truthy v))) :
    PT X a (fun σ H Q => ta σ H fun x H' => ∃ k, TruV X.K x H' k ∧ Q k H') := by
  intro pins s σ H Q I h
  exact isTrue_plain (thn (ha pins s σ H _ I h) fun v s1 ⟨x, H1, I1, r1, q1⟩ => tru_ok pins s1 σ H1 x v Q I1 r1 q1) (he _)

/-! ### strs and bytes -/
theorem pe_byt {x : List UInt8} {k : Nat} : PE X (.Constant (.bytes x) k pos) (fun _ H Q => Q (.byt x.toArray) H) := fun _ _ _ H _ I h => PySem.W.Constant_bytes ⟨.byt x.toArray, H, I.tok _, ⟨_, rfl⟩, h⟩
theorem op_add_str : OpR X (binaryOp .Add) (fun x y H Q => ∃ i j, x = .str i ∧ y = .str j ∧ i.length + j.length ≤ sizeLine ∧ Q (.str (i ++ j)) H) := by
  intro pins s σ H x y v u Q I rx ry h
  obtain ⟨i, j, rfl, rfl, hz, q⟩ := h
  obtain ⟨t, rfl⟩ := rx
  obtain ⟨t', rfl⟩ := ry
  exact add_str (fun t' tk => ⟨.str (i ++ j), H, I.tok _, ⟨_, rfl⟩, q⟩) hz
theorem iop_add_str : OpR X (inplaceOp .Add) (fun x y H Q => ∃ i j, x = .str i ∧ y = .str j ∧ i.length + j.length ≤ sizeLine ∧ Q (.str (i ++ j)) H) := by
  intro pins s σ H x y v u Q I rx ry h
  obtain ⟨i, j, rfl, rfl, hz, q⟩ := h
  obtain ⟨t, rfl⟩ := rx
  obtain ⟨t', rfl⟩ := ry
  exact iadd_str (fun t' tk => ⟨.str (i ++ j), H, I.tok _, ⟨_, rfl⟩, q⟩) hz
theorem op_add_byt : OpR X (binaryOp .Add) (fun x y H Q => ∃ i j, x = .byt i ∧ y = .byt j ∧ i.size + j.size ≤ 16777216 ∧ Q (.byt (i ++ j)) H) := by
  intro pins s σ H x y v u Q I rx ry h
  obtain ⟨i, j, rfl, rfl, hz, q⟩ := h
  obtain ⟨t, rfl⟩ := rx
  obtain ⟨t', rfl⟩ := ry
  exact PySem.W.KBy.add_bytes hz (fun t' tk => ⟨.byt (i ++ j), H, I.tok _, ⟨_, rfl⟩, q⟩)

def PlainIxT (b : Expr) : Prop := ∀ o i, subscripted b false o i = operate [o, i] (getItem o i)
/-- s[i], 0 ≤ i < len -/
theorem pe_item_str (ha : PE X a ta) (hb : PE X b tb) (hs : PlainIxT b) :
    PE X (.Subscript a b pos) (tOp (fun x y H Q => ∃ z i c, x = .str z ∧ y = .int i ∧ 0 ≤ i ∧ i < 2 ^ 63 ∧ i < z.length ∧ z.cps[i.toNat]? = some c ∧ Q (.str ⟨#[c]⟩) H) ta tb) := by
  intro pins s σ H Q I h
  refine Subscript_ (binT ha hb I h fun v u s2 x y H2 I2 rx ry q => ?_)
  obtain ⟨z, i, c, rfl, rfl, h0, h63, h1, hc, q⟩ := q
  obtain ⟨t, rfl⟩ := rx
  obtain ⟨t', rfl⟩ := ry
  have e : seqIndex? i z.length = some i.toNat := PySem.StrLaws.seqIndex_nonneg h0 h1
  exact tail_any (typeIs_str s2 z t) slot_str_getitem.lookup (getItem_str (c := c) (by
    have e1 : decide (i < -(2 ^ 63 : Int)) = false := decide_eq_false (by omega)
    have e2 : decide (i ≥ 2 ^ 63) = false := decide_eq_false (by omega)
    rw [e1, e2] <;> rfl) (by rw [e]; exact hc) ⟨.str ⟨#[c]⟩, H2, I2.tok _, ⟨_, rfl⟩, q⟩) (hs _ _)
/-- b[i], 0 ≤ i < len -/
theorem pe_item_byt (ha : PE X a ta) (hb : PE X b tb) (hs : PlainIxT b) :
    PE X (.Subscript a b pos) (tOp (fun x y H Q => ∃ (z : List UInt8) (i : Int), x = .byt z.toArray ∧ y = .int i ∧ z.length ≤ sizeLine ∧ 0 ≤ i ∧ i < z.length ∧ Q (.int ((z.getD i.toNat 0).toNat : Nat)) H) ta tb) := by
  intro pins s σ H Q I h
  refine Subscript_ (binT ha hb I h fun v u s2 x y H2 I2 rx ry q => ?_)
  obtain ⟨z, i, rfl, rfl, hz, h0, h1, q⟩ := q
  obtain ⟨t, rfl⟩ := rx
  obtain ⟨t', rfl⟩ := ry
  have hl : sizeLine = 16777216 := sizeLine_eq
  exact tail_any (PySem.W.typeIs_bytes s2 z.toArray t) PySem.W.FB.slot_bytes_getitem.lookup (PySem.W.getItem_bytes (by omega) h0 h1 ⟨.int ((z.getD i.toNat 0).toNat : Nat), H2, I2.tok _, ⟨_, rfl⟩, q⟩) (hs _ _)

/-! ### scalar builtins, by CallR -/
theorem vals1 {x : V} {us : List Value} (r : Vals [x] us) : ∃ u, us = [u] ∧ RelV x u := by
  cases r with
  | cons r1 r2 => cases r2; exact ⟨_, rfl, r1⟩
theorem vals2 {x y : V} {us : List Value} (r : Vals [x, y] us) : ∃ u w', us = [u, w'] ∧ RelV x u ∧ RelV y w' := by
  cases r with
  | cons r1 r2 =>
    cases r2 with
    | cons r3 r4 => cases r4; exact ⟨_, _, rfl, r1, r3⟩
theorem call_abs : CallR X (.builtin "abs") (fun xs H Q => ∃ i, xs = [.int i] ∧ Q (.int (if i < 0 then -i else i)) H) := by
  intro pins s σ H xs us Q I r h
  obtain ⟨i, rfl, q⟩ := h
  obtain ⟨u, rfl, t, rfl⟩ := vals1 r
  exact call_abs_int fun u tk => ⟨.int (if i < 0 then -i else i), H, I.tok _, ⟨_, rfl⟩, q⟩
theorem call_max2 (hc : X.calm = true) : CallR X (.builtin "max") (fun xs H Q => ∃ i j, xs = [.int i, .int j] ∧ Q (.int (if j > i then j else i)) H) := by
  intro pins s σ H xs us Q I r h
  obtain ⟨i, j, rfl, q⟩ := h
  obtain ⟨u, w', rfl, ⟨t, rfl⟩, ⟨t', rfl⟩⟩ := vals2 r
  refine max_two_ints (I.ok.hd hc) fun h' tk k => ⟨_, H, I.kept k, ?_, q⟩
  by_cases hj : j > i
  · rw [if_pos hj, if_pos hj]; exact ⟨_, rfl⟩
  · rw [if_neg hj, if_neg hj]; exact ⟨_, rfl⟩
theorem call_min2 (hc : X.calm = true) : CallR X (.builtin "min") (fun xs H Q => ∃ i j, xs = [.int i, .int j] ∧ Q (.int (if j < i then j else i)) H) := by
  intro pins s σ H xs us Q I r h
  obtain ⟨i, j, rfl, q⟩ := h
  obtain ⟨u, w', rfl, ⟨t, rfl⟩, ⟨t', rfl⟩⟩ := vals2 r
  refine min_two_ints (I.ok.hd hc) fun h' tk k => ⟨_, H, I.kept k, ?_, q⟩
  by_cases hj : j < i
  · rw [if_pos hj, if_pos hj]; exact ⟨_, rfl⟩
  · rw [if_neg hj, if_neg hj]; exact ⟨_, rfl⟩
theorem call_int1 : CallR X (.type "int") (fun xs H Q => (∃ i, xs = [.int i] ∧ Q (.int i) H) ∨ ∃ k, xs = [.bl k] ∧ Q (.int (if k then 1 else 0)) H) := by
  intro pins s σ H xs us Q I r h
  rcases h with ⟨i, rfl, q⟩ | ⟨k, rfl, q⟩
  · obtain ⟨u, rfl, t, rfl⟩ := vals1 r
    exact call_int_int ⟨.int i, H, I, ⟨_, rfl⟩, q⟩
  · obtain ⟨u, rfl, r1⟩ := vals1 r
    cases r1
    exact call_int_bool ⟨.int (if k then 1 else 0), H, I.tok _, ⟨_, rfl⟩, q⟩
theorem call_bool1 : CallR X (.type "bool") (fun xs H Q => (∃ i, xs = [.int i] ∧ Q (.bl (i != 0)) H) ∨ ∃ k, xs = [.bl k] ∧ Q (.bl k) H) := by
  intro pins s σ H xs us Q I r h
  rcases h with ⟨i, rfl, q⟩ | ⟨k, rfl, q⟩
  · obtain ⟨u, rfl, t, rfl⟩ := vals1 r
    exact call_bool_int ⟨.bl (i != 0), H, I, rfl, q⟩
  · obtain ⟨u, rfl, r1⟩ := vals1 r
    cases r1
    exact call_bool_bool ⟨.bl k, H, I, rfl, q⟩
theorem call_str_int : CallR X (.type "str") (fun xs H Q => ∃ i, xs = [.int i] ∧ i.natAbs.log2 < 1920 ∧ Q (.str (toString i)) H) := by
  intro pins s σ H xs us Q I r h
  obtain ⟨i, rfl, hz, q⟩ := h
  obtain ⟨u, rfl, t, rfl⟩ := vals1 r
  exact PySem.P.str_of_int hz ⟨.str _, H, I.tok _, ⟨_, rfl⟩, q⟩
theorem call_ord : CallR X (.builtin "ord") (fun xs H Q => ∃ x, xs = [.str x] ∧ x.length = 1 ∧ Q (.int (x.cps.getD 0 0 : Nat)) H) := by
  intro pins s σ H xs us Q I r h
  obtain ⟨x, rfl, hz, q⟩ := h
  obtain ⟨u, rfl, t, rfl⟩ := vals1 r
  exact ord_of_one hz ⟨.int _, H, I.tok _, ⟨_, rfl⟩, q⟩
theorem call_chr : CallR X (.builtin "chr") (fun xs H Q => ∃ i, xs = [.int i] ∧ 0 ≤ i ∧ i ≤ 1114111 ∧ Q (.str ⟨#[i.toNat]⟩) H) := by
  intro pins s σ H xs us Q I r h
  obtain ⟨i, rfl, h0, h1, q⟩ := h
  obtain ⟨u, rfl, t, rfl⟩ := vals1 r
  exact chr_of_range h0 h1 ⟨.str _, H, I.tok _, ⟨_, rfl⟩, q⟩
/-- len of a str, a bytes, a list, a tuple -/
def LenV (K : PySem.W.Frag) (x : V) (H : Hp) (n : Nat) : Prop :=
  match x with
  | .str y => y.length ≤ sizeLine ∧ n = y.length
  | .byt y => y.size ≤ sizeLine ∧ n = y.size
  | .ref p => (∃ xs, SqL K H p xs ∧ n = xs.length) ∨ ∃ xs, SqT K H p xs ∧ n = xs.length
  | _ => False
theorem call_len : CallR X (.builtin "len") (fun xs H Q => ∃ x n, xs = [x] ∧ LenV X.K x H n ∧ Q (.int n) H) := by
  intro pins s σ H xs us Q I r h
  obtain ⟨x, n, rfl, e, q⟩ := h
  obtain ⟨u, rfl, rx⟩ := vals1 r
  have hl := line63
  have hs : sizeLine = 16777216 := sizeLine_eq
  cases x with
  | str y =>
    obtain ⟨t, rfl⟩ := rx
    obtain ⟨hy, e'⟩ : y.length ≤ sizeLine ∧ n = y.length := e
    subst e'
    exact len_str (by omega) ⟨.int _, H, I.tok _, ⟨_, rfl⟩, q⟩
  | byt y =>
    obtain ⟨t, rfl⟩ := rx
    obtain ⟨hy, e'⟩ : y.size ≤ sizeLine ∧ n = y.size := e
    subst e'
    exact PySem.W.len_bytes (by omega) ⟨.int _, H, I.tok _, ⟨_, rfl⟩, q⟩
  | ref p =>
    cases rx
    have e' : (∃ xs, SqL X.K H p xs ∧ n = xs.length) ∨ ∃ xs, SqT X.K H p xs ∧ n = xs.length := e
    rcases e' with ⟨xs, hx, e'⟩ | ⟨xs, hx, e'⟩
    · subst e'
      obtain ⟨its, r', pl, hz⟩ := I.list hx
      have hlen := r'.length
      exact Calls.call_len_list pl.isList (by simp only [List.size_toArray]; omega) ⟨.int xs.length, H, I.tok _, ⟨_, by simp only [List.size_toArray]; rw [hlen]⟩, q⟩
    · subst e'
      obtain ⟨its, r', pl, hz⟩ := I.tuple hx
      have hlen := r'.length
      exact len_tuple pl (by simp only [List.size_toArray]; omega) ⟨.int xs.length, H, I.tok _, ⟨_, by simp only [List.size_toArray]; rw [hlen]⟩, q⟩
  | _ => exact (show False from e).elim
/-- divmod: a new tuple -/
theorem call_divmod : CallR X (.builtin "divmod") (fun xs H Q => ∃ i j, xs = [.int i, .int j] ∧ CDiv i j ∧ ∀ p, H p = none → Q (.ref p) (upd H p (.tup [.int (i / j), .int (i % j)]))) := by
  intro pins s σ H xs us Q I r h
  obtain ⟨i, j, rfl, ⟨h1, h2⟩, q⟩ := h
  obtain ⟨u, w', rfl, ⟨t, rfl⟩, ⟨t', rfl⟩⟩ := vals2 r
  refine divmod_int (by omega) ?_ (.inl (PyProof.noPylong_small (by omega)))
  rw [Int.fdiv_eq_ediv_of_nonneg i (by omega), Int.fmod_eq_emod_of_nonneg i (by omega)]
  have hn : H s.heap.objs.size = none := I.hok.fresh (Nat.le_refl _)
  refine ⟨.ref s.heap.objs.size, _, ?_, rfl, q _ hn⟩
  refine I.laid (fun b o e => Heap.get?_push_of_some _ e) (Nat.le_refl _) ⟨by simp only [List.length_cons, List.length_nil]; rw [sizeLine_eq]; decide, [.int (i / j) s.toks, .int (i % j) (s.toks + 1)], .cons ⟨_, rfl⟩ (.cons ⟨_, rfl⟩ .nil), ?_⟩
  exact ⟨_, Heap.get?_push_size s.heap rfl, rfl, 0, rfl⟩
end
end L2

namespace L2
open PySem PySem.Spec PyProof.Rows

/-! ### an instance, its attributes a map -/
structure ObjM (h : Heap) (x dx C : Addr) (mA : Str → Option Value) : Prop where
  obj : h.get? x = some (PySem.W.instObj C dx)
  ns : h.Ns1 dx mA
  ne : dx ≠ x

theorem lookIn_ns {h : Heap} {dx : Addr} {mA : Str → Option Value} (n : h.Ns1 dx mA) : ∃ od, h.get? dx = some od ∧ ∀ name, PySem.W.lookIn name od = some (mA name) := by
  obtain ⟨o, es, ep, ho, hd, hk, _, hm⟩ := n
  refine ⟨o, ho, fun name => ?_⟩
  have e := hm name
  unfold nsFind findBy at e
  rw [← Array.find?_toList] at e
  unfold PySem.W.lookIn
  rw [hd]
  dsimp only
  split
  · rename_i y q
    rw [q] at e
    exact congrArg some e
  · rename_i q
    rw [q] at e
    have a : es.toList.any (·.refKey) = false := by
      rw [List.any_eq_false]
      intro y hy
      obtain ⟨z, t, hkey⟩ := hk y (Array.mem_toList_iff.mp hy)
      simp [DictEntry.refKey, hkey]
    have a' : ¬ es.toList.any (·.refKey) = true := by rw [a]; exact Bool.false_ne_true
    rw [if_neg a']
    exact congrArg some e

theorem ObjM.look {h : Heap} {x dx C : Addr} {mA : Str → Option Value} (I : ObjM h x dx C mA) : ∃ od, PySem.W.InstAt h x (PySem.W.instObj C dx) C (some od) ∧ ∀ name, PySem.W.lookIn name od = some (mA name) :=
  let ⟨od, ho, hl⟩ := lookIn_ns I.ns
  ⟨od, ⟨I.obj, rfl, rfl, ho⟩, hl⟩

section
variable {prog : Program} {w : World} {A : Around} {E : Value → Shared → Prop} {s : Shared} {K : PySem.W.Frag} {x dx C f : Addr} {mA : Str → Option Value} {name : Str} {v : Value}

theorem get_map {expr : Bool} {Q : Value → Shared → Prop} (X : K.In s.heap) (I : ObjM s.heap x dx C mA) (hg : PySem.W.plainGet K C name = true) (hh : PySem.W.hasDictIn K C = true)
    (ha : PySem.W.findIn K (.ref C) name = some none) (hv : mA name = some v) (hv' : PySem.W.handedIn v = true) (h : Q v { s with toks := s.toks + 1 }) :
    wpAny (model prog w) A (getAttr (.ref x) name expr) Q E s := by
  obtain ⟨od, J, hl⟩ := I.look
  exact PySem.W.get_value X J (PySem.W.plainGet_of hg).1 (PySem.W.findObj_own hh ha rfl (by rw [hl, hv])) hv' h

theorem get_const {expr : Bool} {a : Value} {Q : Value → Shared → Prop} (X : K.In s.heap) (I : ObjM s.heap x dx C mA) (hg : PySem.W.plainGet K C name = true) (hh : PySem.W.hasDictIn K C = true)
    (ha : PySem.W.findIn K (.ref C) name = some (some a)) (hn : PySem.W.specialIn K a "__get__" = some none) (hc : PySem.W.copiedNames.contains name = false) (hv : mA name = none) (hv' : PySem.W.handedIn a = true)
    (h : Q a { s with toks := s.toks + 1 }) : wpAny (model prog w) A (getAttr (.ref x) name expr) Q E s := by
  obtain ⟨od, J, hl⟩ := I.look
  exact PySem.W.get_value X J (PySem.W.plainGet_of hg).1 (PySem.W.findObj_cls hh ha hn hv' hc (by rw [hl, hv])) hv' h

theorem get_meth {pl : Sem Bool} {Q : Value × List Value → Shared → Prop} (X : K.In s.heap) (I : ObjM s.heap x dx C mA) (hg : PySem.W.plainGet K C name = true)
    (hf : PySem.W.findIn K (.ref C) name = some (some (.ref f))) (ht : PySem.W.isFn K (.ref f) = true) (hv : mA name = none) (h : Q (.ref f, [.ref x]) s) :
    wpAny (model prog w) A (getMethod (.ref x) name pl) Q E s := by
  obtain ⟨od, J, hl⟩ := I.look
  exact PySem.W.method_fn X J (PySem.W.plainGet_of hg).1 (PySem.W.plainGet_of hg).2 hf (beq_iff_eq.mp ht) (by show (PySem.W.lookIn name od).map (·.isSome) = some false; rw [hl, hv]; rfl) h

theorem set_map {ns : List Str} {Q : Unit → Shared → Prop} (X : K.In s.heap) (I : ObjM s.heap x dx C mA)
    (hs : PySem.W.findIn K (.ref C) "__setattr__" = some (some (.builtin "object.__setattr__"))) (hp : PySem.W.plainOver K C = true) (ht : PySem.W.takerIn K C name = some none) (hh : PySem.W.hasDictIn K C = true)
    (hw : PySem.Within mA ns) (hsz : ns.length ≤ sizeLine)
    (h : ∀ h', ObjM h' x dx C (fun y => if y = name then some v else mA y) → Heap.SameBut dx s.heap h' → Q () { s with heap := h', toks := s.toks + 2 }) :
    wpAny (model prog w) A (setAttr (.ref x) name v) Q E s := by
  obtain ⟨od, J, hl⟩ := I.look
  refine PySem.W.set_plain X J hs (PySem.W.osa_open (s := { s with toks := s.toks + 1 }) (r := none) X J hp ht fun b => ?_)
  obtain ⟨cd, hc, hd'⟩ := PySem.W.any_some hh
  have hx : s.heap.get? x = some ⟨.ref C, some dx, .plain, #[]⟩ := I.obj
  refine wpAny_bind (wpAny_pure (wpAny_bind (wpAny_bind (wpAny_loadPart hx (wpAny_bind (PySem.W.Looks.here (s := { s with toks := s.toks + 1 }) (PySem.W.looks_clsIn X hc) ?_))))))
  rw [hd']
  refine wpAny_pure (a := some dx) (wpAny_bind (wpAny_pure (wpAny_bind ?_)))
  refine wpAny_nsSet1 (s := { s with toks := s.toks + 1 }) I.ns fun h' hn2 hs2 => ?_
  obtain ⟨oD, esD, epD, hoD, hdD, hcD⟩ := hn2.count (PySem.Within.cons name v hw)
  refine wpAny_bind (wpAny_lookBehind hoD (by rw [hdD]; exact pastItsLine_dict (Nat.le_trans hcD (by rw [List.length_cons]; omega))) ?_)
  exact wpAny_pure (h _ ⟨(hs2.2 _ (Ne.symm I.ne)).trans I.obj, hn2, I.ne⟩ hs2)

/-- C(..): the dict at the heap's end, the instance behind it; then its __init__ -/
theorem make_map {R : Result → Shared → Prop} {vs : List Value} {kw : List (Str × Value)} (X : K.In s.heap) (hm : PySem.W.makesIn K C = true)
    (hi : PySem.W.findIn K (.ref C) "__init__" = some (some (.ref f))) (hf : PySem.W.typeIn K (.ref f) = some (.type "function"))
    (h : codeAny (model prog w) (A.under (.builtin "type.__call__" ⟨.ref C :: vs, kw⟩)) (.call (.ref f) ⟨.ref (s.heap.objs.size + 1) :: vs, kw⟩) (PySem.W.InitBack (s.heap.objs.size + 1) R)
      { s with heap := (s.heap.push PySem.W.emptyDict).push (PySem.W.instObj C s.heap.objs.size) }) :
    codeAny (model prog w) A (.call (.ref C) ⟨vs, kw⟩) R s := by
  obtain ⟨hh, g, d, t, os⟩ := s
  exact PySem.W.make_core (PySem.W.makes_of X hm) (PySem.W.looks_findIn X hi) (fun self => PySem.W.bind_fn X self hf) (.inl rfl) h
/-- C() where there is no __init__ but object's -/
theorem make_map0 {R : Result → Shared → Prop} (X : K.In s.heap) (hm : PySem.W.makesIn K C = true)
    (hi : PySem.W.findIn K (.ref C) "__init__" = some (some (.builtin "object.__init__")))
    (hb : ∀ self, PySem.W.Looks (model prog w) s.heap (bindSpecial (.builtin "object.__init__") self) (.builtin "object.__init__", [self]))
    (h : codeAny (model prog w) (A.under (.builtin "type.__call__" ⟨[.ref C], []⟩)) (.call (.builtin "object.__init__") ⟨[.ref (s.heap.objs.size + 1)], []⟩) (PySem.W.InitBack (s.heap.objs.size + 1) R)
      { s with heap := (s.heap.push PySem.W.emptyDict).push (PySem.W.instObj C s.heap.objs.size) }) :
    codeAny (model prog w) A (.call (.ref C) ⟨[], []⟩) R s := by
  obtain ⟨hh, g, d, t, os⟩ := s
  exact PySem.W.make_core (PySem.W.makes_of X hm) (PySem.W.looks_findIn X hi) hb (.inr ⟨rfl, rfl⟩) h
end

/-! ### the attributes as a list of pairs -/
def putF (f : Str) (v : V) : List (Str × V) → List (Str × V)
  | [] => [(f, v)]
  | (g, x) :: r => if g = f then (g, v) :: r else (g, x) :: putF f v r
theorem lookup_putF (f g : Str) (v : V) : ∀ fs : List (Str × V), (putF f v fs).lookup g = if g = f then some v else fs.lookup g
  | [] => by
    show List.lookup g [(f, v)] = _
    by_cases h : g = f
    · have hb : (g == f) = true := beq_iff_eq.mpr h
      simp only [List.lookup, hb, if_pos h]
    · have hb : (g == f) = false := beq_eq_false_iff_ne.mpr h
      simp only [List.lookup, hb, if_neg h]
  | (k, x) :: r => by
    have ih := lookup_putF f g v r
    rw [show putF f v ((k, x) :: r) = (if k = f then (k, v) :: r else (k, x) :: putF f v r) from rfl]
    by_cases hk : k = f
    · rw [if_pos hk]
      by_cases h : g = k
      · have hb : (g == k) = true := beq_iff_eq.mpr h
        simp only [List.lookup, hb, if_pos (h.trans hk)]
      · have hb : (g == k) = false := beq_eq_false_iff_ne.mpr h
        simp only [List.lookup, hb, if_neg (fun e : g = f => h (e.trans hk.symm))]
    · rw [if_neg hk]
      by_cases h : g = k
      · have hb : (g == k) = true := beq_iff_eq.mpr h
        simp only [List.lookup, hb, if_neg (fun e : g = f => hk (h.symm.trans e))]
      · have hb : (g == k) = false := beq_eq_false_iff_ne.mpr h
        simp only [List.lookup, hb]
        exact ih
theorem keys_putF (f : Str) (v : V) : ∀ fs : List (Str × V), f ∈ (putF f v fs).map (·.1) ∧ ∀ g, g ∈ fs.map (·.1) → g ∈ (putF f v fs).map (·.1)
  | [] => ⟨by simp [putF], fun g h => by simp at h⟩
  | (k, x) :: r => by
    obtain ⟨i1, i2⟩ := keys_putF f v r
    rw [show putF f v ((k, x) :: r) = (if k = f then (k, v) :: r else (k, x) :: putF f v r) from rfl]
    by_cases hk : k = f
    · rw [if_pos hk]
      subst hk
      exact ⟨by simp, fun g h => by simpa using h⟩
    · rw [if_neg hk]
      refine ⟨?_, fun g h => ?_⟩
      · rw [List.map_cons]
        exact List.mem_cons_of_mem _ i1
      · rw [List.map_cons] at h ⊢
        rcases List.mem_cons.mp h with e | e
        · exact List.mem_cons.mpr (.inl e)
        · exact List.mem_cons_of_mem _ (i2 g e)
theorem length_putF (f : Str) (v : V) : ∀ fs : List (Str × V), (putF f v fs).length ≤ fs.length + 1
  | [] => by simp [putF]
  | (k, x) :: r => by
    have ih := length_putF f v r
    rw [show putF f v ((k, x) :: r) = (if k = f then (k, v) :: r else (k, x) :: putF f v r) from rfl]
    by_cases hk : k = f
    · rw [if_pos hk, List.length_cons, List.length_cons]; omega
    · rw [if_neg hk, List.length_cons, List.length_cons]; omega

theorem RelO.some_of {v : V} {o : Option Value} (r : RelO (some v) o) : ∃ u, o = some u ∧ RelV v u := by
  cases o with
  | none => exact (show False from r).elim
  | some u => exact ⟨u, rfl, r⟩
theorem RelO.none_of {o : Option Value} (r : RelO none o) : o = none := by
  cases o with
  | none => rfl
  | some u => exact (show False from r).elim
theorem handed_of {v : V} {u : Value} (r : RelV v u) : PySem.W.handedIn u = true := by
  cases v with
  | non => cases (show u = Value.none from r); rfl
  | bl b => cases (show u = Value.bool b from r); rfl
  | int i => obtain ⟨t, e⟩ := (show ∃ t, u = Value.int i t from r); cases e; rfl
  | str x => obtain ⟨t, e⟩ := (show ∃ t, u = Value.str x t from r); cases e; rfl
  | byt b => obtain ⟨t, e⟩ := (show ∃ t, u = Value.bytes b t from r); cases e; rfl
  | flt b => obtain ⟨t, e⟩ := (show ∃ t, u = Value.float b t from r); cases e; rfl
  | ref a => cases (show u = Value.ref a from r); rfl
  | ty n => cases (show u = Value.type n from r); rfl

section
variable {P : Program} {w : World} {H H' : Hp} {h h' : Heap} {a C dx : Addr} {fs fs' : List (Str × V)}
theorem ins_get (hok : HOk P w H h) (e : H a = some (.ins C dx fs)) : ∃ mA, ObjM h a dx C mA ∧ (∀ f, RelO (fs.lookup f) (mA f)) ∧ PySem.Within mA (fs.map (·.1)) ∧ fs.length ≤ 1000 ∧ H dx = some (.own a) := by
  obtain ⟨d, z, ne, ob, mA, n, r, q⟩ := (show ObjOk P w H h a (.ins C dx fs) from hok a _ e)
  exact ⟨mA, ⟨ob, n, ne⟩, r, q, z, d⟩
end

/-! ### what of the text a class must have -/
structure Cls (K : PySem.W.Frag) (C : Addr) : Prop where
  pg : PySem.W.plainGet K C Str.empty = true
  hd : PySem.W.hasDictIn K C = true
  po : PySem.W.plainOver K C = true
  sa : PySem.W.findIn K (.ref C) "__setattr__" = some (some (.builtin "object.__setattr__"))
theorem Cls.get {K : PySem.W.Frag} {C : Addr} (c : Cls K C) (f : Str) : PySem.W.plainGet K C f = true := c.pg
/-- no class of it has the name -/
def NoAttr (K : PySem.W.Frag) (C : Addr) (f : Str) : Prop := PySem.W.findIn K (.ref C) f = some none
theorem NoAttr.taker {K : PySem.W.Frag} {C : Addr} {f : Str} (n : NoAttr K C f) : PySem.W.takerIn K C f = some none := by
  unfold PySem.W.takerIn
  rw [show PySem.W.findIn K (.ref C) f = some none from n]
  rfl
/-- a constant of the class -/
structure Con (K : PySem.W.Frag) (C : Addr) (f : Str) (v : V) (u : Value) : Prop where
  at_ : PySem.W.findIn K (.ref C) f = some (some u)
  rel : RelV v u
  get : PySem.W.specialIn K u "__get__" = some none
  cp : PySem.W.copiedNames.contains f = false
/-- a method: a plain def of the class or of one above it -/
structure Meth (K : PySem.W.Frag) (C : Addr) (m : Str) (f : Addr) : Prop where
  at_ : PySem.W.findIn K (.ref C) m = some (some (.ref f))
  fn : PySem.W.isFn K (.ref f) = true
  kp : PySem.W.keepIn K (.ref f) = true

section
variable {X : Cx} {pins : List (Addr × Obj)} {σ : St} {H : Hp} {s : Shared} {a C dx : Addr} {fs : List (Str × V)} {f : Str} {v : V} {A : Around} {E : Value → Shared → Prop}

theorem getattr_ok {b : Bool} {Q : Value → Shared → Prop} (I : Inv X pins σ H s) (e : H a = some (.ins C dx fs)) (c : Cls X.K C) (n : NoAttr X.K C f) (l : fs.lookup f = some v)
    (h : ∀ u s', Inv X pins σ H s' → RelV v u → Q u s') : wpAny (model X.prog X.w) A (getAttr (.ref a) f b) Q E s := by
  obtain ⟨mA, O, r, _, _, _⟩ := ins_get I.hok e
  obtain ⟨u, hu, ru⟩ := RelO.some_of (v := v) (o := mA f) (by rw [← l]; exact r f)
  exact get_map I.kIn O (c.get f) c.hd n hu (handed_of ru) (h u _ (I.tok _) ru)

theorem getcon_ok {b : Bool} {u : Value} {Q : Value → Shared → Prop} (I : Inv X pins σ H s) (e : H a = some (.ins C dx fs)) (c : Cls X.K C) (k : Con X.K C f v u) (l : fs.lookup f = none)
    (h : ∀ s', Inv X pins σ H s' → Q u s') : wpAny (model X.prog X.w) A (getAttr (.ref a) f b) Q E s := by
  obtain ⟨mA, O, r, _, _, _⟩ := ins_get I.hok e
  have hn : mA f = none := RelO.none_of (by rw [← l]; exact r f)
  exact get_const I.kIn O (c.get f) c.hd k.at_ k.get k.cp hn (handed_of k.rel) (h _ (I.tok _))

theorem getmeth_ok {m : Str} {g : Addr} {pl : Sem Bool} {Q : Value × List Value → Shared → Prop} (I : Inv X pins σ H s) (e : H a = some (.ins C dx fs)) (c : Cls X.K C) (k : Meth X.K C m g) (l : fs.lookup m = none)
    (h : Q (.ref g, [.ref a]) s) : wpAny (model X.prog X.w) A (getMethod (.ref a) m pl) Q E s := by
  obtain ⟨mA, O, r, _, _, _⟩ := ins_get I.hok e
  have hn : mA m = none := RelO.none_of (by rw [← l]; exact r m)
  exact get_meth I.kIn O (c.get m) k.at_ k.fn hn h

theorem setattr_ok {y : V} {u : Value} {Q : Unit → Shared → Prop} (I : Inv X pins σ H s) (e : H a = some (.ins C dx fs)) (c : Cls X.K C) (n : NoAttr X.K C f) (hl : fs.length < 1000) (ry : RelV y u)
    (h : ∀ s', Inv X pins σ (upd H a (.ins C dx (putF f y fs))) s' → Q () s') : wpAny (model X.prog X.w) A (setAttr (.ref a) f u) Q E s := by
  obtain ⟨mA, O, r, wi, _, ho⟩ := ins_get I.hok e
  have hz : (fs.map (·.1)).length ≤ sizeLine := by rw [List.length_map, sizeLine_eq]; omega
  refine set_map I.kIn O c.sa c.po n.taker c.hd wi hz fun h' O' sb => h _ ?_
  have hd : ∃ o, h'.get? dx = some o := let ⟨o, _, _, e', _⟩ := O'.ns; ⟨o, e'⟩
  refine I.write (x := a) (e := dx) (by rw [e]; exact True.intro) (.inr ho) (fun b q hb z => (sb.2 b hb).trans z) hd ?_
  refine ⟨by rw [upd_ne O.ne]; exact ho, ?_, O.ne, O'.obj, _, O'.ns, fun g => ?_, fun g hg => ?_⟩
  · have := length_putF f y fs; omega
  · show RelO ((putF f y fs).lookup g) (if g = f then some u else mA g)
    rw [lookup_putF]
    by_cases q : g = f
    · rw [if_pos q, if_pos q]; exact ry
    · rw [if_neg q, if_neg q]; exact r g
  · by_cases q : g = f
    · rw [q]; exact (keys_putF f y fs).1
    · refine (keys_putF f y fs).2 g (wi g fun z => hg ?_)
      show (if g = f then some u else mA g) = none
      rw [if_neg q]; exact z

/-- a new instance, tracked, without attributes -/
theorem Inv.made (I : Inv X pins σ H s) : Inv X pins σ (upd (upd H s.heap.objs.size (.own (s.heap.objs.size + 1))) (s.heap.objs.size + 1) (.ins C s.heap.objs.size []))
    { s with heap := (s.heap.push PySem.W.emptyDict).push (PySem.W.instObj C s.heap.objs.size) } := by
  have e1 : (s.heap.push PySem.W.emptyDict).get? s.heap.objs.size = some PySem.W.emptyDict := Heap.get?_push_size s.heap rfl
  have e2 : ((s.heap.push PySem.W.emptyDict).push (PySem.W.instObj C s.heap.objs.size)).get? (s.heap.objs.size + 1) = some (PySem.W.instObj C s.heap.objs.size) := by
    have := Heap.get?_push_size (s.heap.push PySem.W.emptyDict) (o := PySem.W.instObj C s.heap.objs.size) rfl
    rwa [Heap.size_push] at this
  have e3 : (s.heap.push PySem.W.emptyDict).Ns s.heap.objs.size (fun _ => none) := ⟨PySem.W.emptyDict, #[], _, e1, rfl, (fun e he => absurd he (by simp)), fun _ => rfl⟩
  have I1 := I.laid (a := s.heap.objs.size) (o := .own (s.heap.objs.size + 1)) (h' := s.heap.push PySem.W.emptyDict) (t' := s.toks) (fun b u q => Heap.get?_push_of_some _ q) (Nat.le_refl _) ⟨_, e1⟩
  refine I1.laid (a := s.heap.objs.size + 1) (o := .ins C s.heap.objs.size []) (t' := s.toks) (fun b u q => Heap.get?_push_of_some _ q) (Nat.le_of_eq (Heap.size_push _ _)) ?_
  have ne : s.heap.objs.size ≠ s.heap.objs.size + 1 := Nat.ne_of_lt (Nat.lt_succ_self _)
  refine ⟨by rw [upd_ne ne, upd_same], Nat.zero_le _, ne, e2, fun _ => none, (Heap.Ns1.of_empty e3).at fun o q => Heap.get?_push_of_some _ q, fun _ => True.intro, fun y hy => absurd rfl hy⟩

/-- e.f where nothing but the object is asked: through attributeBase (super) and the last hold -/
theorem attr_of {prog : Program} {w : World} {env : Env} {e : Expr} {f : Str} {pos : Pos} {s : Shared} {Q : Value → Shared → Prop} (hb : attributeBase e f env (eval e env) = eval e env)
    (h : wpAny (model prog w) A (eval e env) (fun o s₁ => wpAny (model prog w) A (getAttr o f true) Q E s₁) E s) : wpAny (model prog w) A (eval (.Attribute e f pos) env) Q E s :=
  Attribute_any_ h (by rw [arm_eval_Attribute, hb])
end

/-! ### readings and rules -/
/-- e.f, an attribute of the instance -/
def tFld (K : PySem.W.Frag) (ta : TE) (f : Str) : TE := fun σ H Q => ta σ H fun x H1 => ∃ a C dx fs v, x = .ref a ∧ H1 a = some (.ins C dx fs) ∧ Cls K C ∧ NoAttr K C f ∧ fs.lookup f = some v ∧ Q v H1
/-- e.f, a constant of the class -/
def tCon (K : PySem.W.Frag) (ta : TE) (f : Str) : TE := fun σ H Q => ta σ H fun x H1 => ∃ a C dx fs v u, x = .ref a ∧ H1 a = some (.ins C dx fs) ∧ Cls K C ∧ Con K C f v u ∧ fs.lookup f = none ∧ Q v H1
/-- e.f = value -/
def sFld (K : PySem.W.Frag) (ta tv : TE) (f : Str) : TS := fun D σ H => tv σ H fun y H1 => ta σ H1 fun x H2 => ∃ a C dx fs, x = .ref a ∧ H2 a = some (.ins C dx fs) ∧ Cls K C ∧ NoAttr K C f ∧ fs.length < 1000 ∧
  D.nx σ (upd H2 a (.ins C dx (putF f y fs)))
/-- an augmented operator on two values -/
def InOp (X : Cx) (op : Operator) (rd : V → V → Hp → VK → Prop) : Prop :=
  ∀ (pins : List (Addr × Obj)) (s : Shared) (σ : St) (H : Hp) (x y : V) (u v : Value) (Q : VK), Inv X pins σ H s → RelV x u → RelV y v → rd x y H Q → wpAny (model X.prog X.w) X.A (inplaceOp op u v) (EP X pins σ Q) X.xe s
/-- e.f op= value -/
def sFldAug (K : PySem.W.Frag) (ta tv : TE) (rd : V → V → Hp → VK → Prop) (f : Str) : TS := fun D σ H => ta σ H fun x H1 => ∃ a C dx fs v, x = .ref a ∧ H1 a = some (.ins C dx fs) ∧ Cls K C ∧ NoAttr K C f ∧ fs.lookup f = some v ∧
  tv σ H1 fun y H2 => rd v y H2 fun z H3 => ∃ dx' fs', H3 a = some (.ins C dx' fs') ∧ fs'.length < 1000 ∧ D.nx σ (upd H3 a (.ins C dx' (putF f z fs')))

section
variable {X : Cx} {o e value : Expr} {f : Str} {pos pos' tpos : Pos} {ta tv : TE}
theorem pe_fld (he : PE X e ta) (hb : attributeBase e f X.env (eval e X.env) = eval e X.env) : PE X (.Attribute e f pos) (tFld X.K ta f) := by
  intro pins s σ H Q I h
  refine attr_of hb (thn (he pins s σ H _ I h) fun u s1 ⟨x, H1, I1, rx, a, C, dx, fs, v, ex, ea, c, n, l, q⟩ => ?_)
  subst ex
  obtain rfl : u = Value.ref a := rx
  exact getattr_ok I1 ea c n l fun u' s2 I2 ru => ⟨v, H1, I2, ru, q⟩
theorem pe_con (he : PE X e ta) (hb : attributeBase e f X.env (eval e X.env) = eval e X.env) : PE X (.Attribute e f pos) (tCon X.K ta f) := by
  intro pins s σ H Q I h
  refine attr_of hb (thn (he pins s σ H _ I h) fun u s1 ⟨x, H1, I1, rx, a, C, dx, fs, v, u0, ex, ea, c, k, l, q⟩ => ?_)
  subst ex
  obtain rfl : u = Value.ref a := rx
  exact getcon_ok I1 ea c k l fun s2 I2 => ⟨v, H1, I2, k.rel, q⟩
theorem ps_fld (ha : PE X o ta) (hv : PE X value tv) (hs : swapsWith value (some (.Attribute o f pos')) pos.line X.env = pure false) : PS X (.Assign [.Attribute o f pos'] value pos) (sFld X.K ta tv f) := by
  intro pins s σ H D I h
  refine plainObj_wpAny_Assign_Attribute (thn (hv pins s σ H _ I h) fun u s1 ⟨y, H1, I1, ry, q⟩ => thn (ha pins s1 σ H1 _ I1 q) fun ov s2 ⟨x, H2, I2, rx, a, C, dx, fs, ex, ea, c, n, l, q2⟩ => ?_) hs
  subst ex
  obtain rfl : ov = Value.ref a := rx
  exact setattr_ok I2 ea c n l ry fun s3 I3 => ⟨σ, _, I3, q2⟩
theorem ps_fldaug {op : Operator} {rd : V → V → Hp → VK → Prop} (ha : PE X o ta) (hv : PE X value tv) (hop : InOp X op rd) : PS X (.AugAssign (.Attribute o f tpos) op value pos) (sFldAug X.K ta tv rd f) := by
  intro pins s σ H D I h
  refine wpAny_AugAssign_AttributeAny (thn (ha pins s σ H _ I h) fun ov s1 ⟨x, H1, I1, rx, a, C, dx, fs, v, ex, ea, c, n, l, q⟩ => ?_)
  subst ex
  obtain rfl : ov = Value.ref a := rx
  refine getattr_ok I1 ea c n l fun u s2 I2 ru => thn (hv pins s2 σ H1 _ I2 q) fun w3 s3 ⟨y, H2, I3, ry, q3⟩ => thn (hop pins s3 σ H2 v y u w3 _ I3 ru ry q3) fun w4 s4 ⟨z, H3, I4, rz, dx', fs', ea', l', q4⟩ => ?_
  exact setattr_ok I4 ea' c n l' rz fun s5 I5 => ⟨σ, _, I5, q4⟩
def rAdd : V → V → Hp → VK → Prop := fun x y H Q => ∃ i j, x = .int i ∧ y = .int j ∧ Q (.int (i + j)) H
def rSub : V → V → Hp → VK → Prop := fun x y H Q => ∃ i j, x = .int i ∧ y = .int j ∧ Q (.int (i - j)) H
theorem in_add : InOp X .Add rAdd := by
  rintro pins s σ H x y u v Q I rx ry ⟨i, j, rfl, rfl, q⟩
  obtain ⟨t, rfl⟩ := (show ∃ t, u = Value.int i t from rx)
  obtain ⟨t', rfl⟩ := (show ∃ t', v = Value.int j t' from ry)
  exact PyProof.Rows.iadd_int ⟨.int (i + j), H, I.tok _, ⟨_, rfl⟩, q⟩
theorem in_sub : InOp X .Sub rSub := by
  rintro pins s σ H x y u v Q I rx ry ⟨i, j, rfl, rfl, q⟩
  obtain ⟨t, rfl⟩ := (show ∃ t, u = Value.int i t from rx)
  obtain ⟨t', rfl⟩ := (show ∃ t', v = Value.int j t' from ry)
  exact PyProof.Rows.isub_int ⟨.int (i - j), H, I.tok _, ⟨_, rfl⟩, q⟩

/-- what is between an instance and its method: the tree of a method call -/
theorem methcall_of {pl : Sem Bool} {m : Str} {apos : Pos} {args : List Expr} {pins : List (Addr × Obj)} {s : Shared} {σ : St} {H : Hp} {Q : Value → Shared → Prop} {te : TE} (he : PE X e te) (I : Inv X pins σ H s)
    (h : te σ H fun x H1 => ∃ a C dx fs g, x = .ref a ∧ H1 a = some (.ins C dx fs) ∧ Cls X.K C ∧ Meth X.K C m g ∧ fs.lookup m = none ∧
      ∀ s1, Inv X pins σ H1 s1 → wpAny (model X.prog X.w) X.A (callWith pos (.ref g) [.ref a] (backTo pos (starEach args X.env)) (backToKw pos (keywordEach [] X.env))) Q X.xe s1)
    (ht : eval (.Call (.Attribute e m apos) args [] pos) X.env = (do
      let ov ← eval e X.env
      standAt apos.atName
      let (f, first) ← holding [ov] (getMethod ov m pl)
      callWith pos f first (backTo pos (starEach args X.env)) (backToKw pos (keywordEach [] X.env)))) :
    wpAny (model X.prog X.w) X.A (eval (.Call (.Attribute e m apos) args [] pos) X.env) Q X.xe s := by
  refine PySem.W.methodCall_KW (pl := pl) (thn (he pins s σ H _ I h) fun u s1 ⟨x, H1, I1, rx, a, C, dx, fs, g, ex, ea, c, k, l, q⟩ => ?_) ht
  subst ex
  obtain rfl : u = Value.ref a := rx
  exact getmeth_ok I1 ea c k l (q s1 I1)
end

/-! ### isinstance -/
section
variable {X : Cx} {pins : List (Addr × Obj)} {σ : St} {H : Hp} {s : Shared} {A : Around} {E : Value → Shared → Prop} {Q : Value → Shared → Prop} {c : Value} {b : Bool}
/-- the type of a value, as the fragment's deciders take it; for an instance its class -/
inductive TyOf (K : PySem.W.Frag) (H : Hp) : V → Value → Prop where
  | non : TyOf K H .non (.type "NoneType")
  | bl (x : Bool) : TyOf K H (.bl x) (.type "bool")
  | int (i : Int) : TyOf K H (.int i) (.type "int")
  | str (x : Str) : TyOf K H (.str x) (.type "str")
  | flt (x : UInt64) : TyOf K H (.flt x) (.type "float")
  | lst {a : Addr} {xs : List V} (e : H a = some (.lst xs)) : TyOf K H (.ref a) (.type "list")
  | frz {a : Addr} {o : Obj} {xs : List V} (e : H a = some (.frz o (.lst xs))) : TyOf K H (.ref a) (.type "list")
  | tup {a : Addr} {xs : List V} (e : H a = some (.tup xs)) : TyOf K H (.ref a) (.type "tuple")
  | dK {a : Addr} {kvs : List (Key × V)} (e : H a = some (.dK kvs)) : TyOf K H (.ref a) (.type "dict")
  | dT {a : Addr} {kvs : List (List Key × V)} (e : H a = some (.dT kvs)) : TyOf K H (.ref a) (.type "dict")
  | ins {a C dx : Addr} {fs : List (Str × V)} (e : H a = some (.ins C dx fs)) (cl : Cls K C) (ha : PySem.W.findIn K (.ref C) "__class__" = some (some (.builtin "object.__class__")))
      (hn : PySem.W.specialIn K (.builtin "object.__class__") "__get__" = some (some (.builtin "getset_descriptor.__get__"))) (htk : PySem.W.takesIn K (.builtin "object.__class__") = some true)
      (hm : PySem.W.mroIn K C (.type "object") = some true) : TyOf K H (.ref a) (.ref C)
/-- isinstance(x, c) for one class c, a built-in or an own one: kitOne's answer -/
theorem isinst_ok {x : V} {u t : Value} (I : Inv X pins σ H s) (rx : RelV x u) (ty : TyOf X.K H x t) (e : PySem.W.kitOne X.K t c = some b) (h : ∀ tk, Q (.bool b) { s with toks := tk }) :
    wpAny (model X.prog X.w) A (call (.builtin "isinstance") [u, c]) Q E s := by
  cases ty with
  | non => cases (show u = Value.none from rx); exact PySem.W.kia_one PySem.W.kitx_none I.kIn True.intro e (fun z => nomatch z) h
  | bl y => cases (show u = Value.bool y from rx); exact PySem.W.kia_one PySem.W.kitx_bool I.kIn True.intro e (fun z => nomatch z) h
  | int i => obtain ⟨t, q⟩ := (show ∃ t, u = Value.int i t from rx); cases q; exact PySem.W.kia_one PySem.W.kitx_int I.kIn True.intro e (fun z => nomatch z) h
  | str y => obtain ⟨t, q⟩ := (show ∃ t, u = Value.str y t from rx); cases q; exact PySem.W.kia_one PySem.W.kitx_str I.kIn True.intro e (fun z => nomatch z) h
  | flt y => obtain ⟨t, q⟩ := (show ∃ t, u = Value.float y t from rx); cases q; exact PySem.W.kia_one PySem.W.kitx_float I.kIn True.intro e (fun z => nomatch z) h
  | @lst a xs ea =>
    cases (show u = Value.ref a from rx)
    obtain ⟨_, _, n, _, h1⟩ := (show ObjOk X.prog X.w H s.heap a (.lst xs) from I.hok a _ ea)
    exact PySem.W.kia_one PySem.W.kitx_list I.kIn ⟨_, h1, rfl⟩ e (fun z => nomatch z) h
  | @frz a ob xs ea =>
    cases (show u = Value.ref a from rx)
    obtain ⟨_, _, _, n, _, h1⟩ := (show ObjOk X.prog X.w H s.heap a (.frz ob (.lst xs)) from I.hok a _ ea)
    exact PySem.W.kia_one PySem.W.kitx_list I.kIn ⟨_, h1, rfl⟩ e (fun z => nomatch z) h
  | @tup a xs ea =>
    cases (show u = Value.ref a from rx)
    obtain ⟨_, _, _, p⟩ := (show ObjOk X.prog X.w H s.heap a (.tup xs) from I.hok a _ ea)
    obtain ⟨o, h1, h2, _⟩ := p
    exact PySem.W.kia_one PySem.W.kitx_tuple I.kIn ⟨o, h1, h2⟩ e (fun z => nomatch z) h
  | @dK a kvs ea =>
    cases (show u = Value.ref a from rx)
    obtain ⟨_, _, vs, _, p⟩ := (show ObjOk X.prog X.w H s.heap a (.dK kvs) from I.hok a _ ea)
    obtain ⟨o, es, ep, h1, h2, _⟩ := p
    exact PySem.W.kia_one PySem.W.kitx_dict I.kIn ⟨o, h1, h2.1⟩ e (fun z => nomatch z) h
  | @dT a kvs ea =>
    cases (show u = Value.ref a from rx)
    obtain ⟨_, _, xs, _, o, es, ep, h1, h2, _⟩ := (show ObjOk X.prog X.w H s.heap a (.dT kvs) from I.hok a _ ea)
    exact PySem.W.kia_one PySem.W.kitx_dict I.kIn ⟨o, h1, h2.1⟩ e (fun z => nomatch z) h
  | @ins a C dx fs ea cl ha hn htk hm =>
    cases (show u = Value.ref a from rx)
    obtain ⟨mA, O, _⟩ := ins_get I.hok ea
    obtain ⟨od, J, _⟩ := O.look
    exact PySem.W.kia_one (PySem.W.kitx_own (cl.get _) cl.hd ha hn htk hm) I.kIn J e (fun z => nomatch z) h
end
end L2

namespace L2
open PySem PySem.Spec PyProof.Rows

/-! ### room -/
structure Room (k : Nat) (A : Around) : Prop where
  hd : A.handled = none
  dp : A.depth + 3 * k + 5 < recursionLimit
  un : A.units + 16 * k + 200 < cLine
theorem Room.mono {j k : Nat} {A : Around} (r : Room k A) (h : j ≤ k) : Room j A := ⟨r.hd, by have := r.dp; omega, by have := r.un; omega⟩
theorem Room.deeper {k : Nat} {A : Around} (r : Room (k + 1) A) (env : Env) : Room k (A.deeper env) :=
  ⟨r.hd, by have := r.dp; show A.depth + 1 + 3 * k + 5 < _; omega, by have := r.un; show A.units + 3 + 16 * k + 200 < _; omega⟩
theorem Room.in1 {k : Nat} {A : Around} (r : Room (k + 1) A) : Room k A.in1 :=
  ⟨r.hd, by have := r.dp; show A.depth + 3 * k + 5 < _; omega, by have := r.un; show A.units + 1 + 16 * k + 200 < _; omega⟩
theorem make_depth {A : Around} {C : Addr} {us : List Value} {kw : List (Str × Value)} : (A.under (.builtin "type.__call__" ⟨.ref C :: us, kw⟩)).depth = A.depth + 1 := by
  first | rfl | simp [Around.under, Code.weight, Code.isCreation, Code.isGuard, Code.isCaller, Code.frames, Code.isFrame, guardIds]
theorem make_units {A : Around} {C : Addr} {us : List Value} {kw : List (Str × Value)} : (A.under (.builtin "type.__call__" ⟨.ref C :: us, kw⟩)).units = A.units + 1 := by
  first | rfl | simp [Around.under, Code.cUnits, Code.frames, Code.isFrame]
theorem Room.make {k : Nat} {A : Around} (r : Room (k + 1) A) (C : Addr) (us : List Value) (kw : List (Str × Value)) : Room k (A.under (.builtin "type.__call__" ⟨.ref C :: us, kw⟩)) :=
  ⟨r.hd, by have := r.dp; rw [make_depth]; omega, by have := r.un; rw [make_units]; omega⟩
theorem Room.depth {k : Nat} {A : Around} (r : Room k A) : A.depth < recursionLimit := by have := r.dp; omega
theorem Room.units {k : Nat} {A : Around} (r : Room k A) : A.units + 64 < cLine := by have := r.un; omega
theorem Room.units0 {k : Nat} {A : Around} (r : Room k A) : A.units < cLine := by have := r.un; omega

/-! ### argument lists and displays -/
def tNil : TA := fun _ H Q => Q [] H
def tCons (ta : TE) (tr : TA) : TA := fun σ H Q => ta σ H fun x H1 => tr σ H1 fun xs H2 => Q (x :: xs) H2
section
variable {X : Cx} {e : Expr} {es : List Expr} {te : TE} {t : TA} {pos : Pos}
theorem pa_nil : PA X [] tNil := fun _ _ _ _ H Q I h => Calls.spliced_nil ⟨[], H, I, .nil, h⟩
theorem pa_cons (ha : PE X e te) (hr : PA X es t) (hs : starEach (e :: es) X.env = (false, eval e X.env) :: starEach es X.env := by rfl) : PA X (e :: es) (tCons te t) := by
  intro pos pins s σ H Q I h
  rw [hs]
  show wpAny _ _ (spliced ((false, eval e X.env) :: backTo pos (starEach es X.env))) _ _ s
  refine Calls.spliced_cons (thn (ha pins s σ H _ I h) fun u s1 ⟨x, H1, I1, r1, q1⟩ => ?_)
  exact thn (hr pos pins s1 σ H1 _ I1 q1) fun us s2 ⟨xs, H2, I2, r2, q2⟩ => ⟨x :: xs, H2, I2, .cons r1 r2, q2⟩

/-- a tuple, a list of written items -/
def tTup (t : TA) : TE := fun σ H Q => t σ H fun xs H1 => xs.length ≤ sizeLine ∧ ∀ p, H1 p = none → Q (.ref p) (upd H1 p (.tup xs))
def tLst (t : TA) : TE := fun σ H Q => t σ H fun xs H1 => xs.length ≤ sizeLine ∧ ∀ p, H1 p = none → Q (.ref p) (upd H1 p (.lst xs))
theorem pe_tup {x1} (h : PA X es t) : PE X (.Tuple es x1 pos) (tTup t) := by
  intro pins s σ H Q I hq
  refine wpAny_Tuple_spliced (thn (h pos pins s σ H _ I hq) fun us s1 ⟨xs, H1, I1, r, z, q⟩ => ⟨by rw [← r.length]; exact z, ?_⟩)
  have hf : H1 s1.heap.objs.size = none := I1.hok.fresh (Nat.le_refl _)
  refine ⟨.ref s1.heap.objs.size, upd H1 s1.heap.objs.size (.tup xs), I1.laid (t' := s1.toks) (fun b u e => Heap.get?_push_of_some _ e) (Nat.le_refl _) ?_, rfl, q _ hf⟩
  exact ⟨z, us, r, ⟨_, Heap.get?_push_size _ rfl, rfl, _, rfl⟩⟩
theorem pe_lst (h : PA X es t) : PE X (.List es pos) (tLst t) := by
  intro pins s σ H Q I hq
  refine wpAny_List_spliced (thn (h pos pins s σ H _ I hq) fun us s1 ⟨xs, H1, I1, r, z, q⟩ => ⟨by rw [← r.length]; exact z, ?_⟩)
  have hf : H1 s1.heap.objs.size = none := I1.hok.fresh (Nat.le_refl _)
  refine ⟨.ref s1.heap.objs.size, upd H1 s1.heap.objs.size (.lst xs), I1.laid (t' := s1.toks) (fun b u e => Heap.get?_push_of_some _ e) (Nat.le_refl _) ?_, rfl, q _ hf⟩
  exact ⟨z, us, 0, r, Heap.get?_push_size _ rfl⟩
end

/-! ### what a def promises -/
/-- a def's promise: the bound arguments in the parameters' order, the heap, the wanted end, the wanted exception -/
abbrev Sp := List V → Hp → VK → XK → Prop
/-- how an exception lies behind a call (file 08 gives it): the callers' frames, abstract heap and state ahead of the call, the wish, the exception, the state -/
abbrev CXT := List Env → Hp → Shared → XK → Value → Shared → Prop

/-- the state at a call -/
structure Env0 (P : Program) (w : World) (K : PySem.W.Frag) (mg : Str → Option Value) (base : Heap) (A : Around) (outer : List Env) (s : Shared) (H : Hp) : Prop where
  frames : A.frames = some outer
  mod : Mod K mg base
  bs : ∀ b o, base.get? b = some o → s.heap.get? b = some o ∧ H b = none
  bsz : base.objs.size ≤ s.heap.objs.size
  funs : s.heap.FunFrames base outer
  frf : ∀ b ∈ frs outer, H b = none
  hok : HOk P w H s.heap
  bare : AllBare s.gens
/-- a call's end -/
def CE (outer : List Env) (P : Program) (w : World) (H : Hp) (s : Shared) (Q : VK) (u : Value) (s' : Shared) : Prop :=
  ∃ v H', s'.os = s.os ∧ AllBare s'.gens ∧ Un (frs outer) [] H H' s.heap s'.heap ∧ HOk P w H' s'.heap ∧ RelV v u ∧ Q v H'
def CR (CX : CXT) (outer : List Env) (P : Program) (w : World) (H : Hp) (s : Shared) (Q : VK) (E : XK) (r : Result) (s' : Shared) : Prop :=
  match r with
  | .ok (.ret u) => CE outer P w H s Q u s'
  | .ok _ => False
  | .error e => CX outer H s E e s'
structure FnOk (P : Program) (w : World) (K : PySem.W.Frag) (mg : Str → Option Value) (base : Heap) (CX : CXT) (k : Nat) (f : Addr) (fd : FuncData) (ps : List Str) (sp : Sp) : Prop where
  len : ∀ vs H Q E, sp vs H Q E → vs.length = ps.length
  run : ∀ (A : Around) (outer : List Env) (s : Shared) (H : Hp) (args : Args) (us : List Value) (vs : List V) (Q : VK) (E : XK), Room k A → Env0 P w K mg base A outer s H → BindsTo s fd args (ps.zip us) → Vals vs us → sp vs H Q E →
    codeAny (model P w) A (.call (.ref f) args) (CR CX outer P w H s Q E) s
theorem FnOk.mono {P : Program} {w : World} {K : PySem.W.Frag} {mg : Str → Option Value} {base : Heap} {CX : CXT} {j k : Nat} {f : Addr} {fd : FuncData} {ps : List Str} {sp : Sp} (F : FnOk P w K mg base CX j f fd ps sp) (h : j ≤ k) :
    FnOk P w K mg base CX k f fd ps sp := ⟨F.len, fun A outer s H args us vs Q E hr => F.run A outer s H args us vs Q E (hr.mono h)⟩
/-- a weaker promise -/
theorem FnOk.imp {P : Program} {w : World} {K : PySem.W.Frag} {mg : Str → Option Value} {base : Heap} {CX : CXT} {k : Nat} {f : Addr} {fd : FuncData} {ps : List Str} {sp sp' : Sp} (F : FnOk P w K mg base CX k f fd ps sp)
    (h : ∀ vs H Q E, sp' vs H Q E → sp vs H Q E) : FnOk P w K mg base CX k f fd ps sp' :=
  ⟨fun vs H Q E q => F.len vs H Q E (h _ _ _ _ q), fun A outer s H args us vs Q E hr he hb hv hs => F.run A outer s H args us vs Q E hr he hb hv (h _ _ _ _ hs)⟩

theorem Env0.make {P : Program} {w : World} {K : PySem.W.Frag} {mg : Str → Option Value} {base : Heap} {A : Around} {outer : List Env} {s : Shared} {H : Hp} (e : Env0 P w K mg base A outer s H) (C : Addr) (us : List Value) (kw : List (Str × Value)) :
    Env0 P w K mg base (A.under (.builtin "type.__call__" ⟨.ref C :: us, kw⟩)) outer s H := ⟨by first | exact e.frames | (simpa [Around.under, Code.envs, Code.isFrame, pushEnvs] using e.frames), e.mod, e.bs, e.bsz, e.funs, e.frf, e.hok, e.bare⟩
theorem Env0.in1 {P : Program} {w : World} {K : PySem.W.Frag} {mg : Str → Option Value} {base : Heap} {A : Around} {outer : List Env} {s : Shared} {H : Hp} (e : Env0 P w K mg base A outer s H) :
    Env0 P w K mg base A.in1 outer s H := ⟨e.frames, e.mod, e.bs, e.bsz, e.funs, e.frf, e.hok, e.bare⟩

section
variable {X : Cx} {pins : List (Addr × Obj)} {σ : St} {H : Hp} {s s' : Shared}
/-- from a body: what a callee wants -/
theorem Inv.env0 (I : Inv X pins σ H s) : Env0 X.prog X.w X.K X.mg X.base X.A X.stack s H :=
  ⟨I.ok.frames, I.ok.mod, I.bs, Nat.le_trans I.ok.bsz I.sz, I.stack, I.stkFree, I.hok, I.bare⟩
/-- behind a call -/
theorem Inv.after {Q : VK} {u : Value} (I : Inv X pins σ H s) (h : CE X.stack X.prog X.w H s Q u s') : EP X pins σ Q u s' := by
  obtain ⟨v, H', os, bare, un, hok, r, q⟩ := h
  obtain ⟨hh, g, d, t, os'⟩ := s'
  obtain rfl : os' = s.os := os
  exact ⟨v, H', I.call (h' := hh) (g' := g) (d' := d) (t' := t) (ch := []) un hok bare (fun b z => absurd z (by simp)), r, q⟩
end

/-! ### calls -/
/-- f(..): the written arguments, then the defaults dvs; E: what is wanted of an exception -/
def tCall (sp : Sp) (dvs : List V) (E : XK) (t : TA) : TE := fun σ H Q => t σ H fun vs H1 => sp (vs ++ dvs) H1 Q E
/-- o.m(..) of an instance of the class at C -/
def tMeth (C : Addr) (m : Str) (sp : Sp) (dvs : List V) (E : XK) (ta : TE) (t : TA) : TE := fun σ H Q => ta σ H fun x H1 => ∃ a dx fs, x = .ref a ∧ H1 a = some (.ins C dx fs) ∧ fs.lookup m = none ∧
  t σ H1 fun vs H2 => sp (x :: (vs ++ dvs)) H2 Q E
/-- C(..): a new instance and its dict, then __init__ -/
def tMake (C : Addr) (sp : Sp) (dvs : List V) (E : XK) (t : TA) : TE := fun σ H Q => t σ H fun vs H1 => ∀ x dx, H1 x = none → H1 dx = none → dx ≠ x →
  sp (.ref x :: (vs ++ dvs)) (upd (upd H1 dx (.own x)) x (.ins C dx [])) (fun v H2 => v = .non ∧ Q (.ref x) H2) E

/-- how the parameters are bound: us the positional arguments, kw the keywords' values by name, ds the defaults that fill up -/
def Binds (K : PySem.W.Frag) (fd : FuncData) (ps : List Str) (ds : List Value) : Prop :=
  ∀ (s : Shared) (us : List Value), K.In s.heap → (us ++ ds).length = ps.length → BindsTo s fd ⟨us, []⟩ (ps.zip (us ++ ds))
/-- every parameter is given -/
theorem Binds.all {K : PySem.W.Frag} {fd : FuncData} {ps : List Str} (h : ∀ us : List Value, us.length = ps.length → bindArgs fd ⟨us, []⟩ = pure (ps.zip us)) : Binds K fd ps [] := fun s us _ hl => by
  rw [List.append_nil] at hl ⊢
  exact .of_eq (h us hl)

/-- an exception of a callee reaches what this body wants of exceptions -/
def Passes (CX : CXT) (X : Cx) (E : XK) : Prop := ∀ (pins : List (Addr × Obj)) (σ : St) (H : Hp) (s : Shared) (e : Value) (s' : Shared), Inv X pins σ H s → CX X.stack H s E e s' → X.xe e s'

section
variable {X : Cx} {CX : CXT} {k : Nat} {f C : Addr} {fd : FuncData} {ps : List Str} {sp : Sp} {dvs : List V} {ds : List Value} {E : XK} {x m : Str} {p pos apos : Pos} {e o : Expr} {es : List Expr} {ta : TE} {t : TA}

/-- the callee runs -/
theorem run_fn {pins : List (Addr × Obj)} {σ : St} {H : Hp} {s : Shared} {Q : VK} {us : List Value} {vs : List V} (F : FnOk X.prog X.w X.K X.mg X.base CX k f fd ps sp) (hr : Room k X.A) (hb : Binds X.K fd ps ds) (hd : Vals dvs ds) (hx : Passes CX X E)
    (I : Inv X pins σ H s) (r : Vals vs us) (h : sp (vs ++ dvs) H Q E) : wpAny (model X.prog X.w) X.A (call (.ref f) us) (EP X pins σ Q) X.xe s := by
  have r2 : Vals (vs ++ dvs) (us ++ ds) := r.append hd
  have hl : (us ++ ds).length = ps.length := by rw [← r2.length]; exact F.len _ _ _ _ h
  refine wpAny_call (codeAny_mono (F.run X.A X.stack s H ⟨us, []⟩ (us ++ ds) (vs ++ dvs) Q E hr I.env0 (hb s us I.kIn hl) r2 h) fun r s' hq => ?_)
  cases r with
  | error e => exact hx pins σ H s e s' I hq
  | ok fl =>
    cases fl with
    | ret u => exact I.after hq
    | next => exact False.elim hq
    | brk => exact False.elim hq
    | cont => exact False.elim hq

theorem pe_call (F : FnOk X.prog X.w X.K X.mg X.base CX k f fd ps sp) (hr : Room k X.A) (hg : Gl X x) (hm : X.mg x = some (.ref f)) (hk : PySem.W.keepIn X.K (.ref f) = true) (hb : Binds X.K fd ps ds) (hd : Vals dvs ds) (hx : Passes CX X E)
    (ha : PA X (e :: es) t) (hdb : (x == ("__debug__" : Str)) = false := by decide) (he : starEach (e :: es) X.env = (false, eval e X.env) :: starEach es X.env := by rfl) (hpl : (backTo pos (starEach es X.env)).any (·.1) = false := by rfl) :
    PE X (.Call (.Name x p) (e :: es) [] pos) (tCall sp dvs E t) := by
  intro pins s σ H Q I h
  refine wpAny_Call_Name_kw (ld_glob I hg hm ?_ hdb)
  refine PySem.W.callWith_K (h₀ := X.base) I.ok.mod.kin hk (thn (ha pos pins s σ H _ I h) fun us s1 ⟨vs, H1, I1, r, q⟩ => ⟨I1.kIn, ?_⟩) he hpl
  exact run_fn F hr hb hd hx I1 r q
theorem pe_call0 (F : FnOk X.prog X.w X.K X.mg X.base CX k f fd ps sp) (hr : Room k X.A) (hg : Gl X x) (hm : X.mg x = some (.ref f)) (hk : PySem.W.keepIn X.K (.ref f) = true) (hb : Binds X.K fd ps ds) (hd : Vals dvs ds) (hx : Passes CX X E)
    (hdb : (x == ("__debug__" : Str)) = false := by decide) : PE X (.Call (.Name x p) [] [] pos) (tCall sp dvs E tNil) := by
  intro pins s σ H Q I h
  refine wpAny_Call_Name_kw (ld_glob I hg hm ?_ hdb)
  exact PySem.W.callWith_K0 I.kIn hk (run_fn (us := []) F hr hb hd hx I .nil h)

/-- o.m(e, ..) -/
theorem pe_meth {pl : Sem Bool} (he : PE X o ta) (c : Cls X.K C) (hm : Meth X.K C m f) (F : FnOk X.prog X.w X.K X.mg X.base CX k f fd ps sp) (hr : Room k X.A) (hb : Binds X.K fd ps ds) (hd : Vals dvs ds) (hx : Passes CX X E) (ha : PA X (e :: es) t)
    (hst : starEach (e :: es) X.env = (false, eval e X.env) :: starEach es X.env := by rfl) (hpl : (backTo pos (starEach es X.env)).any (·.1) = false := by rfl)
    (ht : eval (.Call (.Attribute o m apos) (e :: es) [] pos) X.env = (do
      let ov ← eval o X.env
      standAt apos.atName
      let (f, first) ← holding [ov] (getMethod ov m pl)
      callWith pos f first (backTo pos (starEach (e :: es) X.env)) (backToKw pos (keywordEach [] X.env))) := by rfl) :
    PE X (.Call (.Attribute o m apos) (e :: es) [] pos) (tMeth C m sp dvs E ta t) := by
  intro pins s σ H Q I h
  refine PySem.W.methodCall_KW (pl := pl) (thn (he pins s σ H _ I h) fun u s1 ⟨x, H1, I1, rx, a, dx, fs, ex, ea, l, q⟩ => ?_) ht
  subst ex
  obtain rfl : u = Value.ref a := rx
  refine getmeth_ok I1 ea c hm l ?_
  refine PySem.W.callWith_K (first := [.ref a]) (h₀ := X.base) I.ok.mod.kin hm.kp (thn (ha pos pins s1 σ H1 _ I1 q) fun us s2 ⟨vs, H2, I2, r, q2⟩ => ⟨I2.kIn, ?_⟩) hst hpl
  exact run_fn (us := .ref a :: us) (vs := .ref a :: vs) F hr hb hd hx I2 (.cons rfl r) q2
/-- o.m() -/
theorem pe_meth0 {pl : Sem Bool} (he : PE X o ta) (c : Cls X.K C) (hm : Meth X.K C m f) (F : FnOk X.prog X.w X.K X.mg X.base CX k f fd ps sp) (hr : Room k X.A) (hb : Binds X.K fd ps ds) (hd : Vals dvs ds) (hx : Passes CX X E)
    (ht : eval (.Call (.Attribute o m apos) [] [] pos) X.env = (do
      let ov ← eval o X.env
      standAt apos.atName
      let (f, first) ← holding [ov] (getMethod ov m pl)
      callWith pos f first (backTo pos (starEach [] X.env)) (backToKw pos (keywordEach [] X.env))) := by rfl) :
    PE X (.Call (.Attribute o m apos) [] [] pos) (tMeth C m sp dvs E ta tNil) := by
  intro pins s σ H Q I h
  refine PySem.W.methodCall_KW (pl := pl) (thn (he pins s σ H _ I h) fun u s1 ⟨x, H1, I1, rx, a, dx, fs, ex, ea, l, q⟩ => ?_) ht
  subst ex
  obtain rfl : u = Value.ref a := rx
  refine getmeth_ok I1 ea c hm l ?_
  exact PySem.W.callWith_K0 (first := [.ref a]) I1.kIn hm.kp (run_fn (us := [.ref a]) (vs := [.ref a]) F hr hb hd hx I1 (.cons rfl .nil) q)

/-- what a class must have to be made -/
structure Mk (K : PySem.W.Frag) (C f : Addr) : Prop where
  makes : PySem.W.makesIn K C = true
  init : PySem.W.findIn K (.ref C) "__init__" = some (some (.ref f))
  fn : PySem.W.isFn K (.ref f) = true
  kp : PySem.W.keepIn K (.ref C) = true

theorem run_make {pins : List (Addr × Obj)} {σ : St} {H : Hp} {s : Shared} {Q : VK} {us : List Value} {vs : List V} (M : Mk X.K C f) (F : FnOk X.prog X.w X.K X.mg X.base CX k f fd ps sp) (hr : Room (k + 1) X.A) (hb : Binds X.K fd ps ds) (hd : Vals dvs ds)
    (hx : Passes CX X E) (I : Inv X pins σ H s) (r : Vals vs us)
    (h : ∀ x dx, H x = none → H dx = none → dx ≠ x → sp (.ref x :: (vs ++ dvs)) (upd (upd H dx (.own x)) x (.ins C dx [])) (fun v H2 => v = .non ∧ Q (.ref x) H2) E) :
    wpAny (model X.prog X.w) X.A (call (.ref C) us) (EP X pins σ Q) X.xe s := by
  have hq := h (s.heap.objs.size + 1) s.heap.objs.size (I.hok.fresh (Nat.le_succ _)) (I.hok.fresh (Nat.le_refl _)) (Nat.ne_of_lt (Nat.lt_succ_self _))
  have I2 := Inv.made (C := C) I
  have r2 : Vals (V.ref (s.heap.objs.size + 1) :: (vs ++ dvs)) (Value.ref (s.heap.objs.size + 1) :: (us ++ ds)) := .cons rfl (r.append hd)
  have hl : (Value.ref (s.heap.objs.size + 1) :: us ++ ds).length = ps.length := by
    have e := r2.length
    rw [F.len _ _ _ _ hq] at e
    exact e.symm
  refine wpAny_call (make_map (f := f) I.kIn M.makes M.init (beq_iff_eq.mp M.fn) (codeAny_mono (F.run _ X.stack _ _ ⟨Value.ref (s.heap.objs.size + 1) :: us, []⟩ (Value.ref (s.heap.objs.size + 1) :: (us ++ ds)) _ _ E (hr.make C us [])
    (I2.env0.make C us []) (hb _ (Value.ref (s.heap.objs.size + 1) :: us) I2.kIn hl) r2 hq) fun r s' hq' => ?_))
  cases r with
  | error e => exact hx pins σ _ _ e s' I2 hq'
  | ok fl =>
    cases fl with
    | ret u =>
      obtain ⟨v, H', I3, rv, ev, q3⟩ := I2.after hq'
      subst ev
      exact ⟨rv, ⟨V.ref (s.heap.objs.size + 1), H', I3, rfl, q3⟩⟩
    | next => exact False.elim hq'
    | brk => exact False.elim hq'
    | cont => exact False.elim hq'
theorem pe_make (M : Mk X.K C f) (F : FnOk X.prog X.w X.K X.mg X.base CX k f fd ps sp) (hr : Room (k + 1) X.A) (hg : Gl X x) (hm : X.mg x = some (.ref C)) (hb : Binds X.K fd ps ds) (hd : Vals dvs ds) (hx : Passes CX X E)
    (ha : PA X (e :: es) t) (hdb : (x == ("__debug__" : Str)) = false := by decide) (he : starEach (e :: es) X.env = (false, eval e X.env) :: starEach es X.env := by rfl) (hpl : (backTo pos (starEach es X.env)).any (·.1) = false := by rfl) :
    PE X (.Call (.Name x p) (e :: es) [] pos) (tMake C sp dvs E t) := by
  intro pins s σ H Q I h
  refine wpAny_Call_Name_kw (ld_glob I hg hm ?_ hdb)
  refine PySem.W.callWith_K (h₀ := X.base) I.ok.mod.kin M.kp (thn (ha pos pins s σ H _ I h) fun us s1 ⟨vs, H1, I1, r, q⟩ => ⟨I1.kIn, ?_⟩) he hpl
  exact run_make M F hr hb hd hx I1 r q
theorem pe_make0 (M : Mk X.K C f) (F : FnOk X.prog X.w X.K X.mg X.base CX k f fd ps sp) (hr : Room (k + 1) X.A) (hg : Gl X x) (hm : X.mg x = some (.ref C)) (hb : Binds X.K fd ps ds) (hd : Vals dvs ds) (hx : Passes CX X E)
    (hdb : (x == ("__debug__" : Str)) = false := by decide) : PE X (.Call (.Name x p) [] [] pos) (tMake C sp dvs E tNil) := by
  intro pins s σ H Q I h
  refine wpAny_Call_Name_kw (ld_glob I hg hm ?_ hdb)
  exact PySem.W.callWith_K0 I.kIn M.kp (run_make (us := []) M F hr hb hd hx I .nil h)
end

/-! ### keywords -/
/-- the values of the keywords, from the left -/
def PK (X : Cx) (kws : List Keyword) (t : TA) : Prop :=
  ∀ (pos : Pos) (pins : List (Addr × Obj)) (s : Shared) (σ : St) (H : Hp) (Q : List V → Hp → Prop), Inv X pins σ H s → t σ H Q → wpAny (model X.prog X.w) X.A (evalAll ((backToKw pos (keywordEach kws X.env)).map (·.2))) (AP X pins σ Q) X.xe s
section
variable {X : Cx} {CX : CXT} {k : Nat} {f C : Addr} {fd : FuncData} {ps ks : List Str} {sp : Sp} {E : XK} {x m : Str} {p pos apos kpos : Pos} {e o : Expr} {es : List Expr} {kws : List Keyword} {te ta : TE} {t tk : TA} {nm : Option Str}
theorem pk_nil : PK X [] tNil := fun _ _ _ _ H Q I h => wpAny_evalAll_nil ⟨[], H, I, .nil, h⟩
theorem pk_cons (ha : PE X e te) (hr : PK X kws t) : PK X (⟨nm, e, kpos⟩ :: kws) (tCons te t) := by
  intro pos pins s σ H Q I h
  show wpAny _ _ (evalAll ((do let v ← eval e X.env; standAt pos; pure v) :: (backToKw pos (keywordEach kws X.env)).map (·.2))) _ _ s
  refine wpAny_evalAll_cons (wpAny_bind (thn (ha pins s σ H _ I h) fun u s1 ⟨x, H1, I1, r1, q1⟩ => wpAny_bind (wpAny_standAt (wpAny_pure ?_))))
  exact thn (hr pos pins s1 σ H1 _ I1 q1) fun us s2 ⟨xs, H2, I2, r2, q2⟩ => ⟨x :: xs, H2, I2, .cons r1 r2, q2⟩

/-- how a call with keywords binds: g puts the positional values us and the keywords' values ws (names ks) in the parameters' order, defaults among them -/
structure KBinds (K : PySem.W.Frag) (fd : FuncData) (ps ks : List Str) (g : List Value → List Value → List Value) (gV : List V → List V → List V) : Prop where
  to : ∀ (s : Shared) (us ws : List Value), K.In s.heap → (g us ws).length = ps.length → BindsTo s fd ⟨us, ks.zip ws⟩ (ps.zip (g us ws))
  rel : ∀ {vs : List V} {us : List Value} {zs : List V} {ws : List Value}, Vals vs us → Vals zs ws → Vals (gV vs zs) (g us ws)
def tCallK (sp : Sp) (gV : List V → List V → List V) (E : XK) (t tk : TA) : TE := fun σ H Q => t σ H fun vs H1 => tk σ H1 fun zs H2 => sp (gV vs zs) H2 Q E
variable {g : List Value → List Value → List Value} {gV : List V → List V → List V}
theorem run_fnk {pins : List (Addr × Obj)} {σ : St} {H : Hp} {s : Shared} {Q : VK} {us ws : List Value} {vs zs : List V} (F : FnOk X.prog X.w X.K X.mg X.base CX k f fd ps sp) (hr : Room k X.A) (hb : KBinds X.K fd ps ks g gV) (hx : Passes CX X E)
    (I : Inv X pins σ H s) (r : Vals vs us) (rz : Vals zs ws) (h : sp (gV vs zs) H Q E) : wpAny (model X.prog X.w) X.A (call (.ref f) us (ks.zip ws)) (EP X pins σ Q) X.xe s := by
  have r2 := hb.rel r rz
  have hl : (g us ws).length = ps.length := by rw [← r2.length]; exact F.len _ _ _ _ h
  refine wpAny_call (codeAny_mono (F.run X.A X.stack s H ⟨us, ks.zip ws⟩ (g us ws) (gV vs zs) Q E hr I.env0 (hb.to s us ws I.kIn hl) r2 h) fun r s' hq => ?_)
  cases r with
  | error e => exact hx pins σ H s e s' I hq
  | ok fl =>
    cases fl with
    | ret u => exact I.after hq
    | next => exact False.elim hq
    | brk => exact False.elim hq
    | cont => exact False.elim hq
/-- f(e, .., k = v, ..) -/
theorem pe_callK (F : FnOk X.prog X.w X.K X.mg X.base CX k f fd ps sp) (hr : Room k X.A) (hg : Gl X x) (hm : X.mg x = some (.ref f)) (hk : PySem.W.keepIn X.K (.ref f) = true) (hb : KBinds X.K fd ps ks g gV) (hx : Passes CX X E)
    (ha : PA X (e :: es) t) (hkw : PK X kws tk) (hall : (backToKw pos (keywordEach kws X.env)).all (·.1.isSome) = true := by rfl) (hks : (backToKw pos (keywordEach kws X.env)).filterMap (·.1) = ks := by rfl)
    (hdb : (x == ("__debug__" : Str)) = false := by decide) (he : starEach (e :: es) X.env = (false, eval e X.env) :: starEach es X.env := by rfl)
    (hpl : ((backTo pos (starEach (e :: es) X.env)).any (·.1) || (backToKw pos (keywordEach kws X.env)).any (·.1.isNone)) = false := by rfl) :
    PE X (.Call (.Name x p) (e :: es) kws pos) (tCallK sp gV E t tk) := by
  intro pins s σ H Q I h
  refine wpAny_Call_Name_kw (ld_glob I hg hm ?_ hdb)
  refine PySem.W.callWith_KW (h₀ := X.base) I.ok.mod.kin hk hall (thn (ha pos pins s σ H _ I h) fun us s1 ⟨vs, H1, I1, r, q⟩ => ?_) hpl he
  refine thn (hkw pos pins s1 σ H1 _ I1 q) fun ws s2 ⟨zs, H2, I2, rz, q2⟩ => ⟨I2.kIn, ?_⟩
  rw [hks]
  exact run_fnk F hr hb hx I2 r rz q2
end

/-! ### a def's body keeps its promise -/
/-- names: the parameters first -/
structure FnScope (N P : List Str) (sc : Scope) : Prop where
  kind : sc.kind = .function
  co : sc.isCoroutine = false
  gen : sc.isGenerator = false
  nd : N.Nodup
  pre : N.take P.length = P
  par : ∀ x ∈ P, sc.names.lookup x = some .local ∨ sc.names.lookup x = some .cell
  nofree : ∀ y ∈ sc.names, y.2 ≠ .free

theorem bindL_out {kindOf : Str → Option NameKind} {x : Str} : ∀ {binds : List (Str × Value)} {m : Str → Option Value}, (∀ v, (x, v) ∉ binds) → bindL kindOf binds m x = m x
  | [], _, _ => rfl
  | (n, v) :: r, m, h => by
    unfold bindL
    rw [bindL_out fun w hw => h w (List.mem_cons_of_mem _ hw)]
    split
    · have : x ≠ n := by rintro rfl; exact h v List.mem_cons_self
      simp [this]
    · rfl
theorem bindC_out {kindOf : Str → Option NameKind} {x : Str} : ∀ {binds : List (Str × Value)} {m : Str → Option Value}, (∀ v, (x, v) ∉ binds) → bindC kindOf binds m x = m x
  | [], _, _ => rfl
  | (n, v) :: r, m, h => by
    unfold bindC
    rw [bindC_out fun w hw => h w (List.mem_cons_of_mem _ hw)]
    split
    · rfl
    · have : x ≠ n := by rintro rfl; exact h v List.mem_cons_self
      simp [this]
theorem bindL_get {kindOf : Str → Option NameKind} {x : Str} {v : Value} : ∀ {P : List Str} {vs : List Value} {i : Nat} {m : Str → Option Value}, P.Nodup → P[i]? = some x → vs[i]? = some v → kindOf x = some .local →
    bindL kindOf (P.zip vs) m x = some v
  | [], _, _, _, _, h, _, _ => by simp at h
  | _ :: _, [], _, _, _, _, h, _ => by simp at h
  | p :: P, w :: vs, 0, m, nd, h1, h2, hk => by
    simp at h1 h2; subst h1; subst h2
    show bindL kindOf ((p, w) :: P.zip vs) m p = _
    unfold bindL
    rw [bindL_out fun v hv => (List.nodup_cons.mp nd).1 (List.of_mem_zip hv).1, if_pos hk]
    simp
  | p :: P, w :: vs, i + 1, m, nd, h1, h2, hk => by
    show bindL kindOf ((p, w) :: P.zip vs) m x = _
    unfold bindL
    exact bindL_get (i := i) (List.nodup_cons.mp nd).2 (by simpa using h1) (by simpa using h2) hk
theorem bindC_get {kindOf : Str → Option NameKind} {x : Str} {v : Value} : ∀ {P : List Str} {vs : List Value} {i : Nat} {m : Str → Option Value}, P.Nodup → P[i]? = some x → vs[i]? = some v → kindOf x ≠ some .local →
    bindC kindOf (P.zip vs) m x = some v
  | [], _, _, _, _, h, _, _ => by simp at h
  | _ :: _, [], _, _, _, _, h, _ => by simp at h
  | p :: P, w :: vs, 0, m, nd, h1, h2, hk => by
    simp at h1 h2; subst h1; subst h2
    show bindC kindOf ((p, w) :: P.zip vs) m p = _
    unfold bindC
    rw [bindC_out fun v hv => (List.nodup_cons.mp nd).1 (List.of_mem_zip hv).1, if_neg hk]
    simp
  | p :: P, w :: vs, i + 1, m, nd, h1, h2, hk => by
    show bindC kindOf ((p, w) :: P.zip vs) m x = _
    unfold bindC
    exact bindC_get (i := i) (List.nodup_cons.mp nd).2 (by simpa using h1) (by simpa using h2) hk

/-- the names' values at the entry -/
def start (N : List Str) (vs : List V) : St := vs.map some ++ List.replicate (N.length - vs.length) none

/-- the context of a def's body, at its entry; an exception leaves the frame, then lies as CX says -/
def cxOf (CX : CXT) (P : Program) (w : World) (K : PySem.W.Frag) (mg : Str → Option Value) (base : Heap) (N : List Str) (qual : Str) (scope : Scope) (f : Addr) (cd : Value) (A : Around) (outer : List Env) (s : Shared) (H : Hp) (E : XK) : Cx where
  prog := P
  w := w
  K := K
  mg := mg
  base := base
  A := A.deeper (envOfC qual scope s.heap.objs.size f cd)
  N := N
  s₀ := s
  H₀ := H
  env := envOfC qual scope s.heap.objs.size f cd
  outer := outer
  stack := envOfC qual scope s.heap.objs.size f cd :: outer
  ex := []
  calm := true
  fn := fun _ => true
  pn := []
  xe := fun e s' => wpAny (model P w) (A.deeper (envOfC qual scope s.heap.objs.size f cd)) (leaving (envOfC qual scope s.heap.objs.size f cd) e) (fun _ s'' => CX outer H s E e s'') (fun e' s'' => CX outer H s E e' s'') s'

theorem cell_has {sc : Scope} {n : Nat} {x : Str} (h : sc.names.lookup x = some .cell) : ∃ c, (cellsFrom n sc.names []).lookup x = some c := by
  have q := PySem.W.cellsFrom_some sc.names n [] (.inl h)
  exact Option.isSome_iff_exists.mp q

theorem inv_start {CX : CXT} {P : Program} {w : World} {K : PySem.W.Frag} {mg : Str → Option Value} {base : Heap} {N ps : List Str} {qual : Str} {scope : Scope} {f : Addr} {cd : Value} {A : Around} {outer : List Env} {s s1 : Shared} {H : Hp} {E : XK} {us : List Value} {vs : List V}
    (S : FnScope N ps scope) (hd : A.handled = none) (e0 : Env0 P w K mg base A outer s H) (hl : vs.length = ps.length) (r : Vals vs us)
    (x : InCallC s s.heap.objs.size (bindL (envOfC qual scope s.heap.objs.size f cd).kindOf (ps.zip us) fun _ => none) (cellsFrom (s.heap.objs.size + 1) scope.names []) (bindC (envOfC qual scope s.heap.objs.size f cd).kindOf (ps.zip us) fun _ => none) s1) :
    Inv (cxOf CX P w K mg base N qual scope f cd A outer s H E) [] (start N vs) H s1 := by
  have hpl : ps.length ≤ N.length := by have := congrArg List.length S.pre; rw [List.length_take] at this; omega
  obtain ⟨h1, tk, rfl, hk⟩ := x.done
  have noA : ∀ b : Addr, b ∉ (cxOf CX P w K mg base N qual scope f cd A outer s H E).ex := fun b z => absurd (show b ∈ ([] : List Addr) from z) (by simp)
  refine ⟨⟨e0.mod, S.kind, rfl, rfl, Nat.le_refl _, fun y z c h1 h2 => ?_, fun y hy => ?_, fun y c _ h => ?_, fun _ => hd, Around.frames_deeper e0.frames, .inr ⟨rfl, rfl⟩, fun b z => absurd z (noA b), e0.bs, e0.bsz, fun b _ _ => noA b, fun b z => absurd z (noA b), e0.funs, e0.frf⟩,
    rfl, e0.bare, Un.kept hk, ⟨_, x.toInCall.ns, fun i y v h1 h2 h3 => ?_⟩, fun y c h => ⟨_, x.cell y c h⟩, e0.hok.fresh (Nat.le_refl _), fun y c h => ?_, fun p hp => absurd (show p ∈ ([] : List (Addr × Obj)) from hp) (by simp), e0.hok.kept hk, ?_⟩
  · exact name_of_addr x.apart (PySem.mem_of_lookup h1) (PySem.mem_of_lookup h2)
  · have hy : scope.names.lookup y = some .cell ∨ scope.names.lookup y = some .free := hy
    rcases hy with hy | hy
    · exact cell_has hy
    · exact absurd rfl (S.nofree _ (PySem.mem_of_lookup hy))
  · exact Nat.le_of_lt (x.above y c (PySem.mem_of_lookup h))
  · have hi : i < vs.length := by
      unfold start at h2
      by_cases hi : i < vs.length
      · exact hi
      · rw [List.getElem?_append_right (by simpa using hi)] at h2
        rw [List.getElem?_replicate] at h2
        split at h2 <;> cases h2
    have ha : vs[i]? = some v := by
      unfold start at h2
      rw [List.getElem?_append_left (by simpa using hi), List.getElem?_map] at h2
      cases e : vs[i]? with
      | none => rw [e] at h2; cases h2
      | some a => rw [e] at h2; cases h2; rfl
    obtain ⟨u, hu, rv⟩ := r.get ha
    have hp : ps[i]? = some y := by
      rw [← S.pre, List.getElem?_take_of_lt (by omega)]; exact h1
    have ndP : ps.Nodup := by rw [← S.pre]; exact S.nd.sublist (List.take_sublist _ _)
    refine ⟨u, rv, ?_⟩
    rcases S.par y (List.mem_of_getElem? hp) with k | k
    · exact .inl ⟨k, bindL_get ndP hp hu k⟩
    · obtain ⟨c, e⟩ := cell_has (n := s.heap.objs.size + 1) k
      refine .inr ⟨.inl k, c, e, ?_⟩
      have q := x.cell y c e
      rw [bindC_get ndP hp hu (by show scope.names.lookup y ≠ _; rw [k]; decide)] at q
      exact q
  · exact e0.hok.fresh (Nat.le_of_lt (x.above y c (PySem.mem_of_lookup h)))
  · unfold start
    show _ = N.length
    rw [List.length_append, List.length_map, List.length_replicate]
    omega

/-- THE RULE: a def (or a method) of the text, by its body. The body's reading t is chosen for each entry; it is run at the parameters' values -/
theorem fn_of {CX : CXT} {P : Program} {w : World} {K : PySem.W.Frag} {mg : Str → Option Value} {base : Heap} {k : Nat} {f : Addr} {name qual : Str} {params : Arguments} {body : List Stmt} {scope : Scope} {dV kV doc pm cdv ct oc : Value} {an od : Option Addr}
    {osl : Array (Option Value)} {N ps : List Str} {sp : Sp} (lk : K.lookup f = some ⟨oc, od, .func (PySem.W.fnOf name qual params body scope dV kV doc pm an cdv ct), osl⟩) (hcd : PySem.W.codeIn K cdv qual = true) (S : FnScope N ps scope)
    (len : ∀ vs H Q E, sp vs H Q E → vs.length = ps.length)
    (hbody : ∀ (A : Around) (outer : List Env) (s : Shared) (H : Hp) (vs : List V) (Q : VK) (E : XK), Room k (A.deeper (envOfC qual scope s.heap.objs.size f cdv)) → sp vs H Q E →
      ∃ t, PSs (cxOf CX P w K mg base N qual scope f cdv A outer s H E) body t ∧ t { nx := fun _ H' => Q .non H', rt := Q } (start N vs) H) :
    FnOk P w K mg base CX (k + 1) f (PySem.W.fnOf name qual params body scope dV kV doc pm an cdv ct) ps sp := by
  refine ⟨len, fun A outer s H args us vs Q E hr e0 hb r hsp => ?_⟩
  have hl := len _ _ _ _ hsp
  have KX : K.In s.heap := e0.mod.kin.keeps fun b o e => (e0.bs b o e).1
  have lim : s.heap.NoLimit := e0.mod.nolimit.keeps fun b o e => (e0.bs b o e).1
  have hkind : ∀ y ∈ ps.zip us, scope.names.lookup y.1 = some .local ∨ (scope.names.lookup y.1 = some .cell ∧ ((cellsFrom (s.heap.objs.size + 1) scope.names []).lookup y.1).isSome = true) := fun ⟨n, v⟩ hy => by
    rcases S.par n (List.of_mem_zip hy).1 with q | q
    · exact .inl q
    · exact .inr ⟨q, PySem.W.cellsFrom_some _ _ _ (.inl q)⟩
  refine codeAny_call_function hr.depth (KX _ _ lk) rfl S.co S.gen rfl (PySem.W.codeRec_of KX hcd) (hb _ _ _ _ ?_)
  refine wpAny_newFunctionEnv_cells S.kind hkind fun env he s1 x => ?_
  subst he
  refine ⟨lim.keeps x.toInCall.keep, codeAny_func ?_⟩
  obtain ⟨t, ht, hq⟩ := hbody A outer s H vs Q E (hr.deeper _) hsp
  have I : Inv (cxOf CX P w K mg base N qual scope f cdv A outer s H E) [] (start N vs) H s1 := inv_start S hr.hd e0 hl r x
  refine wpAny_mono (ht [] s1 (start N vs) H _ I hq) (fun fl s' hs => ?_) fun e s' hs => hs
  have fin : ∀ {σ' : St} {H' : Hp} {v : V} {u : Value}, Inv (cxOf CX P w K mg base N qual scope f cdv A outer s H E) [] σ' H' s' → RelV v u → Q v H' → CE outer P w H s Q u s' :=
    fun {σ' H' v u} J rv q => ⟨v, H', J.os, J.bare, J.base, J.hok, rv, q⟩
  cases fl with
  | ret u =>
    obtain ⟨v, σ', H', J, rv, q⟩ := hs
    exact fin J rv q
  | next =>
    obtain ⟨σ', H', J, q⟩ := hs
    exact fin (v := V.non) (u := Value.none) J rfl q
  | brk =>
    obtain ⟨_, _, _, q⟩ := hs
    exact False.elim q
  | cont =>
    obtain ⟨_, _, _, q⟩ := hs
    exact False.elim q
end L2

namespace L2
open PySem PySem.Spec PyProof.Rows
section
variable {X : Cx} {x : Str} {p pos : Pos} {e : Expr} {es : List Expr} {t : TA} {id T : String} {r : List V → Hp → VK → Prop}

def tCB (r : List V → Hp → VK → Prop) (t : TA) : TE := fun σ H Q => t σ H fun vs H1 => r vs H1 Q
/-- f(e, ..), f a built-in function -/
theorem pe_callB (hc : CallR X (.builtin id) r) (hg : Gl X x) (hm : X.mg x = none) (hv : bootBuiltins x = some (.builtin id)) (ha : PA X (e :: es) t) (hn : x ≠ "__name__" := by decide) (hdb : (x == ("__debug__" : Str)) = false := by decide)
    (he : starEach (e :: es) X.env = (false, eval e X.env) :: starEach es X.env := by rfl) (hpl : (backTo pos (starEach es X.env)).any (·.1) = false := by rfl) : PE X (.Call (.Name x p) (e :: es) [] pos) (tCB r t) := by
  intro pins s σ H Q I h
  refine wpAny_Call_Name_kw (ld_blt I hg hm hv ?_ hn hdb)
  exact PyProof.Rows.callWith_builtin1 (thn (ha pos pins s σ H _ I h) fun us s1 ⟨vs, H1, I1, r1, q1⟩ => hc pins s1 σ H1 vs us Q I1 r1 q1) he hpl
/-- T(e, ..), T a built-in type -/
theorem pe_callTy (hc : CallR X (.type T) r) (hg : Gl X x) (hm : X.mg x = none) (hv : bootBuiltins x = some (.type T)) (ha : PA X (e :: es) t) (hn : x ≠ "__name__" := by decide) (hdb : (x == ("__debug__" : Str)) = false := by decide)
    (he : starEach (e :: es) X.env = (false, eval e X.env) :: starEach es X.env := by rfl) (hpl : (backTo pos (starEach es X.env)).any (·.1) = false := by rfl) : PE X (.Call (.Name x p) (e :: es) [] pos) (tCB r t) := by
  intro pins s σ H Q I h
  refine wpAny_Call_Name_kw (ld_blt I hg hm hv ?_ hn hdb)
  exact PyProof.Rows.callWith_type1 (thn (ha pos pins s σ H _ I h) fun us s1 ⟨vs, H1, I1, r1, q1⟩ => hc pins s1 σ H1 vs us Q I1 r1 q1) he hpl
/-- T() -/
theorem pe_callTy0 (hc : CallR X (.type T) r) (hg : Gl X x) (hm : X.mg x = none) (hv : bootBuiltins x = some (.type T)) (hn : x ≠ "__name__" := by decide) (hdb : (x == ("__debug__" : Str)) = false := by decide) :
    PE X (.Call (.Name x p) [] [] pos) (tCB r tNil) := by
  intro pins s σ H Q I h
  refine wpAny_Call_Name_kw (ld_blt I hg hm hv ?_ hn hdb)
  exact PyProof.Rows.callWith_type0 (hc pins s σ H [] [] Q I .nil h)
end
end L2

namespace HT
open PySem PyProof.Rows

/-- t < u of tuples of ints -/
def lexLt : List Int → List Int → Bool
  | [], [] => false
  | [], _ :: _ => true
  | _ :: _, [] => false
  | x :: xs, y :: ys => if x = y then lexLt xs ys else decide (x < y)
theorem lexLt_cons (x y : Int) (xs ys : List Int) : lexLt (x :: xs) (y :: ys) = if x = y then lexLt xs ys else decide (x < y) := rfl
theorem lexLt_nil_nil : lexLt [] [] = false := rfl
theorem lexLt_nil_cons (y : Int) (ys : List Int) : lexLt [] (y :: ys) = true := rfl
theorem lexLt_cons_nil (x : Int) (xs : List Int) : lexLt (x :: xs) [] = false := rfl

theorem eqAt_int (A : Around) (s : Shared) (a : Int) (t : Tok) (c : Int) (u : Tok) : ∃ e, SeqAt.EqAt A s (.int a t) (.int c u) e ∧ (e = true ↔ a = c) :=
  ⟨(a == c), SeqAt.EqAt.int_int a t c u, by simp⟩
theorem rcLt_int (A : Around) (s : Shared) (a : Int) (t : Tok) (c : Int) (u : Tok) (prog : Program) (w : World) (E : Value → Shared → Prop) (Q : Value → Shared → Prop) (h : Q (.bool (decide (a < c))) s) :
    wpAny (model prog w) A (richCompare .Lt (.int a t) (.int c u)) Q E s :=
  (PyProof.Rows.lt_int h : wpAny (model prog w) A (compareOp .Lt (.int a t) (.int c u)) Q E s)

section
open PySem.SeqAt
open PySem.AutoSeq1 (wpAny_loadPart')
open PySem.MeetsSeq PySem.MeetsSeq2 PySem.MeetsSeq3

theorem tuple_lt_ints (l b : Addr) (items items2 : Array Value) (n n2 : Nat) (dd dd2 : Option Addr) (sl sl2 : Array (Option Value)) (ns ms : List Int) (hi : IntsAre items.toList ns) (hj : IntsAre items2.toList ms) :
    Meets (Builtin.«tuple.__lt__» ⟨[.ref l, .ref b], []⟩)
      (fun _ R s => s.heap.get? l = some { cls := .type "tuple", dict := dd, data := .seq items n, slots := sl } ∧ s.heap.get? b = some { cls := .type "tuple", dict := dd2, data := .seq items2 n2, slots := sl2 } ∧
        R (.ok (.ret (.bool (lexLt ns ms)))) s) :=
  .of_wp fun prog w A R s h => by
    obtain ⟨hp, g, d, tk, os⟩ := s; obtain ⟨hl, hb, h⟩ := h
    have f2 := AutoSeq1.sub_tuple_tuple
    have z1 : items.size = ns.length := by rw [← hi.length]; simp
    have z2 : items2.size = ms.length := by rw [← hj.length]; simp
    wp_walk using wpAny_loadPart' hl, wpAny_loadPart' hb, wpAny_forIn_list _ (fun rest b s' => b.1 = none ∧ s' = ⟨hp, g, d, tk, os⟩ ∧ ∃ (vs ws : List Value) (ns' ms' : List Int), rest = vs.zip ws ∧
      IntsAre vs ns' ∧ IntsAre ws ms' ∧ ns'.length + items2.size = ms'.length + items.size ∧ R (.ok (.ret (.bool (lexLt ns' ms')))) ⟨hp, g, d, tk, os⟩) _
    case turn =>
      rintro ⟨y, x⟩ rest b s' ⟨hb', rfl, vs, ws, ns', ms', hz, hvi, hwi, hlen, hR⟩
      cases hvi with
      | nil => rw [List.zip_nil_left] at hz; cases hz
      | cons a t hvi' =>
        cases hwi with
        | nil => rw [List.zip_nil_right] at hz; cases hz
        | cons c u hwi' =>
          rw [List.zip_cons_cons] at hz
          injection hz with hyx hrest
          injection hyx with hy hx
          subst hy hx
          rw [lexLt_cons] at hR
          simp only [List.length_cons] at hlen
          obtain ⟨e, he, hiff⟩ := eqAt_int A.in1 ⟨hp, g, d, tk, os⟩ a t c u
          refine wpAny_bind (he prog w _ _ ?_)
          cases e with
          | true =>
            rw [if_pos (hiff.mp rfl)] at hR
            wp_walk
            exact ⟨rfl, rfl, _, _, _, _, hrest, hvi', hwi', by omega, hR⟩
          | false =>
            rw [if_neg (fun q => absurd (hiff.mpr q) Bool.false_ne_true)] at hR
            have hri := rcLt_int A.in1 ⟨hp, g, d, tk, os⟩ a t c u prog w
            wp_walk using hri
            exact ⟨_, rfl, by simpa using hR⟩
    case fin =>
      rintro ⟨b1, b2⟩ s' ⟨hb', rfl, vs, ws, ns', ms', hz, hvi, hwi, hlen, hR⟩
      simp only at hb'
      subst hb'
      have hv : lexLt ns' ms' = decide (items.size < items2.size) := by
        cases hvi with
        | nil =>
          cases hwi with
          | nil =>
            simp only [List.length_nil] at hlen
            rw [lexLt_nil_nil]
            exact (decide_eq_false (by omega)).symm
          | cons c u hw =>
            simp only [List.length_nil, List.length_cons] at hlen
            rw [lexLt_nil_cons]
            exact (decide_eq_true (by omega)).symm
        | cons a t hv =>
          cases hwi with
          | nil =>
            simp only [List.length_nil, List.length_cons] at hlen
            rw [lexLt_cons_nil]
            exact (decide_eq_false (by omega)).symm
          | cons c u hw =>
            rw [List.zip_cons_cons] at hz
            cases hz
      rw [hv] at hR
      wp_walk
      exact ⟨_, rfl, by simpa [Builtin.Tuple.tupleCompareSizes] using hR⟩
    case h =>
      exact ⟨rfl, rfl, items.toList, items2.toList, ns, ms, rfl, hi, hj, by omega, h⟩
end

section
variable {prog : Program} {w : World} {A : Around} {E : Value → Shared → Prop} {s : Shared}

theorem lt_tupInts {l b : Addr} {items items2 : Array Value} {ns ms : List Int} {Q : Value → Shared → Prop} (hl : IsTup s.heap l items) (hb : IsTup s.heap b items2) (hi : IntsAre items.toList ns) (hj : IntsAre items2.toList ms)
    (hu : A.units < cLine) (h : Q (.bool (lexLt ns ms)) s) : wpAny (model prog w) A (compareOp .Lt (.ref l) (.ref b)) Q E s := by
  obtain ⟨⟨cls, dd, data, sl⟩, ho, hc, n, hd⟩ := id hl
  obtain ⟨⟨cls2, dd2, data2, sl2⟩, ho2, hc2, n2, hd2⟩ := id hb
  simp only at hc hd hc2 hd2
  subst hc hd hc2 hd2
  exact richCompare_meets_room (op := .Lt) ⟨_, ho, rfl⟩ ⟨_, ho2, rfl⟩ PySem.F.slot_tuple_lt PySem.F.entry_tuple_lt (PySem.F.args_tuple_lt_2 _ _) (tuple_lt_ints l b items items2 n n2 dd dd2 sl sl2 ns ms hi hj)
    ⟨ho, ho2, show Value.bool (lexLt ns ms) ≠ Value.notImplemented ∧ Q (.bool (lexLt ns ms)) s from ⟨(fun x => nomatch x), h⟩⟩ hu

/-- t + u, t not empty -/
theorem cat_tup {t b : Addr} {vs ws : List Value} {Q : Value → Shared → Prop} (ht : IsTup s.heap t vs.toArray) (hb : IsTup s.heap b ws.toArray) (hv : vs ≠ [])
    (h1 : ws = [] → Q (.ref t) s) (h2 : ws ≠ [] → Q (.ref s.heap.objs.size) { s with heap := s.heap.push { cls := .type "tuple", data := .seq (vs ++ ws).toArray } })
    (hsz : vs.length + ws.length ≤ sizeLine) : wpAny (model prog w) A (binaryOp .Add (.ref t) (.ref b)) Q E s := by
  obtain ⟨⟨cls, dd, data, sl⟩, ho, hc, n, hd⟩ := id ht
  obtain ⟨⟨cls2, dd2, data2, sl2⟩, ho2, hc2, n2, hd2⟩ := id hb
  simp only at hc hd hc2 hd2
  subst hc hd hc2 hd2
  have e : vs.toArray ++ ws.toArray = (vs ++ ws).toArray := by simp
  by_cases hw : ws = []
  · exact concat_meets ⟨_, ho, rfl⟩ ⟨_, ho2, rfl⟩ noFill_tuple_add seq_tuple_add PySem.F.slot_tuple_add PySem.F.entry_tuple_add (PySem.F.args_tuple_add_2 _ _)
      (tuple_addW1 t b vs.toArray ws.toArray n n2 dd dd2 sl sl2 (by simpa using hv) (by simp [hw])) ⟨ho, ho2, h1 hw⟩
  · refine concat_meets ⟨_, ho, rfl⟩ ⟨_, ho2, rfl⟩ noFill_tuple_add seq_tuple_add PySem.F.slot_tuple_add PySem.F.entry_tuple_add (PySem.F.args_tuple_add_2 _ _)
      (tuple_addW2 t b vs.toArray ws.toArray n n2 dd dd2 sl sl2 (by simpa using hv) (by simpa using hw) (by rw [List.size_toArray, List.size_toArray]; exact hsz)) ⟨ho, ho2, ?_⟩
    rw [e]
    exact h2 hw

/-! ### t[a:b], not the whole -/
/-- a slice's bound as a place among n (d where it is left out) -/
def sIx (n d : Nat) : Option Int → Nat
  | none => d
  | some v => if v < 0 then (v + (n : Int)).toNat else min v.toNat n
theorem sIx_none (n d : Nat) : sIx n d none = d := rfl
theorem sIx_nat (n d k : Nat) : sIx n d (some (k : Int)) = min k n := by
  show (if (k : Int) < 0 then ((k : Int) + (n : Int)).toNat else min (k : Int).toNat n) = min k n
  rw [if_neg (by omega), Int.toNat_natCast]
theorem sIx_le (n d : Nat) (hd : d ≤ n) (o : Option Int) : sIx n d o ≤ n := by
  cases o with
  | none => exact hd
  | some v =>
    show (if v < 0 then (v + (n : Int)).toNat else min v.toNat n) ≤ n
    by_cases hv : v < 0
    · rw [if_pos hv]; omega
    · rw [if_neg hv]; exact Nat.min_le_right _ _
theorem clip_eq (v : Int) (n d : Nat) : (if v < 0 then max (v + (n : Int)) 0 else min v (n : Int)) = ((sIx n d (some v) : Nat) : Int) := by
  show (if v < 0 then max (v + (n : Int)) 0 else min v (n : Int)) = (((if v < 0 then (v + (n : Int)).toNat else min v.toNat n) : Nat) : Int)
  by_cases hv : v < 0
  · simp only [if_pos hv]; omega
  · simp only [if_neg hv]; omega
theorem adjust_gen (lo hi : Option Int) (n : Nat) : Builtin.Slice.sliceAdjust lo hi 1 (n : Int) = (((sIx n 0 lo : Nat) : Int), ((sIx n n hi : Nat) : Int)) := by
  have h1 : ¬ ((1 : Int) < 0) := by omega
  unfold Builtin.Slice.sliceAdjust
  simp only [h1, if_false]
  refine Prod.ext ?_ ?_
  · cases lo with
    | none => rfl
    | some v => exact clip_eq v n 0
  · cases hi with
    | none => rfl
    | some v => exact clip_eq v n n
theorem places_gen (i j : Nat) : Builtin.Slice.slicePlaces (i : Int) (j : Int) 1 = j - i := by
  unfold Builtin.Slice.slicePlaces
  have h1 : (1 : Int) > 0 := by omega
  simp only [h1, if_true, Int.ediv_one]
  split <;> omega
theorem slicePart_ {v : Value} {o : Option Int} {Q : Option Int → Shared → Prop} (p : IsPart v o) (h : Q o s) : wpAny (model prog w) A (Builtin.Slice.slicePartIndex v) Q E s := by
  cases p with
  | none => exact slicePart_none h
  | int i t => exact slicePart_int h
theorem sliceApplied_gen {sl : Addr} {vl vu : Value} {lo hi : Option Int} {n : Nat} {Q : Int × Int × Nat → Shared → Prop} (hs : s.heap.IsSliceOf sl vl vu .none) (pl : IsPart vl lo) (pu : IsPart vu hi)
    (h : Q (((sIx n 0 lo : Nat) : Int), 1, sIx n n hi - sIx n 0 lo) s) : wpAny (model prog w) A (Builtin.Slice.sliceApplied (.ref sl) (pure (n : Int))) Q E s := by
  obtain ⟨os, hos, hcs, hds⟩ := id hs
  unfold Builtin.Slice.sliceApplied Builtin.Slice.sliceFields
  refine wpAny_bind (wpAny_bind (wpAny_field hos hds (x := vl) rfl (wpAny_bind (wpAny_field hos hds (x := vu) rfl (wpAny_bind (wpAny_field hos hds (x := .none) rfl (wpAny_pure ?_)))))))
  refine wpAny_bind (slicePart_none ?_)
  show wpAny _ _ (if ((1 : Int) == 0) = true then _ else _) _ _ s
  rw [if_neg (by decide)]
  refine wpAny_bind (slicePart_ pl (wpAny_bind (slicePart_ pu (wpAny_bind (wpAny_pure ?_)))))
  show wpAny _ _ (match Builtin.Slice.sliceAdjust lo hi 1 (n : Int) with | (lo, hi) => pure (lo, (1 : Int), Builtin.Slice.slicePlaces lo hi 1)) _ _ s
  rw [adjust_gen lo hi n]
  show wpAny _ _ (pure (((sIx n 0 lo : Nat) : Int), (1 : Int), Builtin.Slice.slicePlaces ((sIx n 0 lo : Nat) : Int) ((sIx n n hi : Nat) : Int) 1)) _ _ s
  rw [places_gen]
  exact wpAny_pure h
theorem pick_gen (xs : Array Value) (i k : Nat) : ((List.range k).filterMap fun (m : Nat) => xs[((i : Int) + (m : Int) * 1).toNat]?).toArray = ((xs.toList.drop i).take k).toArray := by
  have e : (fun (m : Nat) => xs[((i : Int) + (m : Int) * 1).toNat]?) = fun m => xs[i + m]? := by
    funext m
    have : ((i : Int) + (m : Int) * 1).toNat = i + m := by omega
    rw [this]
  rw [e]
  have := pick_run xs i k
  rw [List.filterMap_map] at this
  have e2 : ((fun x => xs[x]?) ∘ fun x => i + x) = fun m => xs[i + m]? := rfl
  rw [e2] at this
  rw [this]

theorem getItem_tuple_cut {t sl : Addr} {items : Array Value} {vl vu : Value} {lo hi : Option Int} {Q : Value → Shared → Prop} (ht : IsTup s.heap t items) (hs : s.heap.IsSliceOf sl vl vu .none) (pl : IsPart vl lo) (pu : IsPart vu hi)
    (hw : ¬ (sIx items.size 0 lo = 0 ∧ sIx items.size items.size hi = items.size))
    (h : Q (.ref s.heap.objs.size) { s with heap := s.heap.push { cls := .type "tuple", data := .seq ((items.toList.drop (sIx items.size 0 lo)).take (sIx items.size items.size hi - sIx items.size 0 lo)).toArray } })
    (hsz : items.size ≤ sizeLine) : wpAny (model prog w) A (getItem (.ref t) (.ref sl)) Q E s := by
  have htake : sizeOk (.seq ((items.toList.drop (sIx items.size 0 lo)).take (sIx items.size items.size hi - sIx items.size 0 lo)).toArray) := by
    show ((items.toList.drop (sIx items.size 0 lo)).take (sIx items.size items.size hi - sIx items.size 0 lo)).toArray.size ≤ sizeLine
    rw [List.size_toArray, List.length_take, List.length_drop, Array.length_toList]
    omega
  have hj : sIx items.size items.size hi ≤ items.size := sIx_le _ _ (Nat.le_refl _) hi
  obtain ⟨os, hos, hcs, hds⟩ := id hs
  have hTs : s.TypeIs (.ref sl) "slice" := ⟨os, hos, hcs⟩
  unfold getItem
  try with_reducible refine wpAny_holding ?_
  first | refine wpAny_bind (wpAny_pure ?_) | skip
  refine wpAny_bind (wpAny_sequenceKey ht.typeIs (by decide) ?_)
  refine wpAny_bind (wpAny_callSpecial?_slot (name := Str.ofString "__getitem__") ht.typeIs PyProof.Rows.slot_tuple_getitem
    (wpAny_call_entry PyProof.Rows.slot_tuple_getitem ht.typeIs entry_tuple_getitem ?_ (args_tuple_getitem _ _)))
  show wpAny _ _ (Builtin.Tuple.tupleItemsOf (.ref t) >>= _) _ _ s
  refine wpAny_bind (tupleItemsOf_ ht ?_)
  refine wpAny_bind (wpAny_typeOf hTs ?_)
  rw [if_pos (by decide)]
  refine wpAny_bind (sliceApplied_gen hs pl pu ?_)
  have hno : ¬ ((((sIx items.size 0 lo : Nat) : Int) == 0 && (1 : Int) == 1 && (sIx items.size items.size hi - sIx items.size 0 lo) == items.size) = true) := by
    intro q
    rw [Bool.and_eq_true, Bool.and_eq_true] at q
    have q1 : ((sIx items.size 0 lo : Nat) : Int) = 0 := eq_of_beq q.1.1
    have q2 : sIx items.size items.size hi - sIx items.size 0 lo = items.size := eq_of_beq q.2
    exact hw ⟨by omega, by omega⟩
  show wpAny _ _ (if (((sIx items.size 0 lo : Nat) : Int) == 0 && (1 : Int) == 1 && (sIx items.size items.size hi - sIx items.size 0 lo) == items.size) = true then _ else _) _ _ s
  rw [if_neg hno, pick_gen]
  first
    | exact wpAny_bind (m := Builtin.Tuple.tupleExact _) (wpAny_newObj_type (wpAny_pure ⟨_, rfl, wpAny_pure h⟩) htake)
    | exact wpAny_bind (m := Builtin.Tuple.tupleExact _) (wpAny_newObj_type (wpAny_bind (wpAny_pure (wpAny_pure ⟨_, rfl, wpAny_pure h⟩))) htake)
    | exact wpAny_bind (wpAny_bind (m := Builtin.Tuple.tupleExact _) (wpAny_newObj_type (wpAny_pure (wpAny_pure ⟨_, rfl, wpAny_pure h⟩)) htake))
    | exact wpAny_bind (wpAny_bind (m := Builtin.Tuple.tupleExact _) (wpAny_newObj_type (wpAny_pure ⟨_, rfl, wpAny_pure h⟩) htake))
end
end HT

namespace L2
open PySem PySem.Spec PyProof.Rows

/-! ### the parts of a slice -/
abbrev TO := St → Hp → (Option Int → Hp → Prop) → Prop
/-- a slice's part (left out, or an int) -/
def PO (X : Cx) (e : Option Expr) (t : TO) : Prop :=
  ∀ (pins : List (Addr × Obj)) (s : Shared) (σ : St) (H : Hp) (Q : Option Int → Hp → Prop), Inv X pins σ H s → t σ H Q →
    wpAny (model X.prog X.w) X.A (evalPart e X.env) (fun u s' => ∃ o H', Inv X pins σ H' s' ∧ IsPart u o ∧ Q o H') X.xe s
def tNoPart : TO := fun _ H Q => Q none H
def tPart (t : TE) : TO := fun σ H Q => t σ H fun x H1 => ∃ i, x = .int i ∧ Q (some i) H1

theorem intsAre_of {ns : List Int} : ∀ {us : List Value}, Vals (ns.map V.int) us → IntsAre us ns := by
  induction ns with
  | nil => intro us r; rw [List.map_nil] at r; cases r; exact .nil
  | cons n ns ih =>
    intro us r
    rw [List.map_cons] at r
    cases r with
    | cons r1 r2 =>
      obtain ⟨t, e⟩ := r1
      subst e
      exact .cons n t (ih r2)

section
variable {X : Cx} {e : Expr} {te : TE} {lo hi : Option Expr} {tl th : TO} {pos p2 : Pos}

theorem po_none : PO X none tNoPart := by
  intro pins s σ H Q I h
  rw [evalPart_none]
  exact wpAny_pure ⟨none, H, I, .none, h⟩
theorem po_some (h : PE X e te) : PO X (some e) (tPart te) := by
  intro pins s σ H Q I hw
  rw [evalPart_some]
  refine thn (h pins s σ H _ I hw) fun u s1 ⟨x, H1, I1, r1, q1⟩ => ?_
  obtain ⟨i, rfl, q⟩ := q1
  obtain ⟨t, rfl⟩ := r1
  exact ⟨some i, H1, I1, .int i t, q⟩

/-- what a slice of a value is, by values: the slice object stands at sl -/
def SlR (X : Cx) (r : V → Option Int → Option Int → Hp → VK → Prop) : Prop :=
  ∀ (pins : List (Addr × Obj)) (s : Shared) (σ : St) (H : Hp) (x : V) (v vl vu : Value) (lo hi : Option Int) (sl : Addr) (Q : VK), Inv X pins σ H s → RelV x v → s.heap.IsSliceOf sl vl vu .none → IsPart vl lo → IsPart vu hi → r x lo hi H Q →
    ∃ T id, typeLookup (.type T) "__getitem__" = pure (some (.builtin id)) ∧ s.TypeIs v T ∧ wpAny (model X.prog X.w) X.A (getItem v (.ref sl)) (EP X pins σ Q) X.xe s
theorem SlR.or {r r' : V → Option Int → Option Int → Hp → VK → Prop} (h : SlR X r) (h' : SlR X r') : SlR X (fun x lo hi H Q => r x lo hi H Q ∨ r' x lo hi H Q) := by
  intro pins s σ H x v vl vu lo hi sl Q I rx hs pl pu q
  rcases q with q | q
  · exact h pins s σ H x v vl vu lo hi sl Q I rx hs pl pu q
  · exact h' pins s σ H x v vl vu lo hi sl Q I rx hs pl pu q
def tSl (r : V → Option Int → Option Int → Hp → VK → Prop) (te : TE) (tl th : TO) : TE := fun σ H Q => te σ H fun x H1 => tl σ H1 fun l H2 => th σ H2 fun u H3 => r x l u H3 Q
/-- a[lo:hi], any a -/
theorem pe_slice {r : V → Option Int → Option Int → Hp → VK → Prop} (hr : SlR X r) (he : PE X e te) (hl : PO X lo tl) (hu : PO X hi th) : PE X (.Subscript e (.Slice lo hi none p2) pos) (tSl r te tl th) := by
  intro pins s σ H Q I h
  refine Subscript_ (thn (he pins s σ H _ I h) fun v s1 ⟨x, H1, I1, r1, q1⟩ => ?_)
  refine wpAny_Slice (thn (hl pins s1 σ H1 _ I1 q1) fun vl s2 ⟨l, H2, I2, pl, q2⟩ => thn (hu pins s2 σ H2 _ I2 q2) fun vu s3 ⟨u, H3, I3, pu, q3⟩ => ?_)
  rw [evalPart_none]
  refine wpAny_pure ?_
  have I4 : Inv X pins σ H3 { s3 with heap := s3.heap.push { cls := .type "slice", data := .fields #[vl, vu, .none] } } := I3.kept (t' := s3.toks) fun b ob q => Heap.get?_push_of_some _ q
  obtain ⟨T, id, hT, ht, hg⟩ := hr pins { s3 with heap := s3.heap.push { cls := .type "slice", data := .fields #[vl, vu, .none] } } σ H3 x v vl vu l u s3.heap.objs.size Q I4 r1 (Heap.IsSliceOf.new ..) pl pu q3
  show wpAny (model X.prog X.w) X.A (subscriptTail e (.Slice lo hi none p2) v (.ref s3.heap.objs.size)) (EP X pins σ Q) X.xe { s3 with heap := s3.heap.push { cls := .type "slice", data := .fields #[vl, vu, .none] } }
  exact tail_any (ops := [.ref s3.heap.objs.size, v]) ht hT hg (by with_unfolding_all rfl)

/-- the items of xs[lo:hi] -/
def cutV (xs : List V) (lo hi : Option Int) : List V := (xs.drop (HT.sIx xs.length 0 lo)).take (HT.sIx xs.length xs.length hi - HT.sIx xs.length 0 lo)
theorem cutV_length (xs : List V) (lo hi : Option Int) : (cutV xs lo hi).length ≤ xs.length := by
  unfold cutV
  rw [List.length_take, List.length_drop]
  omega
/-- t[lo:hi], not the whole of it (the whole would be t itself) -/
def rSlT (K : PySem.W.Frag) : V → Option Int → Option Int → Hp → VK → Prop := fun x lo hi H Q => ∃ a xs, x = .ref a ∧ SqT K H a xs ∧
  ¬ (HT.sIx xs.length 0 lo = 0 ∧ HT.sIx xs.length xs.length hi = xs.length) ∧ ∀ p, H p = none → Q (.ref p) (upd H p (.tup (cutV xs lo hi)))
theorem sl_tup : SlR X (rSlT X.K) := by
  intro pins s σ H x v vl vu lo hi sl Q I rx hs pl pu h
  obtain ⟨a, xs, rfl, hx, hw, q⟩ := h
  cases rx
  obtain ⟨its, r, ht, hz⟩ := I.tuple hx
  have hlen : its.toArray.size = xs.length := by rw [List.size_toArray]; exact r.length.symm
  refine ⟨"tuple", _, PyProof.Rows.slot_tuple_getitem.lookup, ht.typeIs, ?_⟩
  refine HT.getItem_tuple_cut ht hs pl pu (by rw [hlen]; exact hw) ?_ (by rw [hlen]; exact hz)
  rw [hlen]
  refine ⟨.ref s.heap.objs.size, _, I.laid (t' := s.toks) (o := .tup (cutV xs lo hi)) (fun b ob q => Heap.get?_push_of_some _ q) (Nat.le_refl _) ?_, rfl, q _ (I.hok.fresh (Nat.le_refl _))⟩
  exact ⟨Nat.le_trans (cutV_length xs lo hi) hz, _, (r.drop (HT.sIx xs.length 0 lo)).take (HT.sIx xs.length xs.length hi - HT.sIx xs.length 0 lo), IsTup.new _ _⟩

/-! ### t < u, t + u -/
def rLtT (K : PySem.W.Frag) : R2 := fun x y H Q => ∃ a b ns ms, x = .ref a ∧ y = .ref b ∧ SqT K H a (ns.map V.int) ∧ SqT K H b (ms.map V.int) ∧ Q (.bl (HT.lexLt ns ms)) H
theorem op_ltT (hu : X.A.units < cLine) : OpR X (compareOp .Lt) (rLtT X.K) := by
  intro pins s σ H x y v u Q I rx ry h
  obtain ⟨a, b, ns, ms, rfl, rfl, ha, hb, q⟩ := h
  cases rx
  cases ry
  obtain ⟨its, r1, p1, _⟩ := I.tuple ha
  obtain ⟨its2, r2, p2, _⟩ := I.tuple hb
  have i1 : IntsAre its.toArray.toList ns := intsAre_of r1
  have i2 : IntsAre its2.toArray.toList ms := intsAre_of r2
  exact HT.lt_tupInts p1 p2 i1 i2 hu ⟨.bl (HT.lexLt ns ms), H, I, rfl, q⟩
/-- t + u, t not empty: u empty gives t itself -/
def rCatT (K : PySem.W.Frag) : R2 := fun x y H Q => ∃ a b xs ys, x = .ref a ∧ y = .ref b ∧ SqT K H a xs ∧ SqT K H b ys ∧ xs ≠ [] ∧ xs.length + ys.length ≤ sizeLine ∧
  (ys = [] → Q (.ref a) H) ∧ (ys ≠ [] → ∀ p, H p = none → Q (.ref p) (upd H p (.tup (xs ++ ys))))
theorem Vals.nil_iff {xs : List V} {us : List Value} (r : Vals xs us) : us = [] ↔ xs = [] := by
  cases r with
  | nil => simp
  | cons _ _ => simp
theorem op_catT : OpR X (binaryOp .Add) (rCatT X.K) := by
  intro pins s σ H x y v u Q I rx ry h
  obtain ⟨a, b, xs, ys, rfl, rfl, ha, hb, hx, hz, q1, q2⟩ := h
  cases rx
  cases ry
  obtain ⟨its, r1, p1, _⟩ := I.tuple ha
  obtain ⟨its2, r2, p2, _⟩ := I.tuple hb
  refine HT.cat_tup p1 p2 (fun z => hx (r1.nil_iff.mp z)) (fun z => ⟨.ref a, H, I, rfl, q1 (r2.nil_iff.mp z)⟩) (fun z => ?_) (by rw [← r1.length, ← r2.length]; exact hz)
  refine ⟨.ref s.heap.objs.size, _, I.laid (t' := s.toks) (o := .tup (xs ++ ys)) (fun b ob q => Heap.get?_push_of_some _ q) (Nat.le_refl _) ?_, rfl, q2 (fun w => z (r2.nil_iff.mpr w)) _ (I.hok.fresh (Nat.le_refl _))⟩
  exact ⟨by rw [List.length_append]; exact hz, _, r1.append r2, IsTup.new _ _⟩
/-- tuple(t) -/
theorem call_tupleT : CallR X (.type "tuple") (fun xs H Q => ∃ a ys, xs = [.ref a] ∧ SqT X.K H a ys ∧ Q (.ref a) H) := by
  intro pins s σ H xs us Q I r h
  obtain ⟨a, ys, rfl, ha, q⟩ := h
  obtain ⟨u, rfl, ru⟩ := vals1 r
  cases ru
  obtain ⟨its, _, p1, _⟩ := I.tuple ha
  exact call_tuple_same (items := its.toArray) p1 ⟨.ref a, H, I, rfl, q⟩
end
end L2

namespace L2
open PySem PySem.Spec PyProof.Rows

/-! ### places -/
/-- the place that an index of any sign means -/
def ixN (n : Nat) (i : Int) : Option Nat := if 0 ≤ i then (if i < n then some i.toNat else none) else if -(n : Int) ≤ i then some (i + n).toNat else none
def atI {α : Type} (xs : List α) (i : Int) : Option α := (ixN xs.length i).bind fun j => xs[j]?
theorem ixN_seq {n : Nat} {i : Int} {j : Nat} (h : ixN n i = some j) : seqIndex? i n = some j ∧ j < n ∧ -(n : Int) ≤ i ∧ i < n := by
  unfold ixN at h
  by_cases h0 : 0 ≤ i
  · rw [if_pos h0] at h
    by_cases h1 : i < n
    · rw [if_pos h1] at h
      have e : i.toNat = j := Option.some.inj h
      exact ⟨by rw [seqIndex_of h0 h1, e], by omega, by omega, h1⟩
    · rw [if_neg h1] at h; cases h
  · rw [if_neg h0] at h
    by_cases h1 : -(n : Int) ≤ i
    · rw [if_pos h1] at h
      have e : (i + n).toNat = j := Option.some.inj h
      exact ⟨by rw [seqIndex_neg (by omega) h1, e], by omega, h1, by omega⟩
    · rw [if_neg h1] at h; cases h
theorem atI_get {α : Type} {xs : List α} {i : Int} {v : α} (h : atI xs i = some v) : ∃ j, seqIndex? i xs.length = some j ∧ xs[j]? = some v ∧ j < xs.length ∧ -(xs.length : Int) ≤ i ∧ i < xs.length := by
  unfold atI at h
  cases e : ixN xs.length i with
  | none => rw [e] at h; cases h
  | some j =>
    rw [e] at h
    obtain ⟨h1, h2, h3, h4⟩ := ixN_seq e
    exact ⟨j, h1, h, h2, h3, h4⟩
theorem atI_nat {α : Type} {xs : List α} {j : Nat} {v : α} (h : xs[j]? = some v) : atI xs (j : Int) = some v := by
  have hj : j < xs.length := (List.getElem?_eq_some_iff.mp h).1
  have e : ixN xs.length (j : Int) = some j := by
    unfold ixN
    rw [if_pos (by omega), if_pos (by omega)]; simp
  unfold atI; rw [e]; exact h
theorem atI_last {α : Type} (xs : List α) (v : α) : atI (xs ++ [v]) (-1) = some v := by
  have hl : (xs ++ [v]).length = xs.length + 1 := by simp
  have e : ixN (xs ++ [v]).length (-1) = some xs.length := by
    unfold ixN
    rw [hl, if_neg (by decide), if_pos (by omega)]
    congr 1
    omega
  unfold atI
  rw [e]
  show (xs ++ [v])[xs.length]? = some v
  simp

/-! ### what may be subscripted -/
/-- what stands as an index of a plain subscript -/
def PlainIx (b : Expr) : Prop := ∀ o i, subscripted b false o i = operate [o, i] (getItem o i)
/-- a subscript by values -/
def IxR (X : Cx) (r : R2) : Prop :=
  ∀ (value slice : Expr) (pins : List (Addr × Obj)) (s : Shared) (σ : St) (H : Hp) (x y : V) (v u : Value) (Q : VK), Inv X pins σ H s → RelV x v → RelV y u → r x y H Q →
    subscripted slice false v u = operate [v, u] (getItem v u) → wpAny (model X.prog X.w) X.A (subscriptTail value slice v u) (EP X pins σ Q) X.xe s
/-- a call of a builtin's method by values: the receiver, the arguments -/
def MtR (X : Cx) (id : String) (r : V → List V → Hp → VK → Prop) : Prop :=
  ∀ (pins : List (Addr × Obj)) (s : Shared) (σ : St) (H : Hp) (x : V) (xs : List V) (v : Value) (us : List Value) (Q : VK), Inv X pins σ H s → RelV x v → Vals xs us → r x xs H Q →
    wpAny (model X.prog X.w) X.A (call (.builtin id) (v :: us)) (EP X pins σ Q) X.xe s
section
variable {X : Cx} {a b : Expr} {ta tb : TE} {pos : Pos}
theorem IxR.or {r r' : R2} (h : IxR X r) (h' : IxR X r') : IxR X (fun x y H Q => r x y H Q ∨ r' x y H Q) := by
  intro value slice pins s σ H x y v u Q I rx ry q hs
  rcases q with q | q
  · exact h value slice pins s σ H x y v u Q I rx ry q hs
  · exact h' value slice pins s σ H x y v u Q I rx ry q hs
theorem MtR.or {id : String} {r r' : V → List V → Hp → VK → Prop} (h : MtR X id r) (h' : MtR X id r') : MtR X id (fun x xs H Q => r x xs H Q ∨ r' x xs H Q) := by
  intro pins s σ H x xs v us Q I rx rs q
  rcases q with q | q
  · exact h pins s σ H x xs v us Q I rx rs q
  · exact h' pins s σ H x xs v us Q I rx rs q
/-- a[b] -/
theorem pe_ix {r : R2} (hr : IxR X r) (ha : PE X a ta) (hb : PE X b tb) (hs : PlainIx b) : PE X (.Subscript a b pos) (tOp r ta tb) := by
  intro pins s σ H Q I h
  exact Subscript_ (binT ha hb I h fun v u s2 x y H2 I2 rx ry q => hr a b pins s2 σ H2 x y v u Q I2 rx ry q (hs _ _))

def rIxL (K : PySem.W.Frag) : R2 := fun x y H Q => ∃ p xs i v, x = .ref p ∧ y = .int i ∧ SqL K H p xs ∧ atI xs i = some v ∧ Q v H
def rIxT (K : PySem.W.Frag) : R2 := fun x y H Q => ∃ p xs i v, x = .ref p ∧ y = .int i ∧ SqT K H p xs ∧ atI xs i = some v ∧ Q v H
def rIxS : R2 := fun x y H Q => ∃ z i c, x = .str z ∧ y = .int i ∧ z.length ≤ sizeLine ∧ atI z.cps.toList i = some c ∧ Q (.str ⟨#[c]⟩) H
theorem ix_list : IxR X (rIxL X.K) := by
  intro value slice pins s σ H x y v u Q I rx ry h hs
  obtain ⟨p, xs, i, z, rfl, rfl, hq, he, q⟩ := h
  cases rx
  obtain ⟨t, rfl⟩ := ry
  obtain ⟨its, r, pl, hz⟩ := I.list hq
  obtain ⟨j, h1, h2, h3, h4, h5⟩ := atI_get he
  obtain ⟨w, ew, rw'⟩ := r.get h2
  have hl := r.length
  have hn := line63
  have fin : EP X pins σ Q w s := ⟨z, H, I, rw', q⟩
  by_cases h0 : 0 ≤ i
  · have hj : i.toNat = j := by
      rw [seqIndex_of h0 h5] at h1
      exact Option.some.inj h1
    exact item_listR pl.isList h0 (by omega) (by rw [hj]; simpa using ew) fin hs
  · have hj : (i + (its.toArray.size : Int)).toNat = j := by
      rw [seqIndex_neg (by omega) h4] at h1
      rw [List.size_toArray, ← hl]
      exact Option.some.inj h1
    exact subscriptTail_builtinR (x := w) pl.isList.typeIs slot_list_getitem.lookup
      (wpAny_getItem_list_neg (Q := fun r s' => r = w ∧ EP X pins σ Q r s') pl.isList (by omega) (by rw [List.size_toArray] <;> omega) (by omega) (by rw [hj]; simpa using ew) ⟨rfl, fin⟩) hs
theorem ix_tup : IxR X (rIxT X.K) := by
  intro value slice pins s σ H x y v u Q I rx ry h hs
  obtain ⟨p, xs, i, z, rfl, rfl, hq, he, q⟩ := h
  cases rx
  obtain ⟨t, rfl⟩ := ry
  obtain ⟨its, r, pl, hz⟩ := I.tuple hq
  obtain ⟨j, h1, h2, h3, h4, h5⟩ := atI_get he
  obtain ⟨w, ew, rw'⟩ := r.get h2
  have hl := r.length
  have hn := line63
  have fin : EP X pins σ Q w s := ⟨z, H, I, rw', q⟩
  exact subscriptTail_builtinR (x := w) pl.typeIs slot_tuple_getitem.lookup
    (getItem_tuple (j := j) (Q := fun r s' => r = w ∧ EP X pins σ Q r s') pl (by omega) (by omega) (by rw [List.size_toArray, ← hl]; exact h1) (by simpa using ew) ⟨rfl, fin⟩) hs
theorem ix_str : IxR X rIxS := by
  intro value slice pins s σ H x y v u Q I rx ry h hs
  obtain ⟨z, i, c, rfl, rfl, hz, he, q⟩ := h
  obtain ⟨t, rfl⟩ := rx
  obtain ⟨t', rfl⟩ := ry
  obtain ⟨j, h1, h2, h3, h4, h5⟩ := atI_get he
  have hl : z.cps.toList.length = z.length := by simp [Str.length]
  rw [hl] at h1 h4 h5
  have hn := line63
  exact tail_any (typeIs_str s z t) slot_str_getitem.lookup (getItem_str (c := c) (by
    have e1 : decide (i < -(2 ^ 63 : Int)) = false := decide_eq_false (by omega)
    have e2 : decide (i ≥ 2 ^ 63) = false := decide_eq_false (by omega)
    rw [e1, e2, Bool.or_false]) (by rw [h1]; simpa using h2) ⟨.str ⟨#[c]⟩, H, I.tok _, ⟨_, rfl⟩, q⟩) hs
/-- list, tuple or str -/
def rIx (K : PySem.W.Frag) : R2 := fun x y H Q => rIxL K x y H Q ∨ rIxT K x y H Q ∨ rIxS x y H Q
theorem ix_seq : IxR X (rIx X.K) := ix_list.or (ix_tup.or ix_str)

/-! ### xs[i] = v, any sign -/
/-- the list's object behind a store -/
theorem mapSeq_set (its : List Value) (n j : Nat) (u : Value) : Obj.mapSeq (·.setIfInBounds j u) { cls := .type "list", data := .seq its.toArray n } = { cls := .type "list", data := .seq (its.set j u).toArray n } := by
  simp [Obj.mapSeq]
theorem Inv.lst {pins : List (Addr × Obj)} {σ : St} {H : Hp} {s : Shared} {p : Addr} {xs : List V} (I : Inv X pins σ H s) (h : H p = some (.lst xs)) :
    ∃ (its : List Value) (n : Nat), Vals xs its ∧ s.heap.get? p = some { cls := .type "list", data := .seq its.toArray n } ∧ xs.length ≤ sizeLine := by
  obtain ⟨z, its, n, r, e⟩ := I.hok p _ h
  exact ⟨its, n, r, e, z⟩
/-- the list at p is written by an update of its object -/
theorem Inv.lstUpd {pins : List (Addr × Obj)} {σ : St} {H : Hp} {s : Shared} {p : Addr} {xs ys : List V} {its its' : List Value} {n n' : Nat} {f : Obj → Obj} (I : Inv X pins σ H s) (h : H p = some (.lst xs))
    (ho : s.heap.get? p = some { cls := .type "list", data := .seq its.toArray n }) (hf : f { cls := .type "list", data := .seq its.toArray n } = { cls := .type "list", data := .seq its'.toArray n' }) (r : Vals ys its') (hz : ys.length ≤ sizeLine) (t : Nat) :
    Inv X pins σ (upd H p (.lst ys)) { s with heap := s.heap.update p f, toks := t } := by
  have e : (s.heap.update p f).get? p = some { cls := .type "list", data := .seq its'.toArray n' } := by
    rw [Heap.get?_update_self f ho (by rw [hf] <;> rfl), hf]
  refine I.write (x := p) (e := p) (by rw [h]; trivial) (.inl rfl) (fun b u hb q => (Heap.get?_update_other _ _ (Ne.symm hb)).trans q) ⟨_, e⟩ ?_
  exact ⟨hz, its', n', r, e⟩
def rSetL : V → V → V → Hp → (Hp → Prop) → Prop := fun o i v H Q => ∃ p xs k j, o = .ref p ∧ i = .int k ∧ H p = some (.lst xs) ∧ ixN xs.length k = some j ∧ Q (upd H p (.lst (xs.set j v)))
theorem set_list : PSet X rSetL := by
  intro pins s σ H o i v ov iv u Q I ro ri rv h
  obtain ⟨p, xs, k, j, rfl, rfl, hp, hj, q⟩ := h
  cases ro
  obtain ⟨t, rfl⟩ := ri
  obtain ⟨its, n, r, ho, hz⟩ := I.lst hp
  obtain ⟨h1, h2, h3, h4⟩ := ixN_seq hj
  have hl := r.length
  have hn := line63
  have I' : Inv X pins σ (upd H p (.lst (xs.set j v))) { s with heap := s.heap.update p (Obj.mapSeq (·.setIfInBounds j u)) } :=
    I.lstUpd hp ho (mapSeq_set its n j u) (r.set rv j) (by rw [List.length_set]; exact hz) s.toks
  by_cases h0 : 0 ≤ k
  · have hk : k.toNat = j := by
      rw [seqIndex_of h0 h4] at h1
      exact Option.some.inj h1
    exact PySem.W.ki_setAt ho h0 (by omega) (by rw [List.size_toArray, ← hl]; exact h4) (by rw [hk]; exact ⟨_, I', q⟩)
  · have hk : (k + (its.toArray.size : Int)).toNat = j := by
      rw [seqIndex_neg (by omega) h3] at h1
      rw [List.size_toArray, ← hl]
      exact Option.some.inj h1
    exact PySem.W.ki_setBack ho (by omega) (by rw [List.size_toArray, ← hl]; exact h3) (by omega) (by rw [hk]; exact ⟨_, I', q⟩)

/-! ### slices -/
theorem slice_bounds (lo hi : Option Int) (n : Nat) : (sliceBounds lo hi none n).1 = ((HT.sIx n 0 lo : Nat) : Int) ∧ (sliceBounds lo hi none n).2.1 = ((HT.sIx n n hi : Nat) : Int) ∧ (sliceBounds lo hi none n).2.2 = 1 := by
  refine ⟨?_, ?_, rfl⟩
  · cases lo with
    | none => simp [sliceBounds, HT.sIx]
    | some i =>
      simp only [sliceBounds, HT.sIx, Option.getD_none, show (1 : Int) > 0 by decide, if_true]
      by_cases h : i < 0
      · simp only [h, if_true] <;> omega
      · simp only [h, if_false] <;> omega
  · cases hi with
    | none => simp [sliceBounds, HT.sIx]
    | some i =>
      simp only [sliceBounds, HT.sIx, Option.getD_none, show (1 : Int) > 0 by decide, if_true]
      by_cases h : i < 0
      · simp only [h, if_true] <;> omega
      · simp only [h, if_false] <;> omega
theorem slicePick_cut (its : List Value) (lo hi : Option Int) : slicePick its.toArray lo hi none = ((its.drop (HT.sIx its.length 0 lo)).take (HT.sIx its.length its.length hi - HT.sIx its.length 0 lo)).toArray := by
  obtain ⟨h1, h2, h3⟩ := slice_bounds lo hi its.toArray.size
  unfold slicePick
  rw [h1, h2, h3]
  simp only [sliceRange_one, pick_run, List.size_toArray] <;> rfl
/-- xs[lo:hi] of a list: a new list -/
def rSlL (K : PySem.W.Frag) : V → Option Int → Option Int → Hp → VK → Prop := fun x lo hi H Q => ∃ a xs, x = .ref a ∧ SqL K H a xs ∧ ∀ p, H p = none → Q (.ref p) (upd H p (.lst (cutV xs lo hi)))
theorem sl_list : SlR X (rSlL X.K) := by
  intro pins s σ H x v vl vu lo hi sl Q I rx hs pl pu h
  obtain ⟨a, xs, rfl, hx, q⟩ := h
  cases rx
  obtain ⟨its, r, ht, hz⟩ := I.list hx
  have hlen := r.length
  refine ⟨"list", _, slot_list_getitem.lookup, ht.isList.typeIs, ?_⟩
  refine wpAny_getItem_list_slice ht.isList hs pl pu .none (by simp) ?_ (by rw [List.size_toArray] <;> omega)
  rw [slicePick_cut, ← hlen]
  refine ⟨.ref s.heap.objs.size, _, I.laid (t' := s.toks) (o := .lst (cutV xs lo hi)) (fun b ob q => Heap.get?_push_of_some _ q) (Nat.le_refl _) ?_, rfl, q _ (I.hok.fresh (Nat.le_refl _))⟩
  exact ⟨Nat.le_trans (cutV_length xs lo hi) hz, _, 0, (r.drop (HT.sIx xs.length 0 lo)).take (HT.sIx xs.length xs.length hi - HT.sIx xs.length 0 lo), Heap.get?_push_size _ rfl⟩

/-! ### in, not in: flat items -/
def flatV : V → Bool
  | .non => true
  | .bl _ => true
  | .int _ => true
  | .str _ => true
  | _ => false
/-- == of flat values -/
def eqV : V → V → Bool
  | .non, .non => true
  | .bl a, .bl b => a == b
  | .bl a, .int b => (if a then 1 else 0) == b
  | .int a, .bl b => a == (if b then 1 else 0)
  | .int a, .int b => a == b
  | .str a, .str b => a == b
  | _, _ => false
theorem eqAt_V {A : Around} {s : Shared} {y x : V} {u v : Value} (ry : RelV y u) (rx : RelV x v) (fy : flatV y = true) (fx : flatV x = true) : SeqAt.EqAt A s u v (eqV y x) := by
  cases y with
  | non =>
    cases ry
    cases x with
    | non => cases rx; exact SeqAt.EqAt.same _
    | bl b => cases rx; exact SeqAt.EqAt.none_bool b
    | int b => obtain ⟨t, rfl⟩ := rx; exact SeqAt.EqAt.none_int b t
    | str b => obtain ⟨t, rfl⟩ := rx; exact SeqAt.EqAt.none_str b t
    | _ => exact absurd (show false = true from fx) Bool.false_ne_true
  | bl a =>
    cases ry
    cases x with
    | non => cases rx; exact SeqAt.EqAt.bool_none a
    | bl b => cases rx; exact SeqAt.EqAt.bool_bool a b
    | int b => obtain ⟨t, rfl⟩ := rx; exact SeqAt.EqAt.bool_int a b t
    | str b => obtain ⟨t, rfl⟩ := rx; exact SeqAt.EqAt.bool_str a b t
    | _ => exact absurd (show false = true from fx) Bool.false_ne_true
  | int a =>
    obtain ⟨t', rfl⟩ := ry
    cases x with
    | non => cases rx; exact SeqAt.EqAt.int_none a t'
    | bl b => cases rx; exact SeqAt.EqAt.int_bool a t' b
    | int b => obtain ⟨t, rfl⟩ := rx; exact SeqAt.EqAt.int_int a t' b t
    | str b => obtain ⟨t, rfl⟩ := rx; exact SeqAt.EqAt.int_str a t' b t
    | _ => exact absurd (show false = true from fx) Bool.false_ne_true
  | str a =>
    obtain ⟨t', rfl⟩ := ry
    cases x with
    | non => cases rx; exact SeqAt.EqAt.str_none a t'
    | bl b => cases rx; exact SeqAt.EqAt.str_bool a t' b
    | int b => obtain ⟨t, rfl⟩ := rx; exact SeqAt.EqAt.str_int a t' b t
    | str b => obtain ⟨t, rfl⟩ := rx; exact SeqAt.EqAt.str_str a t' b t
    | _ => exact absurd (show false = true from fx) Bool.false_ne_true
  | _ => exact absurd (show false = true from fy) Bool.false_ne_true
/-- the items' answers, read off the values (a value's own answer does not lean on its token) -/
def eqU (x : V) (u : Value) : Bool := match u with
  | .none => eqV .non x
  | .bool b => eqV (.bl b) x
  | .int i _ => eqV (.int i) x
  | .str z _ => eqV (.str z) x
  | _ => false
theorem eqU_of {x y : V} {u : Value} (r : RelV y u) (f : flatV y = true) : eqU x u = eqV y x := by
  cases y with
  | non => cases r; rfl
  | bl b => cases r; rfl
  | int i => obtain ⟨t, rfl⟩ := r; rfl
  | str z => obtain ⟨t, rfl⟩ := r; rfl
  | _ => exact absurd (show false = true from f) Bool.false_ne_true
theorem any_eqU {x : V} : ∀ {xs : List V} {us : List Value}, Vals xs us → xs.all flatV = true → us.any (eqU x) = xs.any fun y => eqV y x
  | _, _, .nil, _ => rfl
  | y :: xs, u :: us, .cons r t, f => by
    rw [List.all_cons, Bool.and_eq_true] at f
    rw [List.any_cons, List.any_cons, eqU_of r f.1, any_eqU t f.2]
theorem mem_eqAt {A : Around} {s : Shared} {x : V} {v : Value} (rx : RelV x v) (fx : flatV x = true) : ∀ {xs : List V} {us : List Value}, Vals xs us → xs.all flatV = true → ∀ u ∈ us, SeqAt.EqAt A s u v (eqU x u)
  | _, _, .nil, _ => fun u hu => by cases hu
  | y :: xs, u :: us, .cons r t, f => fun u' hu => by
    rw [List.all_cons, Bool.and_eq_true] at f
    rcases List.mem_cons.mp hu with rfl | hu
    · rw [eqU_of r f.1]; exact eqAt_V r rx f.1 fx
    · exact mem_eqAt rx fx t f.2 u' hu
def inV (x : V) (xs : List V) : Bool := xs.any fun y => eqV y x
/-- x in a list or tuple of flat items -/
def rIn (K : PySem.W.Frag) (neg : Bool) : R2 := fun x y H Q => ∃ p xs, y = .ref p ∧ (SqL K H p xs ∨ SqT K H p xs) ∧ flatV x = true ∧ xs.all flatV = true ∧ Q (.bl (if neg then !inV x xs else inV x xs)) H
theorem op_in_seq : OpR X (compareOp .In) (rIn X.K false) := by
  intro pins s σ H x y v u Q I rx ry h
  obtain ⟨p, xs, rfl, hq, fx, fs, q⟩ := h
  cases ry
  rcases hq with hq | hq
  · obtain ⟨its, r, pl, hz⟩ := I.list hq
    refine SeqAt.in_listAt (eqU x) pl.isList (fun w hw => mem_eqAt rx fx r fs w (by simpa using hw)) ⟨.bl _, H, I, rfl, ?_⟩
    rw [show its.toArray.any (eqU x) = its.any (eqU x) by simp, any_eqU r fs]
    exact q
  · obtain ⟨its, r, pl, hz⟩ := I.tuple hq
    refine SeqAt.in_tupleAt (eqU x) pl (fun w hw => mem_eqAt rx fx r fs w (by simpa using hw)) ⟨.bl _, H, I, rfl, ?_⟩
    rw [show its.toArray.any (eqU x) = its.any (eqU x) by simp, any_eqU r fs]
    exact q
theorem op_notIn_seq : OpR X (compareOp .NotIn) (rIn X.K true) := by
  intro pins s σ H x y v u Q I rx ry h
  obtain ⟨p, xs, rfl, hq, fx, fs, q⟩ := h
  cases ry
  rcases hq with hq | hq
  · obtain ⟨its, r, pl, hz⟩ := I.list hq
    refine SeqAt.notIn_listAt (eqU x) pl.isList (fun w hw => mem_eqAt rx fx r fs w (by simpa using hw)) ⟨.bl _, H, I, rfl, ?_⟩
    rw [show its.toArray.any (eqU x) = its.any (eqU x) by simp, any_eqU r fs]
    exact q
  · obtain ⟨its, r, pl, hz⟩ := I.tuple hq
    refine SeqAt.notIn_tupleAt (eqU x) pl (fun w hw => mem_eqAt rx fx r fs w (by simpa using hw)) ⟨.bl _, H, I, rfl, ?_⟩
    rw [show its.toArray.any (eqU x) = its.any (eqU x) by simp, any_eqU r fs]
    exact q
theorem op_notIn_str : OpR X (compareOp .NotIn) (fun x y H Q => ∃ i j, x = .str i ∧ y = .str j ∧ Q (.bl (!(!(Builtin.Str.occurrences j i 0 j.length 1).isEmpty))) H) := by
  intro pins s σ H x y v u Q I rx ry h
  obtain ⟨i, j, rfl, rfl, q⟩ := h
  obtain ⟨t, rfl⟩ := rx
  obtain ⟨t', rfl⟩ := ry
  exact notIn_str ⟨.bl _, H, I, rfl, q⟩

/-! ### len, list(x), tuple(x) of any list or tuple that is read -/
theorem call_len_seq : CallR X (.builtin "len") (fun xs H Q => ∃ p ys, xs = [.ref p] ∧ (SqL X.K H p ys ∨ SqT X.K H p ys) ∧ Q (.int ys.length) H) := by
  intro pins s σ H xs us Q I r h
  obtain ⟨p, ys, rfl, hq, q⟩ := h
  obtain ⟨u, rfl, rx⟩ := vals1 r
  cases rx
  have hn := line63
  rcases hq with hq | hq
  · obtain ⟨its, r', pl, hz⟩ := I.list hq
    have hlen := r'.length
    exact Calls.call_len_list pl.isList (by simp only [List.size_toArray] <;> omega) ⟨.int ys.length, H, I.tok _, ⟨s.toks + 1, by rw [List.size_toArray, hlen]⟩, q⟩
  · obtain ⟨its, r', pl, hz⟩ := I.tuple hq
    have hlen := r'.length
    exact len_tuple pl (by simp only [List.size_toArray] <;> omega) ⟨.int ys.length, H, I.tok _, ⟨s.toks + 1, by rw [List.size_toArray, hlen]⟩, q⟩
theorem call_len_str : CallR X (.builtin "len") (fun xs H Q => ∃ z, xs = [.str z] ∧ z.length ≤ sizeLine ∧ Q (.int z.length) H) := by
  intro pins s σ H xs us Q I r h
  obtain ⟨z, rfl, hz, q⟩ := h
  obtain ⟨u, rfl, t, rfl⟩ := vals1 r
  have hn := line63
  exact len_str (by omega) ⟨.int z.length, H, I.tok _, ⟨_, rfl⟩, q⟩
theorem CallR.or {f : Value} {r r' : List V → Hp → VK → Prop} (h : CallR X f r) (h' : CallR X f r') : CallR X f (fun xs H Q => r xs H Q ∨ r' xs H Q) := by
  intro pins s σ H xs us Q I rs q
  rcases q with q | q
  · exact h pins s σ H xs us Q I rs q
  · exact h' pins s σ H xs us Q I rs q
theorem call_list_of : CallR X (.type "list") (fun xs H Q => ∃ p ys, xs = [.ref p] ∧ (SqL X.K H p ys ∨ SqT X.K H p ys) ∧ ∀ l, H l = none → Q (.ref l) (upd H l (.lst ys))) := by
  intro pins s σ H xs us Q I r h
  obtain ⟨p, ys, rfl, hq, q⟩ := h
  obtain ⟨u, rfl, rx⟩ := vals1 r
  cases rx
  have fin : ∀ (its : List Value), Vals ys its → ys.length ≤ sizeLine → ∀ (h' : Heap) (c' : Nat), (∀ b o', s.heap.get? b = some o' → h'.get? b = some o') →
      h'.get? s.heap.objs.size = some { cls := .type "list", dict := none, data := .seq its.toArray c', slots := #[] } → EP X pins σ Q (.ref s.heap.objs.size) { s with heap := h' } := fun its r' hz h' c' kp e =>
    ⟨.ref s.heap.objs.size, _, I.laid (t' := s.toks) kp (Nat.le_refl _) (show ObjOk X.prog X.w _ h' _ (.lst ys) from ⟨hz, its, c', r', e⟩), rfl, q _ (I.hok.fresh (Nat.le_refl _))⟩
  rcases hq with hq | hq
  · obtain ⟨its, r', pl, hz⟩ := I.list hq
    have hlen := r'.length
    obtain ⟨o, ho, hc, n, hd⟩ := pl.isList
    exact call_list_seq p (.inl rfl) ho hc hd (fun h' c' kp e => fin its r' hz h' c' kp e) (by simp only [List.size_toArray] <;> omega)
  · obtain ⟨its, r', pl, hz⟩ := I.tuple hq
    have hlen := r'.length
    obtain ⟨o, ho, hc, n, hd⟩ := pl
    exact call_list_seq p (.inr rfl) ho hc hd (fun h' c' kp e => fin its r' hz h' c' kp e) (by simp only [List.size_toArray] <;> omega)
theorem call_tuple_of : CallR X (.type "tuple") (fun xs H Q => ∃ p ys, xs = [.ref p] ∧ ((SqL X.K H p ys ∧ ∀ l, H l = none → Q (.ref l) (upd H l (.tup ys))) ∨ (SqT X.K H p ys ∧ Q (.ref p) H))) := by
  intro pins s σ H xs us Q I r h
  obtain ⟨p, ys, rfl, h⟩ := h
  obtain ⟨u, rfl, rx⟩ := vals1 r
  cases rx
  rcases h with ⟨hq, q⟩ | ⟨hq, q⟩
  · obtain ⟨its, r', pl, hz⟩ := I.list hq
    have hlen := r'.length
    refine call_tuple_list pl.isList (fun h' kp => ?_) (by simp only [List.size_toArray] <;> omega)
    have I1 : Inv X pins σ H { s with heap := h' } := I.kept (t' := s.toks) kp
    have I2 : Inv X pins σ (upd H h'.objs.size (.tup ys)) { s with heap := h'.push { cls := .type "tuple", data := .seq its.toArray } } :=
      I1.laid (t' := s.toks) (fun b o e => Heap.get?_push_of_some _ e) (Nat.le_refl _) (show ObjOk X.prog X.w _ _ _ (.tup ys) from ⟨hz, its, r', IsTup.new _ _⟩)
    exact ⟨.ref h'.objs.size, _, I2, rfl, q _ (I1.hok.fresh (Nat.le_refl _))⟩
  · obtain ⟨its, r', pl, hz⟩ := I.tuple hq
    exact call_tuple_same pl ⟨.ref p, H, I, rfl, q⟩

/-! ### the call of a builtin's method: o.m(..) -/
/-- the value is of that builtin type -/
def tyV (K : PySem.W.Frag) (T : String) (x : V) (H : Hp) : Prop := match x with
  | .str _ => T = "str"
  | .int _ => T = "int"
  | .ref p => (T = "list" ∧ ∃ xs, SqL K H p xs) ∨ (T = "tuple" ∧ ∃ o, K.lookup p = some o ∧ o.cls = .type "tuple" ∧ o.dict = none) ∨
      (T = "dict" ∧ ((∃ kvs, H p = some (.dK kvs)) ∨ ∃ kvs, H p = some (.dT kvs))) ∨ (T = "set" ∧ ∃ S n, H p = some (.set S n))
  | _ => False
theorem tyV_is {pins : List (Addr × Obj)} {σ : St} {H : Hp} {s : Shared} {T : String} {x : V} {v : Value} (I : Inv X pins σ H s) (r : RelV x v) (ty : tyV X.K T x H) :
    s.TypeIs v T ∧ ∀ a, v = .ref a → ∃ ob, s.heap.get? a = some ob ∧ ob.dict = none := by
  cases x with
  | str z =>
    obtain ⟨t, rfl⟩ := r
    cases (show T = "str" from ty)
    exact ⟨typeIs_str s z t, fun _ e => nomatch e⟩
  | int i =>
    obtain ⟨t, rfl⟩ := r
    cases (show T = "int" from ty)
    exact ⟨typeIs_int s i t, fun _ e => nomatch e⟩
  | ref p =>
    cases r
    rcases ty with ⟨rfl, xs, hq⟩ | ⟨rfl, o, hk, hc, hd⟩ | ⟨rfl, hk⟩ | ⟨rfl, S, n, hk⟩
    · obtain ⟨its, _, pl, _⟩ := I.list hq
      refine ⟨pl.isList.typeIs, fun a e => ?_⟩
      cases e
      obtain ⟨o, n, e, c, hd, _⟩ := pl
      exact ⟨o, e, hd⟩
    · refine ⟨⟨o, I.kIn p o hk, hc⟩, fun a e => ?_⟩
      cases e
      exact ⟨o, I.kIn _ o hk, hd⟩
    · have z : ∃ o, s.heap.get? p = some o ∧ o.ExactDict := by
        rcases hk with ⟨kvs, hk⟩ | ⟨kvs, hk⟩
        · obtain ⟨_, _, _, _, o, _, _, e, ex, _⟩ := I.hok p _ hk
          exact ⟨o, e, ex⟩
        · obtain ⟨_, _, _, _, o, _, _, e, ex, _⟩ := I.hok p _ hk
          exact ⟨o, e, ex⟩
      obtain ⟨o, e, ex⟩ := z
      refine ⟨⟨o, e, ex.1⟩, fun a e2 => ?_⟩
      cases e2
      exact ⟨o, e, ex.2.1⟩
    · obtain ⟨o, _, _, _, e, ex, _⟩ := I.hok p _ hk
      refine ⟨⟨o, e, ex.1⟩, fun a e2 => ?_⟩
      cases e2
      exact ⟨o, e, ex.2.1⟩
  | _ => exact False.elim ty
def tBM0 (K : PySem.W.Frag) (T : String) (r : V → List V → Hp → VK → Prop) (to : TE) : TE := fun σ H Q => to σ H fun x H1 => tyV K T x H1 ∧ r x [] H1 Q
def tBM (K : PySem.W.Frag) (T : String) (r : V → List V → Hp → VK → Prop) (to : TE) (t : TA) : TE := fun σ H Q => to σ H fun x H1 => tyV K T x H1 ∧ t σ H1 fun xs H2 => r x xs H2 Q
variable {o e : Expr} {es : List Expr} {to : TE} {t : TA} {name : Str} {apos cpos : Pos} {T id : String} {r : V → List V → Hp → VK → Prop}
theorem pe_bm0 (pa : PlainAttrs T) (slot : Slot T name id) (hty : typeOf (.builtin id) = pure (.type "method_descriptor")) (hm : MtR X id r) (ho : PE X o to)
    (hbase : attributeBase o name X.env (eval o X.env) = eval o X.env := by rfl) (hline : (apos.endLine == cpos.line) = true := by rfl) : PE X (.Call (.Attribute o name apos) [] [] cpos) (tBM0 X.K T r to) := by
  intro pins s σ H Q I h
  refine wpAny_Call_method0_late hbase hline (thn (ho pins s σ H _ I h) fun v s1 ⟨x, H1, I1, r1, ty, q1⟩ => ?_)
  obtain ⟨h1, h2⟩ := tyV_is I1 r1 ty
  exact ⟨T, id, pa, slot, hty, h1, h2, Calls.callWith_builtin rfl (PySem.evalArgs_none (hm pins s1 σ H1 x [] v [] Q I1 r1 .nil q1))⟩
theorem pe_bm (pa : PlainAttrs T) (slot : Slot T name id) (hty : typeOf (.builtin id) = pure (.type "method_descriptor")) (hm : MtR X id r) (ho : PE X o to) (ha : PA X (e :: es) t)
    (hbase : attributeBase o name X.env (eval o X.env) = eval o X.env := by rfl)
    (hfew : ((backTo cpos (starEach (e :: es) X.env)).all (fun x => !x.1) && (backToKw cpos (keywordEach [] X.env)).all (fun x => x.1.isSome)
      && decide ((e :: es).length + ([] : List Keyword).length + (if ([] : List Keyword).isEmpty then 0 else 1) < 30)) = true := by rfl)
    (hline : (apos.endLine == cpos.line) = true := by rfl) (hs : starEach (e :: es) X.env = (false, eval e X.env) :: starEach es X.env := by rfl) (hplain : (backTo cpos (starEach es X.env)).any (·.1) = false := by rfl) :
    PE X (.Call (.Attribute o name apos) (e :: es) [] cpos) (tBM X.K T r to t) := by
  intro pins s σ H Q I h
  refine wpAny_Call_method_late hbase hfew hline rfl (thn (ho pins s σ H _ I h) fun v s1 ⟨x, H1, I1, r1, ty, q1⟩ => ?_)
  obtain ⟨h1, h2⟩ := tyV_is I1 r1 ty
  refine ⟨T, id, pa, slot, hty, h1, h2, ?_⟩
  have hA := ha cpos pins s1 σ H1 _ I1 q1
  rw [hs] at hA ⊢
  refine Calls.callWith_builtin (by show (false || (backTo cpos (starEach es X.env)).any (·.1)) = false; rw [hplain] <;> rfl) (Calls.evalArgs_plain ?_)
  exact thn hA fun us s2 ⟨vs, H2, I2, r2, q2⟩ => hm pins s2 σ H2 x vs v us Q I2 r1 r2 q2
/- xs.append(e), list.index on a module's tuple .. are MtR facts of 06m -/
end
end L2

namespace L2
open PySem PySem.Spec PyProof.Rows

def MtM (X : Cx) (id : String) (r : V → List V → Hp → VK → Prop) : Prop :=
  ∀ (pins : List (Addr × Obj)) (s : Shared) (σ : St) (H : Hp) (x : V) (xs : List V) (v : Value) (us : List Value) (Q : VK), Inv X pins σ H s → RelV x v → Vals xs us → r x xs H Q →
    wpAny (model X.prog X.w) X.A (call (.builtin id) (v :: us)) (EP X pins σ Q) X.xe s

/-! ### lists of values -/
theorem Vals.one : ∀ {x : V} {us : List Value}, Vals [x] us → ∃ u, us = [u] ∧ RelV x u
  | _, _, .cons r .nil => ⟨_, rfl, r⟩
theorem Vals.two : ∀ {x y : V} {us : List Value}, Vals [x, y] us → ∃ u v, us = [u, v] ∧ RelV x u ∧ RelV y v
  | _, _, _, .cons r (.cons q .nil) => ⟨_, _, rfl, r, q⟩
theorem Vals.zero : ∀ {us : List Value}, Vals [] us → us = []
  | _, .nil => rfl
theorem Vals.dropLast {xs : List V} {us : List Value} (h : Vals xs us) : Vals xs.dropLast us.dropLast := by
  induction h with
  | nil => exact .nil
  | cons r t ih =>
    cases t with
    | nil => exact .nil
    | cons q t' => exact .cons r ih
theorem Vals.eraseIdx : ∀ {xs : List V} {us : List Value} (i : Nat), Vals xs us → Vals (xs.eraseIdx i) (us.eraseIdx i)
  | _, _, _, .nil => .nil
  | _, _, 0, .cons _ t => t
  | _, _, i + 1, .cons r t => .cons r (Vals.eraseIdx i t)
theorem Vals.reverse {xs : List V} {us : List Value} (h : Vals xs us) : Vals xs.reverse us.reverse := by
  induction h with
  | nil => exact .nil
  | cons r t ih => rw [List.reverse_cons, List.reverse_cons]; exact Vals.append ih (.cons r .nil)
theorem Vals.rep {xs : List V} {us : List Value} (h : Vals xs us) : ∀ k : Nat, Vals (List.replicate k xs).flatten (List.replicate k us).flatten
  | 0 => .nil
  | k + 1 => by
    rw [List.replicate_succ, List.replicate_succ, List.flatten_cons, List.flatten_cons]
    exact Vals.append h (Vals.rep h k)
theorem erase_last {α : Type} (l : List α) : l.eraseIdx (l.length - 1) = l.dropLast := by
  induction l with
  | nil => rfl
  | cons a r ih =>
    cases r with
    | nil => rfl
    | cons b r =>
      have e : (a :: b :: r).length - 1 = ((b :: r).length - 1) + 1 := by
        have h1 : (a :: b :: r).length = r.length + 2 := rfl
        have h2 : (b :: r).length = r.length + 1 := rfl
        omega
      rw [e, List.eraseIdx_cons_succ, ih]
      all_goals rfl
theorem len_erase {α : Type} : ∀ (l : List α) (i : Nat), (l.eraseIdx i).length ≤ l.length
  | [], _ => Nat.le_refl _
  | _ :: _, 0 => Nat.le_succ _
  | _ :: r, i + 1 => Nat.succ_le_succ (len_erase r i)
theorem foldl_rep (its : List Value) : ∀ (k : Nat) (acc : List Value),
    List.foldl (fun x1 x2 => x1 ++ x2) acc.toArray (List.replicate k its.toArray) = (acc ++ (List.replicate k its).flatten).toArray
  | 0, acc => by simp
  | k + 1, acc => by
    have e : acc.toArray ++ its.toArray = (acc ++ its).toArray := by simp
    have e2 : (acc ++ its) ++ (List.replicate k its).flatten = acc ++ (List.replicate (k + 1) its).flatten := by
      rw [List.replicate_succ, List.flatten_cons, List.append_assoc]
    rw [← e2, ← foldl_rep its k (acc ++ its), ← e, List.replicate_succ, List.foldl_cons]

section
variable {X : Cx} {pins : List (Addr × Obj)} {σ : St} {H : Hp} {s : Shared} {l b : Addr} {xs ys zs : List V}

/-! ### the two steps: a tracked list is rewritten, a new list is laid -/
theorem Inv.lset {its its' : List Value} {n : Nat} {f : Array Value → Array Value} {t' : Nat} (I : Inv X pins σ H s) (hH : H l = some (.lst xs))
    (e : s.heap.get? l = some { cls := .type "list", data := .seq its.toArray n }) (hf : f its.toArray = its'.toArray) (hv : Vals ys its') (hz : ys.length ≤ sizeLine) :
    Inv X pins σ (upd H l (.lst ys)) { s with heap := s.heap.update l (Obj.mapSeq f), toks := t' } := by
  have q := PySem.IsL.update e f
  rw [hf] at q
  refine I.write (x := l) (e := l) (by rw [hH]; exact trivial) (.inl rfl) (fun b' u hb hu => (Heap.get?_update_other s.heap (Obj.mapSeq f) (Ne.symm hb)).trans hu) ⟨_, q⟩ ?_
  exact ⟨hz, its', _, hv, q⟩
theorem Inv.lnew {its : List Value} {t' : Nat} (I : Inv X pins σ H s) (hv : Vals ys its) (hz : ys.length ≤ sizeLine) :
    Inv X pins σ (upd H s.heap.objs.size (.lst ys)) { s with heap := s.heap.push { cls := .type "list", data := .seq its.toArray }, toks := t' } :=
  I.laid (fun _ _ q => Heap.get?_push_of_some _ q) (Nat.le_refl _) ⟨hz, its, 0, hv, Heap.get?_push_size _ rfl⟩
theorem Inv.fresh (I : Inv X pins σ H s) : H s.heap.objs.size = none := I.hok.fresh (Nat.le_refl _)
theorem Inv.lstM (I : Inv X pins σ H s) (hH : H l = some (.lst xs)) : xs.length ≤ sizeLine ∧ ∃ (its : List Value) (n : Nat), Vals xs its ∧ xs.length = its.length ∧ s.heap.get? l = some { cls := .type "list", data := .seq its.toArray n } := by
  obtain ⟨z, its, n, r, e⟩ := I.hok l _ hH
  exact ⟨z, its, n, r, r.length, e⟩

theorem notLongL {n : Nat} (h : n ≤ sizeLine) : Builtin.List.listTooLong n = false := by
  unfold Builtin.List.listTooLong
  exact decide_eq_false (by omega)
end

section
variable {X : Cx}

/-! ### methods -/
def rAppend : V → List V → Hp → VK → Prop := fun x vs H Q => ∃ l xs y, x = .ref l ∧ vs = [y] ∧ H l = some (.lst xs) ∧ xs.length < sizeLine ∧ Q .non (upd H l (.lst (xs ++ [y])))
theorem mt_append : MtM X "list.append" rAppend := by
  intro pins s σ H x vs v us Q I rx rv h
  obtain ⟨l, xs, y, rfl, rfl, hH, hz, q⟩ := h
  cases rx
  obtain ⟨u, rfl, ru⟩ := rv.one
  obtain ⟨z, its, n, r, hl, e⟩ := I.lstM hH
  refine call_meets F.slot_list_append ⟨_, e, rfl⟩ F.entry_list_append (F.args_list_append_2 _ _) (PySem.list_append l its.toArray n u (by rw [List.size_toArray]; omega)) ⟨e, ?_⟩
  refine ⟨.non, _, I.lset (its' := its ++ [u]) hH e (by simp) (r.append (.cons ru .nil)) ?_, rfl, q⟩
  rw [List.length_append, List.length_singleton]
  omega

def rExtend : V → List V → Hp → VK → Prop := fun x vs H Q => ∃ l b xs zs, x = .ref l ∧ vs = [.ref b] ∧ H l = some (.lst xs) ∧ H b = some (.lst zs) ∧ xs.length + zs.length ≤ sizeLine ∧ Q .non (upd H l (.lst (xs ++ zs)))
theorem mt_extend : MtM X "list.extend" rExtend := by
  intro pins s σ H x vs v us Q I rx rv h
  obtain ⟨l, b, xs, zs, rfl, rfl, hH, hB, hz, q⟩ := h
  cases rx
  obtain ⟨u, rfl, ru⟩ := rv.one
  cases ru
  obtain ⟨z, its, n, r, hl, e⟩ := I.lstM hH
  obtain ⟨z2, its2, n2, r2, hl2, e2⟩ := I.lstM hB
  have hsz : its.toArray.size + its2.toArray.size ≤ sizeLine := by rw [List.size_toArray, List.size_toArray]; omega
  have hlong : ¬ (!its.toArray.isEmpty && Builtin.List.listTooLong (its.toArray.size + its2.toArray.size)) = true := by
    rw [notLongL hsz, Bool.and_false]
    exact Bool.false_ne_true
  refine call_meets F.slot_list_extend ⟨_, e, rfl⟩ F.entry_list_extend (F.args_list_extend_2 _ _)
    (AutoSeq1.list_extend_list_list_0 l its.toArray n b its2.toArray n2 hlong (by rw [List.size_toArray]; omega) (by omega)) ⟨e, e2, ?_⟩
  refine ⟨.non, _, I.lset (its' := its ++ its2) hH e (by simp) (r.append r2) ?_, rfl, q⟩
  rw [List.length_append]
  omega

def rPop : V → List V → Hp → VK → Prop := fun x vs H Q => ∃ l xs y, x = .ref l ∧ vs = [] ∧ H l = some (.lst xs) ∧ xs[xs.length - 1]? = some y ∧ Q y (upd H l (.lst xs.dropLast))
theorem mt_pop : MtM X "list.pop" rPop := by
  intro pins s σ H x vs v us Q I rx rv h
  obtain ⟨l, xs, y, rfl, rfl, hH, hy, q⟩ := h
  cases rx
  have hus := rv.zero
  subst hus
  obtain ⟨z, its, n, r, hl, e⟩ := I.lstM hH
  obtain ⟨u, hu, ru⟩ := r.get hy
  have hy' : its.toArray[its.toArray.size - 1]? = some u := by
    show its.toArray[its.length - 1]? = some u
    rw [← Array.getElem?_toList, ← hl]
    exact hu
  refine call_meets F.slot_list_pop ⟨_, e, rfl⟩ F.entry_list_pop (F.args_list_pop_1 _) (MeetsSeq.list_pop_last l its.toArray n u hy' (by rw [List.size_toArray]; omega)) ⟨e, ?_⟩
  refine ⟨y, _, I.lset (its' := its.dropLast) hH e ?_ r.dropLast ?_, ru, q⟩
  · show its.toArray.eraseIdxIfInBounds (its.toArray.size - 1) = its.dropLast.toArray
    rw [List.size_toArray, List.eraseIdxIfInBounds_toArray, erase_last]
  · rw [List.length_dropLast]
    omega

def rPopAt : V → List V → Hp → VK → Prop := fun x vs H Q => ∃ l xs i k y, x = .ref l ∧ vs = [.int i] ∧ H l = some (.lst xs) ∧ -(2 ^ 63) ≤ i ∧ i < 2 ^ 63 ∧ seqIndex? i xs.length = some k ∧ xs[k]? = some y ∧ Q y (upd H l (.lst (xs.eraseIdx k)))
theorem mt_popAt : MtM X "list.pop" rPopAt := by
  intro pins s σ H x vs v us Q I rx rv h
  obtain ⟨l, xs, i, k, y, rfl, rfl, hH, h1, h2, hk, hy, q⟩ := h
  cases rx
  obtain ⟨u, rfl, ru⟩ := rv.one
  obtain ⟨t, rfl⟩ := ru
  obtain ⟨z, its, n, r, hl, e⟩ := I.lstM hH
  obtain ⟨w, hw, rw'⟩ := r.get hy
  refine call_meets F.slot_list_pop ⟨_, e, rfl⟩ F.entry_list_pop (F.args_list_pop_2 _ _)
    (MeetsSeq.list_pop_at l its.toArray n i t k w (fitsIndex_both h1 h2) (by rw [List.size_toArray, ← hl]; exact hk) (by rw [← Array.getElem?_toList]; exact hw) (by rw [List.size_toArray]; omega)) ⟨e, ?_⟩
  refine ⟨y, _, I.lset (its' := its.eraseIdx k) hH e ?_ (r.eraseIdx k) ?_, rw', q⟩
  · show its.toArray.eraseIdxIfInBounds k = (its.eraseIdx k).toArray
    rw [List.eraseIdxIfInBounds_toArray]
  · have := len_erase xs k
    omega

def rReverse : V → List V → Hp → VK → Prop := fun x vs H Q => ∃ l xs, x = .ref l ∧ vs = [] ∧ H l = some (.lst xs) ∧ Q .non (upd H l (.lst xs.reverse))
theorem mt_reverse : MtM X "list.reverse" rReverse := by
  intro pins s σ H x vs v us Q I rx rv h
  obtain ⟨l, xs, rfl, rfl, hH, q⟩ := h
  cases rx
  have hus := rv.zero
  subst hus
  obtain ⟨z, its, n, r, hl, e⟩ := I.lstM hH
  refine call_meets F.slot_list_reverse ⟨_, e, rfl⟩ F.entry_list_reverse (F.args_list_reverse_1 _) (AutoSeq1.list_reverse_list_0 l its.toArray n (by rw [List.size_toArray]; omega)) ⟨e, ?_⟩
  refine ⟨.non, _, I.lset (its' := its.reverse) hH e (by simp) r.reverse ?_, rfl, q⟩
  rw [List.length_reverse]
  omega

def rClear : V → List V → Hp → VK → Prop := fun x vs H Q => ∃ l xs, x = .ref l ∧ vs = [] ∧ H l = some (.lst xs) ∧ Q .non (upd H l (.lst []))
theorem mt_clear : MtM X "list.clear" rClear := by
  intro pins s σ H x vs v us Q I rx rv h
  obtain ⟨l, xs, rfl, rfl, hH, q⟩ := h
  cases rx
  have hus := rv.zero
  subst hus
  obtain ⟨z, its, n, r, hl, e⟩ := I.lstM hH
  refine call_meets F.slot_list_clear ⟨_, e, rfl⟩ F.entry_list_clear (F.args_list_clear_1 _) (AutoSeq1.list_clear_list_0 l its.toArray n (by rw [List.size_toArray]; omega)) ⟨e, ?_⟩
  exact ⟨.non, _, I.lset (its' := []) (ys := []) hH e rfl .nil (Nat.zero_le _), rfl, q⟩

/-! ### list + list, list += list, list * int -/
def rCat : R2 := fun x y H Q => ∃ l b xs zs, x = .ref l ∧ y = .ref b ∧ H l = some (.lst xs) ∧ H b = some (.lst zs) ∧ xs.length + zs.length ≤ sizeLine ∧ ∀ p, H p = none → Q (.ref p) (upd H p (.lst (xs ++ zs)))
theorem op_cat : OpR X (binaryOp .Add) rCat := by
  intro pins s σ H x y v u Q I rx ry h
  obtain ⟨l, b, xs, zs, rfl, rfl, hH, hB, hz, q⟩ := h
  cases rx
  cases ry
  obtain ⟨z, its, n, r, hl, e⟩ := I.lstM hH
  obtain ⟨z2, its2, n2, r2, hl2, e2⟩ := I.lstM hB
  refine PySem.P.add_list e e2 ?_ (by rw [List.size_toArray, List.size_toArray]; omega)
  have ea : its.toArray ++ its2.toArray = (its ++ its2).toArray := by simp
  rw [ea]
  exact ⟨.ref _, _, I.lnew (t' := s.toks) (r.append r2) (by rw [List.length_append]; omega), rfl, q _ I.fresh⟩
/-- a list times an int (a negative one is nothing) -/
def rRep : R2 := fun x y H Q => ∃ l k xs, x = .ref l ∧ y = .int k ∧ H l = some (.lst xs) ∧ -(2 ^ 63) ≤ k ∧ k < 2 ^ 63 ∧ xs.length * k.toNat ≤ sizeLine ∧
  ∀ p, H p = none → Q (.ref p) (upd H p (.lst (List.replicate k.toNat xs).flatten))
theorem len_rep {α : Type} (xs : List α) (k : Nat) : (List.replicate k xs).flatten.length = k * xs.length := by
  induction k with
  | zero => simp
  | succ k ih => rw [List.replicate_succ, List.flatten_cons, List.length_append, ih, Nat.succ_mul, Nat.add_comm]
theorem op_rep : OpR X (binaryOp .Mult) rRep := by
  intro pins s σ H x y v u Q I rx ry h
  obtain ⟨l, k, xs, rfl, rfl, hH, h1, h2, hz, q⟩ := h
  cases rx
  obtain ⟨t, rfl⟩ := ry
  obtain ⟨z, its, n, r, hl, e⟩ := I.lstM hH
  have hlen : its.toArray.size * k.toNat ≤ sizeLine := by rw [List.size_toArray, ← hl]; exact hz
  have hcap : ¬ its.toArray.size * k.toNat > (2 ^ 63 - 1) / 8 := by
    have : (sizeLine : Nat) ≤ (2 ^ 63 - 1) / 8 := by decide
    omega
  have hfit : ¬ (!Builtin.List.listFitsIndex k) = true := by
    rw [fitsIndex_both h1 h2]
    exact Bool.false_ne_true
  have hlong : ¬ Builtin.List.listTooLong (its.toArray.size * k.toNat) = true := by
    rw [notLongL hlen]
    exact Bool.false_ne_true
  have hnew : List.foldl (fun x1 x2 => x1 ++ x2) #[] (List.replicate (if its.toArray.isEmpty = true then 0 else k.toNat) its.toArray) = (List.replicate k.toNat its).flatten.toArray := by
    have f0 : ∀ m : Nat, List.foldl (fun x1 x2 => x1 ++ x2) #[] (List.replicate m its.toArray) = (List.replicate m its).flatten.toArray := fun m => by
      have := foldl_rep its m []
      rw [List.nil_append] at this
      exact this
    rw [f0]
    cases its with
    | nil => simp
    | cons a r' => rw [if_neg (by simp)]
  refine wpAny_binaryOp_repeat_ref (T := "list") (U := "int") (by decide) ⟨_, e, rfl⟩ (fun s' => typeIs_int s' k t) noFill_list_mul F.fills_int_mul F.slot_int_rmul repeat_list F.slot_int_index.lookup
    (call_meets F.slot_int_rmul (typeIs_int s k t) F.entry_int_rmul (F.args_int_rmul_2 _ _) (int___rmul___int_list k t l its.toArray n)
      ⟨e, rfl, ⟨_, e, rfl⟩, call_meets F.slot_list_mul ⟨_, e, rfl⟩ F.entry_list_mul (F.args_list_mul_2 _ _) (AutoListH.list___mul___list_int_3 l its.toArray n k t hfit hcap hlong) ⟨e, ?_⟩⟩)
  rw [hnew]
  exact ⟨.ref _, _, I.lnew (t' := s.toks) (r.rep k.toNat) (by rw [len_rep, Nat.mul_comm]; exact hz), rfl, q _ I.fresh⟩

/-! ### del xs[i] -/
theorem del_list {pins : List (Addr × Obj)} {s : Shared} {σ : St} {H : Hp} {l : Addr} {xs : List V} {i : Int} {t : Tok} {k : Nat} {Q : Unit → Shared → Prop} (I : Inv X pins σ H s) (hH : H l = some (.lst xs))
    (h1 : -(2 ^ 63) ≤ i) (h2 : i < 2 ^ 63) (hk : seqIndex? i xs.length = some k) (h : ∀ s', Inv X pins σ (upd H l (.lst (xs.eraseIdx k))) s' → Q () s') :
    wpAny (model X.prog X.w) X.A (delItem (.ref l) (.int i t)) Q X.xe s := by
  obtain ⟨z, its, n, r, hl, e⟩ := I.lstM hH
  refine PySem.P.delItem_list (k := k) e (fitsIndex_both h1 h2) (by rw [List.size_toArray, ← hl]; exact hk) (h _ ?_) (by rw [List.size_toArray]; omega)
  refine I.lset (its' := its.eraseIdx k) (t' := s.toks) hH e ?_ (r.eraseIdx k) ?_
  · show its.toArray.eraseIdxIfInBounds k = (its.eraseIdx k).toArray
    rw [List.eraseIdxIfInBounds_toArray]
  · have := len_erase xs k
    omega
end

/-! ### xs[a:b] = ys -/
section
variable {prog : Program} {w : World} {A : Around} {E : Value → Shared → Prop} {s : Shared}
theorem splice_eq (its its2 : List Value) (a c : Nat) : its.toArray.extract 0 a ++ its2.toArray ++ its.toArray.extract c its.toArray.size = (its.take a ++ its2 ++ its.drop c).toArray := by
  apply Array.toList_inj.mp
  first
    | (simp
       exact List.take_of_length_le (by simp))
    | simp [List.take_of_length_le]
    | simp
theorem bounds_run {a c n : Nat} (hac : a ≤ c) (hc : c ≤ n) : sliceBounds (some (a : Int)) (some (c : Int)) none n = ((a : Int), (c : Int), 1) := by
  simp only [sliceBounds, Option.getD_none]
  have h1 : ¬ ((a : Int) < 0) := by omega
  have h2 : ¬ ((c : Int) < 0) := by omega
  simp only [h1, h2, if_false, show (1 : Int) > 0 by decide, if_true]
  congr 1
  · omega
  · congr 1; omega
set_option maxRecDepth 100000 in
/-- list.__setitem__ with a slice of step one and another list -/
theorem setItem_slice {l b sl : Addr} {items new : Array Value} {n n2 : Nat} {vl vu : Value} {a c : Nat} {Q : Unit → Shared → Prop}
    (e : s.heap.get? l = some { cls := .type "list", data := .seq items n }) (e2 : s.heap.get? b = some { cls := .type "list", data := .seq new n2 }) (hne : l ≠ b)
    (hs : s.heap.IsSliceOf sl vl vu .none) (pl : IsPart vl (some (a : Int))) (pu : IsPart vu (some (c : Int))) (hac : a ≤ c) (hc : c ≤ items.size)
    (hsz : items.size + new.size ≤ sizeLine) (h : Q () { s with heap := s.heap.update l (Obj.mapSeq fun xs => xs.extract 0 a ++ new ++ xs.extract c xs.size) }) :
    wpAny (model prog w) A (setItem (.ref l) (.ref sl) (.ref b)) Q E s := by
  have hl : s.heap.IsList l items := PySem.IsL.isList e
  have hb : s.heap.IsList b new := PySem.IsL.isList e2
  obtain ⟨os, hos, hcs, hds⟩ := id hs
  have hTs : s.TypeIs (.ref sl) "slice" := ⟨os, hos, hcs⟩
  have hstep : ¬ ((rawPart none == rawInt 0) = true) := Bool.false_ne_true
  have hsame : Builtin.List.listSameRef (.ref l) (.ref b) = false := by
    unfold Builtin.List.listSameRef
    exact beq_eq_false_iff_ne.mpr hne
  have hmax : (max (a : Int) (c : Int)).toNat = c := by omega
  have hz' : ((fun xs : Array Value => xs.extract 0 a ++ new ++ xs.extract c xs.size) items).size ≤ sizeLine + 1 := by
    simp only [Array.size_append, Array.size_extract]
    omega
  unfold setItem
  try with_reducible refine wpAny_holding ?_
  first | refine wpAny_bind (wpAny_pure ?_) | skip
  refine wpAny_bind (wpAny_sequenceKey hl.typeIs (by decide) ?_)
  refine wpAny_bind (wpAny_callSpecial?_slot (name := Str.ofString "__setitem__") hl.typeIs slot_list_setitem
    (wpAny_call_entry slot_list_setitem hl.typeIs entry_list_setitem ?_ (args_list_setitem _ _ _)))
  show wpAny _ _ (Builtin.List.listSubscript? (.ref sl) >>= _) _ _ s
  refine wpAny_bind ?_
  unfold Builtin.List.listSubscript?
  refine wpAny_bind (wpAny_specialOf hTs slice_no_index ?_)
  simp only [Option.isNone_none, if_true]
  refine wpAny_pure ?_
  show wpAny _ _ (typeOf (.ref sl) >>= _) _ _ s
  refine wpAny_bind (wpAny_typeOf hTs ?_)
  first
    | rw [if_neg (by decide)]
    | refine PySem.W.KFB.if_not (by decide) ?_
  rw [listSliceParts_eq]
  refine wpAny_bind (wpAny_bind (wpAny_field hos hds (x := .none) rfl (wpAny_bind (wpAny_listPart .none ?_))))
  rw [if_neg hstep]
  refine wpAny_bind (wpAny_field hos hds (x := vl) rfl (wpAny_bind (wpAny_listPart pl ?_)))
  refine wpAny_bind (wpAny_field hos hds (x := vu) rfl (wpAny_bind (wpAny_listPart pu (wpAny_pure ?_))))
  first
    | simp only [hsame, Bool.false_eq_true, if_false]
    | refine PySem.W.KFB.if_not hsame ?_
    | (dsimp only
       rw [if_neg (by rw [hsame]; exact Bool.false_ne_true)])
  refine wpAny_bind (m := Builtin.List.listAllItems (.ref b) "must assign iterable to extended slice") ?_
  unfold Builtin.List.listAllItems
  refine wpAny_bind (wpAny_typeOf hb.typeIs ?_)
  first
    | refine PySem.W.KFB.if_so (by decide) ?_
    | rw [if_pos (by decide)]
    | simp only [beq_self_eq_true, Bool.true_or, if_true]
  unfold Builtin.List.listItems
  refine wpAny_bind (wpAny_seqItems e2 rfl (wpAny_pure ?_))
  refine wpAny_bind (wpAny_bind (wpAny_seqItems e rfl (wpAny_pure ?_)))
  refine wpAny_bind (wpAny_of_eq ((sliceIndices_raw (some (a : Int)) (some (c : Int)) none items.size (by simp)).trans (congrArg (pure : Int × Int × Int → Sem (Int × Int × Int)) (bounds_run hac hc))) ?_)
  show wpAny _ _ (if ((1 : Int) == 1) = true then _ else _) _ _ s
  rw [if_pos (by decide)]
  refine wpAny_bind (wpAny_rule ?_)
  first
    | simp only [notLongL hsz, Bool.false_eq_true, if_false]
    | refine PySem.W.KFB.if_not (notLongL hsz) ?_
  first | refine wpAny_bind (wpAny_pure ?_) | skip
  show wpAny _ _ (updateSeq l (fun xs => xs.extract 0 ((a : Int)).toNat ++ new ++ xs.extract (max (a : Int) (c : Int)).toNat xs.size) >>= _) _ _ s
  rw [hmax, Int.toNat_natCast]
  refine wpAny_bind (wpAny_updateSeq (hz := Nat.le_trans (Nat.le_add_right _ _) hsz) (_hz' := hz') e rfl ?_)
  refine wpAny_bind (wpAny_letGo ?_)
  first
    | exact wpAny_bind (wpAny_pure (wpAny_pure ⟨.none, rfl, wpAny_pure h⟩))
    | exact wpAny_pure ⟨.none, rfl, wpAny_pure h⟩
end

section
variable {X : Cx}
/-- xs[a:c] = ys of another list, at the value level: sl is the slice object that was just made -/
theorem set_slice {pins : List (Addr × Obj)} {s : Shared} {σ : St} {H : Hp} {l b sl : Addr} {xs ys : List V} {a c : Int} {vl vu : Value} {Q : Unit → Shared → Prop} (I : Inv X pins σ H s)
    (hH : H l = some (.lst xs)) (hB : H b = some (.lst ys)) (hne : l ≠ b) (hs : s.heap.IsSliceOf sl vl vu .none) (ra : RelV (.int a) vl) (rc : RelV (.int c) vu) (h0 : 0 ≤ a) (hac : a ≤ c) (hc : c ≤ xs.length)
    (hz : xs.length + ys.length ≤ sizeLine) (h : ∀ s', Inv X pins σ (upd H l (.lst (xs.take a.toNat ++ ys ++ xs.drop c.toNat))) s' → Q () s') :
    wpAny (model X.prog X.w) X.A (setItem (.ref l) (.ref sl) (.ref b)) Q X.xe s := by
  obtain ⟨ta, rfl⟩ := ra
  obtain ⟨tc, rfl⟩ := rc
  obtain ⟨z, its, n, r, hl, e⟩ := I.lstM hH
  obtain ⟨z2, its2, n2, r2, hl2, e2⟩ := I.lstM hB
  obtain ⟨a', rfl⟩ := Int.eq_ofNat_of_zero_le h0
  obtain ⟨c', rfl⟩ := Int.eq_ofNat_of_zero_le (Int.le_trans h0 hac)
  simp only [Int.toNat_natCast] at h
  refine setItem_slice (a := a') (c := c') e e2 hne hs (.int _ _) (.int _ _) (by omega) (by rw [List.size_toArray]; omega) (by rw [List.size_toArray, List.size_toArray]; omega) (h _ ?_)
  refine I.lset (its' := its.take a' ++ its2 ++ its.drop c') (t' := s.toks) hH e ?_ (Vals.append (Vals.append (r.take _) r2) (r.drop _)) ?_
  · exact splice_eq its its2 a' c'
  · rw [List.length_append, List.length_append, List.length_take, List.length_drop]
    omega
end
end L2

namespace Att
open PySem PySem.W PySem.Calls PyProof.Rows

/-! ### the script -/
theorem ints_of_wellAll {P : Params} {h : Heap} : ∀ (ns : List Int) (vs : List Value), WellAll P h vs (ns.map WData.int) → IntsAre vs ns := by
  intro ns
  induction ns with
  | nil =>
    intro vs w
    rw [List.map_nil] at w
    cases w
    exact .nil
  | cons n ns ih =>
    intro vs w
    rw [List.map_cons] at w
    cases w with
    | cons a b =>
      cases a
      exact .cons _ _ (ih _ b)

theorem script_of {l : OpenLaw} {n : Nat} (hn : l.most = some n) {P : Params} {h : Heap} {args : List WData} {vals : List Value}
    (hpre : l.row.toRowW.claim.pre args = true) (hwl : WellAll P h vals args) :
    ∃ a vs ns, vals = [Value.ref a] ∧ args = [WData.list (ns.map WData.int)] ∧ h.get? a = some { cls := .type "list", data := .seq vs.toArray } ∧ IntsAre vs ns ∧ ns.length ≤ n := by
  have hsh : WShape.hasAll [] args [.list .int] = true := (pre_splitW hpre).1
  have hc : l.pre.holds [] { args := args } = true := (pre_splitW hpre).2
  obtain ⟨d, r, rfl, h1, h2⟩ := hasAllW_cons hsh
  obtain rfl := hasAllW_nil h2
  obtain ⟨xs, rfl, h3⟩ := hasW_list h1
  obtain ⟨ns, rfl⟩ := items_int h3
  have hlen : ns.length ≤ n := by
    unfold OpenLaw.pre at hc
    have h4 : (WTm.not (.lt (.lit (.int (n : Int))) (.len (.arg 0)))).holds [] { args := [.list (ns.map .int)] } = true := by
      have h4 := (holds_andW hc).1
      rw [hn] at h4
      exact h4
    have h5 := condW_of h4 (w_not (w_lt w_lit (w_len_list (w_arg rfl))))
    rw [List.length_map] at h5
    refine Nat.le_of_not_lt fun q => ?_
    have q' : (n : Int) < ((ns.length : Nat) : Int) := by omega
    first
      | (rw [decide_eq_true q'] at h5; exact absurd h5 (by decide))
      | (simp at h5; omega)
  cases hwl with
  | cons w1 w2 =>
    cases w2
    cases w1 with
    | list ho hall => exact ⟨_, _, ns, rfl, rfl, ho, ints_of_wellAll ns _ hall, hlen⟩

theorem post_true (l : OpenLaw) (args : List WData) : l.row.toRowW.claim.post args (.bool true) args = true :=
  postW_of (r := l.row.toRowW) (X := (true == true))
    (show WShape.has [] (.bool true) .bool = true by first | rfl | decide | simp [WShape.has, WShape.arms, WShape.armsAll])
    (show (WTm.eq .res (.lit (.bool true))).value [] { args := args, res := some (.bool true), after := args } = some (.bool (true == true)) from w_eq_bool (w_res rfl) w_lit) rfl

/-! ### the attachment: holds_open's last premise (the goal 'hc' behind k_head) from a wpAny of the law's body -/
theorem attach {l : OpenLaw} {n : Nat} {q : Program} {loose : List Str} {XP : (Str → Option Value) → Heap → Prop} {YP : World → Heap → Prop} {d : DefRec} {x : Str}
    (hn : l.most = some n) (hdf : d.params.defaults = [])
    (hbind : ∀ pm cd doc v : Value, bindArgs (docDef d.name d.params d.body d.scope pm cd doc) ⟨[v], []⟩ = pure [(x, v)])
    (hx : d.scope.names.lookup x = some .local ∨ d.scope.names.lookup x = some .cell)
    (hk : d.scope.kind = .function) (hco : d.scope.isCoroutine = false) (hgen : d.scope.isGenerator = false)
    (body : ∀ (w : World) (s₀ s₁ s : Shared) (mg mb : Str → Option Value) (fa : Addr) (o : Obj) (pm cd doc : Value) (a : Addr) (vs : List Value) (ns : List Int),
      Ground q loose [] XP w s₀ mg mb s₁.heap → YP w s₁.heap →
      s₁.heap.get? fa = some o → o.data = .func (docDef d.name d.params d.body d.scope pm cd doc) → s₁.heap.CodeRec cd d.name → mg d.name = some (.ref fa) →
      s₁.heap.get? a = some { cls := .type "list", data := .seq vs.toArray } → IntsAre vs ns → ns.length ≤ n →
      s.gens = #[] → s.os = s₁.os →
      Fr s₁.heap s₁.heap.objs.size s.heap (bindL (envOfC d.name d.scope s₁.heap.objs.size fa cd).kindOf [(x, .ref a)] fun _ => none) →
      Cl s₁.heap.objs.size (cellsFrom (s₁.heap.objs.size + 1) d.scope.names []) s.heap (bindC (envOfC d.name d.scope s₁.heap.objs.size fa cd).kindOf [(x, .ref a)] fun _ => none) →
      wpAny (model l.prog w) (callerA.deeper (envOfC d.name d.scope s₁.heap.objs.size fa cd)) (execs d.body (envOfC d.name d.scope s₁.heap.objs.size fa cd))
        (fun f s' => f = .ret (.bool true) ∧ OldK s₁.heap s'.heap ∧ s'.os = s₁.os ∧ AllBare s'.gens) (fun _ _ => False) s) :
    WalkO q loose XP YP l.row.toRowW d [] (fun f vs => PySem.call f vs) := by
  intro w s₀ s₁ mg mb G Y fa o pm cd doc dV kV ho hd hcd hD hmg hg args vals as hpre hlay hrd hwl hlo
  obtain rfl : dV = .none := Dflts.none hD hdf
  obtain rfl : kV = .none := Dflts.noKw hD
  obtain ⟨a, vs, ns, rfl, rfl, hobj, hints, hlen⟩ := script_of hn hpre hwl
  refine enter_call ?_
  refine call_cells_ret (o := o) (by rw [depth_caller]; decide) ho (fd_plain hd) G.T.nolimit hcd (hbind pm cd doc (.ref a)) (fun y hy => ?_) (fun h₁ tk F X => ?_) hco hgen hk
  · obtain rfl : y = (x, Value.ref a) := List.mem_singleton.mp hy
    rcases hx with e | e
    · exact .inl e
    · exact .inr ⟨e, cellsFrom_some _ _ _ (.inl e)⟩
  · refine wpAny_mono (body w s₀ s₁ { s₁ with heap := h₁, toks := tk } mg mb fa o pm cd doc a vs ns G Y ho (fd_plain hd) hcd hmg hobj hints hlen hg rfl F X) (fun f s' hq => ?_) (fun _ _ hq => hq)
    obtain ⟨rfl, h2, h3, h4⟩ := hq
    exact ⟨.inl ⟨.bool true, .bool true, [], rfl, fun _ => rfl, .bool true, post_true l _, fun _ => ⟨List.Pairwise.nil, fun _ hm => (nomatch hm)⟩⟩, h2, h3, h4⟩

/-- the same from a codeAny of the CALL (for a layer whose function contracts speak of calls) -/
theorem attach_call {l : OpenLaw} {n : Nat} {q : Program} {loose : List Str} {XP : (Str → Option Value) → Heap → Prop} {YP : World → Heap → Prop} {d : DefRec}
    (hn : l.most = some n) (hdf : d.params.defaults = [])
    (call : ∀ (w : World) (s₀ s₁ : Shared) (mg mb : Str → Option Value) (fa : Addr) (o : Obj) (pm cd doc : Value) (a : Addr) (vs : List Value) (ns : List Int),
      Ground q loose [] XP w s₀ mg mb s₁.heap → YP w s₁.heap →
      s₁.heap.get? fa = some o → o.data = .func (docDef d.name d.params d.body d.scope pm cd doc) → s₁.heap.CodeRec cd d.name → mg d.name = some (.ref fa) →
      s₁.heap.get? a = some { cls := .type "list", data := .seq vs.toArray } → IntsAre vs ns → ns.length ≤ n → s₁.gens = #[] →
      codeAny (model l.prog w) callerA (.call (.ref fa) ⟨[.ref a], []⟩) (fun r s' => r = .ok (.ret (.bool true)) ∧ OldK s₁.heap s'.heap ∧ s'.os = s₁.os ∧ AllBare s'.gens) s₁) :
    WalkO q loose XP YP l.row.toRowW d [] (fun f vs => PySem.call f vs) := by
  intro w s₀ s₁ mg mb G Y fa o pm cd doc dV kV ho hd hcd hD hmg hg args vals as hpre hlay hrd hwl hlo
  obtain rfl : dV = .none := Dflts.none hD hdf
  obtain rfl : kV = .none := Dflts.noKw hD
  obtain ⟨a, vs, ns, rfl, rfl, hobj, hints, hlen⟩ := script_of hn hpre hwl
  refine enter_call (codeAny_mono (call w s₀ s₁ mg mb fa o pm cd doc a vs ns G Y ho (fd_plain hd) hcd hmg hobj hints hlen hg) fun r s' hq => ?_)
  obtain ⟨rfl, h2, h3, h4⟩ := hq
  exact ⟨.inl ⟨.bool true, .bool true, [], rfl, fun _ => rfl, .bool true, post_true l _, fun _ => ⟨List.Pairwise.nil, fun _ hm => (nomatch hm)⟩⟩, h2, h3, h4⟩

/-- the same where the top left finished generators (o_head chose holds_openN): nothing may have changed at all and no generator may be left -/
theorem attachN {l : OpenLaw} {n : Nat} {q : Program} {loose : List Str} {XP : (Str → Option Value) → Heap → Prop} {YP : World → Heap → Prop} {d : DefRec} {x : Str}
    (hn : l.most = some n) (hdf : d.params.defaults = [])
    (hbind : ∀ pm cd doc v : Value, bindArgs (docDef d.name d.params d.body d.scope pm cd doc) ⟨[v], []⟩ = pure [(x, v)])
    (hx : d.scope.names.lookup x = some .local ∨ d.scope.names.lookup x = some .cell)
    (hk : d.scope.kind = .function) (hco : d.scope.isCoroutine = false) (hgen : d.scope.isGenerator = false)
    (body : ∀ (w : World) (s₀ s₁ s : Shared) (mg mb : Str → Option Value) (fa : Addr) (o : Obj) (pm cd doc : Value) (a : Addr) (vs : List Value) (ns : List Int),
      Ground q loose [] XP w s₀ mg mb s₁.heap → YP w s₁.heap →
      s₁.heap.get? fa = some o → o.data = .func (docDef d.name d.params d.body d.scope pm cd doc) → s₁.heap.CodeRec cd d.name → mg d.name = some (.ref fa) →
      s₁.heap.get? a = some { cls := .type "list", data := .seq vs.toArray } → IntsAre vs ns → ns.length ≤ n →
      s.gens = #[] → s.os = s₁.os →
      Fr s₁.heap s₁.heap.objs.size s.heap (bindL (envOfC d.name d.scope s₁.heap.objs.size fa cd).kindOf [(x, .ref a)] fun _ => none) →
      Cl s₁.heap.objs.size (cellsFrom (s₁.heap.objs.size + 1) d.scope.names []) s.heap (bindC (envOfC d.name d.scope s₁.heap.objs.size fa cd).kindOf [(x, .ref a)] fun _ => none) →
      wpAny (model l.prog w) (callerA.deeper (envOfC d.name d.scope s₁.heap.objs.size fa cd)) (execs d.body (envOfC d.name d.scope s₁.heap.objs.size fa cd))
        (fun f s' => f = .ret (.bool true) ∧ (∀ b o, s₁.heap.get? b = some o → s'.heap.get? b = some o) ∧ s'.os = s₁.os ∧ s'.gens = #[]) (fun _ _ => False) s) :
    WalkN q loose XP YP l.row.toRowW d [] (fun f vs => PySem.call f vs) := by
  intro w s₀ s₁ mg mb G Y fa o pm cd doc dV kV ho hd hcd hD hmg hg args vals as hpre hlay hrd hwl hlo
  obtain rfl : dV = .none := Dflts.none hD hdf
  obtain rfl : kV = .none := Dflts.noKw hD
  obtain ⟨a, vs, ns, rfl, rfl, hobj, hints, hlen⟩ := script_of hn hpre hwl
  refine enter_callW ?_
  refine call_cells_ret (o := o) (by rw [depth_caller]; decide) ho (fd_plain hd) G.T.nolimit hcd (hbind pm cd doc (.ref a)) (fun y hy => ?_) (fun h₁ tk F X => ?_) hco hgen hk
  · obtain rfl : y = (x, Value.ref a) := List.mem_singleton.mp hy
    rcases hx with e | e
    · exact .inl e
    · exact .inr ⟨e, cellsFrom_some _ _ _ (.inl e)⟩
  · refine wpAny_mono (body w s₀ s₁ { s₁ with heap := h₁, toks := tk } mg mb fa o pm cd doc a vs ns G Y ho (fd_plain hd) hcd hmg hobj hints hlen hg rfl F X) (fun f s' hq => ?_) (fun _ _ hq => hq)
    obtain ⟨rfl, h2, h3, h4⟩ := hq
    exact ⟨.inl ⟨.bool true, .bool true, [], rfl, fun _ => rfl, .bool true, post_true l _, fun _ => ⟨List.Pairwise.nil, fun _ hm => (nomatch hm)⟩⟩, h2, h3, h4⟩

/-! ### rules over ANY heap (no ledger) from facts about the written part K: the library's own take a ledger (News) for what they write -/
section
variable {prog : Program} {w : World} {A : Around} {E : Value → Shared → Prop} {s : Shared} {K : Frag}

/-- a def of the module, or a method (qual 'C.m'), entered: the frame is the next address; cells behind it -/
theorem call_fn {R : Result → Shared → Prop} {name qual : Str} {params : Arguments} {body : List Stmt} {scope : Scope} {dV kV doc pm cdv ct oc : Value} {an od : Option Addr} {osl : Array (Option Value)} {f : Addr} {args : Args} {binds : List (Str × Value)}
    (X : K.In s.heap) (hlim : s.heap.NoLimit) (ho : K.lookup f = some ⟨oc, od, .func (fnOf name qual params body scope dV kV doc pm an cdv ct), osl⟩) (hcd : codeIn K cdv qual = true) (hroom : A.depth < recursionLimit)
    (hbind : BindsTo s (fnOf name qual params body scope dV kV doc pm an cdv ct) args binds)
    (hkind : (binds.all fun y => scope.names.lookup y.1 == some .local || scope.names.lookup y.1 == some .cell) = true)
    (h : ∀ s₁, InCallC s s.heap.objs.size (bindL (envOfC qual scope s.heap.objs.size f cdv).kindOf binds fun _ => none) (cellsFrom (s.heap.objs.size + 1) scope.names [])
        (bindC (envOfC qual scope s.heap.objs.size f cdv).kindOf binds fun _ => none) s₁ →
      wpAny (model prog w) (A.deeper (envOfC qual scope s.heap.objs.size f cdv)) (execs body (envOfC qual scope s.heap.objs.size f cdv))
        (fun fl s' => R (.ok (.ret (match fl with | .ret v => v | _ => .none))) s')
        (fun e s' => wpAny (model prog w) (A.deeper (envOfC qual scope s.heap.objs.size f cdv)) (leaving (envOfC qual scope s.heap.objs.size f cdv) e) (fun _ s'' => R (.error e) s'') (fun e' s'' => R (.error e') s'') s') s₁)
    (hco : scope.isCoroutine = false) (hgen : scope.isGenerator = false) (hk : scope.kind = .function) : codeAny (model prog w) A (.call (.ref f) args) R s := by
  refine codeAny_call_function hroom (X _ _ ho) rfl hco hgen rfl (codeRec_of X hcd) (hbind _ _ _ _ ?_)
  refine wpAny_newFunctionEnv_cells hk (kindsX hkind _) fun env he s₁ x => ?_
  subst he
  exact ⟨hlim.keeps x.toInCall.keep, codeAny_func (h s₁ x)⟩

/-- C(..): dict at size, instance at size + 1, then __init__ -/
theorem make_obj {R : Result → Shared → Prop} {C fI : Addr} {rest : List Value} {kw : List (Str × Value)}
    (X : K.In s.heap) (hm : makesIn K C = true) (hi : findIn K (.ref C) "__init__" = some (some (.ref fI))) (hf : isFn K (.ref fI) = true)
    (h : codeAny (model prog w) (A.under (.builtin "type.__call__" ⟨.ref C :: rest, kw⟩)) (.call (.ref fI) ⟨.ref (s.heap.objs.size + 1) :: rest, kw⟩) (InitBack (s.heap.objs.size + 1) R)
      { s with heap := (s.heap.push emptyDict).push (instObj C s.heap.objs.size) }) : codeAny (model prog w) A (.call (.ref C) ⟨rest, kw⟩) R s := by
  obtain ⟨hh, g, d, t, os⟩ := s
  exact make_core (makes_of X hm) (looks_findIn X hi) (fun self => bind_fn X self (beq_iff_eq.mp hf)) (.inl rfl) h

/-- x.name where the instance's dict holds the name and the class does not -/
theorem get_field {x C : Addr} {ox : Obj} {es : List DictEntry} {n : Nat} {name : Str} {expr : Bool} {v : Value} {Q : Value → Shared → Prop}
    (X : K.In s.heap) (I : PySem.W.InstAt s.heap x ox C (some (dictOf es n))) (hg : plainGet K C name = true) (hh : hasDictIn K C = true) (ha : findIn K (.ref C) name = some none)
    (hl : getL name es = some (some v)) (hv : handedIn v = true) (h : Q v { s with toks := s.toks + 1 }) : wpAny (model prog w) A (getAttr (.ref x) name expr) Q E s :=
  get_value X I (plainGet_of hg).1 (findObj_own hh ha rfl hl) hv h

/-- x.m(..): the method found in the class -/
theorem get_method {x C f : Addr} {ox : Obj} {es : List DictEntry} {n : Nat} {name : Str} {pl : Sem Bool} {Q : Value × List Value → Shared → Prop}
    (X : K.In s.heap) (I : PySem.W.InstAt s.heap x ox C (some (dictOf es n))) (hg : plainGet K C name = true) (hf : findIn K (.ref C) name = some (some (.ref f))) (ht : isFn K (.ref f) = true)
    (hl : getL name es = some none) (h : Q (.ref f, [.ref x]) s) : wpAny (model prog w) A (getMethod (.ref x) name pl) Q E s :=
  method_fn X I (plainGet_of hg).1 (plainGet_of hg).2 hf (beq_iff_eq.mp ht) (by show (lookIn name (dictOf es n)).map _ = _; rw [lookIn_dict, hl]; rfl) h

/-! the whole heap as the ledger: makes every rule that writes through a ledger a rule over any heap -/
def noObjs (h : Heap) : Heap := { h with objs := #[] }
theorem noObjs_get (h : Heap) (b : Addr) : (noObjs h).get? b = none := by
  cases e : (noObjs h).get? b with
  | none => rfl
  | some o => exact absurd (Heap.lt_size e) (Nat.not_lt_zero _)
def ledger (h : Heap) (L d : Addr) : List (Addr × Obj) := (List.range h.objs.size).filterMap fun a => if a = L ∨ a = d then none else (h.get? a).map fun o => (a, o)
theorem mem_ledger {h : Heap} {L d a : Addr} {o : Obj} : (a, o) ∈ ledger h L d ↔ a ≠ L ∧ a ≠ d ∧ h.get? a = some o := by
  unfold ledger
  rw [List.mem_filterMap]
  constructor
  · rintro ⟨b, _, e⟩
    split at e
    · cases e
    · rename_i hb
      obtain ⟨o', ho, e'⟩ := Option.map_eq_some_iff.mp e
      cases e'
      exact ⟨fun q => hb (.inl q), fun q => hb (.inr q), ho⟩
  · rintro ⟨n1, n2, ho⟩
    refine ⟨a, List.mem_range.mpr (Heap.lt_size ho), ?_⟩
    rw [if_neg (show ¬ (a = L ∨ a = d) from fun q => q.elim n1 n2), ho] <;> rfl
theorem news_ledger {h : Heap} {L d : Addr} {od : Obj} (hne : d ≠ L) (ho : h.get? d = some od) : News (noObjs h) L h ([] ++ (d, od) :: ledger h L d) := by
  rintro ⟨a, o⟩ hp
  rcases List.mem_cons.mp hp with e | hp
  · cases e
    exact ⟨ho, hne, noObjs_get _ _⟩
  · obtain ⟨n1, n2, e⟩ := mem_ledger.mp hp
    exact ⟨e, n1, noObjs_get _ _⟩
theorem fr_all {h : Heap} {L : Addr} {m : Str → Option Value} (n : h.Ns L m) : Fr (noObjs h) L h m :=
  ⟨n, fun b o e => (by rw [noObjs_get] at e; cases e), Nat.zero_le _⟩
/-- Upd of the head entry (for append_K, setItem_K ..) -/
theorem upd_ledger {h : Heap} {L d : Addr} {o o' : Obj} : Upd d o o' ((d, o) :: ledger h L d) ((d, o') :: ledger h L d) :=
  .head fun ⟨_, _⟩ hp => (mem_ledger.mp hp).2.1

/-- x.name = v over any heap: L is any namespace of the heap (the frame's, say): its map stays, its object is not told; all else but the dict stays -/
theorem set_field {x C dx L : Addr} {ox : Obj} {m : Str → Option Value} {es es' : List DictEntry} {n n' : Nat} {name : Str} {v : Value} {Q : Unit → Shared → Prop}
    (X : K.In s.heap) (I : PySem.W.InstAt s.heap x ox C (some (dictOf es n))) (hd : ox.dict = some dx) (hL : s.heap.Ns L m) (hne : dx ≠ L)
    (hs : findIn K (.ref C) "__setattr__" = some (some (.builtin "object.__setattr__"))) (hp : plainOver K C = true) (ht : takerIn K C name = some none) (hh : hasDictIn K C = true) (hl : (getL name es).isSome = true)
    (e : (putL name (PyData.keyHash w.params name) (.str name (s.toks + 1)) v es, putN name es n) = (es', n')) (hz : es'.length ≤ 1000)
    (h : ∀ h' : Heap, h'.Ns L m → h'.get? dx = some (dictOf es' n') → (∀ b o, b ≠ dx → b ≠ L → s.heap.get? b = some o → h'.get? b = some o) → Q () { s with heap := h', toks := s.toks + 2 }) :
    wpAny (model prog w) A (setAttr (.ref x) name v) Q E s := by
  obtain ⟨e1, e2⟩ := Prod.mk.inj e
  have hdx : s.heap.get? dx = some (dictOf es n) := by
    have := I.dict
    rw [hd] at this
    exact this
  refine set_plain X I hs (osa_dict (s := { s with toks := s.toks + 1 }) (h₀ := noObjs s.heap) (L := L) (m := m) (od := dictOf es n) (od' := dictOf es' n') (es := es') (n := n') (pre := []) (post := ledger s.heap L dx)
    (fr_all hL) (news_ledger hne hdx) X I hd hp ht hh hl (fun _ q => nomatch q) (fun ⟨_, _⟩ q => (mem_ledger.mp q).2.1) (by rw [putName_dict, e1, e2]) rfl hz fun h' F' N' => ?_)
  exact h h' F'.ns (N'.get (List.Mem.head _)) fun b o n1 n2 ho => N'.get (List.Mem.tail _ (mem_ledger.mpr ⟨n2, n1, ho⟩))
end
end Att

namespace L2
open PySem PySem.Spec PyProof.Rows

theorem vals_ints : ∀ {vs : List Value} {ns : List Int}, IntsAre vs ns → Vals (ns.map V.int) vs
  | _, _, .nil => .nil
  | _, _, .cons n t h => .cons ⟨t, rfl⟩ (vals_ints h)

/-- nothing is tracked but the script, known to the object (or it is an object of the module) -/
def Only (H : Hp) : Prop := ∀ b, H b = none ∨ ∃ o xs, H b = some (.frz o (.lst xs))

/-- THE HEAD: the law's promise, at the heap behind the top. F, the promise of the law's def, may use that base is part of the heap (so K.In base, base.Ns mainGlobals mg stand in Mod) -/
theorem law_call {P : Program} {w : World} {K : PySem.W.Frag} {mg mb : Str → Option Value} {CX : CXT} {k : Nat} {fa a : Addr} {fd : FuncData} {x : Str} {sp : Sp} {s₁ : Shared} {vs : List Value} {ns : List Int}
    (KX : K.In s₁.heap) (hns : s₁.heap.Ns mainGlobals mg) (hb : s₁.heap.Ns builtinsNs mb) (hbb : ∀ x : Str, x ≠ "__name__" → mb x = bootBuiltins x) (hlim : s₁.heap.NoLimit) (hg : s₁.gens = #[])
    (ha : s₁.heap.get? a = some { cls := .type "list", data := .seq vs.toArray }) (hi : IntsAre vs ns) (hl : ns.length ≤ sizeLine) (hr : Room k callerA)
    (F : ∀ base : Heap, K.In base → base.Ns mainGlobals mg → FnOk P w K mg base CX k fa fd [x] sp) (hbind : ∀ (s : Shared) (u : Value), BindsTo s fd ⟨[u], []⟩ [(x, u)])
    (hsp : ∀ H : Hp, Only H → SqL K H a (ns.map V.int) → sp [.ref a] H (fun v _ => v = .bl true) fun _ _ _ => False)
    (hCX : ∀ H e s', CX [] H s₁ (fun _ _ _ => False) e s' → False) :
    codeAny (model P w) callerA (.call (.ref fa) ⟨[.ref a], []⟩) (fun r s' => r = .ok (.ret (.bool true)) ∧ OldK s₁.heap s'.heap ∧ s'.os = s₁.os ∧ AllBare s'.gens) s₁ := by
  have rv := vals_ints hi
  have lenV := hi.length
  -- from an abstract heap in which nothing but the script may be tracked
  have core : ∀ H : Hp, Only H → SqL K H a (ns.map V.int) → HOk P w H s₁.heap → (∀ b, H b ≠ none → b = a) → (H a ≠ none → K.lookup a = none) →
      codeAny (model P w) callerA (.call (.ref fa) ⟨[.ref a], []⟩) (fun r s' => r = .ok (.ret (.bool true)) ∧ OldK s₁.heap s'.heap ∧ s'.os = s₁.os ∧ AllBare s'.gens) s₁ := by
    intro H hO hS hok hA hK
    have base_of : ∀ {b : Addr} {o : Obj}, s₁.heap.get? b = some o → H b = none → (hidT s₁.heap H).get? b = some o := fun e n => hidT_get e n
    have noA : ∀ {b : Addr} {o : Obj} {es : Array DictEntry} {ep : Nat}, s₁.heap.get? b = some o → o.data = .dict es ep → H b = none := fun {b o es ep} e d => by
      cases q : H b with
      | none => rfl
      | some u =>
        have e' : b = a := hA b (by rw [q]; simp)
        subst e'
        rw [ha] at e; cases e
        have d' : Data.seq vs.toArray _ = Data.dict es ep := d
        cases d'
    have nsK : ∀ {b : Addr} {m : Str → Option Value}, s₁.heap.Ns b m → (hidT s₁.heap H).Ns b m := fun {b m} ⟨o, es, ep, e, d, r⟩ => ⟨o, es, ep, base_of e (noA e d), d, r⟩
    have hKb : K.In (hidT s₁.heap H) := fun b o e => base_of (KX b o e) (by
      cases q : H b with
      | none => rfl
      | some u =>
        have e' : b = a := hA b (by rw [q]; simp)
        subst e'
        rw [hK (by rw [q]; simp)] at e; cases e)
    have hM : Mod K mg (hidT s₁.heap H) := ⟨hKb, nsK hns, ⟨mb, nsK hb, hbb⟩, let ⟨mc, h1, h2⟩ := hlim; ⟨mc, nsK h1, h2⟩⟩
    have e0 : Env0 P w K mg (hidT s₁.heap H) callerA [] s₁ H := ⟨rfl, hM, fun b o e => of_hidT e, Nat.le_of_eq (hidT_size _ _), trivial, fun b hb => absurd (show b ∈ ([] : List Addr) from hb) (by simp), hok, .of_eq hg⟩
    refine codeAny_mono ((F _ hKb (nsK hns)).run callerA [] s₁ H ⟨[.ref a], []⟩ [.ref a] [.ref a] _ _ hr e0 (hbind s₁ (.ref a)) (.cons rfl .nil) (hsp H hO hS)) fun r s' h => ?_
    cases r with
    | error e => exact (hCX H e s' h).elim
    | ok fl =>
      cases fl with
      | next => exact False.elim h
      | brk => exact False.elim h
      | cont => exact False.elim h
      | ret u =>
        obtain ⟨v, H', os, bare, un, hok', r', q⟩ := h
        have q' : v = .bl true := q
        subst q'
        obtain rfl : u = Value.bool true := r'
        refine ⟨rfl, OldK.of_keep fun b o e => ?_, os, bare⟩
        cases q : H b with
        | none => exact un.keep b o e q (by intro z; exact absurd (show b ∈ ([] : List Addr) from z) (by simp)) (by simp)
        | some u =>
          rcases hO b with z | ⟨ob, xs, z⟩
          · rw [q] at z; cases z
          · have z2 := un.frzs b ob _ z
            obtain ⟨e1, _⟩ := hok b _ z
            obtain ⟨e2, _⟩ := hok' b _ z2
            rw [e] at e1; cases e1
            exact e2
  cases hk : K.lookup a with
  | some o =>
    -- the script is one of the module's own objects
    have e := KX a o hk
    rw [ha] at e
    cases e
    refine core (fun _ => none) (fun _ => .inl rfl) (.inr ⟨_, vs.toArray, _, hk, rfl, rfl, rfl, by rw [List.size_toArray, lenV]; exact hl, by simpa using rv⟩) (fun b u z => by have z' : (none : Option HO) = some u := z; cases z') (fun b z => absurd rfl z) fun z => absurd rfl z
  | none =>
    refine core (fun b => if b = a then some (.frz { cls := .type "list", data := .seq vs.toArray } (.lst (ns.map V.int))) else none) (fun b => ?_) (.inl (.inr ⟨{ cls := .type "list", data := .seq vs.toArray }, if_pos rfl⟩)) (fun b u z => ?_) (fun b z => ?_) fun _ => hk
    · by_cases hb : b = a
      · exact .inr ⟨_, _, if_pos hb⟩
      · exact .inl (if_neg hb)
    · by_cases hb : b = a
      · have z' := (if_pos hb).symm.trans z
        cases z'
        subst hb
        exact ⟨ha, by rw [List.length_map]; exact hl, vs, _, rv, ha⟩
      · have z' := (if_neg hb).symm.trans z
        cases z'
    · by_cases hb : b = a
      · exact hb
      · exact absurd (if_neg hb) z
end L2

namespace L2
open PySem PySem.Spec PyProof.Rows

abbrev KOf {K : PySem.W.Frag} {h : Heap} (_ : K.In h) : PySem.W.Frag := K

/-- the goal that k_head leaves (case hc), from the law's promise. F gives the function object fd (K's own) once, then the promise over every base -/
theorem walk_of {l : PySem.W.OpenLaw} {n k : Nat} {q : Program} {loose : List Str} {XP : (Str → Option Value) → Heap → Prop} {YP : World → Heap → Prop} {d : DefRec} {K : Params → PySem.W.Frag} {CX : World → CXT} {sp : World → Sp} {x : Str}
    (hn : l.most = some n) (hn2 : n ≤ sizeLine) (hdf : d.params.defaults = []) (hr : Room k callerA)
    (hY : ∀ (w : World) (h : Heap), YP w h → (K w.params).In h)
    (F : ∀ (w : World) (mg : Str → Option Value) (fa : Addr) (h : Heap), (K w.params).In h → h.Ns mainGlobals mg → mg d.name = some (.ref fa) →
      ∃ fd : FuncData, (∀ (s : Shared) (u : Value), BindsTo s fd ⟨[u], []⟩ [(x, u)]) ∧
        ∀ base : Heap, (K w.params).In base → base.Ns mainGlobals mg → FnOk l.prog w (K w.params) mg base (CX w) k fa fd [x] (sp w))
    (hsp : ∀ (w : World) (H : Hp) (a : Addr) (ns : List Int), ns.length ≤ n → Only H → SqL (K w.params) H a (ns.map V.int) → sp w [.ref a] H (fun v _ => v = .bl true) fun _ _ _ => False)
    (hCX : ∀ (w : World) (H : Hp) (s : Shared) (e : Value) (s' : Shared), CX w [] H s (fun _ _ _ => False) e s' → False) :
    PySem.W.WalkO q loose XP YP l.row.toRowW d [] (fun f vs => PySem.call f vs) := by
  refine Att.attach_call hn hdf fun w s₀ s₁ mg mb fa o pm cd doc a vs ns G Y ho hd hcd hmg hobj hints hlen hg => ?_
  have KX := hY w _ Y
  obtain ⟨fd, hb, hF⟩ := F w mg fa _ KX G.T.g hmg
  exact law_call KX G.T.g G.T.b G.T.builtins G.T.nolimit hg hobj hints (Nat.le_trans hlen hn2) hr hF hb (fun H hO hS => hsp w H a ns hlen hO hS) fun H e s' => hCX w H s₁ e s'
/-- the same where the promise hangs on the written part alone: (sp := My.sp_law), no hole under a binder -/
theorem walk_ofK {l : PySem.W.OpenLaw} {n k : Nat} {q : Program} {loose : List Str} {XP : (Str → Option Value) → Heap → Prop} {YP : World → Heap → Prop} {d : DefRec} {K : Params → PySem.W.Frag} {CX : CXT} {sp : PySem.W.Frag → Sp} {x : Str}
    (hn : l.most = some n) (hn2 : n ≤ sizeLine) (hdf : d.params.defaults = []) (hr : Room k callerA)
    (hY : ∀ (w : World) (h : Heap), YP w h → (K w.params).In h)
    (F : ∀ (w : World) (mg : Str → Option Value) (fa : Addr) (h : Heap), (K w.params).In h → h.Ns mainGlobals mg → mg d.name = some (.ref fa) →
      ∃ fd : FuncData, (∀ (s : Shared) (u : Value), BindsTo s fd ⟨[u], []⟩ [(x, u)]) ∧
        ∀ base : Heap, (K w.params).In base → base.Ns mainGlobals mg → FnOk l.prog w (K w.params) mg base CX k fa fd [x] (sp (K w.params)))
    (hsp : ∀ (K : PySem.W.Frag) (H : Hp) (a : Addr) (ns : List Int), ns.length ≤ n → Only H → SqL K H a (ns.map V.int) → sp K [.ref a] H (fun v _ => v = .bl true) fun _ _ _ => False)
    (hCX : ∀ (H : Hp) (s : Shared) (e : Value) (s' : Shared), CX [] H s (fun _ _ _ => False) e s' → False) :
    PySem.W.WalkO q loose XP YP l.row.toRowW d [] (fun f vs => PySem.call f vs) :=
  walk_of (K := K) (CX := fun _ => CX) (sp := fun w => sp (K w.params)) hn hn2 hdf hr hY F (fun w H a ns h1 h2 h3 => hsp (K w.params) H a ns h1 h2 h3) fun _ H s e s' => hCX H s e s'
end L2

/- THE LAST THEOREM (shape; LID, My.* are yours):
   My.Adr: a structure of the addresses that your layer names (classes, functions); My.Txt K t: a structure (Prop) of the equations over K;
   My.txt_mk : {K} {implicit addresses ..} (e1 : nsIn K mainGlobals "law" = some (some (.ref f))) (e2 : K.lookup f = some ⟨oc, od, .func (fnOf "law" "law" params body scope dV kV doc pm an cdv ct), sl⟩) (e3 : codeIn K cdv "law" = true) .. : ∃ t, My.Txt K t

set_option maxRecDepth 100000 in
set_option maxHeartbeats 0 in
theorem PySem.Challenge.cw_LID_holds : PySem.Challenge.rw_LID.Holds := by
  w_on; o_law; k_head; (case hw => w_witness2)
  k_fill
  refine L2.walk_of (l := PySem.Challenge.rw_LID) (n := 63) (k := 40) (x := "script") (CX := fun w => ..) (sp := fun _ => My.sp_law) rfl (by decide) rfl ⟨rfl, by decide, by decide⟩ (fun w h Y => PySem.W.kIn_of Y) ?F ?S ?C
  case F =>
    intro w mg fa h KX G hmg
    have T : ∃ t, My.Txt (L2.KOf KX) t := by
      dsimp only [L2.KOf]                          -- K must stand as «<heap const> w.params» for k_is
      refine' My.txt_mk ?e1 ?e2 ?e3 ..
      (case e1 => PySem.W.k_is)                    -- in the order: a name -> its address -> its object -> its parts
      (case e2 => PySem.W.k_is)
      ..
    obtain ⟨t, T⟩ := T
    have e0 := hmg.symm.trans (PySem.W.mg_of KX G T.law)
    cases e0                                       -- fa is the law's own address
    exact ⟨_, fun s u => .of_eq rfl, fun base kb nb => My.law_fn T kb nb⟩     -- if «.of_eq rfl» comes too early: refine' ⟨_, ?b, fun base kb nb => My.law_fn T kb nb⟩; exact fun s u => .of_eq rfl
  case S => exact fun w H a ns hl hO hS => ..
  case C => exact ..
(the tactic k_is has no namespace: write k_is) -/

/-! SHORT WORDS over the layer: a def of the text, its body, what a loop and a test want. -/
namespace L2
open PySem PySem.Spec PyProof.Rows

/-! ### the text by places -/
/-- the j-th statement of a class's body -/
def inClass (s : Stmt) (j : Nat) : Stmt := match s with
  | .ClassDef _ _ _ body _ _ _ _ _ _ _ => body.getD j (.Pass ⟨0, 0, 0, 0⟩)
  | _ => .Pass ⟨0, 0, 0, 0⟩
def defArgs (s : Stmt) : Arguments := match s with
  | .FunctionDef _ a _ _ _ _ _ _ _ _ => a
  | _ => { posonlyargs := [], args := [], vararg := none, kwonlyargs := [], kw_defaults := [], kwarg := none, defaults := [] }
def defBody (s : Stmt) : List Stmt := match s with
  | .FunctionDef _ _ b _ _ _ _ _ _ _ => b
  | _ => []
def defScope (s : Stmt) : Scope := match s with
  | .FunctionDef _ _ _ _ _ _ sc _ _ _ => sc
  | _ => { kind := .function, names := [], isGenerator := false, isCoroutine := false }

/-! ### no exception leaves a def -/
abbrev CX0 : CXT := fun _ _ _ _ _ _ => False
abbrev E0 : XK := fun _ _ _ => False
theorem pass0 {X : Cx} : Passes CX0 X E0 := fun _ _ _ _ _ _ _ h => h.elim

/-! ### a def (or method) of the text as it stands behind the top -/
structure Fun (K : PySem.W.Frag) (x qual : Str) (st : Stmt) (f : Addr) (fd : FuncData) : Prop where
  ex : ∃ (oc : Value) (od : Option Addr) (kV doc pm : Value) (an : Option Addr) (cdv ct : Value) (osl : Array (Option Value)),
    fd = PySem.W.fnOf x qual (defArgs st) (defBody st) (defScope st) .none kV doc pm an cdv ct ∧ K.lookup f = some ⟨oc, od, .func fd, osl⟩ ∧ PySem.W.codeIn K cdv qual = true
  kp : PySem.W.keepIn K (.ref f) = true
section
variable {P : Program} {w : World} {K : PySem.W.Frag} {mg : Str → Option Value} {base : Heap}
/-- THE RULE for a def: its body as a term of rules, and the reading of that term -/
theorem Fun.ok {x qual : Str} {st : Stmt} {f : Addr} {fd : FuncData} {N ps : List Str} {k : Nat} {sp : Sp} (F : Fun K x qual st f fd) (S : FnScope N ps (defScope st)) (len : ∀ vs H Q E, sp vs H Q E → vs.length = ps.length)
    (hbody : ∀ (cdv : Value) (A : Around) (outer : List Env) (s : Shared) (H : Hp) (vs : List V) (Q : VK) (E : XK), Room k (A.deeper (envOfC qual (defScope st) s.heap.objs.size f cdv)) → sp vs H Q E →
      ∃ t, PSs (cxOf CX0 P w K mg base N qual (defScope st) f cdv A outer s H E).nox (defBody st) t ∧ t { nx := fun _ H' => Q .non H', rt := Q } (start N vs) H) : FnOk P w K mg base CX0 (k + 1) f fd ps sp := by
  obtain ⟨oc, od, kV, doc, pm, an, cdv, ct, osl, rfl, lk, hcd⟩ := F.ex
  refine fn_of lk hcd S len fun A outer s H vs Q E hr hsp => ?_
  obtain ⟨t, h, q⟩ := hbody cdv A outer s H vs Q E hr hsp
  exact ⟨t, h.nox, q⟩
/-- how its arguments bind (no defaults): h is «fun _ _ _ _ _ _ us hl => match us, hl with | [_, _], _ => rfl», one _ a parameter -/
theorem Fun.binds {x qual : Str} {st : Stmt} {f : Addr} {fd : FuncData} {ps : List Str} (F : Fun K x qual st f fd)
    (h : ∀ (kV doc pm : Value) (an : Option Addr) (cdv ct : Value) (us : List Value), us.length = ps.length → bindArgs (PySem.W.fnOf x qual (defArgs st) (defBody st) (defScope st) .none kV doc pm an cdv ct) ⟨us, []⟩ = pure (ps.zip us)) : Binds K fd ps [] := by
  obtain ⟨oc, od, kV, doc, pm, an, cdv, ct, osl, rfl, lk, hcd⟩ := F.ex
  exact .all (h kV doc pm an cdv ct)
theorem fun_mk {x qual : Str} {st : Stmt} {f : Addr} {oc : Value} {od an : Option Addr} {osl : Array (Option Value)} {kV doc pm cdv ct : Value} (l : K.lookup f = some ⟨oc, od, .func (PySem.W.fnOf x qual (defArgs st) (defBody st) (defScope st) .none kV doc pm an cdv ct), osl⟩)
    (c : PySem.W.codeIn K cdv qual = true) (k : PySem.W.keepIn K (.ref f) = true) : Fun K x qual st f (PySem.W.fnOf x qual (defArgs st) (defBody st) (defScope st) .none kV doc pm an cdv ct) := ⟨⟨oc, od, kV, doc, pm, an, cdv, ct, osl, rfl, l, c⟩, k⟩
end
theorem hu_of {A : Around} {k : Nat} (hr : Room k A) : A.units + 1 < cLine := Nat.lt_of_le_of_lt (Nat.add_le_add_left (by decide : 1 ≤ 64) _) hr.units
theorem small1000 {n : Nat} (h : n ≤ 1000) : n < sizeLine := Nat.lt_of_le_of_lt h (by decide)

/-! ### expressions in short: the name that stands in the i-th slot -/
section
variable {X : Cx}
theorem pv (i : Nat) {x : Str} {pos : Pos} (hN : X.N[i]? = some x := by rfl) (hv : Vis X.env.scope x := by first | exact Or.inl rfl | exact Or.inr (Or.inl rfl) | exact Or.inr (Or.inr rfl)) (hd : (x == ("__debug__" : Str)) = false := by decide)
    (hcd : (x == ("__classdict__" : Str)) = false := by decide) : PE X (.Name x pos) (tVar i) := pe_var hN hv hd hcd
end

/-! ### tests -/
theorem iteF {A B : Prop} (h : B) : if false = true then A else B := by
  rw [if_neg Bool.false_ne_true]
  exact h
theorem iteT {A B : Prop} (h : A) : if true = true then A else B := by
  rw [if_pos rfl]
  exact h
theorem ite2 {c A B : Prop} [Decidable c] (h1 : c → A) (h2 : ¬ c → B) : if c then A else B := by
  by_cases h : c
  · rw [if_pos h]
    exact h1 h
  · rw [if_neg h]
    exact h2 h
theorem iteNS {c A B : Prop} [Decidable c] (hc : c) (h : B) : if (!decide c) = true then A else B := by
  rw [decide_eq_true hc]
  exact iteF h

/-! ### heaps -/
/-- all that was tracked is as it was -/
def Same (H H' : Hp) : Prop := ∀ b o, H b = some o → H' b = some o
theorem Same.refl (H : Hp) : Same H H := fun _ _ h => h
theorem Same.trans {H H1 H2 : Hp} (a : Same H H1) (b : Same H1 H2) : Same H H2 := fun c o h => b c o (a c o h)
theorem Same.free {H H' : Hp} (e : Same H H') {l : Addr} (h : H' l = Option.none) : H l = Option.none := by
  cases q : H l with
  | none => rfl
  | some o =>
    rw [e l o q] at h
    cases h
theorem Same.seq {K : PySem.W.Frag} {H H' : Hp} {a : Addr} {xs : List V} (e : Same H H') (h : SqL K H a xs) : SqL K H' a xs := by
  rcases h with (h | ⟨o, h⟩) | h
  · exact .inl (.inl (e _ _ h))
  · exact .inl (.inr ⟨o, e _ _ h⟩)
  · exact .inr h

end L2

-- part 1
section
set_option linter.all false
namespace FT

/-- the worth of a row of figures, the one of the least weight first -/
def worth (b : Int) : List Int → Int
  | [] => 0
  | x :: r => x + b * worth b r

def Figs (b : Int) (xs : List Int) : Prop := ∀ x ∈ xs, 0 ≤ x ∧ x < b
/-- the last figure is not nought -/
def NoZ (xs : List Int) : Prop := ∀ x, xs.getLast? = some x → x ≠ 0
structure Tape (b : Int) (xs : List Int) : Prop where
  figs : Figs b xs
  noz : NoZ xs

theorem worth_nil (b : Int) : worth b [] = 0 := rfl
theorem worth_cons (b x : Int) (r : List Int) : worth b (x :: r) = x + b * worth b r := rfl
theorem worth_append (b : Int) : ∀ xs ys : List Int, worth b (xs ++ ys) = worth b xs + b ^ xs.length * worth b ys
  | [], ys => by simp [worth]
  | x :: r, ys => by
    rw [List.cons_append, worth_cons, worth_cons, worth_append b r ys, List.length_cons, Int.pow_succ, Int.mul_add]
    have : b ^ r.length * b * worth b ys = b * (b ^ r.length * worth b ys) := by
      rw [Int.mul_comm (b ^ r.length) b, Int.mul_assoc]
    omega
theorem worth_snoc (b : Int) (xs : List Int) (x : Int) : worth b (xs ++ [x]) = worth b xs + b ^ xs.length * x := by
  rw [worth_append]; simp [worth]

theorem Figs.nil (b : Int) : Figs b [] := fun x h => by cases h
theorem Figs.cons {b x : Int} {r : List Int} : Figs b (x :: r) ↔ (0 ≤ x ∧ x < b) ∧ Figs b r := by
  constructor
  · intro h
    exact ⟨h x List.mem_cons_self, fun y hy => h y (List.mem_cons_of_mem _ hy)⟩
  · rintro ⟨h1, h2⟩ y hy
    rcases List.mem_cons.mp hy with rfl | hy
    · exact h1
    · exact h2 y hy
theorem Figs.append {b : Int} {xs ys : List Int} (h1 : Figs b xs) (h2 : Figs b ys) : Figs b (xs ++ ys) := fun x hx =>
  (List.mem_append.mp hx).elim (h1 x) (h2 x)
theorem Figs.snoc {b : Int} {xs : List Int} {x : Int} (h1 : Figs b xs) (h2 : 0 ≤ x ∧ x < b) : Figs b (xs ++ [x]) :=
  h1.append fun y hy => by rw [List.mem_singleton] at hy; subst hy; exact h2
theorem Figs.sub {b : Int} {xs ys : List Int} (h : Figs b ys) (s : ∀ x ∈ xs, x ∈ ys) : Figs b xs := fun x hx => h x (s x hx)
theorem Figs.take {b : Int} {xs : List Int} (h : Figs b xs) (n : Nat) : Figs b (xs.take n) := h.sub fun x hx => List.mem_of_mem_take hx
theorem Figs.drop {b : Int} {xs : List Int} (h : Figs b xs) (n : Nat) : Figs b (xs.drop n) := h.sub fun x hx => List.mem_of_mem_drop hx
theorem Figs.dropLast {b : Int} {xs : List Int} (h : Figs b xs) : Figs b xs.dropLast := h.sub fun x hx => List.dropLast_subset xs hx
theorem Figs.get {b : Int} {xs : List Int} (h : Figs b xs) {i : Nat} {x : Int} (e : xs[i]? = some x) : 0 ≤ x ∧ x < b := h x (List.mem_of_getElem? e)

theorem pow_pos' {b : Int} (h : 0 < b) (n : Nat) : 0 < b ^ n := Int.pow_pos h
theorem worth_nonneg {b : Int} (hb : 0 ≤ b) : ∀ {xs : List Int}, Figs b xs → 0 ≤ worth b xs
  | [], _ => Int.le_refl 0
  | x :: r, h => by
    obtain ⟨h1, h2⟩ := Figs.cons.mp h
    have ih := worth_nonneg hb h2
    have := Int.mul_nonneg hb ih
    rw [worth_cons]; omega
theorem worth_lt {b : Int} (hb : 0 < b) : ∀ {xs : List Int}, Figs b xs → worth b xs < b ^ xs.length
  | [], _ => by simp [worth]
  | x :: r, h => by
    obtain ⟨h1, h2⟩ := Figs.cons.mp h
    have ih := worth_lt hb h2
    have h3 : b * (worth b r + 1) ≤ b * b ^ r.length := Int.mul_le_mul_of_nonneg_left (by omega) (by omega)
    rw [worth_cons, List.length_cons, Int.pow_succ, Int.mul_comm (b ^ r.length) b]
    rw [Int.mul_add] at h3
    omega
theorem NoZ.nil : NoZ [] := fun x h => by simp at h
theorem NoZ.snoc {xs : List Int} {x : Int} (h : x ≠ 0) : NoZ (xs ++ [x]) := fun y hy => by
  rw [List.getLast?_concat] at hy; cases hy; exact h
theorem NoZ.tail {x : Int} {r : List Int} (h : NoZ (x :: r)) (hr : r ≠ []) : NoZ r := fun y hy => h y (by
  rw [List.getLast?_cons]
  cases hl : r.getLast? with
  | none => exact absurd (List.getLast?_eq_none_iff.mp hl) hr
  | some z => rw [hl] at hy; cases hy; rfl)
theorem Tape.tail {b x : Int} {r : List Int} (h : Tape b (x :: r)) : Tape b r := by
  by_cases hr : r = []
  · subst hr; exact ⟨Figs.nil b, NoZ.nil⟩
  · exact ⟨(Figs.cons.mp h.figs).2, h.noz.tail hr⟩
theorem Tape.nil (b : Int) : Tape b [] := ⟨Figs.nil b, NoZ.nil⟩
theorem worth_pos {b : Int} (hb : 0 < b) : ∀ {xs : List Int}, Tape b xs → xs ≠ [] → 0 < worth b xs
  | [], _, h => absurd rfl h
  | x :: r, h, _ => by
    obtain ⟨h1, h2⟩ := Figs.cons.mp h.figs
    rw [worth_cons]
    by_cases hr : r = []
    · subst hr
      have : x ≠ 0 := h.noz x rfl
      simp only [worth_nil]; omega
    · have ih := worth_pos hb h.tail hr
      have := Int.mul_pos hb ih
      omega
theorem worth_zero {b : Int} (hb : 0 < b) {xs : List Int} (h : Tape b xs) : worth b xs = 0 ↔ xs = [] := by
  constructor
  · intro e
    by_cases hx : xs = []
    · exact hx
    · have := worth_pos hb h hx; omega
  · rintro rfl; rfl
/-- a tape of n + 1 figures is worth at least the base to the n -/
theorem worth_ge {b : Int} (hb : 0 < b) : ∀ {xs : List Int}, Tape b xs → ∀ n, n + 1 = xs.length → b ^ n ≤ worth b xs
  | [], _, n, e => by simp at e
  | x :: r, h, n, e => by
    obtain ⟨h1, h2⟩ := Figs.cons.mp h.figs
    rw [worth_cons]
    cases n with
    | zero =>
      have hr : r = [] := by
        rw [List.length_cons] at e
        exact List.eq_nil_of_length_eq_zero (by omega)
      subst hr
      have : x ≠ 0 := h.noz x rfl
      simp only [worth_nil, Int.pow_zero]; omega
    | succ n =>
      rw [List.length_cons] at e
      have ih := worth_ge hb h.tail n (by omega)
      have h3 := Int.mul_le_mul_of_nonneg_left ih (Int.le_of_lt hb)
      rw [Int.pow_succ, Int.mul_comm]
      omega
theorem digit_eq {b x y p q : Int} (hb : 0 < b) (hx : 0 ≤ x ∧ x < b) (hy : 0 ≤ y ∧ y < b) (e : x + b * p = y + b * q) : x = y ∧ p = q := by
  have hx2 : (x + b * p) % b = x := by rw [Int.add_mul_emod_self_left]; exact Int.emod_eq_of_lt hx.1 hx.2
  have hy2 : (y + b * q) % b = y := by rw [Int.add_mul_emod_self_left]; exact Int.emod_eq_of_lt hy.1 hy.2
  have h : x = y := by rw [← hx2, e, hy2]
  subst h
  have h2 : b * p = b * q := by omega
  exact ⟨rfl, Int.eq_of_mul_eq_mul_left (by omega) h2⟩
/-- every number has just one tape -/
theorem tape_ext {b : Int} (hb : 0 < b) : ∀ {xs ys : List Int}, Tape b xs → Tape b ys → worth b xs = worth b ys → xs = ys
  | [], ys, _, h2, e => ((worth_zero hb h2).mp (by rw [← e]; rfl)).symm
  | x :: r, [], h1, _, e => (worth_zero hb h1).mp e
  | x :: r, y :: t, h1, h2, e => by
    obtain ⟨d, e2⟩ := digit_eq hb (Figs.cons.mp h1.figs).1 (Figs.cons.mp h2.figs).1 e
    rw [d, tape_ext hb h1.tail h2.tail e2]

/-! ### noughts at the end cut off -/
def trim : List Int → List Int
  | [] => []
  | x :: r => if trim r = [] ∧ x = 0 then [] else x :: trim r
theorem trim_sub : ∀ {xs : List Int} {x : Int}, x ∈ trim xs → x ∈ xs
  | [], _, h => h
  | y :: r, x, h => by
    unfold trim at h
    split at h
    · cases h
    · rcases List.mem_cons.mp h with rfl | h
      · exact List.mem_cons_self
      · exact List.mem_cons_of_mem _ (trim_sub h)
theorem trim_noz : ∀ xs : List Int, NoZ (trim xs)
  | [] => NoZ.nil
  | y :: r => by
    unfold trim
    split
    · exact NoZ.nil
    · rename_i h
      intro z hz
      rw [List.getLast?_cons] at hz
      cases hl : (trim r).getLast? with
      | none =>
        rw [hl] at hz; cases hz
        have : trim r = [] := List.getLast?_eq_none_iff.mp hl
        exact fun z => h ⟨this, z⟩
      | some u =>
        rw [hl] at hz; cases hz
        exact trim_noz r u hl
theorem trim_worth (b : Int) : ∀ xs : List Int, worth b (trim xs) = worth b xs
  | [] => rfl
  | y :: r => by
    have ih := trim_worth b r
    unfold trim
    split
    · rename_i h
      rw [h.1] at ih
      rw [worth_cons, ← ih, h.2, worth_nil, Int.mul_zero]; rfl
    · rw [worth_cons, worth_cons, ih]
theorem Figs.trim {b : Int} {xs : List Int} (h : Figs b xs) : Figs b (trim xs) := h.sub fun x hx => trim_sub hx
theorem Figs.tape {b : Int} {xs : List Int} (h : Figs b xs) : Tape b (FT.trim xs) := ⟨h.trim, trim_noz xs⟩
theorem trim_snoc_zero (xs : List Int) : trim (xs ++ [0]) = trim xs := by
  induction xs with
  | nil => simp [trim]
  | cons x r ih => rw [List.cons_append]; unfold trim; rw [ih]
theorem trim_of_noz : ∀ {xs : List Int}, NoZ xs → trim xs = xs
  | [], _ => rfl
  | x :: r, h => by
    unfold trim
    by_cases hr : r = []
    · subst hr
      have : x ≠ 0 := h x rfl
      simp [trim, this]
    · rw [trim_of_noz (h.tail hr), if_neg (fun z => hr z.1)]
theorem trim_len : ∀ xs : List Int, (trim xs).length ≤ xs.length
  | [] => Nat.le_refl _
  | x :: r => by
    have := trim_len r
    unfold trim; split
    · simp
    · rw [List.length_cons, List.length_cons]; omega
/-- one turn of the loop that cuts -/
theorem trim_turn {xs : List Int} (hn : xs ≠ []) (h : xs.getLast? = some 0) : trim xs.dropLast = trim xs := by
  have e : xs = xs.dropLast ++ [0] := by
    have q := List.dropLast_concat_getLast hn
    rw [List.getLast?_eq_some_getLast hn] at h
    have z : xs.getLast hn = 0 := Option.some.inj h
    rw [z] at q
    exact q.symm
  conv => rhs; rw [e, trim_snoc_zero]
theorem trim_stop {xs : List Int} (h : xs = [] ∨ ∃ x, xs.getLast? = some x ∧ x ≠ 0) : trim xs = xs := by
  refine trim_of_noz fun y hy => ?_
  rcases h with rfl | ⟨x, e, hx⟩
  · simp at hy
  · rw [e] at hy; cases hy; exact hx

/-! ### which of two is worth more -/
theorem pow_le {b : Int} (hb : 1 ≤ b) {m n : Nat} (h : m ≤ n) : b ^ m ≤ b ^ n := by
  induction n with
  | zero => have : m = 0 := by omega
            subst this; exact Int.le_refl _
  | succ n ih =>
    by_cases e : m = n + 1
    · subst e; exact Int.le_refl _
    · have q := ih (by omega)
      have p : 0 < b ^ n := Int.pow_pos (by omega)
      have z : b ^ n * 1 ≤ b ^ n * b := Int.mul_le_mul_of_nonneg_left hb (by omega)
      rw [Int.pow_succ]; omega
theorem worth_shorter {b : Int} (hb : 2 ≤ b) {xs ys : List Int} (hx : Figs b xs) (hy : Tape b ys) (h : xs.length < ys.length) : worth b xs < worth b ys := by
  have h1 := worth_lt (by omega) hx
  have h2 := worth_ge (by omega) hy (ys.length - 1) (by omega)
  have h3 : b ^ xs.length ≤ b ^ (ys.length - 1) := pow_le (by omega) (by omega)
  omega
theorem worth_split (b : Int) (xs : List Int) {k : Nat} {x : Int} (h : xs[k]? = some x) : worth b xs = worth b (xs.take k) + b ^ k * (x + b * worth b (xs.drop (k + 1))) := by
  have hk : k < xs.length := (List.getElem?_eq_some_iff.mp h).1
  have e : xs = xs.take k ++ x :: xs.drop (k + 1) := by
    have q := List.take_append_drop k xs
    rw [List.drop_eq_getElem_cons hk] at q
    have z : xs[k] = x := (List.getElem?_eq_some_iff.mp h).2
    rw [z] at q
    exact q.symm
  conv => lhs; rw [e]
  rw [worth_append, worth_cons, List.length_take, Nat.min_eq_left (by omega)]
theorem worth_at {b : Int} (hb : 2 ≤ b) {xs ys : List Int} (hx : Figs b xs) (hy : Figs b ys) {k : Nat} {x y : Int} (ex : xs[k]? = some x) (ey : ys[k]? = some y) (ed : xs.drop (k + 1) = ys.drop (k + 1)) (h : x < y) : worth b xs < worth b ys := by
  rw [worth_split b xs ex, worth_split b ys ey, ed]
  have h1 := worth_lt (by omega) (hx.take k)
  have h2 := worth_nonneg (by omega) (hy.take k)
  have hk : k ≤ xs.length := Nat.le_of_lt (List.getElem?_eq_some_iff.mp ex).1
  rw [List.length_take, Nat.min_eq_left hk] at h1
  have p : 0 < b ^ k := Int.pow_pos (by omega)
  have q : b ^ k * (x + b * worth b (List.drop (k + 1) ys) + 1) ≤ b ^ k * (y + b * worth b (List.drop (k + 1) ys)) := Int.mul_le_mul_of_nonneg_left (by omega) (by omega)
  rw [Int.mul_add (b ^ k) _ 1] at q
  omega
/-- -1, 0 or 1 -/
def ord (x y : Int) : Int := if x < y then -1 else if y < x then 1 else 0
theorem ord_lt {x y : Int} (h : x < y) : ord x y = -1 := by unfold ord; rw [if_pos h]
theorem ord_gt {x y : Int} (h : y < x) : ord x y = 1 := by unfold ord; rw [if_neg (by omega), if_pos h]
theorem ord_eq (x : Int) : ord x x = 0 := by unfold ord; rw [if_neg (by omega), if_neg (by omega)]

theorem getLast_split {xs : List Int} {x : Int} (h : xs.getLast? = some x) : xs = xs.dropLast ++ [x] := by
  have hn : xs ≠ [] := by rintro rfl; simp at h
  have q := List.dropLast_concat_getLast hn
  rw [List.getLast?_eq_some_getLast hn] at h
  rw [Option.some.inj h] at q
  exact q.symm
theorem noz_of_ge {b : Int} {fs : List Int} {n : Nat} (hb : 0 < b) (hf : Figs b fs) (hl : fs.length = n + 1) (h : b ^ n ≤ worth b fs) : NoZ fs := by
  intro x hx e
  subst e
  have q := getLast_split hx
  have l : fs.dropLast.length = n := by rw [List.length_dropLast, hl]; rfl
  have z := worth_lt hb hf.dropLast
  rw [q, worth_snoc, l, Int.mul_zero] at h
  rw [l] at z
  omega
theorem powl {a b : Int} (h0 : 0 ≤ a) (h : a ≤ b) : ∀ n : Nat, a ^ n ≤ b ^ n
  | 0 => by rw [Int.pow_zero, Int.pow_zero]; exact Int.le_refl _
  | n + 1 => by
    rw [Int.pow_succ, Int.pow_succ]
    exact Int.mul_le_mul (powl h0 h n) h h0 (Int.pow_nonneg (by omega))
end FT

end
-- part 2
section
set_option Elab.async false
set_option linter.all false
set_option maxRecDepth 100000
namespace FT
open PySem PySem.Spec PyProof.Rows L2

/-! ### numbers -/
theorem small500 {n : Nat} (h : n ≤ 500) : n ≤ sizeLine := Nat.le_of_lt (small1000 (by omega))
theorem bits_of {x : Int} {n : Nat} (h : x.natAbs < 2 ^ n) : Builtin.Int.intBits x ≤ n := by
  unfold Builtin.Int.intBits
  split
  · exact Nat.zero_le _
  · rename_i hx
    have h0 : x.natAbs ≠ 0 := fun z => hx (by rw [Int.natAbs_eq_zero] at z; rw [z]; rfl)
    exact (Nat.log2_lt h0).mpr h
def CDivB (_ j : Int) : Prop := 0 < j ∧ j < 2 ^ 64
def CMulB (i j : Int) : Prop := ∃ n m, n ≤ 2 ^ 20 ∧ m ≤ 2 ^ 20 ∧ i.natAbs < 2 ^ n ∧ j.natAbs < 2 ^ m
section
variable {X : Cx}
theorem log2_small {j : Int} (h : 0 < j) (h2 : j < 2 ^ 64) : j.natAbs.log2 < 9000 := by
  have h0 : j.natAbs ≠ 0 := by omega
  refine Nat.lt_trans ((Nat.log2_lt h0).mpr (show j.natAbs < 2 ^ 64 by omega)) (by decide)
theorem op_fdivB : OpR X (binaryOp .FloorDiv) (rI CDivB fun i j => .int (i / j)) := opI fun i j _ _ _ _ _ hc q => by
  have h1 : (0 : Int) < j := hc.1
  exact floordiv_int (by omega) (by rw [Int.fdiv_eq_ediv_of_nonneg i (by omega)]; exact q) (.inl (PyProof.noPylong_of_log2 (log2_small hc.1 hc.2)))
theorem op_mulB : OpR X (binaryOp .Mult) (rI CMulB fun i j => .int (i * j)) := opI fun _ _ _ _ _ _ _ hc q => by
  obtain ⟨n, m, hn, hm, h1, h2⟩ := hc
  exact mul_int q (IntMulOk.of_bits (Nat.le_trans (bits_of h1) hn) (Nat.le_trans (bits_of h2) hm))

/-! ### lists of ints compared -/
theorem vals_int_at {ns : List Int} {its : List Value} (r : Vals (ns.map V.int) its) {j : Nat} (h : j < its.toArray.size) : ∃ t, its.toArray[j] = Value.int (ns.getD j 0) t := by
  have hl := r.length
  rw [List.length_map] at hl
  have hj : j < ns.length := by rw [hl]; simpa using h
  obtain ⟨u, e, ru⟩ := r.get (i := j) (x := V.int ns[j]) (by rw [List.getElem?_map, List.getElem?_eq_getElem hj]; rfl)
  obtain ⟨t, rfl⟩ := ru
  refine ⟨t, ?_⟩
  have e2 : its.toArray[j] = its[j]'(by simpa using h) := by simp
  rw [e2]
  have e3 : its[j]? = some (its[j]'(by simpa using h)) := List.getElem?_eq_getElem _
  rw [e3] at e
  rw [Option.some.inj e, List.getD_eq_getElem?_getD, List.getElem?_eq_getElem hj]
  rfl
theorem all_eq {ns ms : List Int} (h : ns.length = ms.length) : ((List.range ns.length).all fun j => ns.getD j 0 == ms.getD j 0) = decide (ns = ms) := by
  by_cases e : ns = ms
  · subst e; simp
  · rw [decide_eq_false e]
    rw [Bool.eq_false_iff]
    intro z
    refine e (List.ext_getElem h fun i h1 h2 => ?_)
    rw [List.all_eq_true] at z
    have q := z i (List.mem_range.mpr h1)
    rw [beq_iff_eq, List.getD_eq_getElem?_getD, List.getD_eq_getElem?_getD, List.getElem?_eq_getElem h1, List.getElem?_eq_getElem h2] at q
    exact q
def rEqL (K : PySem.W.Frag) : R2 := fun x y H Q => ∃ a b ns ms, x = .ref a ∧ y = .ref b ∧ SqL K H a (List.map V.int ns) ∧ SqL K H b (List.map V.int ms) ∧ Q (.bl (decide (ns = ms))) H
def rNeL (K : PySem.W.Frag) : R2 := fun x y H Q => ∃ a b ns ms, x = .ref a ∧ y = .ref b ∧ SqL K H a (List.map V.int ns) ∧ SqL K H b (List.map V.int ms) ∧ Q (.bl (!decide (ns = ms))) H
theorem op_eqL (hu : X.A.units < cLine) : OpR X (compareOp .Eq) (rEqL X.K) := by
  intro pins s σ H x y v u Q I rx ry h
  obtain ⟨a, b, ns, ms, rfl, rfl, ha, hb, q⟩ := h
  cases rx; cases ry
  obtain ⟨its, r1, p1, z1⟩ := I.list ha
  obtain ⟨jts, r2, p2, z2⟩ := I.list hb
  have l1 := r1.length; have l2 := r2.length
  rw [List.length_map] at l1 l2
  by_cases hl : ns.length = ms.length
  · have e0 : its.toArray.size = jts.toArray.size := by simp only [List.size_toArray]; omega
    have e1 : its.toArray.size = ns.length := by simp only [List.size_toArray]; omega
    refine SeqAt.eq_listAt (e := fun j => ns.getD j 0 == ms.getD j 0) p1.isList p2.isList e0 hu (fun j h1 h2 => ?_) ?_
    · obtain ⟨t, e2⟩ := vals_int_at r1 h1
      obtain ⟨t', e3⟩ := vals_int_at r2 h2
      rw [e2, e3]
      exact SeqAt.EqAt.int_int _ _ _ _
    · rw [e1, all_eq hl]
      exact ⟨.bl _, H, I, rfl, q⟩
  · refine SeqAt.eq_list_lengthsAt p1.isList p2.isList (by simp only [List.size_toArray, bne_iff_ne]; omega) hu ?_
    rw [decide_eq_false (fun e => hl (by rw [e]))] at q
    exact ⟨.bl _, H, I, rfl, q⟩
theorem op_neL (hu : X.A.units < cLine) : OpR X (compareOp .NotEq) (rNeL X.K) := by
  intro pins s σ H x y v u Q I rx ry h
  obtain ⟨a, b, ns, ms, rfl, rfl, ha, hb, q⟩ := h
  cases rx; cases ry
  obtain ⟨its, r1, p1, z1⟩ := I.list ha
  obtain ⟨jts, r2, p2, z2⟩ := I.list hb
  have l1 := r1.length; have l2 := r2.length
  rw [List.length_map] at l1 l2
  by_cases hl : ns.length = ms.length
  · have e0 : its.toArray.size = jts.toArray.size := by simp only [List.size_toArray]; omega
    have e1 : its.toArray.size = ns.length := by simp only [List.size_toArray]; omega
    refine SeqAt.RcNeAt.lists (e := fun j => ns.getD j 0 == ms.getD j 0) p1.isList p2.isList e0 hu (fun j h1 h2 => ?_) _ _ _ _ ?_
    · obtain ⟨t, e2⟩ := vals_int_at r1 h1
      obtain ⟨t', e3⟩ := vals_int_at r2 h2
      rw [e2, e3]
      exact SeqAt.EqAt.int_int _ _ _ _
    · rw [e1, all_eq hl]
      exact ⟨.bl _, H, I, rfl, q⟩
  · refine SeqAt.RcNeAt.lists_lengths p1.isList p2.isList (by simp only [List.size_toArray, bne_iff_ne]; omega) hu _ _ _ _ ?_
    rw [decide_eq_false (fun e => hl (by rw [e]))] at q
    exact ⟨.bl _, H, I, rfl, q⟩
/-- against the empty list -/
def rEqN (K : PySem.W.Frag) : R2 := fun x y H Q => ∃ a b xs, x = .ref a ∧ y = .ref b ∧ SqL K H a xs ∧ SqL K H b [] ∧ Q (.bl xs.isEmpty) H
def rNeN (K : PySem.W.Frag) : R2 := fun x y H Q => ∃ a b xs, x = .ref a ∧ y = .ref b ∧ SqL K H a xs ∧ SqL K H b [] ∧ Q (.bl (!xs.isEmpty)) H
theorem op_eqN (hu : X.A.units < cLine) : OpR X (compareOp .Eq) (rEqN X.K) := by
  intro pins s σ H x y v u Q I rx ry h
  obtain ⟨a, b, xs, rfl, rfl, ha, hb, q⟩ := h
  cases rx; cases ry
  obtain ⟨its, r1, p1, z1⟩ := I.list ha
  obtain ⟨jts, r2, p2, z2⟩ := I.list hb
  have l1 := r1.length; have l2 := r2.length
  have l3 : jts.length = 0 := l2.symm
  cases xs with
  | nil =>
    have l4 : its.length = 0 := l1.symm
    refine SeqAt.eq_listAt (e := fun _ => true) p1.isList p2.isList (by simp only [List.size_toArray]; omega) hu (fun j h1 h2 => absurd h1 (by simp only [List.size_toArray]; omega)) ?_
    have e : ((List.range its.toArray.size).all fun _ => true) = true := by simp
    rw [e]
    exact ⟨.bl _, H, I, rfl, q⟩
  | cons x r =>
    rw [List.length_cons] at l1
    exact SeqAt.eq_list_lengthsAt p1.isList p2.isList (by simp only [List.size_toArray, bne_iff_ne]; omega) hu ⟨.bl _, H, I, rfl, q⟩
theorem op_neN (hu : X.A.units < cLine) : OpR X (compareOp .NotEq) (rNeN X.K) := by
  intro pins s σ H x y v u Q I rx ry h
  obtain ⟨a, b, xs, rfl, rfl, ha, hb, q⟩ := h
  cases rx; cases ry
  obtain ⟨its, r1, p1, z1⟩ := I.list ha
  obtain ⟨jts, r2, p2, z2⟩ := I.list hb
  have l1 := r1.length; have l2 := r2.length
  have l3 : jts.length = 0 := l2.symm
  cases xs with
  | nil =>
    have l4 : its.length = 0 := l1.symm
    refine SeqAt.RcNeAt.lists (e := fun _ => true) p1.isList p2.isList (by simp only [List.size_toArray]; omega) hu (fun j h1 h2 => absurd h1 (by simp only [List.size_toArray]; omega)) _ _ _ _ ?_
    have e : ((List.range its.toArray.size).all fun _ => true) = true := by simp
    rw [e]
    exact ⟨.bl _, H, I, rfl, q⟩
  | cons x r =>
    rw [List.length_cons] at l1
    exact SeqAt.RcNeAt.lists_lengths p1.isList p2.isList (by simp only [List.size_toArray, bne_iff_ne]; omega) hu _ _ _ _ ⟨.bl _, H, I, rfl, q⟩

/-! ### isinstance -/
def rIsi (K : PySem.W.Frag) : List V → Hp → VK → Prop := fun xs H Q => ∃ x T t b, xs = [x, .ty T] ∧ TyOf K H x t ∧ PySem.W.kitOne K t (.type T) = some b ∧ Q (.bl b) H
theorem call_isi : CallR X (.builtin "isinstance") (rIsi X.K) := by
  intro pins s σ H xs us Q I r h
  obtain ⟨x, T, t, b, rfl, ty, e, q⟩ := h
  obtain ⟨u, c, rfl, rx, rc⟩ := Vals.two r
  cases (show c = Value.type T from rc)
  exact isinst_ok I rx ty e fun tk => ⟨.bl b, H, I.tok tk, rfl, q⟩
theorem vals_ty : ∀ {Ts : List String} {us : List Value}, Vals (Ts.map V.ty) us → us = Ts.map Value.type
  | [], _, .nil => rfl
  | T :: Ts, _, .cons r t => by
    rw [vals_ty t]
    rw [show _ = Value.type T from r]
    rfl
/-- a list or an int, by one of several types -/
inductive Ty2 (H : Hp) : V → Value → Prop where
  | int (i : Int) : Ty2 H (.int i) (.type "int")
  | lst {a : Addr} {xs : List V} (e : H a = some (.lst xs)) : Ty2 H (.ref a) (.type "list")
def rIsiT (K : PySem.W.Frag) : List V → Hp → VK → Prop := fun xs H Q => ∃ (x : V) (p : Addr) (Ts : List String) (t : Value) (b : Bool), xs = [x, .ref p] ∧ H p = some (.tup (Ts.map V.ty)) ∧ Ty2 H x t ∧ PySem.W.kitAny K t (Ts.map Value.type) = some b ∧ Q (.bl b) H
theorem call_isiT : CallR X (.builtin "isinstance") (rIsiT X.K) := by
  intro pins s σ H xs us Q I r h
  obtain ⟨x, p, Ts, t, b, rfl, hp, ty, e, q⟩ := h
  obtain ⟨u, c, rfl, rx, rc⟩ := Vals.two r
  cases (show c = Value.ref p from rc)
  obtain ⟨_, its, ri, o, ho, hc, n, hd⟩ := (show ObjOk X.prog X.w H s.heap p (.tup (Ts.map V.ty)) from I.hok p _ hp)
  have ei := vals_ty ri
  subst ei
  obtain ⟨oc, od, odt, osl⟩ := o
  simp only at hc hd
  subst hc hd
  have fin : ∀ tk, EP X pins σ Q (.bool b) { s with toks := tk } := fun tk => ⟨.bl b, H, I.tok tk, rfl, q⟩
  cases ty with
  | int i =>
    obtain ⟨tt, z⟩ := (show ∃ t, u = Value.int i t from rx)
    cases z
    exact PySem.W.kia_tup PySem.W.kitx_int I.kIn True.intro ho e (fun z => nomatch z) fin
  | @lst a xs ea =>
    cases (show u = Value.ref a from rx)
    obtain ⟨_, _, n', _, h1⟩ := (show ObjOk X.prog X.w H s.heap a (.lst xs) from I.hok a _ ea)
    exact PySem.W.kia_tup PySem.W.kitx_list I.kIn ⟨_, h1, rfl⟩ ho e (fun z => nomatch z) fin
end
section
variable {K : PySem.W.Frag}
theorem k_int_int : PySem.W.kitOne K (.type "int") (.type "int") = some true := by rfl
theorem k_int_bool : PySem.W.kitOne K (.type "int") (.type "bool") = some false := by rfl
theorem k_int_list : PySem.W.kitOne K (.type "int") (.type "list") = some false := by rfl
theorem k_int_str : PySem.W.kitOne K (.type "int") (.type "str") = some false := by rfl
theorem k_int_lt : PySem.W.kitAny K (.type "int") ([("list" : String), "tuple"].map Value.type) = some false := by rfl
theorem k_list_list : PySem.W.kitOne K (.type "list") (.type "list") = some true := by rfl
theorem k_list_tuple : PySem.W.kitOne K (.type "list") (.type "tuple") = some false := by rfl
theorem k_tuple_tuple : PySem.W.kitOne K (.type "tuple") (.type "tuple") = some true := by rfl
theorem k_list_lt : PySem.W.kitAny K (.type "list") ([("list" : String), "tuple"].map Value.type) = some true := by rfl
end
end FT

end
-- part 3
section
set_option Elab.async false
set_option linter.all false
set_option maxRecDepth 100000
namespace FT
open PySem PySem.Spec PyProof.Rows L2
/-! ### a new list that a comprehension laid -/
theorem objThere {P : Program} {w : World} {H : Hp} {h : Heap} {a : Addr} {o : HO} (x : ObjOk P w H h a o) : ∃ u, h.get? a = some u := by
  cases o with
  | lst xs => obtain ⟨_, _, _, _, e⟩ := x; exact ⟨_, e⟩
  | tup xs => obtain ⟨_, _, _, o, e, _⟩ := x; exact ⟨_, e⟩
  | dK kvs => obtain ⟨_, _, _, _, o, _, _, e, _⟩ := x; exact ⟨_, e⟩
  | dT kvs => obtain ⟨_, _, _, _, o, _, _, e, _⟩ := x; exact ⟨_, e⟩
  | set S n => obtain ⟨o, _, _, _, e, _⟩ := x; exact ⟨_, e⟩
  | ins C dx fs => obtain ⟨_, _, _, e, _⟩ := x; exact ⟨_, e⟩
  | own y => exact x
  | xd fs => obtain ⟨_, ⟨_, _, _, e, _⟩, _⟩ := x; exact ⟨_, e⟩
  | rng lo hi => obtain ⟨_, _, _, e⟩ := x; exact ⟨_, e⟩
  | frz ob u => obtain ⟨e, _⟩ := x; exact ⟨_, e⟩
  | tbl ps => exact ⟨_, (show h.get? a = some _ from x)⟩
  | met f y => exact ⟨_, (show h.get? a = some _ from x)⟩
  | ext φ => obtain ⟨_, ⟨_, e⟩, _⟩ := x; exact ⟨_, e⟩
section
variable {X : Cx} {pins : List (Addr × Obj)} {σ : L2.St} {H : Hp} {s : Shared} {h' : Heap} {a : Addr} {o : HO}
theorem hokFree {P : Program} {w : World} {h : Heap} (x : HOk P w H h) (e : h.get? a = none) : H a = none := by
  cases q : H a with
  | none => rfl
  | some u =>
    obtain ⟨v, z⟩ := objThere (x a u q)
    rw [e] at z; cases z
theorem Inv.laidN {t' : Nat} (I : Inv X pins σ H s) (k : ∀ b u, s.heap.get? b = some u → h'.get? b = some u) (hp : s.heap.get? a = none) (new : ObjOk X.prog X.w (upd H a o) h' a o) :
    Inv X pins σ (upd H a o) { s with heap := h', toks := t' } := by
  have hn : H a = none := hokFree I.hok hp
  have ne : ∀ b u, s.heap.get? b = some u → b ≠ a := fun b u q z => by subst z; rw [hp] at q; cases q
  refine I.un (t' := t') ⟨fun b u q _ _ _ => k b u q, fun b u q _ _ _ => ⟨u.slots, k b u q⟩, fun b u q n _ => by rw [upd_ne (ne b u q)]; exact n, fun b u q _ => ⟨u, k b u q⟩,
    fun b xs q => by rw [upd_ne (ne_of_none q hn)]; exact q, fun b u xs q => by rw [upd_ne (ne_of_none q hn)]; exact q, fun b ps q => ⟨#[], by rw [upd_ne (ne_of_none q hn), q]; simp⟩⟩ ?_
  intro b u e
  by_cases hb : b = a
  · subst hb; rw [upd_same] at e; cases e; exact new
  · rw [upd_ne hb] at e
    exact (I.hok b u e).stay (fun c v _ q => k c v q) (fun c q => by rw [upd_ne (ne_of_none q hn)]; exact q) fun c xs q => by rw [upd_ne (ne_of_none q hn)]; exact q
end
def mixAt (ns : List Int) (j : Nat) : Int := (ns.getD j 0 + 7919 * (j : Int)) * 48271 % 1000003
def mixL (ns : List Int) : List Int := (List.range ns.length).map (mixAt ns)
theorem mixL_len (ns : List Int) : (mixL ns).length = ns.length := by unfold mixL; rw [List.length_map, List.length_range]
theorem vals_mix {g : Nat → Int} {F : Value → Value → Prop} (hF : ∀ (j : Nat) v y, (∃ t, v = Value.int (j : Int) t) → F v y → ∃ t, y = Value.int (g j) t) :
    ∀ (n k : Nat) {vs ys : List Value}, vs.length = n → (∀ (j : Nat) v, vs[j]? = some v → ∃ t, v = Value.int ((k + j : Nat) : Int) t) → Paired F vs ys → Vals ((List.range' k n).map fun j => V.int (g j)) ys
  | 0, k, vs, ys, hl, _, hp => by
    have : vs = [] := List.eq_nil_of_length_eq_zero hl
    subst this
    cases hp
    exact .nil
  | n + 1, k, _, _, hl, _, .nil => by simp at hl
  | n + 1, k, v :: vs, y :: ys, hl, hv, .cons r t => by
    obtain ⟨tt, e⟩ := hF k v y (by have := hv 0 v rfl; simpa using this) r
    rw [List.range'_succ, List.map_cons]
    refine .cons ⟨tt, e⟩ (vals_mix hF n (k + 1) (by simpa using hl) (fun j u hu => ?_) t)
    have := hv (j + 1) u (by simpa using hu)
    rw [show k + 1 + j = k + (j + 1) by omega]
    exact this
section
variable {prog : Program} {w : World} {A : Around} {E : Value → Shared → Prop} {s : Shared} {env : Env}
theorem elt_mixed {xs ks : Str} {q1 q2 q3 q4 q5 q6 q7 q8 q9 q10 q11 : Pos} {j1 j2 j3} {C c a : Addr} {m : Str → Option Value} {its : Array Value} {i : Nat} {v : Int} {t t2 : Tok}
    (hk : env.scope.kind = .function) (kx : env.kindOf ks = some .local) (kv : env.kindOf xs = some .cell) (hc : env.cells.lookup xs = some c) (hn : s.heap.Ns env.locals m) (hm : m ks = some (.int (i : Int) t))
    (hcell : s.heap.IsCell c (some (.ref a))) (hl : s.heap.IsList a its) (hx : its[i]? = some (.int v t2)) (hi : i < 2 ^ 63) (d1 : (xs == ("__debug__" : Str)) = false) (d2 : (ks == ("__debug__" : Str)) = false) :
    wpAny (model prog w) A (eval (.BinOp (.BinOp (.BinOp (.Subscript (.Name xs q1) (.Name ks q2) q3) .Add (.BinOp (.Constant (.int 7919) j1 q4) .Mult (.Name ks q5) q6) q7) .Mult (.Constant (.int 48271) j2 q8) q9) .Mod (.Constant (.int 1000003) j3 q10) q11) env)
      (fun y s₄ => (∃ t, y = .int ((v + 7919 * (i : Int)) * 48271 % 1000003) t) ∧ Keeps s s₄) E s := by
  refine wpAny_BinOp (wpAny_BinOp (wpAny_BinOp (Subscript_ (wpAny_Name (wpAny_loadName_cell hk kv hc hcell (wpAny_Name (wpAny_loadName_local hk kx hn hm (item_listR hl (by omega) (by omega) (by simpa using hx) ?_ rfl)) d2)) d1))))
  refine wpAny_BinOp (wpAny_Constant_int (wpAny_Name (wpAny_loadName_local (m := m) hk kx hn hm (mul_int (add_int (wpAny_Constant_int (mul_int (wpAny_Constant_int (mod_int' (by decide) ?_)) (IntMulOk.of_right (by decide))))) (IntMulOk.of_left (by decide)))) d2))
  exact ⟨⟨_, congrArg (fun z => Value.int z _) (Int.fmod_eq_emod_of_nonneg _ (by decide))⟩, s.heap, _, rfl, fun _ _ e => e⟩
end
section
variable {X : Cx}
def tMixed (K : PySem.W.Frag) (i : Nat) : TE := fun σ H Q => ∃ a ns, σ[i]? = some (some (.ref a)) ∧ SqL K H a (List.map V.int ns) ∧ ns.length ≤ 500 ∧ ∀ D, H D = none → Q (.ref D) (upd H D (.lst (List.map V.int (mixL ns))))
theorem pe_mixed {i : Nat} {xs ks : Str} {q1 q2 q3 q4 q5 q6 q7 q8 q9 q10 q11 q12 q13 q14 q15 q16 q17 q18 : Pos} {j1 j2 j3} {scope : Scope} {cl : List (Str × Addr)} {c : Addr}
    (hcalm : X.calm = true) (hN : X.N[i]? = some xs) (hv : X.env.kindOf xs = some .cell) (hc : X.env.cells.lookup xs = some c) (hclos : closureFor scope X.env = pure cl) (hcl : cl.lookup xs = some c)
    (hcell : ∀ y ∈ scope.names, y.2 ≠ .cell) (hkind : scope.kind = .function) (hnames : ∀ y ∈ scope.names, y.2 = .local → scope.names.lookup y.1 = some .local) (hx : scope.names.lookup ks = some .local)
    (hkv : (relabel scope X.env).names.lookup xs = some .cell) (hg : Gl X "range") (hm : X.mg "range" = none) (hgl : Gl X "len") (hml : X.mg "len" = none)
    (d1 : (xs == ("__debug__" : Str)) = false) (d2 : (ks == ("__debug__" : Str)) = false) (d3 : (xs == ("__classdict__" : Str)) = false) :
    PE X (.ListComp (.BinOp (.BinOp (.BinOp (.Subscript (.Name xs q1) (.Name ks q2) q3) .Add (.BinOp (.Constant (.int 7919) j1 q4) .Mult (.Name ks q5) q6) q7) .Mult (.Constant (.int 48271) j2 q8) q9) .Mod (.Constant (.int 1000003) j3 q10) q11)
      [⟨.Name ks q17, .Call (.Name "range" q12) [.Call (.Name "len" q13) [.Name xs q14] [] q15] [] q16, [], 0⟩] scope q18) (tMixed X.K i) := by
  intro pins s σ H Q I h
  obtain ⟨a, ns, e, hS, h500, q⟩ := h
  have hh : X.A.handled = none := I.ok.hd hcalm
  have hvis : Vis X.env.scope xs := .inr (.inl hv)
  have hlen : PA X [.Call (.Name "len" q13) [.Name xs q14] [] q15] _ := pa_cons (pe_callB call_len_seq hgl hml PySem.boot_len (pa_cons (pe_var hN hvis d1 d3) pa_nil)) pa_nil
  have rd : ∀ R : List V → Hp → Prop, R [.int (ns.length : Int)] H → tCons (tCB (fun xs H Q => ∃ p ys, xs = [V.ref p] ∧ (SqL X.K H p ys ∨ SqT X.K H p ys) ∧ Q (.int ys.length) H) (tCons (tVar i) tNil)) tNil σ H R := by
    intro R r
    refine ⟨_, e, a, _, rfl, .inl hS, ?_⟩
    rw [List.length_map]
    exact r
  refine wpAny_ListComp_free (fun _ => true) (fun v y => ∀ j : Nat, (∃ t, v = Value.int (j : Int) t) → ∃ t, y = Value.int (mixAt ns j) t) hclos hcell hkind hnames hx
    (Call_ (ld_blt I hg hm boot_range (PyProof.Rows.callWith_type1 (thn (hlen q16 pins s σ H (fun vs H1 => vs = [.int (ns.length : Int)] ∧ H1 = H) I (rd _ ⟨rfl, rfl⟩)) fun us s1 ⟨vs, H1, I1, r1, q1⟩ => ?_) rfl rfl)))
  obtain ⟨rfl, rfl⟩ := q1
  obtain ⟨u, rfl, t, rfl⟩ := Vals.one r1
  refine call_range_1 (wpAny_pyIter_range (IsRange.new ..) (small_one (by omega) (by omega) (by omega) (by omega)) ?_)
  generalize hs2 : ({ s1 with heap := s1.heap.push { cls := .type "range", data := .fields #[.int 0 s1.toks, .int (ns.length : Int) t, .int 1 (s1.toks + 1)] }, toks := s1.toks + 1 + 1 } : Shared) = s2
  have k2 : ∀ b o, s1.heap.get? b = some o → s2.heap.get? b = some o := by subst hs2; exact fun b o z => Heap.get?_push_of_some _ z
  have I2 : Inv X pins σ H1 s2 := by subst hs2; exact I1.kept fun b o z => Heap.get?_push_of_some _ z
  have hsz : Builtin.Range.rangeSize 0 (ns.length : Int) 1 = (ns.length : Int) := by rw [rangeSize_one]; split <;> omega
  -- the script
  obtain ⟨m, hnm, hl⟩ := I2.loc
  obtain ⟨u, ru, lk⟩ := hl i xs _ hN e hvis
  cases (show u = Value.ref a from ru)
  obtain ⟨c', hc', hcl2⟩ : ∃ c', X.env.cells.lookup xs = some c' ∧ s2.heap.IsCell c' (some (.ref a)) := by
    rcases lk with ⟨z, _⟩ | ⟨_, c', h1, h2⟩
    · rw [hv] at z; cases z
    · exact ⟨c', h1, h2⟩
  rw [hc] at hc'; cases hc'
  obtain ⟨its, rv, pl, hz⟩ := I2.list hS
  have hil : ns.length = its.length := by have := rv.length; rwa [List.length_map] at this
  have nI : ∀ b o, s2.heap.get? b = some o → b ∉ [s2.heap.objs.size] := fun b o z hb => by
    rw [List.mem_singleton] at hb; subst hb; exact Nat.lt_irrefl _ (Heap.lt_size z)
  refine ⟨s2.heap.objs.size, [s2.heap.objs.size], [s2.heap.objs.size], ns.length, _, _, rfl, (Walks.range hh _ 0 1 ns.length).bound, small500 h500, ?_, ?_, ⟨?_, ?_⟩, ?_⟩
  · show IsRangeIter _ _ _ _ _
    rw [hsz]
    simpa using Heap.get?_push_size _ rfl
  · intro b hb
    rw [List.mem_singleton] at hb; subst hb
    show _ < (s2.heap.push _).objs.size
    rw [Heap.size_push]; exact Nat.lt_succ_self _
  · intro C j v s₃ m₃ E' hC hP hn' hm' hk htk
    exact wpAny_pure ⟨rfl, s₃.heap, _, rfl, fun _ _ z => z⟩
  · intro C j v s₃ m₃ E' hC hP _ hn' hm' hk htk
    obtain ⟨hj, t', rfl⟩ := hP
    have kk : ∀ b o, s2.heap.get? b = some o → s₃.heap.get? b = some o := fun b o z => hk b o (nI b o z) (Heap.get?_push_of_some _ z)
    have hlt : j < its.toArray.size := by simp only [List.size_toArray]; omega
    obtain ⟨t2, e2⟩ := vals_int_at rv hlt
    have ej : (0 : Int) + (j : Int) * 1 = (j : Int) := by omega
    rw [ej] at hm'
    refine thn (elt_mixed (C := C) (c := c) (a := a) (m := m₃) (its := its.toArray) (i := j) (v := ns.getD j 0) (t := t') (t2 := t2) (env := compEnvC scope cl C X.env) hkind (lookup_relabel_local hx) hkv hcl hn' hm' (hcl2.keeps kk) (pl.keeps kk).isList ?_ (by omega) d1 d2) ?_
    · rw [Array.getElem?_eq_getElem hlt, e2]
    · rintro y s₄ ⟨⟨t3, rfl⟩, hkp⟩
      refine ⟨fun j' ⟨t4, z⟩ => ?_, hkp⟩
      rw [ej] at z
      have : j = j' := by injection z with z1 _; omega
      subst this
      exact ⟨t3, rfl⟩
  · intro D h' tk ys vs hD hlD hplD hvl hP hF hk
    have kk : ∀ b o, s2.heap.get? b = some o → h'.get? b = some o := fun b o z => hk b o (nI b o z) (Heap.get?_push_of_some _ z)
    have hD2 : s2.heap.get? D = none := by
      cases z : s2.heap.get? D with
      | none => rfl
      | some o => rw [Heap.get?_push_of_some _ z] at hD; cases hD
    have eF : vs.filter (fun _ => true) = vs := List.filter_eq_self.mpr fun _ _ => rfl
    rw [eF] at hF
    have V1 := vals_mix (g := mixAt ns) (F := fun v y => ∀ j : Nat, (∃ t, v = Value.int (j : Int) t) → ∃ t, y = Value.int (mixAt ns j) t) (fun j v y hv hf => hf j hv) ns.length 0 hvl (fun j v hv => by
      obtain ⟨_, t5, e5⟩ := hP j v hv
      refine ⟨t5, ?_⟩
      rw [e5]
      congr 1
      omega) hF
    have eL : ((List.range' 0 ns.length).map fun j => V.int (mixAt ns j)) = List.map V.int (mixL ns) := by
      unfold mixL
      rw [List.range_eq_range', List.map_map]
      rfl
    rw [eL] at V1
    obtain ⟨nn, hnn⟩ := hplD
    have hHD : H1 D = none := hokFree I2.hok hD2
    refine ⟨.ref D, upd H1 D (.lst (List.map V.int (mixL ns))), ?_, rfl, q D hHD⟩
    refine Inv.laidN (t' := tk) (h' := h') (s := s2) I2 kk hD2 ⟨by rw [List.length_map, mixL_len]; exact small500 h500, ys.toList, nn, V1, ?_⟩
    rw [Array.toArray_toList]
    exact hnn
end
end FT

end
-- part 4
section
set_option Elab.async false
set_option linter.all false
set_option maxRecDepth 100000
namespace FT
open PySem PySem.Spec PyProof.Rows L2
/-! ### an exception's own object has no dict, and gets none in flight -/
def Dn (e : Addr) (h : Heap) : Prop := ∃ o, h.get? e = some o ∧ o.dict = none
theorem dict_mapFields (o : Obj) (f : Array Value → Array Value) : (o.mapFields f).dict = o.dict := by
  obtain ⟨c, d, dt, sl⟩ := o
  cases dt <;> rfl
section
variable {M : Model} {A : Around} {E : Value → Shared → Prop} {s : Shared} {bs : Heap} {ev : Env} {out : List Env} {F x : Addr} {c a0 : Value} {Q : Unit → Shared → Prop}
theorem entry_d {ob : Obj} {vs : Array Value} {hd0 : Value} {more : Bool} (q1 : A.frames = some (ev :: out)) (q2 : s.heap.FunFrames bs (ev :: out)) (q3 : ev.frame = some F) (q4 : s.heap.get? x = some ob) (q5 : bs.StaysIn s.heap)
    (q6 : bs.get? x = none) (q7 : ob.data = .fields vs) (q8 : 1 < vs.size) (q9 : vs[0]? = some a0) (q10 : ob.dict = none)
    (k : ∀ h', Heap.NotedW bs (ev :: out) x ob.cls a0 (rawInt F) s.heap h' → Dn x h' → Q () { s with heap := h' }) :
    wpAny M A (do let a ← frameOf ev; let pl ← entryPlaceOf F more; let b ← EntryCells.newEntry hd0 a .none (rawInt F) .none pl; setField (.ref x) 1 b) Q E s := by
  have off : x ∉ (ev :: out).filterMap (·.frame) := by
    intro z
    obtain ⟨_, o, ho, hn⟩ := q2.mem z
    rw [q4] at ho
    cases ho
    exact hn vs q7
  refine wpAny_bind (wpAny_frameOf_fun q1 q2 q3 fun h1 s1 => ?_)
  refine wpAny_bind (wpAny_entryPlaceOf fun pl hp => ?_)
  unfold EntryCells.newEntry newFields
  refine wpAny_bind (wpAny_newObj_type ?_ (hp.sizeOk5 _ _ _ _ _))
  have x1 : h1.get? x = some ob := (s1.2.1 x off).trans q4
  have st1 : bs.StaysIn h1 := fun b o hb => (s1.2.1 b fun z => by rw [(q2.mem z).1] at hb; cases hb).trans (q5 b o hb)
  generalize ht : ({ cls := .type "traceback", dict := none, data := .fields ([hd0, .ref F, .none, rawInt F, .none] ++ (if pl.isEmpty then List.replicate 6 Value.none else pl)).toArray } : Obj) = tb
  have htd : tb.data = .fields ([hd0, .ref F, .none, rawInt F, .none] ++ (if pl.isEmpty then List.replicate 6 Value.none else pl)).toArray := by rw [← ht]
  have x2 : (h1.push tb).get? x = some ob := Heap.get?_push_of_some tb x1
  refine wpAny_setField x2 q7 q8 (k _ ?_ ?_)
  · have ne1 : h1.objs.size ≠ x := Nat.ne_of_gt (Heap.lt_size x1)
    have d3 := Obj.data_mapFields q7 (·.setIfInBounds 1 (Value.ref h1.objs.size))
    have x3 := Heap.get?_update_self (Obj.mapFields (·.setIfInBounds 1 (Value.ref h1.objs.size))) x2 (Obj.isFreed_of_fields d3)
    have t2 : (h1.push tb).get? h1.objs.size = some tb := Heap.get?_push_size h1 (Obj.isFreed_of_fields htd)
    have t3 : ((h1.push tb).update x (Obj.mapFields (·.setIfInBounds 1 (Value.ref h1.objs.size)))).get? h1.objs.size = some tb := by
      rw [Heap.get?_update_other _ _ (Ne.symm ne1)]
      exact t2
    have kp : ∀ b o, b ≠ x → h1.get? b = some o → ((h1.push tb).update x (Obj.mapFields (·.setIfInBounds 1 (Value.ref h1.objs.size)))).get? b = some o := fun b o nb hb => by
      rw [Heap.get?_update_other _ _ (Ne.symm nb)]
      exact Heap.get?_push_of_some tb hb
    have nrec : ∀ b o, s.heap.get? b = some o → (∀ ws, o.data ≠ .fields ws) → b ≠ x := fun b o hb hn z => by
      rw [z, q4] at hb
      cases hb
      exact hn vs q7
    refine ⟨fun b o hb => kp b o (fun z => by rw [z, q6] at hb; cases hb) (st1 b o hb), q2.of_keeps fun b o hb hn => ?_, ?_, fun b o hb hn => ?_⟩
    · obtain ⟨sl, hs⟩ := s1.2.2 b o hb
      exact ⟨_, kp b _ (nrec b o hb hn) hs, rfl⟩
    · refine ⟨_, _, h1.objs.size, tb, _, x3, ⟨Obj.cls_mapFields _ _, ?_⟩, d3, ?_, st1.fresh, ne1, t3, htd, ?_⟩
      · rw [Array.getElem?_setIfInBounds_ne (by decide)]
        exact q9
      · simp [q8]
      · first | (simp; done) | (rcases hp with rfl | ⟨_, _, _, _, _, _, _, rfl⟩ <;> simp)
    · obtain ⟨sl, hs⟩ := s1.2.2 b o hb
      exact ⟨sl, kp b _ (nrec b o hb hn) hs⟩
  · have d3 := Obj.data_mapFields q7 (·.setIfInBounds 1 (Value.ref h1.objs.size))
    exact ⟨_, Heap.get?_update_self _ x2 (Obj.isFreed_of_fields d3), (dict_mapFields _ _).trans q10⟩
theorem note_d (q1 : A.frames = some (ev :: out)) (q2 : s.heap.FunFrames bs (ev :: out)) (q3 : ev.frame = some F) (q4 : s.heap.TracedW bs x c a0) (q5 : bs.StaysIn s.heap) (q6 : bs.get? x = none) (q7 : Dn x s.heap)
    (k : ∀ h', Heap.NotedW bs (ev :: out) x c a0 (rawInt F) s.heap h' → Dn x h' → Q () { s with heap := h' }) : wpAny M A (noteFrame (.ref x) ev) Q E s := by
  obtain ⟨ob, vs, T, oT, ts, x0, ⟨ec, e0⟩, ed, e1, nT, nTx, hT, dT, e3⟩ := q4
  obtain ⟨ob', y0, yd⟩ := q7
  rw [x0] at y0
  cases y0
  subst ec
  unfold noteFrame
  simp only [q3]
  refine wpAny_bind (wpAny_field x0 ed e1 ?_)
  rw [if_pos (show (Value.ref T != Value.none) = true by simp)]
  refine wpAny_bind (wpAny_field hT dT e3 ?_)
  rw [if_neg (show ¬ (Value.none == rawInt F) = true by simp [rawInt])]
  refine wpAny_bind (wpAny_setField hT dT (Array.getElem?_eq_some_iff.mp e3).1 ?_)
  have oth : ∀ b, b ≠ T → (s.heap.update T (Obj.mapFields (·.setIfInBounds 3 Value.none))).get? b = s.heap.get? b := fun b nb => Heap.get?_update_other _ _ (Ne.symm nb)
  have nrec : ∀ b o, s.heap.get? b = some o → (∀ ws, o.data ≠ .fields ws) → b ≠ T := fun b o hb hn z => by
    rw [z, hT] at hb
    cases hb
    exact hn ts dT
  refine entry_d q1 (q2.of_keeps fun b o hb hn => ⟨o, (oth b (nrec b o hb hn)).trans hb, rfl⟩) q3 ((oth x (Ne.symm nTx)).trans x0) (fun b o hb => (oth b fun z => by rw [z, nT] at hb; cases hb).trans (q5 b o hb)) q6 ed (Array.getElem?_eq_some_iff.mp e1).1 e0 yd ?_
  rintro h' ⟨n1, n2, n3, n4⟩ dn
  exact k h' ⟨n1, n2, n3, fun b o hb hn => n4 b o ((oth b (nrec b o hb hn)).trans hb) hn⟩ dn
theorem flight_d {l : List Env} {fl : Value} (q1 : bs.StaysIn s.heap) (q2 : s.heap.FunFrames bs l) (q3 : s.heap.TracedAtW bs x c a0 fl) (q4 : bs.get? x = none) (q5 : Dn x s.heap)
    (k : ∀ h', Heap.FlyingW bs l x c a0 h' → s.heap.UpToSlots h' → Dn x h' → Q () { s with heap := h' }) : wpAny M A (setFlight (.ref x) none) Q E s := by
  obtain ⟨ob, vs, T, oT, ts, x0, ec, ed, e1, nT, nTx, hT, dT, e3⟩ := q3
  obtain ⟨ob', y0, yd⟩ := q5
  rw [x0] at y0
  cases y0
  have sz : 3 < ts.size := (Array.getElem?_eq_some_iff.mp e3).1
  unfold setFlight
  refine wpAny_bind (wpAny_field x0 ed e1 ?_)
  rw [if_pos (show (Value.ref T != Value.none) = true by simp)]
  have oth : ∀ b, b ≠ T → (s.heap.update T (Obj.mapFields (·.setIfInBounds 3 ((none : Option Addr).elim Value.none fun f => rawInt f)))).get? b = s.heap.get? b := fun b nb => Heap.get?_update_other _ _ (Ne.symm nb)
  have nrec : ∀ b o, s.heap.get? b = some o → (∀ ws, o.data ≠ .fields ws) → b ≠ T := fun b o hb hn z => by
    rw [z, hT] at hb
    cases hb
    exact hn ts dT
  refine wpAny_setField hT dT sz (k _ ⟨fun b o hb => (oth b fun z => by rw [z, nT] at hb; cases hb).trans (q1 b o hb), q4, q2.of_keeps fun b o hb hn => ⟨o, (oth b (nrec b o hb hn)).trans hb, rfl⟩, ?_⟩ (fun b o hb hn => ⟨o.slots, (oth b (nrec b o hb hn)).trans hb⟩) ?_)
  · exact ⟨ob, vs, T, _, _, (oth x (Ne.symm nTx)).trans x0, ec, ed, e1, nT, nTx, Heap.get?_update_self _ hT (Obj.isFreed_of_fields (Obj.data_mapFields dT _)), Obj.data_mapFields dT _, by simp [sz]⟩
  · exact ⟨ob, (oth x (Ne.symm nTx)).trans x0, yd⟩
/-- on through a frame -/
theorem leaves_d (q1 : A.frames = some (ev :: out)) (q2 : ev.frame = some F) (q3 : Heap.FlyingW bs (ev :: out) x c a0 s.heap) (q4 : Dn x s.heap)
    (k : ∀ h', Heap.FlyingW bs out x c a0 h' → s.heap.UpToSlots h' → Dn x h' → Q () { s with heap := h' }) : wpAny M A (leaving ev (.ref x)) Q E s := by
  obtain ⟨f1, f2, f3, f4⟩ := q3
  unfold leaving
  refine wpAny_bind (note_d q1 f3 q2 f4 f1 f2 q4 fun h1 n1 d1 => ?_)
  obtain ⟨g1, g2, g3, g4⟩ := n1
  refine flight_d (s := { s with heap := h1 }) g1 g2 g3 f2 d1 fun h2 fl up d2 => k h2 ?_ ?_ d2
  · obtain ⟨z1, z2, ⟨_, _, z3⟩, z4⟩ := fl
    exact ⟨z1, z2, z3, z4⟩
  · exact Heap.UpToSlots.trans (h₂ := h1) g4 up
/-- out of the frame where it was made -/
theorem leaves_new_d {h0 : Heap} {args : List Value} (q1 : A.frames = some (ev :: out)) (q2 : ev.frame = some F) (q3 : bs.StaysIn h0) (q4 : h0.FunFrames bs (ev :: out)) (q5 : Heap.MadeExcOf h0 s.heap x c args)
    (k : ∀ h' t, Heap.FlyingW bs out x c (.ref t) h' → s.heap.UpToSlots h' → Dn x h' → Q () { s with heap := h' }) : wpAny M A (leaving ev (.ref x)) Q E s := by
  obtain ⟨t, he, htn, ht⟩ := q5.there
  have fresh : ∀ b, h0.get? b = none → bs.get? b = none := fun b hb => by
    cases z : bs.get? b with
    | none => rfl
    | some o => rw [q3 b o z] at hb; cases hb
  unfold leaving noteFrame
  simp only [q2]
  refine wpAny_bind (wpAny_bind (wpAny_field he rfl (x := Value.none) rfl ?_))
  rw [if_neg (by decide)]
  refine entry_d q1 (q4.of_keeps fun b o hb _ => ⟨o, q5.keeps b o hb, rfl⟩) q2 he (fun b o hb => q5.keeps b o (q3 b o hb)) (fresh x q5.new) rfl (show 1 < 6 by decide) rfl rfl fun h1 n1 d1 => ?_
  obtain ⟨g1, g2, g3, g4⟩ := n1
  refine flight_d (s := { s with heap := h1 }) g1 g2 g3 (fresh x q5.new) d1 fun h2 fl up d2 => k h2 t ?_ ?_ d2
  · obtain ⟨z1, z2, ⟨_, _, z3⟩, z4⟩ := fl
    exact ⟨z1, z2, z3, z4⟩
  · exact Heap.UpToSlots.trans (h₂ := h1) g4 up
end
end FT

end
-- part 5
section
set_option Elab.async false
set_option linter.all false
set_option maxRecDepth 100000
namespace FT
open PySem PySem.Spec PyProof.Rows L2
/-! ### an exception that leaves a def: all that was tracked stays -/
structure Fly (P : Program) (w : World) (outer : List Env) (H : Hp) (s : Shared) (ea C : Addr) (H' : Hp) (s' : Shared) : Prop where
  os : s'.os = s.os
  bare : AllBare s'.gens
  un : Un (frs outer) [] H H' s.heap s'.heap
  hok : HOk P w H' s'.heap
  dn : Dn ea s'.heap
  fly : ∃ B a0, Heap.FlyingW B outer ea (.ref C) a0 s'.heap ∧ (∀ b o, s.heap.get? b = some o → b ∉ frs outer → ∃ o', B.get? b = some o') ∧ ∀ b u, H' b = some u → ∃ o', B.get? b = some o'
def CX1 (P : Program) (w : World) : CXT := fun outer H s E e s' => ∃ ea C H', e = .ref ea ∧ Fly P w outer H s ea C H' s' ∧ E (.ref C) none H'
theorem hok_stays {P : Program} {w : World} {H : Hp} {h h' B : Heap} (hok : HOk P w H h) (k2 : ∀ b u, H b = some u → ∃ o', B.get? b = some o') (st : B.StaysIn h) (st' : B.StaysIn h') : HOk P w H h' := fun a o e =>
  (hok a o e).stay (fun b u hb q => by
    have hs : ∃ v, H b = some v := by
      rcases hb with rfl | hb
      · exact ⟨_, e⟩
      · exact ⟨_, hb⟩
    obtain ⟨v, hv⟩ := hs
    obtain ⟨o', ho⟩ := k2 b v hv
    have z := st b o' ho
    rw [q] at z; cases z
    exact st' b _ ho) (fun _ q => q) fun _ _ q => q
section
variable {X : Cx} {pins : List (Addr × Obj)} {σ : L2.St} {H H' : Hp} {s s' : Shared} {ea C : Addr}
theorem notStack (I : Inv X pins σ H s) (hst : X.stack = X.env :: X.outer) (hf : X.env.frame = some X.env.locals) {b : Addr} {o : Obj} (q : X.s₀.heap.get? b = some o) (hb : b ∉ X.fs) : b ∉ frs X.stack := by
  rw [hst]
  intro hm
  unfold frs at hm
  rw [List.filterMap_cons, hf] at hm
  rcases List.mem_cons.mp hm with rfl | hm
  · exact Nat.lt_irrefl _ (Nat.lt_of_lt_of_le (Heap.lt_size q) I.ok.above)
  · exact hb hm
theorem inStack (hst : X.stack = X.env :: X.outer) {b : Addr} (hb : b ∈ X.fs) : b ∈ frs X.stack := by
  rw [hst]
  unfold frs
  rw [List.filterMap_cons]
  cases X.env.frame with
  | none => exact hb
  | some L => exact List.mem_cons_of_mem _ hb
theorem leave_on {M : Model} {E : Value → Shared → Prop} {Q : Unit → Shared → Prop} (I : Inv X pins σ H s) (hst : X.stack = X.env :: X.outer) (hf : X.env.frame = some X.env.locals) (hex : X.ex = [])
    (f : Fly X.prog X.w X.stack H s ea C H' s') (h : ∀ s'', Fly X.prog X.w X.outer X.H₀ X.s₀ ea C H' s'' → Q () s'') : wpAny M X.A (leaving X.env (.ref ea)) Q E s' := by
  obtain ⟨B, a0, fl, k1, k2⟩ := f.fly
  have hne : ∀ b : Addr, b ∉ X.ex := fun b => by rw [hex]; exact List.not_mem_nil
  have fl0 := fl
  rw [hst] at fl0
  refine leaves_d (by rw [I.ok.frames, hst]) hf fl0 f.dn fun h' fl' up dn' => h _ ⟨f.os.trans I.os, f.bare, ⟨?_, ?_, ?_, ?_, ?_, ?_, ?_⟩, hok_stays f.hok k2 fl.1 fl'.1, dn', B, a0, fl', ?_, k2⟩
  · intro b o q n hb hx
    have q1 := I.base.keep b o q n hb (hne b)
    have n1 := I.base.free b o q n (hne b)
    have hs := notStack I hst hf q hb
    have q2 := f.un.keep b o q1 n1 hs hx
    obtain ⟨o', ho⟩ := k1 b o q1 hs
    have z := fl.1 b o' ho
    rw [q2] at z; cases z
    exact fl'.1 b _ ho
  · intro b o q n hb hx
    obtain ⟨sl1, q1⟩ := I.base.slot b o q n hb (hne b)
    have n1 := I.base.free b o q n (hne b)
    obtain ⟨sl2, q2⟩ := f.un.slot b _ q1 n1 (inStack hst hb) hx
    obtain ⟨_, o3, q3, d3⟩ := I.ok.funs.mem hb
    rw [q] at q3; cases q3
    obtain ⟨sl3, q4⟩ := up b _ q2 d3
    exact ⟨sl3, q4⟩
  · intro b o q n hx
    obtain ⟨o1, q1⟩ := I.base.there b o q (hne b)
    exact f.un.free b o1 q1 (I.base.free b o q n (hne b)) hx
  · intro b o q hx
    obtain ⟨o1, q1⟩ := I.base.there b o q (hne b)
    by_cases hb : b ∈ X.fs
    · obtain ⟨_, o3, q3, d3⟩ := I.stack.mem (show b ∈ X.stack.filterMap (·.frame) from inStack hst hb)
      have n3 := I.stkFree b (inStack hst hb)
      obtain ⟨sl2, q2⟩ := f.un.slot b _ q3 n3 (inStack hst hb) hx
      obtain ⟨sl3, q4⟩ := up b _ q2 d3
      exact ⟨_, q4⟩
    · obtain ⟨o', ho⟩ := k1 b o1 q1 (notStack I hst hf q hb)
      exact ⟨o', fl'.1 b _ ho⟩
  · exact fun b xs q => f.un.tups b xs (I.base.tups b xs q)
  · exact fun b o u q => f.un.frzs b o u (I.base.frzs b o u q)
  · intro b ps q
    obtain ⟨m1, e1⟩ := I.base.tbls b ps q
    obtain ⟨m2, e2⟩ := f.un.tbls b _ e1
    exact ⟨m1 ++ m2, by rw [e2, Array.append_assoc]⟩
  · intro b o q hb
    obtain ⟨o1, q1⟩ := I.base.there b o q (hne b)
    exact k1 b o1 q1 (notStack I hst hf q hb)
theorem leave_new {M : Model} {E : Value → Shared → Prop} {Q : Unit → Shared → Prop} {vs : List Value} {h1 : Heap} (I : Inv X pins σ H s) (hst : X.stack = X.env :: X.outer) (hf : X.env.frame = some X.env.locals) (hex : X.ex = [])
    (hx : Heap.MadeExcOf s.heap h1 ea (.ref C) vs) (h : ∀ s'', Fly X.prog X.w X.outer X.H₀ X.s₀ ea C H s'' → Q () s'') : wpAny M X.A (leaving X.env (.ref ea)) Q E { s with heap := h1 } := by
  have hne : ∀ b : Addr, b ∉ X.ex := fun b => by rw [hex]; exact List.not_mem_nil
  have hin : ∀ env ∈ X.stack, ∀ b, env.frame = some b → b ∈ frs X.stack := fun env he b hb => List.mem_filterMap.mpr ⟨env, he, hb⟩
  have fr : s.heap.FunFrames (PySem.W.hideAll s.heap (frs X.stack)) X.stack := PySem.W.funFrames_hide I.stack hin
  have stB : (PySem.W.hideAll s.heap (frs X.stack)).StaysIn s.heap := fun b o q => PySem.W.of_hideAll _ q
  have inB : ∀ b o, s.heap.get? b = some o → b ∉ frs X.stack → (PySem.W.hideAll s.heap (frs X.stack)).get? b = some o := fun b o q hb => PySem.W.hideAll_get _ q hb
  have k2 : ∀ b u, H b = some u → ∃ o', (PySem.W.hideAll s.heap (frs X.stack)).get? b = some o' := fun b u q => by
    obtain ⟨o, ho⟩ := objThere (I.hok b u q)
    refine ⟨o, inB b o ho fun hb => ?_⟩
    rw [I.stkFree b hb] at q; cases q
  generalize PySem.W.hideAll s.heap (frs X.stack) = B at fr stB inB k2
  have fr0 := fr
  rw [hst] at fr0
  refine leaves_new_d (s := { s with heap := h1 }) (by rw [I.ok.frames, hst]) hf stB fr0 hx fun h' t fl up dn' => h _ ⟨I.os, I.bare, ⟨?_, ?_, ?_, ?_, ?_, ?_, ?_⟩, hok_stays I.hok k2 stB fl.1, dn', B, _, fl, ?_, k2⟩
  · intro b o q n hb _
    exact fl.1 b o (inB b o (I.base.keep b o q n hb (hne b)) (notStack I hst hf q hb))
  · intro b o q n hb _
    obtain ⟨sl1, q1⟩ := I.base.slot b o q n hb (hne b)
    obtain ⟨_, o3, q3, d3⟩ := I.ok.funs.mem hb
    rw [q] at q3; cases q3
    obtain ⟨sl3, q4⟩ := up b _ (hx.keeps b _ q1) d3
    exact ⟨sl3, q4⟩
  · exact fun b o q n _ => I.base.free b o q n (hne b)
  · intro b o q _
    obtain ⟨o1, q1⟩ := I.base.there b o q (hne b)
    by_cases hb : b ∈ X.fs
    · obtain ⟨_, o3, q3, d3⟩ := I.stack.mem (show b ∈ X.stack.filterMap (·.frame) from inStack hst hb)
      obtain ⟨sl3, q4⟩ := up b _ (hx.keeps b _ q3) d3
      exact ⟨_, q4⟩
    · exact ⟨o1, fl.1 b _ (inB b o1 q1 (notStack I hst hf q hb))⟩
  · exact I.base.tups
  · exact I.base.frzs
  · exact I.base.tbls
  · intro b o q hb
    obtain ⟨o1, q1⟩ := I.base.there b o q (hne b)
    exact ⟨o1, inB b o1 q1 (notStack I hst hf q hb)⟩
end
/-! ### the class of an own error -/
abbrev errMro : List Value := [.type "ValueError", .type "Exception", .type "BaseException", .type "object"]
structure ErrC (K : PySem.W.Frag) (mg : Str → Option Value) (x : Str) (C : Addr) : Prop where
  ns : PySem.W.nsIn K mainGlobals x = some (some (.ref C))
  at_ : mg x = some (.ref C)
  ex : PySem.W.excIn K C errMro "ValueError.__new__" = true
def keyStr : Value → List Str
  | .str n _ => [n]
  | _ => []
theorem names_end {h : Heap} {mg : Str → Option Value} (G : h.Ns mainGlobals mg) : ∃ loose : List Str, ∀ x, x ∉ loose → mg x = none := by
  obtain ⟨o, es, ep, ho, hd, hk, hf⟩ := G
  refine ⟨es.toList.flatMap fun e => keyStr e.key, fun x hx => ?_⟩
  rw [← hf]
  unfold nsFind findBy
  have z : (es.find? fun e => e.key.isStr x) = none := by
    rw [Array.find?_eq_none]
    intro e he z
    obtain ⟨n, t, en⟩ := hk e he
    rw [en] at z
    refine hx (List.mem_flatMap.mpr ⟨e, by simpa using he, ?_⟩)
    rw [en]
    have : n = x := by simpa [Value.isStr] using z
    rw [this]
    exact List.mem_singleton.mpr rfl
  rw [z]
  rfl
theorem ErrC.own {K : PySem.W.Frag} {mg : Str → Option Value} {h : Heap} {x : Str} {C : Addr} (M : Mod K mg h) (c : ErrC K mg x C) (p : Program) : OwnCls x C errMro "ValueError.__new__" mg h := by
  obtain ⟨mb, h1, h2⟩ := M.blt
  obtain ⟨loose, hl⟩ := names_end M.glob
  have T : PySem.W.TopRead p loose mg mb h := ⟨M.glob, h1, M.nolimit, h2, fun x _ z _ _ _ => hl x z⟩
  exact PySem.W.own_of_in M.kin T c.ns c.ex
/-! ### a def that may refuse -/
section
variable {P : Program} {w : World} {K : PySem.W.Frag} {mg : Str → Option Value} {base : Heap} {N : List Str} {qual : Str} {scope : Scope} {f : Addr} {cdv : Value} {A : Around} {outer : List Env} {s : Shared} {H : Hp} {E : XK}
theorem passX : Passes (CX1 P w) (cxOf (CX1 P w) P w K mg base N qual scope f cdv A outer s H E) E := by
  intro pins σ H1 s1 e s' I hcx
  obtain ⟨ea, C, H', rfl, fl, hE⟩ := hcx
  exact leave_on I rfl rfl rfl fl fun s'' f' => ⟨ea, C, H', rfl, f', hE⟩
/-- raise C(..) -/
def tRaise (C : Addr) (E : XK) (t : TA) : TS := fun _ σ H => t σ H fun vs H1 => vs.length ≤ 100 ∧ E (.ref C) none H1
theorem ps_raise {x : Str} {C : Addr} {e₀ : Expr} {rest : List Expr} {t : TA} {np cpos pos : Pos} (c : ErrC K mg x C)
    (hr : (A.deeper (envOfC qual scope s.heap.objs.size f cdv)).handled = none)
    (hg : Gl (cxOf (CX1 P w) P w K mg base N qual scope f cdv A outer s H E) x)
    (ha : PA (cxOf (CX1 P w) P w K mg base N qual scope f cdv A outer s H E) (e₀ :: rest) t)
    (he : starEach (e₀ :: rest) (cxOf (CX1 P w) P w K mg base N qual scope f cdv A outer s H E).env = (false, eval e₀ (cxOf (CX1 P w) P w K mg base N qual scope f cdv A outer s H E).env) :: starEach rest (cxOf (CX1 P w) P w K mg base N qual scope f cdv A outer s H E).env := by rfl)
    (hplain : (backTo cpos (starEach rest (cxOf (CX1 P w) P w K mg base N qual scope f cdv A outer s H E).env)).any (·.1) = false := by rfl) (hd : (x == ("__debug__" : Str)) = false := by decide) :
    PS (cxOf (CX1 P w) P w K mg base N qual scope f cdv A outer s H E) (.Raise (some (.Call (.Name x np) (e₀ :: rest) [] cpos)) none pos) (tRaise C E t) := by
  intro pins s1 σ H1 D I h
  obtain ⟨tl, Nn, nm, q, bs, hdct, sn, sub, ab, col, dd, k0, k1, k2, k3, k5, mN, hC, hN, hni, T⟩ := (c.own I.mod P).obj
  refine wpAny_Raise_call_subT (C := C) (nm := nm) (q := q) (N := Nn) (bs := bs) (bm := tl) (hdct := hdct) (sn := sn) (sub := sub) (ab := ab) (col := col) (dd := dd) (k0 := k0) (k1 := k1) (k2 := k2) (k3 := k3) (k5 := k5)
    PySem.F.excBase_ValueError (mN := mN) (T.hasType PySem.F.excBase_ValueError.hasBase) hr (by rw [he]; show (false || (backTo cpos (starEach rest _)).any (·.1)) = false; rw [hplain]; rfl) hni
    (ld_glob I hg c.at_ ⟨rfl, ?_⟩ hd)
  have z := ha cpos pins s1 σ H1 _ I h
  rw [he] at z ⊢
  refine Calls.evalArgs_plain (wpAny_mono z (fun us s2 h2 => ?_) fun _ _ y => y)
  obtain ⟨vs, H2, I2, rv, hlen, hE⟩ := h2
  refine ⟨rfl, ?_, I2.bk _ _ hC, hN.keeps I2.bk, T.keeps I2.bk, fun h' e hx => ?_⟩
  · show us.length ≤ sizeLine
    rw [← rv.length]; exact Nat.le_of_lt (small1000 (by omega))
  · exact leave_new I2 rfl rfl rfl hx fun s'' f' => ⟨e, C, H2, rfl, f', hE⟩
end
/-- THE RULE for a def that may refuse -/
theorem fun_okX {P : Program} {w : World} {K : PySem.W.Frag} {mg : Str → Option Value} {base : Heap} {x qual : Str} {st : Stmt} {f : Addr} {fd : FuncData} {N ps : List Str} {k : Nat} {sp : Sp} (F : Fun K x qual st f fd) (S : FnScope N ps (defScope st)) (len : ∀ vs H Q E, sp vs H Q E → vs.length = ps.length)
    (hbody : ∀ (cdv : Value) (A : Around) (outer : List Env) (s : Shared) (H : Hp) (vs : List V) (Q : VK) (E : XK), Room k (A.deeper (envOfC qual (defScope st) s.heap.objs.size f cdv)) → sp vs H Q E →
      ∃ t, PSs (cxOf (CX1 P w) P w K mg base N qual (defScope st) f cdv A outer s H E) (defBody st) t ∧ t { nx := fun _ H' => Q .non H', rt := Q } (start N vs) H) : FnOk P w K mg base (CX1 P w) (k + 1) f fd ps sp := by
  obtain ⟨oc, od, kV, doc, pm, an, cdv, ct, osl, rfl, lk, hcd⟩ := F.ex
  refine fn_of lk hcd S len fun A outer s H vs Q E hr hsp => ?_
  obtain ⟨t, h, q⟩ := hbody cdv A outer s H vs Q E hr hsp
  exact ⟨t, h, q⟩
/-- a def that never refuses, seen as one that may -/
theorem FnOk.up {P : Program} {w : World} {K : PySem.W.Frag} {mg : Str → Option Value} {base : Heap} {k : Nat} {f : Addr} {fd : FuncData} {ps : List Str} {sp : Sp} (F : FnOk P w K mg base CX0 k f fd ps sp) : FnOk P w K mg base (CX1 P w) k f fd ps sp :=
  ⟨F.len, fun A outer s H args us vs Q E hr e0 hb hv hsp => codeAny_mono (F.run A outer s H args us vs Q E hr e0 hb hv hsp) fun r s' h => by
    cases r with
    | ok v => cases v with | ret u => exact h | _ => exact h
    | error e => exact h.elim⟩
/-- one statement that lets no exception out, where one may leave -/
theorem PS.nox {X : Cx} {st : Stmt} {t : TS} (h : PS X.nox st t) : PS X st t := fun pins s σ H D I hw =>
  wpAny_mono (h pins s σ H D (I.wish _) hw) (fun _ _ q => q.unwish) fun _ _ z => z.elim
end FT

end
-- part 6
section
set_option Elab.async false
set_option linter.all false
set_option maxRecDepth 100000
namespace FT
open PySem PySem.Spec PyProof.Rows L2
/-! ### statements out of which an exception may come, with what is known then -/
abbrev XW := Addr → L2.St → Hp → Prop
def XP (X : Cx) (pins : List (Addr × Obj)) (XE : XW) (e : Value) (s' : Shared) : Prop :=
  ∃ ea C σ H1 s1 H', e = .ref ea ∧ Inv X pins σ H1 s1 ∧ Fly X.prog X.w X.stack H1 s1 ea C H' s' ∧ XE C σ H'
abbrev TSX := Ends → XW → L2.St → Hp → Prop
abbrev TEX := L2.St → Hp → VK → XW → Prop
def PEX (X : Cx) (e : Expr) (t : TEX) : Prop :=
  ∀ (pins : List (Addr × Obj)) (s : Shared) (σ : L2.St) (H : Hp) (Q : VK) (XE : XW), Inv X pins σ H s → t σ H Q XE → wpAny (model X.prog X.w) X.A (eval e X.env) (EP X pins σ Q) (XP X pins XE) s
def PSX (X : Cx) (st : Stmt) (t : TSX) : Prop :=
  ∀ (pins : List (Addr × Obj)) (s : Shared) (σ : L2.St) (H : Hp) (D : Ends) (XE : XW), Inv X pins σ H s → t D XE σ H → wpAny (model X.prog X.w) X.A (exec st X.env) (SP X pins D) (XP X pins XE) s
def PSsX (X : Cx) (st : List Stmt) (t : TSX) : Prop :=
  ∀ (pins : List (Addr × Obj)) (s : Shared) (σ : L2.St) (H : Hp) (D : Ends) (XE : XW), Inv X pins σ H s → t D XE σ H → wpAny (model X.prog X.w) X.A (execs st X.env) (SP X pins D) (XP X pins XE) s
section
variable {X : Cx} {st : Stmt} {rest : List Stmt} {t u : TSX} {pos : Pos}
theorem pssx_nil : PSsX X [] (fun D _ => D.nx) := fun _ _ σ H _ _ I h => wpAny_execs_nil ⟨σ, H, I, h⟩
theorem pssx_one (h1 : PSX X st t) : PSsX X [st] t := by
  intro pins s σ H D XE I h
  refine wpAny_execs_cons (thn (h1 pins s σ H D XE I h) fun f s1 q => ?_)
  cases f with
  | next => exact wpAny_execs_nil q
  | ret v => exact q
  | brk => exact q
  | cont => exact q
theorem psx_if {c : Expr} {a b : List Stmt} {tc : TT} (hc : PT X.nox c tc) (ha : PSsX X a t) (hb : PSsX X b u) : PSX X (.If c a b pos) (fun D XE σ H => tc σ H fun k H1 => if k = true then t D XE σ H1 else u D XE σ H1) := by
  intro pins s σ H D XE I h
  refine wpAny_If (wpAny_mono (hc pins s σ H _ (I.wish _) h) (fun d s1 q => ?_) fun _ _ z => z.elim)
  obtain ⟨H1, I1, q1⟩ := q
  cases d with
  | true => exact ha pins s1 σ H1 D XE I1.unwish q1
  | false => exact hb pins s1 σ H1 D XE I1.unwish q1
theorem psx_expr {e : Expr} {te : TEX} (he : PEX X e te) (hs : swapsWith e none pos.line X.env = pure false := by rfl) : PSX X (.Expr e pos) (fun D XE σ H => te σ H (fun _ H1 => D.nx σ H1) XE) := by
  intro pins s σ H D XE I h
  exact wpAny_Expr_any (thn (he pins s σ H _ XE I h) fun v s1 ⟨x, H1, I1, r1, q1⟩ => ⟨σ, H1, I1, q1⟩) I.quiet hs
theorem psx_set {i : Nat} {x : Str} {e : Expr} {te : TEX} {pos' : Pos} (hN : X.N.Nodup) (hi : X.N[i]? = some x) (hx : Loc X.env.scope x) (he : PEX X e te) (hs : swapsWith e (some (.Name x pos')) pos.line X.env = pure false := by rfl)
    (hf : X.fn x = true ∨ X.env.scope.names.lookup x = some .local := by first | exact .inl rfl | exact .inr rfl | assumption) :
    PSX X (.Assign [.Name x pos'] e pos) (fun D XE σ H => te σ H (fun v H1 => D.nx (σ.set i (some v)) H1) XE) := by
  intro pins s σ H D XE I h
  refine wpAny_Assign_Name (thn (he pins s σ H _ XE I h) fun v s1 ⟨y, H1, I1, r1, q1⟩ => ?_) hs
  exact store_ok I1 hN hi hx r1 (fun s2 I2 => ⟨_, H1, I2, q1⟩) hf
theorem pex_call {k : Nat} {f : Addr} {fd : FuncData} {ps : List Str} {sp : Sp} {x : Str} {p : Pos} {e : Expr} {es : List Expr} {ta : TA} (F : FnOk X.prog X.w X.K X.mg X.base (CX1 X.prog X.w) k f fd ps sp) (hr : Room k X.A) (hg : Gl X x) (hm : X.mg x = some (.ref f))
    (hk : PySem.W.keepIn X.K (.ref f) = true) (hb : Binds X.K fd ps []) (ha : PA X.nox (e :: es) ta) (hdb : (x == ("__debug__" : Str)) = false := by decide)
    (he : starEach (e :: es) X.env = (false, eval e X.env) :: starEach es X.env := by rfl) (hpl : (backTo pos (starEach es X.env)).any (·.1) = false := by rfl) :
    PEX X (.Call (.Name x p) (e :: es) [] pos) (fun σ H Q XE => ta σ H fun vs H1 => sp vs H1 Q fun Cv _ H' => ∃ C, Cv = .ref C ∧ XE C σ H') := by
  intro pins s σ H Q XE I h
  refine wpAny_Call_Name_kw (ld_glob I hg hm ?_ hdb)
  refine PySem.W.callWith_K (h₀ := X.base) I.ok.mod.kin hk (wpAny_mono (ha pos pins s σ H _ (I.wish _) h) (fun us s1 q0 => ?_) fun _ _ z => z.elim) he hpl
  obtain ⟨vs, H1, I1, r, q⟩ := q0
  have I1 : Inv X pins σ H1 s1 := I1.unwish
  refine ⟨I1.kIn, ?_⟩
  have hl : us.length = ps.length := by rw [← r.length]; exact F.len _ _ _ _ q
  have bnd := hb s1 us I1.kIn (by rw [List.append_nil]; exact hl)
  rw [List.append_nil] at bnd
  refine wpAny_call (codeAny_mono (F.run X.A X.stack s1 H1 ⟨us, []⟩ us vs Q _ hr I1.env0 bnd r q) fun rr s' hq => ?_)
  cases rr with
  | error ev =>
    obtain ⟨ea, C, H', rfl, fl, C', e', hx⟩ := hq
    cases e'
    exact ⟨ea, C, σ, H1, s1, H', rfl, I1, fl, hx⟩
  | ok fl =>
    cases fl with
    | ret u => exact I1.after hq
    | next => exact False.elim hq
    | brk => exact False.elim hq
    | cont => exact False.elim hq
end
/-! ### within an except suite -/
abbrev held (X : Cx) (ea : Addr) : Cx := { X with A := X.A.mark (some (.ref ea)), calm := false, xe := fun _ _ => False }
section
variable {X : Cx} {pins : List (Addr × Obj)} {σ : L2.St} {H H1 H' : Hp} {s s1 s' : Shared} {ea C : Addr}
theorem ok_held (ok : X.Ok) (ea : Addr) : (held X ea).Ok :=
  ⟨ok.mod, ok.kind, ok.glob, ok.blt, ok.above, ok.inj, ok.has, ok.cab, fun z => Bool.noConfusion z, ok.frames, ok.stk, ok.exf, ok.bs, ok.bsz, ok.noex, ok.exfs, ok.funs, ok.frf⟩
theorem inv_held (I : Inv X pins σ H s) (ea : Addr) : Inv (held X ea) pins σ H s := ⟨ok_held I.ok ea, I.os, I.bare, I.base, I.loc, I.cell, I.free, I.freeC, I.pin, I.hok, I.len⟩
theorem inv_unheld (ok : X.Ok) (I : Inv (held X ea) pins σ H s) : Inv X pins σ H s := ⟨ok, I.os, I.bare, I.base, I.loc, I.cell, I.free, I.freeC, I.pin, I.hok, I.len⟩
theorem sp_unheld {D : Ends} {f : Flow} (ok : X.Ok) (h : SP (held X ea) pins D f s) : SP X pins D f s := by
  cases f with
  | next => obtain ⟨σ', H', I', q⟩ := h; exact ⟨σ', H', inv_unheld ok I', q⟩
  | brk => obtain ⟨σ', H', I', q⟩ := h; exact ⟨σ', H', inv_unheld ok I', q⟩
  | cont => obtain ⟨σ', H', I', q⟩ := h; exact ⟨σ', H', inv_unheld ok I', q⟩
  | ret u => obtain ⟨v, σ', H', I', r, q⟩ := h; exact ⟨v, σ', H', inv_unheld ok I', r, q⟩
/-- the exception has landed: the frame goes on -/
theorem land {B : Heap} {h6 : Heap} (I : Inv X pins σ H1 s1) (f : Fly X.prog X.w X.stack H1 s1 ea C H' s') (st : B.StaysIn s'.heap) (k1 : ∀ b o, s1.heap.get? b = some o → b ∉ frs X.stack → ∃ o', B.get? b = some o')
    (k2 : ∀ b u, H' b = some u → ∃ o', B.get? b = some o') (st6 : B.StaysIn h6) (up : s'.heap.UpToSlots h6) : Inv X pins σ H' { s' with heap := h6 } := by
  refine I.call' (s' := { s' with heap := h6 }) (ch := []) f.os ⟨?_, ?_, ?_, ?_, ?_, ?_, ?_⟩ (hok_stays f.hok k2 st st6) f.bare (fun b hb => by cases hb)
  · intro b o q n hb hx
    have q2 := f.un.keep b o q n hb hx
    obtain ⟨o', ho⟩ := k1 b o q hb
    have z := st b o' ho
    rw [q2] at z; cases z
    exact st6 b _ ho
  · intro b o q n hb hx
    obtain ⟨sl2, q2⟩ := f.un.slot b _ q n hb hx
    obtain ⟨_, o3, q3, d3⟩ := I.stack.mem hb
    rw [q] at q3; cases q3
    obtain ⟨sl3, q4⟩ := up b _ q2 d3
    exact ⟨sl3, q4⟩
  · exact f.un.free
  · intro b o q hx
    by_cases hb : b ∈ frs X.stack
    · obtain ⟨_, o3, q3, d3⟩ := I.stack.mem hb
      rw [q] at q3; cases q3
      obtain ⟨sl2, q2⟩ := f.un.slot b _ q (I.stkFree b hb) hb hx
      obtain ⟨sl3, q4⟩ := up b _ q2 d3
      exact ⟨_, q4⟩
    · obtain ⟨o', ho⟩ := k1 b o q hb
      exact ⟨o', st6 b _ ho⟩
  · exact f.un.tups
  · exact f.un.frzs
  · exact f.un.tbls
end
/-- try: .. except C: .. -/
def tTry1 (C : Addr) (tb : TSX) (ts : TS) : TS := fun D σ H => tb D (fun C' σ' H' => C' = C ∧ ts D σ' H') σ H
theorem ps_try1 {X : Cx} {x : Str} {C : Addr} {body suite : List Stmt} {b₀ : Stmt} {tb : TSX} {ts : TS} {np hpos pos : Pos} (c : ErrC X.K X.mg x C) (hst : X.stack = X.env :: X.outer) (hf : X.env.frame = some X.env.locals) (hg : Gl X x)
    (hb : PSsX X body tb) (hs : ∀ ea, PSs (held X ea) (b₀ :: suite) ts) (hd : (x == ("__debug__" : Str)) = false := by decide) :
    PS X (.Try body [.ExceptHandler (some (.Name x np)) none (b₀ :: suite) hpos] [] [] pos) (tTry1 C tb ts) := by
  intro pins s σ H D I h
  refine wpAny_Try_except (wpAny_mono (hb pins s σ H D _ I h) (fun fl s1 q => ?_) (fun e s1 q => ?_))
  · cases fl with
    | next => exact wpAny_execs_nil q
    | ret v => exact q
    | brk => exact q
    | cont => exact q
  · obtain ⟨ea, C', σ', H1, s0, H', rfl, I0, f, rfl, ht⟩ := q
    obtain ⟨B, a0, fl, k1, k2⟩ := f.fly
    have fl0 := fl
    rw [hst] at fl0
    refine wpAny_looks_onW (by rw [I0.ok.frames, hst]) hf fl0 fun h4 hh4 up4 => ?_
    refine wpAny_landsW hh4 fun h5 fl5 up5 => ?_
    have I5 : Inv X pins σ' H' { s1 with heap := h5 } := land I0 f fl.1 k1 k2 fl5.1 (up4.trans up5)
    refine wpAny_handleBy_cons (codeAny_handlers_test (ld_glob (X := held X ea) (inv_held I5 ea) hg c.at_ ?_ hd)) (by intro z; cases z)
    obtain ⟨tl, Nn, nm, q, bs, hdct, sn, sub, ab, col, dd, k0, k1', k2', k3, k5, mN, hC, hN, hni, T⟩ := ((c.own I5.mod X.prog).keeps I5.bk).obj
    obtain ⟨ob, hob, hobc⟩ := fl5.there
    refine wpAny_excMatches_sub_self hC hob hobc (T.hasType PySem.F.excBase_ValueError.hasBase) (codeAny_handlers_suite ?_)
    refine lands_againW fl5 fun h6 fl6 up6 => ?_
    have I6 : Inv X pins σ' H' { s1 with heap := h6 } := land I0 f fl.1 k1 k2 fl6.1 ((up4.trans up5).trans up6)
    exact wpAny_mono (hs ea pins _ σ' H' D (inv_held I6 ea) ht) (fun fl s7 q7 => sp_unheld I.ok q7) fun _ _ z => z.elim
end FT

end
-- part 7
section
set_option Elab.async false
set_option linter.all false
set_option maxRecDepth 100000
namespace FT
open PySem PySem.Spec PyProof.Rows L2
/-! ### calls, their side conditions by the arguments' shape alone -/
def notStar : Expr → Bool
  | .Starred _ _ => false
  | _ => true
theorem star_plain {e : Expr} {es : List Expr} {env : Env} (h : notStar e = true) : starEach (e :: es) env = (false, eval e env) :: starEach es env := by
  cases e <;> first | rfl | cases h
theorem any_plain {env : Env} {pos : Pos} : ∀ {es : List Expr}, es.all notStar = true → (backTo pos (starEach es env)).any (·.1) = false
  | [], _ => rfl
  | e :: es, h => by
    rw [List.all_cons, Bool.and_eq_true] at h
    rw [star_plain h.1]
    exact any_plain (es := es) h.2
theorem all_plain {env : Env} {pos : Pos} : ∀ {es : List Expr}, es.all notStar = true → (backTo pos (starEach es env)).all (fun x => !x.1) = true
  | [], _ => rfl
  | e :: es, h => by
    rw [List.all_cons, Bool.and_eq_true] at h
    rw [star_plain h.1]
    exact all_plain (es := es) h.2
section
variable {X : Cx} {e o : Expr} {es : List Expr} {te to : TE} {t : TA} {x : Str} {p pos apos cpos : Pos}
theorem pac (ha : PE X e te) (hr : PA X es t) (hs : notStar e = true := by rfl) : PA X (e :: es) (tCons te t) := pa_cons ha hr (star_plain hs)
theorem pef {CX : CXT} {k : Nat} {f : Addr} {fd : FuncData} {ps : List Str} {sp : Sp} {E : XK} (F : FnOk X.prog X.w X.K X.mg X.base CX k f fd ps sp) (hr : Room k X.A) (hm : X.mg x = some (.ref f)) (hk : PySem.W.keepIn X.K (.ref f) = true) (hb : Binds X.K fd ps []) (hx : Passes CX X E)
    (ha : PA X (e :: es) t) (hg : Gl X x := by rfl) (hdb : (x == ("__debug__" : Str)) = false := by decide) (h1 : notStar e = true := by rfl) (h2 : es.all notStar = true := by rfl) : PE X (.Call (.Name x p) (e :: es) [] pos) (tCall sp [] E t) :=
  pe_call F hr hg hm hk hb .nil hx ha hdb (star_plain h1) (any_plain h2)
theorem peb {id : String} {r : List V → Hp → VK → Prop} (hc : CallR X (.builtin id) r) (hm : X.mg x = none) (hv : bootBuiltins x = some (.builtin id)) (ha : PA X (e :: es) t) (hg : Gl X x := by rfl) (hn : x ≠ "__name__" := by decide) (hdb : (x == ("__debug__" : Str)) = false := by decide)
    (h1 : notStar e = true := by rfl) (h2 : es.all notStar = true := by rfl) : PE X (.Call (.Name x p) (e :: es) [] pos) (tCB r t) := pe_callB hc hg hm hv ha hn hdb (star_plain h1) (any_plain h2)
theorem pety {T : String} {r : List V → Hp → VK → Prop} (hc : CallR X (.type T) r) (hm : X.mg x = none) (hv : bootBuiltins x = some (.type T)) (ha : PA X (e :: es) t) (hg : Gl X x := by rfl) (hn : x ≠ "__name__" := by decide) (hdb : (x == ("__debug__" : Str)) = false := by decide)
    (h1 : notStar e = true := by rfl) (h2 : es.all notStar = true := by rfl) : PE X (.Call (.Name x p) (e :: es) [] pos) (tCB r t) := pe_callTy hc hg hm hv ha hn hdb (star_plain h1) (any_plain h2)
theorem base_name {y nm : Str} {q : Pos} {env : Env} {v : Sem Value} : attributeBase (.Name y q) nm env v = v := rfl
/-- xs.m(..), xs a name -/
theorem pem {T id : String} {nm : Str} {y : Str} {q : Pos} {r : V → List V → Hp → VK → Prop} (pa : PlainAttrs T) (slot : Slot T nm id) (hty : typeOf (.builtin id) = pure (.type "method_descriptor")) (hm : MtR X id r) (ho : PE X (.Name y q) to) (ha : PA X (e :: es) t)
    (hline : (apos.endLine == cpos.line) = true := by rfl) (h1 : notStar e = true := by rfl) (h2 : es.all notStar = true := by rfl) (h3 : es.length < 20 := by decide) : PE X (.Call (.Attribute (.Name y q) nm apos) (e :: es) [] cpos) (tBM X.K T r to t) :=
  pe_bm pa slot hty hm ho ha base_name (by
    rw [all_plain (by rw [List.all_cons, h1, h2]; rfl)]
    have : (e :: es).length + ([] : List Keyword).length + (if ([] : List Keyword).isEmpty then 0 else 1) < 30 := by
      simp only [List.length_cons, List.length_nil, List.isEmpty_nil, if_true]; omega
    rw [decide_eq_true this]
    rfl) hline (star_plain h1) (any_plain h2)
theorem pem0 {T id : String} {nm : Str} {y : Str} {q : Pos} {r : V → List V → Hp → VK → Prop} (pa : PlainAttrs T) (slot : Slot T nm id) (hty : typeOf (.builtin id) = pure (.type "method_descriptor")) (hm : MtR X id r) (ho : PE X (.Name y q) to)
    (hline : (apos.endLine == cpos.line) = true := by rfl) : PE X (.Call (.Attribute (.Name y q) nm apos) [] [] cpos) (tBM0 X.K T r to) := pe_bm0 pa slot hty hm ho base_name hline
theorem pem_app (ho : PE X (.Name x p) to) (ha : PE X e te) (hline : (apos.endLine == cpos.line) = true := by rfl) (h1 : notStar e = true := by rfl) : PE X (.Call (.Attribute (.Name x p) "append" apos) [e] [] cpos) (tBM X.K "list" rAppend to (tCons te tNil)) :=
  pem PySem.F.plainAttrs_list PySem.F.slot_list_append PySem.F.type_list_append mt_append ho (pac ha pa_nil h1) hline h1
theorem pem_ext (ho : PE X (.Name x p) to) (ha : PE X e te) (hline : (apos.endLine == cpos.line) = true := by rfl) (h1 : notStar e = true := by rfl) : PE X (.Call (.Attribute (.Name x p) "extend" apos) [e] [] cpos) (tBM X.K "list" rExtend to (tCons te tNil)) :=
  pem PySem.F.plainAttrs_list PySem.F.slot_list_extend PySem.F.type_list_extend mt_extend ho (pac ha pa_nil h1) hline h1
theorem pem_pop (ho : PE X (.Name x p) to) (hline : (apos.endLine == cpos.line) = true := by rfl) : PE X (.Call (.Attribute (.Name x p) "pop" apos) [] [] cpos) (tBM0 X.K "list" rPop to) :=
  pem0 PySem.F.plainAttrs_list PySem.F.slot_list_pop PySem.F.type_list_pop mt_pop ho hline
theorem pem_rev (ho : PE X (.Name x p) to) (hline : (apos.endLine == cpos.line) = true := by rfl) : PE X (.Call (.Attribute (.Name x p) "reverse" apos) [] [] cpos) (tBM0 X.K "list" rReverse to) :=
  pem0 PySem.F.plainAttrs_list PySem.F.slot_list_reverse PySem.F.type_list_reverse mt_reverse ho hline
/-- len(e) of a list or tuple -/
theorem pe_len (hm : X.mg "len" = none) (ha : PE X e te) (hg : Gl X "len" := by rfl) (h1 : notStar e = true := by rfl) :
    PE X (.Call (.Name "len" p) [e] [] pos) (tCB (fun xs H Q => ∃ p ys, xs = [V.ref p] ∧ (SqL X.K H p ys ∨ SqT X.K H p ys) ∧ Q (.int ys.length) H) (tCons te tNil)) :=
  peb call_len_seq hm PySem.boot_len (pac ha pa_nil h1) hg (by decide) (by decide) h1
/-- list(e) -/
theorem pe_list (hm : X.mg "list" = none) (ha : PE X e te) (hg : Gl X "list" := by rfl) (h1 : notStar e = true := by rfl) :
    PE X (.Call (.Name "list" p) [e] [] pos) (tCB (fun xs H Q => ∃ p ys, xs = [V.ref p] ∧ (SqL X.K H p ys ∨ SqT X.K H p ys) ∧ ∀ l, H l = none → Q (.ref l) (upd H l (.lst ys))) (tCons te tNil)) :=
  pety call_list_of hm PyProof.Rows.boot_list (pac ha pa_nil h1) hg (by decide) (by decide) h1
/-- a type's name as a value -/
theorem pe_ty {T : String} {tn : Str} {q : Pos} (hm : X.mg tn = none) (hv : bootBuiltins tn = some (.type T)) (hg2 : Gl X tn := by rfl) (hn : tn ≠ "__name__" := by decide) (hd : (tn == ("__debug__" : Str)) = false := by decide) : PE X (.Name tn q) (tC (.ty T)) := pe_bltn hg2 hm hv rfl hn hd
/-- isinstance(e, T), T a name of Python's own -/
theorem pe_isi {T : String} {tn : Str} {q : Pos} (hi : X.mg "isinstance" = none) (hm : X.mg tn = none) (hv : bootBuiltins tn = some (.type T)) (ha : PE X e te) (hg : Gl X "isinstance" := by rfl) (hg2 : Gl X tn := by rfl) (h1 : notStar e = true := by rfl) (hn : tn ≠ "__name__" := by decide) (hd : (tn == ("__debug__" : Str)) = false := by decide) :
    PE X (.Call (.Name "isinstance" p) [e, .Name tn q] [] pos) (tCB (rIsi X.K) (tCons te (tCons (tC (.ty T)) tNil))) :=
  peb call_isi hi boot_isinstance (pac ha (pac (pe_bltn hg2 hm hv rfl hn hd) pa_nil) h1) hg (by decide) (by decide) h1
/-- e[-1] -/
theorem pe_lastx {j : Nat} {q q2 : Pos} (ha : PE X e te) : PE X (.Subscript e (.UnaryOp .USub (.Constant (.int 1) j q) q2) pos) (tOp (rIxL X.K) te (tUn (rU fun i => .int (-i)) (tC (.int 1)))) :=
  pe_ix ix_list ha (pe_un un_neg pe_int) (fun _ _ => rfl)
theorem pe_atn {y : Str} {q : Pos} {ti : TE} (ha : PE X e te) (hb : PE X (.Name y q) ti) : PE X (.Subscript e (.Name y q) pos) (tOp (rIxL X.K) te ti) := pe_ix ix_list ha hb (fun _ _ => rfl)
theorem pe_atc {j : Nat} {i : Int} {q : Pos} (ha : PE X e te) : PE X (.Subscript e (.Constant (.int i) j q) pos) (tOp (rIxL X.K) te (tC (.int i))) := pe_ix ix_list ha pe_int (fun _ _ => rfl)
/-- eight written numbers -/
theorem pe_lst8 {a1 a2 a3 a4 a5 a6 a7 a8 : Int} {j1 j2 j3 j4 j5 j6 j7 j8 : Nat} {p1 p2 p3 p4 p5 p6 p7 p8 : Pos} :
    PE X (.List [.Constant (.int a1) j1 p1, .Constant (.int a2) j2 p2, .Constant (.int a3) j3 p3, .Constant (.int a4) j4 p4, .Constant (.int a5) j5 p5, .Constant (.int a6) j6 p6, .Constant (.int a7) j7 p7, .Constant (.int a8) j8 p8] pos)
      (fun _ H Q => ∀ p, H p = none → Q (.ref p) (upd H p (.lst [.int a1, .int a2, .int a3, .int a4, .int a5, .int a6, .int a7, .int a8]))) := by
  intro pins s σ H Q I h
  exact pe_lst (pac pe_int (pac pe_int (pac pe_int (pac pe_int (pac pe_int (pac pe_int (pac pe_int (pac pe_int pa_nil)))))))) pins s σ H Q I ⟨Nat.le_of_lt (small1000 (show 8 ≤ 1000 by decide)), h⟩
theorem pe_nilx : PE X (.List [] pos) (fun _ H Q => ∀ p, H p = none → Q (.ref p) (upd H p (.lst []))) := by
  intro pins s σ H Q I h
  exact pe_lst pa_nil pins s σ H Q I ⟨Nat.zero_le _, h⟩
end
/-- a def that never refuses here -/
theorem passF {P : Program} {w : World} {X : Cx} : Passes (CX1 P w) X E0 := fun _ _ _ _ _ _ _ h => by
  obtain ⟨_, _, _, _, _, z⟩ := h
  exact z.elim
end FT

end
-- part 8
section
set_option Elab.async false
set_option linter.all false
set_option maxRecDepth 100000
namespace FT
open PySem PySem.Spec PyProof.Rows L2
/-! ### several handlers -/
structure Landed (X : Cx) (pins : List (Addr × Obj)) (σ : L2.St) (H : Hp) (ea C : Addr) (s : Shared) : Prop where
  inv : Inv X pins σ H s
  dn : Dn ea s.heap
  fr : H ea = none
  fly : ∃ B a0, Heap.FlyingW B (X.env :: X.outer) ea (.ref C) a0 s.heap ∧ ∀ h6, B.StaysIn h6 → s.heap.UpToSlots h6 → Inv X pins σ H { s with heap := h6 }
def PH (X : Cx) (hs : List ExceptHandler) (th : Addr → TS) : Prop :=
  ∀ (pins : List (Addr × Obj)) (s : Shared) (σ : L2.St) (H : Hp) (D : Ends) (ea C : Addr), Landed X pins σ H ea C s → th C D σ H → wpAny (model X.prog X.w) X.A (handleBy (.ref ea) X.env hs) (SP X pins D) X.xe s
theorem ph_nil {X : Cx} : PH X [] (fun _ _ _ _ => False) := fun _ _ _ _ _ _ _ _ h => h.elim
theorem looks_cls {M : Model} {h : Heap} {e : Addr} {ob : Obj} (he : h.get? e = some ob) : PySem.W.Looks M h (typeOf (.ref e)) ob.cls := (PySem.W.Looks.ld he).andThen .now
def tHand (K : PySem.W.Frag) (C2 : Addr) (ts : TS) (th : Addr → TS) : Addr → TS := fun C D σ H =>
  (PySem.W.exmOne K (.ref C) (.ref C2) = some true ∧ ts D σ H) ∨ (PySem.W.exmOne K (.ref C) (.ref C2) = some false ∧ th C D σ H)
theorem ph_cons {X : Cx} {x : Str} {C2 : Addr} {suite : List Stmt} {b₀ : Stmt} {rest : List ExceptHandler} {ts : TS} {th : Addr → TS} {np hpos : Pos} (hm : X.mg x = some (.ref C2)) (hg : Gl X x)
    (hs : ∀ ea, PSs (held X ea) (b₀ :: suite) ts) (hr : PH X rest th) (hd : (x == ("__debug__" : Str)) = false := by decide) :
    PH X (.ExceptHandler (some (.Name x np)) none (b₀ :: suite) hpos :: rest) (tHand X.K C2 ts th) := by
  intro pins s σ H D ea C L h
  obtain ⟨I5, dn5, fr5, B, a0, fl5, k⟩ := L
  refine wpAny_handleBy_cons (codeAny_handlers_test (ld_glob (X := held X ea) (inv_held I5 ea) hg hm ?_ hd)) (by intro z; cases z)
  obtain ⟨ob, hob, hobc⟩ := fl5.there
  have lt := looks_cls (M := model X.prog X.w) hob
  rw [hobc] at lt
  rcases h with ⟨e, ht⟩ | ⟨e, ht⟩
  · refine (PySem.W.exm_one I5.kIn lt e).here ?_
    refine codeAny_handlers_suite ?_
    refine lands_againW fl5 fun h6 fl6 up6 => ?_
    have I6 : Inv X pins σ H { s with heap := h6 } := k h6 fl6.1 up6
    exact wpAny_mono (hs ea pins _ σ H D (inv_held I6 ea) ht) (fun fl s7 q7 => sp_unheld I5.ok q7) fun _ _ z => z.elim
  · refine (PySem.W.exm_one I5.kIn lt e).here ?_
    exact hr pins s σ H D ea C ⟨I5, dn5, fr5, B, a0, fl5, k⟩ ht
theorem ps_tryH {X : Cx} {body : List Stmt} {h₀ : ExceptHandler} {hs : List ExceptHandler} {tb : TSX} {th : Addr → TS} {pos : Pos} (hst : X.stack = X.env :: X.outer) (hf : X.env.frame = some X.env.locals)
    (hb : PSsX X body tb) (hh : PH X (h₀ :: hs) th) : PS X (.Try body (h₀ :: hs) [] [] pos) (fun D σ H => tb D (fun C σ' H' => th C D σ' H') σ H) := by
  intro pins s σ H D I h
  refine wpAny_Try_except (wpAny_mono (hb pins s σ H D _ I h) (fun fl s1 q => ?_) (fun e s1 q => ?_))
  · cases fl with
    | next => exact wpAny_execs_nil q
    | ret v => exact q
    | brk => exact q
    | cont => exact q
  · obtain ⟨ea, C', σ', H1, s0, H', rfl, I0, f, ht⟩ := q
    obtain ⟨B, a0, fl, k1, k2⟩ := f.fly
    have fl0 := fl
    rw [hst] at fl0
    obtain ⟨z1, z2, z3, z4⟩ := fl0
    refine note_d (by rw [I0.ok.frames, hst]) z3 hf z4 z1 z2 f.dn fun h4 nh4 dn4 => ?_
    obtain ⟨y1, y2, y3, up4⟩ := nh4
    have up4 : s1.heap.UpToSlots h4 := up4
    refine flight_d (s := { s1 with heap := h4 }) y1 y2 y3 z2 dn4 fun h5 fl5 up5 dn5 => ?_
    have I5 : Inv X pins σ' H' { s1 with heap := h5 } := land I0 f fl.1 k1 k2 fl5.1 (up4.trans up5)
    have fr5 : H' ea = none := by
      cases q : H' ea with
      | none => rfl
      | some u =>
        obtain ⟨o', ho'⟩ := k2 ea u q
        rw [z2] at ho'; cases ho'
    exact hh pins _ σ' H' D ea C' ⟨I5, dn5, fr5, B, a0, fl5, fun h6 st6 up6 => (show Inv X pins σ' H' { s1 with heap := h6 } from land (s' := s1) I0 f fl.1 k1 k2 st6 ((up4.trans up5).trans up6))⟩ ht
end FT

end
-- part 9
section
set_option Elab.async false
set_option linter.all false
set_option maxRecDepth 100000
namespace FT
open PySem PySem.Spec PyProof.Rows L2
/-! ### a list comprehension, its block a context of its own -/
abbrev NoX : Value → Shared → Prop := fun _ _ => False
section
variable {prog : Program} {w : World} {A : Around} {R : Result → Shared → Prop} {s : Shared}
theorem comp_loop {elt tg iter : Expr} {scope : Scope} {pos : Pos} {it acc : Value} {env : Env} (W : Nat → Shared → Prop)
    (turn : ∀ n s, W n s → wpAny (model prog w) A (pyNext it) (fun r s1 => match r with
      | none => R (.ok .next) s1
      | some v => wpAny (model prog w) A (letOwnedTupleGo tg it v) (fun _ s2 => wpAny (model prog w) A (assign tg env v) (fun _ s3 => wpAny (model prog w) A (eval elt env) (fun x s4 =>
          wpAny (model prog w) A (call (.builtin "list.append") [acc, x]) (fun _ s5 => ∃ m, m < n ∧ W m s5) NoX s4) NoX s3) NoX s2) NoX s1) NoX s)
    (n : Nat) (h : W n s) : codeAny (model prog w) A (.compLoop (.ListComp elt [⟨tg, iter, [], 0⟩] scope pos) 0 it acc env) R s := by
  refine codeAny_loop rfl W (fun k s hW => ?_) n h
  show wpAny _ _ (Sem.onRaise (compTurn _ 0 it acc env) _) _ _ s
  refine wpAny_noted ?_
  rw [compTurn_list1]
  refine wpAny_bind (wpAny_standAt (wpAny_bind (wpAny_mono (turn k s hW) (fun r s1 h1 => ?_) fun _ _ z => z.elim)))
  cases r with
  | none => exact wpAny_pure h1
  | some v =>
    refine wpAny_bind (wpAny_mono h1 (fun _ s2 h2 => ?_) fun _ _ z => z.elim)
    refine wpAny_bind (wpAny_mono h2 (fun _ s3 h3 => ?_) fun _ _ z => z.elim)
    refine wpAny_bind (wpAny_bind (wpAny_mono h3 (fun x s4 h4 => ?_) fun _ _ z => z.elim))
    exact wpAny_bind (wpAny_mono h4 (fun _ s5 h5 => wpAny_pure (wpAny_pure ⟨rfl, h5⟩)) fun _ _ z => z.elim)
end
abbrev lcx (X : Cx) (scope : Scope) (cl : List (Str × Addr)) (N' : List Str) (C : Addr) (s : Shared) (H : Hp) (fp : List Addr) : Cx :=
  { X with N := N', s₀ := s, H₀ := H, env := compEnvC scope cl C X.env, outer := X.stack, ex := fp, fn := fun _ => false, pn := [], xe := NoX }
def Caps (X : Cx) (scope : Scope) : List Str → List Nat → Prop
  | [], [] => True
  | y :: ys, j :: js => (X.N[j]? = some y ∧ X.env.kindOf y = some .cell ∧ (relabel scope X.env).names.lookup y = some .cell) ∧ Caps X scope ys js
  | _, _ => False
theorem Caps.get {X : Cx} {scope : Scope} : ∀ {ys : List Str} {js : List Nat}, Caps X scope ys js → ys.length = js.length ∧
    ∀ (i : Nat) y, ys[i]? = some y → ∃ j, js[i]? = some j ∧ X.N[j]? = some y ∧ X.env.kindOf y = some .cell ∧ (relabel scope X.env).names.lookup y = some .cell
  | [], [], _ => ⟨rfl, fun i y h => by simp at h⟩
  | y :: ys, j :: js, h => by
    obtain ⟨a, r⟩ := h
    obtain ⟨l, g⟩ := Caps.get r
    refine ⟨by simp [l], fun i z hz => ?_⟩
    cases i with
    | zero => simp at hz; subst hz; exact ⟨j, rfl, a⟩
    | succ i => exact g i z (by simpa using hz)
  | [], _ :: _, h => h.elim
  | _ :: _, [], h => h.elim
structure LcOk (X : Cx) (scope : Scope) (cl : List (Str × Addr)) (N' : List Str) (k : Nat) (cap : List Nat) : Prop where
  clos : closureFor scope X.env = pure cl
  sub : ∀ y c, cl.lookup y = some c → X.env.cells.lookup y = some c
  has : ((relabel scope X.env).names.all fun p => !(p.2 == .cell || p.2 == .free) || (cl.lookup p.1).isSome) = true
  nocell : ∀ y ∈ scope.names, y.2 ≠ .cell
  kind : scope.kind = .function
  names : ∀ y ∈ scope.names, y.2 = .local → scope.names.lookup y.1 = some .local
  caps : Caps X scope (N'.drop k) cap
  len : k ≤ N'.length
theorem LcOk.hasC {X : Cx} {scope : Scope} {cl : List (Str × Addr)} {N' : List Str} {k : Nat} {cap : List Nat} (L : LcOk X scope cl N' k cap) {y : Str}
    (h : (relabel scope X.env).names.lookup y = some .cell ∨ (relabel scope X.env).names.lookup y = some .free) : ∃ c, cl.lookup y = some c := by
  have z := List.all_eq_true.mp L.has
  rcases h with h | h
  · have q := z _ (PySem.mem_of_lookup h)
    exact Option.isSome_iff_exists.mp (by simpa using q)
  · have q := z _ (PySem.mem_of_lookup h)
    exact Option.isSome_iff_exists.mp (by simpa using q)
/-- the block's names at its start -/
def lcSt (k : Nat) (cap : List Nat) (σ : L2.St) : L2.St := List.replicate k none ++ cap.map fun j => (σ[j]?).join
def tLc (wi : TI) (g : TG) (te : TE) (k : Nat) (cap : List Nat) : TE := fun σ H Q => wi σ H fun J H1 => ∀ D, H1 D = none → ∃ (n : Nat) (W : Nat → L2.St → Hp → List V → Prop), n < sizeLine ∧ W 0 (lcSt k cap σ) (upd H1 D (.lst [])) [] ∧
  ∀ i τ H2 ys, W i τ H2 ys → i ≤ n → ys.length = i → H2 D = some (.lst ys) → (i = n → J.stop i H2 ∧ Q (.ref D) H2) ∧
    (i < n → J.go i H2 ∧ ∀ x H3, J.yld i H2 x H3 → g x τ H3 fun τ2 H4 => te τ2 H4 fun v H5 => H5 D = some (.lst ys) ∧ W (i + 1) τ2 (upd H5 D (.lst (ys ++ [v]))) (ys ++ [v]))
section
variable {X : Cx} {scope : Scope} {cl : List (Str × Addr)} {N' : List Str} {k : Nat} {cap : List Nat} {pins : List (Addr × Obj)} {σ : L2.St} {H : Hp} {s : Shared} {fp : List Addr}
theorem lc_start {h1 : Heap} {C D : Addr} {tk : Nat} (L : LcOk X scope cl N' k cap) (I : Inv X pins σ H s) (hf : ∀ b ∈ fp, FpOk X pins H b) (ho : ∀ b ∈ fp, ∃ o, s.heap.get? b = some o)
    (hD : D = s.heap.objs.size) (hC : C = s.heap.objs.size + 1) (kp : ∀ b o, s.heap.get? b = some o → h1.get? b = some o) (hns : h1.Ns C fun _ => none) (hl : h1.get? D = some { cls := .type "list", dict := none, data := .seq #[] 0 }) :
    Inv (lcx X scope cl N' C s H fp) [] (lcSt k cap σ) (upd H D (.lst [])) { s with heap := h1, toks := tk } := by
  have cne : ∀ x c, cl.lookup x = some c → c < s.heap.objs.size := fun x c e => by
    obtain ⟨v, o, q, _⟩ := I.cell x c (L.sub x c e)
    exact Heap.lt_size q
  have hDn : H D = none := by rw [hD]; exact I.hok.fresh (Nat.le_refl _)
  have hCn : H C = none := by rw [hC]; exact I.hok.fresh (Nat.le_succ _)
  have hCD : C ≠ D := by rw [hC, hD]; exact Nat.succ_ne_self _
  obtain ⟨cl1, cg⟩ := L.caps.get
  have ndrop : (N'.drop k).length = N'.length - k := List.length_drop
  refine ⟨⟨I.ok.mod, L.kind, I.ok.glob, I.ok.blt, by show _ ≤ C; rw [hC]; exact Nat.le_succ _, fun x y c h1 h2 => I.ok.inj x y c (L.sub x c h1) (L.sub y c h2), fun x h => L.hasC h, fun _ _ z => Bool.noConfusion z, I.ok.hd, I.ok.frames, .inl rfl,
    fun b hb => ?_, I.bs, Nat.le_trans I.ok.bsz I.sz, fun b o e hb => ?_, fun b hb z => ?_, I.stack, I.stkFree⟩, rfl, I.bare, Un.laid kp (by rw [hD]; exact Nat.le_refl _) hDn, ⟨_, hns, fun i x v e1 e2 e3 => ?_⟩, fun x c e => ?_, ?_, fun x c e => ?_,
    fun p hp => absurd (show p ∈ ([] : List (Addr × Obj)) from hp) (by simp), ?_, ?_⟩
  · obtain ⟨o, q⟩ := ho b hb
    refine ⟨fun z => ?_, fun x c e => (hf b hb).2.2.2.2.1 x c (L.sub x c e)⟩
    have z1 : b = C := z
    have := Heap.lt_size q
    rw [z1, hC] at this
    exact absurd this (Nat.not_lt.mpr (Nat.le_succ _))
  · rcases (hf b hb).2.2.2.1 with z | z
    · exact I.ok.noex b o e z
    · exact absurd (Nat.lt_of_lt_of_le (Heap.lt_size (I.ok.bs b o e).1) z) (Nat.lt_irrefl _)
  · rcases List.mem_cons.mp (I.stkSub b z) with y | y
    · exact (hf b hb).2.1 y
    · exact (hf b hb).2.2.1 y
  · have hik : k ≤ i := by
      rcases Nat.lt_or_ge i k with z | z
      · have e2' : (List.replicate k none ++ cap.map fun j => (σ[j]?).join)[i]? = some (some v) := e2
        rw [List.getElem?_append_left (by rw [List.length_replicate]; exact z), List.getElem?_replicate, if_pos z] at e2'
        cases e2'
      · exact z
    have e1' : N'[i]? = some x := e1
    have ed : (N'.drop k)[i - k]? = some x := by rw [List.getElem?_drop, show k + (i - k) = i by omega]; exact e1'
    obtain ⟨j, hj, hN, hk1, hk2⟩ := cg _ _ ed
    have e2' : (List.replicate k none ++ cap.map fun j => (σ[j]?).join)[i]? = some (some v) := e2
    rw [List.getElem?_append_right (by rw [List.length_replicate]; exact hik), List.length_replicate, List.getElem?_map, hj] at e2'
    have e4 : (σ[j]?).join = some v := Option.some.inj e2'
    have e5 : σ[j]? = some (some v) := by
      cases q : σ[j]? with
      | none => rw [q] at e4; cases e4
      | some y => rw [q] at e4; cases y with
        | none => cases e4
        | some y => cases e4; rfl
    obtain ⟨m, hn, hlk⟩ := I.loc
    obtain ⟨u, ru, lk⟩ := hlk j x v hN e5 (.inr (.inl hk1))
    obtain ⟨c, hc⟩ := L.hasC (.inl hk2)
    refine ⟨u, ru, .inr ⟨.inl hk2, c, hc, ?_⟩⟩
    rcases lk with ⟨z, _⟩ | ⟨_, c', e, z⟩
    · rw [hk1] at z; cases z
    · rw [L.sub _ _ hc] at e; cases e
      exact z.keeps kp
  · obtain ⟨v, z⟩ := I.cell x c (L.sub x c e)
    exact ⟨v, z.keeps kp⟩
  · show upd H D (.lst []) C = none
    rw [upd_ne hCD]; exact hCn
  · rw [upd_ne (by rw [hD]; exact Nat.ne_of_lt (cne x c e))]
    exact I.freeC x c (L.sub x c e)
  · exact I.hok.laid kp (by rw [hD]; exact Nat.le_refl _) ⟨Nat.zero_le _, [], 0, .nil, hl⟩
  · show (lcSt k cap σ).length = N'.length
    unfold lcSt
    rw [List.length_append, List.length_replicate, List.length_map, ← cl1, ndrop]
    have := L.len
    omega
theorem lc_end {C : Addr} {τ : L2.St} {H1 : Hp} {s1 : Shared} {h' : Heap} {pl : List (Addr × Obj)} (I : Inv X pins σ H s) (hf : ∀ b ∈ fp, FpOk X pins H b) (hC : C = s.heap.objs.size + 1)
    (I1 : Inv (lcx X scope cl N' C s H fp) pl τ H1 s1) (hs : Heap.SameBut C s1.heap h') : Inv X pins σ H1 { s1 with heap := h' } := by
  have ne : ∀ b o, s.heap.get? b = some o → b ≠ C := fun b o q z => by
    have := Heap.lt_size q
    rw [z, hC] at this
    exact absurd this (Nat.not_lt.mpr (Nat.le_succ _))
  have u : Un (frs X.stack) fp H H1 s.heap s1.heap := I1.base
  have hCn : H1 C = none := I1.free
  refine I.call' (s' := { s1 with heap := h' }) (ch := fp) I1.os ⟨fun b o q n hb hx => ?_, fun b o q n hb hx => ?_, u.free, fun b o q hx => ?_, u.tups, u.frzs, u.tbls⟩ ?_ I1.bare fun b hb => ⟨(hf b hb).2.2.2.1, (hf b hb).2.1, (hf b hb).2.2.2.2.1, (hf b hb).2.2.2.2.2⟩
  · exact (hs.2 b (ne b o q)).trans (u.keep b o q n hb hx)
  · obtain ⟨sl, e⟩ := u.slot b o q n hb hx
    exact ⟨sl, (hs.2 b (ne b o q)).trans e⟩
  · obtain ⟨o', e⟩ := u.there b o q hx
    exact ⟨o', (hs.2 b (ne b o q)).trans e⟩
  · intro b ob e
    refine (I1.hok b ob e).stay (fun c w' hc q => (hs.2 c ?_).trans q) (fun _ q => q) fun _ _ q => q
    rintro rfl
    rcases hc with rfl | hc
    · rw [hCn] at e; cases e
    · rw [hCn] at hc; cases hc
end
theorem pe_lc {X : Cx} {scope : Scope} {cl : List (Str × Addr)} {N' : List Str} {k : Nat} {cap : List Nat} {tg iter elt : Expr} {wi : TI} {g : TG} {te : TE} {pos : Pos} (hc : X.calm = true) (L : LcOk X scope cl N' k cap) (hi : PI X tg iter wi)
    (hg : ∀ C s H fp, PG (lcx X scope cl N' C s H fp) tg g) (he : ∀ C s H fp, PE (lcx X scope cl N' C s H fp) elt te) (hs : ∀ x, foldedSetIterable iter X.env x = pure x := by intro _; rfl) :
    PE X (.ListComp elt [⟨tg, iter, [], 0⟩] scope pos) (tLc wi g te k cap) := by
  intro pins s σ H Q I h
  rw [eval_ListComp]
  refine wpAny_comprehension_free (use := none) rfl hs L.clos L.kind L.names (thn (hi pins s σ H _ I h) fun v s1 h1 => thn h1 fun itv s2 h2 => ?_)
  obtain ⟨it, fp, tn, J, H2, rfl, I2, T, st2, f2, q⟩ := h2
  obtain ⟨n, W, hn, w0, step⟩ := q s2.heap.objs.size (I2.hok.fresh (Nat.le_refl _))
  have o2 : ∀ b ∈ fp, ∃ o, s2.heap.get? b = some o := fun b hb => let ⟨o, e, _⟩ := T.obj _ _ st2 b hb; ⟨o, e⟩
  refine wpAny_newObj_type (wpAny_newFunctionEnv L.nocell (fun y hy => absurd hy (by simp)) (fun h3 hns hsb => ?_) L.kind)
  dsimp only at hns hsb ⊢
  generalize hP : s2.heap.push { cls := .type "list", dict := none, data := .seq ([] : List Value).toArray } = P at hns hsb ⊢
  have hPs : P.objs.size = s2.heap.objs.size + 1 := by rw [← hP, Heap.size_push]
  have kP : ∀ b o, s2.heap.get? b = some o → P.get? b = some o := fun b o e => by rw [← hP]; exact Heap.get?_push_of_some _ e
  have lP : P.get? s2.heap.objs.size = some { cls := .type "list", dict := none, data := .seq #[] 0 } := by rw [← hP]; exact Heap.get?_push_size _ rfl
  have k3 : ∀ b o, P.get? b = some o → h3.get? b = some o := fun b o e => hsb.extBut b o (Nat.ne_of_lt (Heap.lt_size e)) (Heap.get?_push_of_some _ e)
  have I3 := lc_start (tk := s2.toks + ([] : List (Str × Value)).length) L I2 f2 o2 rfl hPs (fun b o e => k3 b o (kP b o e)) hns (k3 _ _ lP)
  have st3 : tn 0 h3 := T.keep _ _ _ st2 fun b _ o e => k3 b o (kP b o e)
  have stat : ∀ {H' : Hp} {pl : List (Addr × Obj)}, (∀ b ∈ fp, H' b = none) → pl = [] → ∀ b ∈ fp, FpOk (lcx X scope cl N' P.objs.size s2 H2 fp) pl H' b := fun {H' pl} fr hp b hb => by
    subst hp
    have z := I3.ok.exf b hb
    exact ⟨fr b hb, z.1, I3.ok.exfs b hb, .inl hb, z.2, fun p hp => absurd (show p ∈ ([] : List (Addr × Obj)) from hp) (by simp)⟩
  have fr3 : ∀ b ∈ fp, upd H2 s2.heap.objs.size (.lst []) b = none := fun b hb => by
    obtain ⟨o, e⟩ := o2 b hb
    rw [upd_ne (Nat.ne_of_lt (Heap.lt_size e))]
    exact (f2 b hb).1
  have loop : codeAny (model X.prog X.w) X.A (.compLoop (.ListComp elt [⟨tg, iter, [], 0⟩] scope pos) 0 (.ref it) (.ref s2.heap.objs.size) (compEnvC scope cl P.objs.size X.env))
      (compPost (model X.prog X.w) X.A X.xe none (EP X pins σ Q) (.ref s2.heap.objs.size) P.objs.size) { s2 with heap := h3, toks := s2.toks + ([] : List (Str × Value)).length } := by
    refine comp_loop (fun m s' => ∃ i τ H' ys, Inv (lcx X scope cl N' P.objs.size s2 H2 fp) [] τ H' s' ∧ tn i s'.heap ∧ (∀ b ∈ fp, H' b = none) ∧ H' s2.heap.objs.size = some (.lst ys) ∧ ys.length = i ∧ i ≤ n ∧ m = n - i ∧ W i τ H' ys) ?_ n
      ⟨0, _, _, [], I3, st3, fr3, upd_same, rfl, Nat.zero_le _, rfl, w0⟩
    rintro m s4 ⟨i, τ, H4, ys, I4, st4, fr4, hD4, hl4, hi4, rfl, w4⟩
    obtain ⟨hstop, hgo⟩ := step i τ H4 ys w4 hi4 hl4 hD4
    rcases Nat.eq_or_lt_of_le hi4 with e | e
    · obtain ⟨js, qq⟩ := hstop e
      refine thn (T.done (lcx X scope cl N' P.objs.size s2 H2 fp) rfl rfl rfl hc i [] s4 τ H4 NoX I4 (stat fr4 rfl) st4 js) fun r s5 ⟨hr, I5⟩ => ?_
      subst hr
      obtain ⟨m5, n5, _⟩ := id I5.loc
      exact ⟨m5, n5, fun h' hs' => ⟨.ref s2.heap.objs.size, H4, lc_end I2 f2 hPs I5 hs', rfl, qq⟩⟩
    · obtain ⟨jg, qq⟩ := hgo e
      refine thn (T.item (lcx X scope cl N' P.objs.size s2 H2 fp) rfl rfl rfl hc i [] s4 τ H4 NoX I4 (stat fr4 rfl) st4 jg) fun r s5 ⟨u, hr, h5⟩ => ?_
      subst hr
      refine thn h5 fun _ s6 ⟨x, H6, I6, r6, y6, st6, fr6⟩ => ?_
      have I6' := I6.pinned (stat fr6 rfl) (T.obj _ _ st6)
      refine thn (hg _ _ _ _ _ s6 τ H6 x u _ I6' r6 (qq x H6 y6)) fun _ s7 ⟨τ7, H7, I7, q7⟩ => ?_
      refine thn (he _ _ _ _ _ s7 τ7 H7 _ I7 q7) fun v8 s8 ⟨v, H8, I8, r8, hD8, w8⟩ => ?_
      refine thn (mt_append _ s8 τ7 H8 (.ref s2.heap.objs.size) [v] (.ref s2.heap.objs.size) [v8] (fun x H9 => H9 = upd H8 s2.heap.objs.size (.lst (ys ++ [v]))) I8 rfl (.cons r8 .nil)
        ⟨_, _, _, rfl, rfl, hD8, by rw [hl4]; exact Nat.lt_trans e hn, rfl⟩) fun _ s9 ⟨_, H9, I9, _, e9⟩ => ?_
      subst e9
      have pinq : ∀ b ∈ fp, ∀ o, s6.heap.get? b = some o → s9.heap.get? b = some o ∧ upd H8 s2.heap.objs.size (.lst (ys ++ [v])) b = none := fun b hb o e =>
        ⟨(I9.pin (b, o) (List.mem_append_right _ (List.mem_append_right _ (mem_pinsAt hb e)))).1, (I9.pin (b, o) (List.mem_append_right _ (List.mem_append_right _ (mem_pinsAt hb e)))).2.1⟩
      refine ⟨n - (i + 1), by omega, i + 1, τ7, _, ys ++ [v], I9.unpinned, T.keep _ _ _ st6 fun b hb o e => (pinq b hb o e).1, fun b hb => ?_, upd_same, by rw [List.length_append, hl4]; rfl, e, rfl, w8⟩
      obtain ⟨o, e6, _⟩ := T.obj _ _ st6 b hb
      exact (pinq b hb o e6).2
  exact codeAny_compStart_list loop (T.self _ 0 _ _ _ st3 loop)
end FT

end
-- part 10
section
set_option Elab.async false
set_option linter.all false
set_option maxRecDepth 100000
namespace FT
open PySem PySem.Spec PyProof.Rows L2
/-! ### reversed(xs) -/
def Itv (K : PySem.W.Frag) (a : Addr) (xs : List V) : It :=
  ⟨fun i H => i < xs.length ∧ SqL K H a xs, fun i H x H' => H' = H ∧ xs[xs.length - 1 - i]? = some x, fun i _ => i = xs.length⟩
theorem turn_rev {P : Program} {w : World} {K : PySem.W.Frag} {tg : Expr} (a it : Addr) (xs : List V) : Turn P w K tg (Itv K a xs) [it] it (fun i h => h.IsRevIter it a ((xs.length : Int) - 1 - ((i : Nat) : Int))) where
  mem := List.mem_singleton.mpr rfl
  obj := fun i h st b hb => by
    have e := List.mem_singleton.mp hb
    subst e
    obtain ⟨o, e, c, d⟩ := st
    exact ⟨o, e, fun v z => by rw [d] at z; cases z⟩
  keep := fun i h h' st k => st.at fun o e => k it (List.mem_singleton.mpr rfl) o e
  item := by
    intro X hP hw hK hc i pins s σ H E I hf st hg
    subst hP hw hK
    obtain ⟨hi, hq⟩ := hg
    obtain ⟨its, rv, p, hz⟩ := I.list hq
    have ej : (xs.length : Int) - 1 - ((i : Nat) : Int) = ((xs.length - 1 - i : Nat) : Int) := by omega
    have hx : xs[xs.length - 1 - i]? = some (xs[xs.length - 1 - i]'(by omega)) := List.getElem?_eq_getElem (by omega)
    obtain ⟨u, hu, ru⟩ := rv.get hx
    obtain ⟨f0, f1, f2, f3, f4, f5⟩ := hf it (List.mem_singleton.mpr rfl)
    rw [ej] at st
    refine wpAny_pyNext_rev_item st p.isList (x := u) (by simpa using hu) fun h' st' sb => ?_
    have I1 : Inv X pins σ H { s with heap := h' } := I.turned (t' := s.toks) (fun b o hb e => (sb.2 b hb).trans e) f0 f1 f3 f4 f5
    obtain ⟨o, e, c, d⟩ := id st'
    refine ⟨u, rfl, go_of (s := { s with heap := h' }) e c d (by decide) ⟨_, H, I1, ru, ⟨rfl, hx⟩, ?_, fun b hb => (hf b hb).1⟩⟩
    have e2 : ((xs.length - 1 - i : Nat) : Int) - 1 = (xs.length : Int) - 1 - ((i + 1 : Nat) : Int) := by omega
    rw [e2] at st'
    exact st'
  done := by
    intro X hP hw hK hc i pins s σ H E I hf st hg
    subst hP hw hK
    have hg : i = xs.length := hg
    obtain ⟨f0, f1, f2, f3, f4, f5⟩ := hf it (List.mem_singleton.mpr rfl)
    have ej : (xs.length : Int) - 1 - ((i : Nat) : Int) = -1 := by omega
    rw [ej] at st
    exact wpAny_pyNext_rev_end (I.ok.hd hc) st fun h' eb => ⟨rfl, I.turned (t' := s.toks) (fun b o hb e => eb b o hb e) f0 f1 f3 f4 f5⟩
  self := fun _ _ _ _ _ st h => wpAny_pyIter_revIter st h
def iRev (K : PySem.W.Frag) (tl : TE) : TI := fun σ H R => tl σ H fun x H1 => ∃ a xs, x = .ref a ∧ SqL K H1 a xs ∧ R (Itv K a xs) H1
section
variable {X : Cx} {tg : Expr}
theorem pi_rev {l : Expr} {tl : TE} {p pos : Pos} (hm : X.mg "reversed" = none) (hl : PE X l tl) (hg : Gl X "reversed" := by rfl) (h1 : notStar l = true := by rfl) : PI X tg (.Call (.Name "reversed" p) [l] [] pos) (iRev X.K tl) := by
  intro pins s σ H R I h
  have z : wpAny (model X.prog X.w) X.A (spliced (backTo pos (starEach [l] X.env))) (AP X pins σ fun vs H1 => ∃ a xs, vs = [.ref a] ∧ SqL X.K H1 a xs ∧ R (Itv X.K a xs) H1) X.xe s := by
    have pa : PA X [l] (tCons tl tNil) := pac hl pa_nil h1
    refine thn (pa pos pins s σ H (fun vs H1 => ∃ x, vs = [x] ∧ ∃ a xs, x = .ref a ∧ SqL X.K H1 a xs ∧ R (Itv X.K a xs) H1) I ?_) fun us s1 ⟨vs, H1, I1, r1, x, e, a, xs, ex, q⟩ => ⟨vs, H1, I1, r1, a, xs, by rw [e, ex], q⟩
    have mono : ∀ {Q Q' : VK}, (∀ v H, Q v H → Q' v H) → Q = Q' ∨ True := fun _ => .inr trivial
    have e : (tCons tl tNil) σ H (fun vs H1 => ∃ x, vs = [x] ∧ ∃ a xs, x = .ref a ∧ SqL X.K H1 a xs ∧ R (Itv X.K a xs) H1) = tl σ H fun x H1 => ∃ y, [x] = [y] ∧ ∃ a xs, y = .ref a ∧ SqL X.K H1 a xs ∧ R (Itv X.K a xs) H1 := rfl
    rw [e]
    have e2 : (fun (x : V) (H1 : Hp) => ∃ y, [x] = [y] ∧ ∃ a xs, y = .ref a ∧ SqL X.K H1 a xs ∧ R (Itv X.K a xs) H1) = fun x H1 => ∃ a xs, x = .ref a ∧ SqL X.K H1 a xs ∧ R (Itv X.K a xs) H1 := by
      funext x H1
      apply propext
      constructor
      · rintro ⟨y, ey, r⟩
        cases ey
        exact r
      · exact fun r => ⟨x, rfl, r⟩
    rw [e2]
    exact h
  refine Call_ (ld_blt I hg hm boot_reversed (PyProof.Rows.callWith_type1 (thn z fun us s1 ⟨vs, H1, I1, r1, a, xs, ev, hq, q⟩ => ?_) (star_plain h1) rfl))
  subst ev
  obtain ⟨u, rfl, ru⟩ := Vals.one r1
  cases (show u = Value.ref a from ru)
  obtain ⟨its, rv, pl, hz⟩ := I1.list hq
  have hl2 := rv.length
  refine call_reversed_list pl.isList ?_
  have ei : ((its.toArray.size : Nat) : Int) - 1 = (xs.length : Int) - 1 - ((0 : Nat) : Int) := by simp only [List.size_toArray]; omega
  have st : Heap.IsRevIter (s1.heap.push (revObj a (((its.toArray.size : Nat) : Int) - 1))) s1.heap.objs.size a ((xs.length : Int) - 1 - ((0 : Nat) : Int)) := by
    rw [← ei]
    exact ⟨_, Heap.get?_push_size _ rfl, rfl, rfl⟩
  refine wpAny_pyIter_revIter st ?_
  refine ⟨s1.heap.objs.size, [s1.heap.objs.size], _, _, H1, rfl, I1.kept (t' := s1.toks) fun b o e => Heap.get?_push_of_some _ e, turn_rev a _ xs, st, fun b hb => ?_, q⟩
  have e := List.mem_singleton.mp hb
  subst e
  exact I1.fpOk (Nat.le_refl _) (I1.hok.fresh (Nat.le_refl _))
end
theorem for_rev {K : PySem.W.Frag} {a : Addr} {xs : List V} {g : TG} {tb : TS} {D : Ends} {σ : L2.St} {H : Hp} (Pv : Nat → L2.St → Hp → Prop) (h0 : Pv 0 σ H) (hl : ∀ i σ H, Pv i σ H → SqL K H a xs)
    (hs : ∀ i x σ H, i < xs.length → xs[xs.length - 1 - i]? = some x → Pv i σ H → g x σ H fun σ2 H2 => tb { D with nx := Pv (i + 1), ct := Pv (i + 1), bk := D.nx } σ2 H2) (hd : ∀ σ H, Pv xs.length σ H → D.nx σ H) :
    ∃ W : Nat → Nat → L2.St → Hp → Prop, (∃ m, W 0 m σ H) ∧ ∀ i m σ H, W i m σ H →
      ((Itv K a xs).stop i H ∧ D.nx σ H) ∨ ((Itv K a xs).go i H ∧ ∃ N : L2.St → Hp → Prop, (∀ σ' H', N σ' H' → ∃ m', m' < m ∧ W (i + 1) m' σ' H') ∧ ∀ x H', (Itv K a xs).yld i H x H' → g x σ H' fun σ2 H2 => tb { D with nx := N, ct := N, bk := D.nx } σ2 H2) := by
  refine ⟨fun i m σ H => m = xs.length - i ∧ i ≤ xs.length ∧ Pv i σ H, ⟨xs.length, rfl, Nat.zero_le _, h0⟩, ?_⟩
  rintro i m σ H ⟨rfl, hi, p⟩
  rcases Nat.eq_or_lt_of_le hi with e | e
  · subst e
    exact .inl ⟨rfl, hd σ H p⟩
  · refine .inr ⟨⟨e, hl i σ H p⟩, Pv (i + 1), fun σ' H' p' => ⟨xs.length - (i + 1), by omega, rfl, e, p'⟩, ?_⟩
    rintro x H' ⟨rfl, hx⟩
    exact hs i x σ _ e hx p
/-! ### enumerate(xs), its pairs taken apart -/
def Ite (K : PySem.W.Frag) (a : Addr) (xs : List V) : It :=
  ⟨fun i H => i < xs.length ∧ SqL K H a xs, fun i H x H' => ∃ T y, x = .ref T ∧ H T = none ∧ xs[i]? = some y ∧ H' = upd H T (.tup [.int ((i : Nat) : Int), y]), fun i H => i = xs.length ∧ SqL K H a xs⟩
theorem turn_enum {P : Program} {w : World} {K : PySem.W.Frag} {elts : List Expr} {k : Nat} {tp : Pos} (a it e : Addr) (xs : List V) (hne : e ≠ it) :
    Turn P w K (.Tuple elts k tp) (Ite K a xs) [e, it] e (fun i h => (∃ old, IsEnum h e it ((i : Nat) : Int) old) ∧ h.IsListIter it a i) where
  mem := List.mem_cons_self
  obj := fun i h st b hb => by
    obtain ⟨⟨old, he⟩, o, ho, c, d⟩ := st
    rcases List.mem_cons.mp hb with rfl | hb
    · exact ⟨_, he, fun v z => by
        have z' : Data.fields _ = Data.cell v := z
        cases z'⟩
    · have e := List.mem_singleton.mp hb
      subst e
      exact ⟨o, ho, fun v z => by rw [d] at z; cases z⟩
  keep := fun i h h' st k => ⟨let ⟨old, he⟩ := st.1; ⟨old, k e List.mem_cons_self _ he⟩, st.2.at fun o x => k it (List.mem_cons_of_mem _ (List.mem_singleton.mpr rfl)) o x⟩
  item := by
    intro X hP hw hK hc i pins s σ H E I hf st hg
    subst hP hw hK
    obtain ⟨hi, hq⟩ := hg
    obtain ⟨⟨old, he⟩, hit⟩ := st
    obtain ⟨its, rv, p, hz⟩ := I.list hq
    have hx : xs[i]? = some xs[i] := List.getElem?_eq_getElem hi
    obtain ⟨u, hu, ru⟩ := rv.get hx
    have fe := hf e List.mem_cons_self
    have fi := hf it (List.mem_cons_of_mem _ (List.mem_singleton.mpr rfl))
    refine wpAny_pyNext_enum_item he hit p.isList (x := u) (by simpa using hu) hne fun h' ho hit' hT hsz hk => ?_
    refine ⟨_, rfl, wpAny_letOwnedTupleGo_enum ho fun h2 he2 hs2 => ?_⟩
    have hTn : H s.heap.objs.size = none := I.hok.fresh (Nat.le_refl _)
    have hTe : s.heap.objs.size ≠ e := Nat.ne_of_gt (Heap.lt_size he)
    have k2 : ∀ b o, b ≠ e → b ≠ it → s.heap.get? b = some o → h2.get? b = some o := fun b o h1 h3 q => (hs2.2 b h1).trans (hk b o h1 h3 q)
    have nT : ∀ b o, s.heap.get? b = some o → b ≠ s.heap.objs.size := fun b o q => Nat.ne_of_lt (Heap.lt_size q)
    have nH : ∀ b o, H b = some o → b ≠ e ∧ b ≠ it := fun b o q => ⟨ne_of_none q fe.1, ne_of_none q fi.1⟩
    have nch : ∀ b : Addr, b ∉ [e, it] → b ≠ e ∧ b ≠ it := fun b hb => ⟨fun z => hb (by simp [z]), fun z => hb (by simp [z])⟩
    have I1 : Inv X pins σ (upd H s.heap.objs.size (.tup [.int ((i : Nat) : Int), xs[i]])) { s with heap := h2, toks := s.toks + 1 } := by
      refine I.step (g' := s.gens) (d' := s.drawn) (ch := [e, it]) (fun b hb => ?_) (fun b o _ _ hc q _ => k2 b o (nch b hc).1 (nch b hc).2 q) (fun b o _ _ hc q _ => ⟨o.slots, k2 b o (nch b hc).1 (nch b hc).2 q⟩)
        (fun b o _ q n => by rw [upd_ne (nT b o q)]; exact n) (fun b o hc q => ⟨o, k2 b o (nch b hc).1 (nch b hc).2 q⟩) (fun b ys q => by rw [upd_ne (ne_of_none q hTn)]; exact q) (fun b o v q => by rw [upd_ne (ne_of_none q hTn)]; exact q)
        (fun b ps q => ⟨#[], by rw [upd_ne (ne_of_none q hTn), q]; simp⟩) (fun m hm => ?_) (fun b o q => ?_) I.bare
      · rcases List.mem_cons.mp hb with rfl | hb
        · exact ⟨fe.2.2.2.1, fe.2.1, fe.2.2.2.2.1, fe.2.2.2.2.2⟩
        · have z := List.mem_singleton.mp hb
          subst z
          exact ⟨fi.2.2.2.1, fi.2.1, fi.2.2.2.2.1, fi.2.2.2.2.2⟩
      · obtain ⟨o, es, ep, q, r⟩ := hm
        exact ⟨o, es, ep, k2 _ o (Ne.symm fe.2.1) (Ne.symm fi.2.1) q, r⟩
      · by_cases hb : b = s.heap.objs.size
        · subst hb
          rw [upd_same] at q; cases q
          exact ⟨small500 (show 2 ≤ 500 by decide), [.int ((i : Nat) : Int) s.toks, u], .cons ⟨_, rfl⟩ (.cons ru .nil), ⟨_, (hs2.2 _ hTe).trans hT, rfl, _, rfl⟩⟩
        · rw [upd_ne hb] at q
          refine (I.hok b o q).stay (fun c v hc z => ?_) (fun c z => by rw [upd_ne (ne_of_none z hTn)]; exact z) fun c ys z => by rw [upd_ne (ne_of_none z hTn)]; exact z
          have nn : c ≠ e ∧ c ≠ it := by
            rcases hc with rfl | hc
            · exact nH _ _ q
            · exact nH _ _ hc
          exact k2 c v nn.1 nn.2 z
    refine ⟨.ref s.heap.objs.size, _, I1, rfl, ⟨_, _, rfl, hTn, hx, rfl⟩, ⟨⟨u, ?_⟩, hit'.at fun o x => (hs2.2 it (Ne.symm hne)).trans x⟩, fun b hb => ?_⟩
    · have ei : ((i + 1 : Nat) : Int) = ((i : Nat) : Int) + 1 := by omega
      rw [ei]
      exact he2
    · rcases List.mem_cons.mp hb with rfl | hb
      · rw [upd_ne (Ne.symm hTe)]; exact fe.1
      · have z := List.mem_singleton.mp hb
        subst z
        obtain ⟨o, ho', _⟩ := hit
        rw [upd_ne (nT _ o ho')]; exact fi.1
  done := by
    intro X hP hw hK hc i pins s σ H E I hf st hg
    subst hP hw hK
    obtain ⟨hi, hq⟩ := hg
    obtain ⟨⟨old, he⟩, hit⟩ := st
    obtain ⟨its, rv, p, hz⟩ := I.list hq
    have hl := rv.length
    obtain ⟨f0, f1, f2, f3, f4, f5⟩ := hf it (List.mem_cons_of_mem _ (List.mem_singleton.mpr rfl))
    exact wpAny_pyNext_enum_end (I.ok.hd hc) he hit p.isList (by simp; omega) fun h' eb => ⟨rfl, I.turned (t' := s.toks) (fun b o hb e => eb b o hb e) f0 f1 f3 f4 f5⟩
  self := fun _ _ _ _ _ st h => let ⟨_, he⟩ := st.1; wpAny_pyIter_enum he h
def iEnum (K : PySem.W.Frag) (tl : TE) : TI := fun σ H R => tl σ H fun x H1 => ∃ a xs, x = .ref a ∧ SqL K H1 a xs ∧ R (Ite K a xs) H1
section
variable {X : Cx} {tg : Expr}
theorem pi_enum {elts : List Expr} {k : Nat} {tp : Pos} {l : Expr} {tl : TE} {p pos : Pos} (hm : X.mg "enumerate" = none) (hl : PE X l tl) (hg : Gl X "enumerate" := by rfl) (h1 : notStar l = true := by rfl) :
    PI X (.Tuple elts k tp) (.Call (.Name "enumerate" p) [l] [] pos) (iEnum X.K tl) := by
  intro pins s σ H R I h
  have pa : PA X [l] (tCons tl tNil) := pac hl pa_nil h1
  have e2 : (fun (x : V) (H1 : Hp) => ∃ a xs, x = .ref a ∧ SqL X.K H1 a xs ∧ R (Ite X.K a xs) H1) = fun x H1 => ∃ a xs, [x] = [V.ref a] ∧ SqL X.K H1 a xs ∧ R (Ite X.K a xs) H1 := by
    funext x H1
    apply propext
    constructor
    · rintro ⟨a, xs, ea, r⟩
      exact ⟨a, xs, by rw [ea], r⟩
    · rintro ⟨a, xs, ea, r⟩
      exact ⟨a, xs, (List.cons.inj ea).1, r⟩
  unfold iEnum at h
  rw [e2] at h
  refine Call_ (ld_blt I hg hm boot_enumerate (PyProof.Rows.callWith_type1 (thn (pa pos pins s σ H (fun vs H1 => ∃ a xs, vs = [.ref a] ∧ SqL X.K H1 a xs ∧ R (Ite X.K a xs) H1) I h) fun us s1 ⟨vs, H1, I1, r1, a, xs, ev, hq, q⟩ => ?_) (star_plain h1) rfl))
  subst ev
  obtain ⟨u, rfl, ru⟩ := Vals.one r1
  cases (show u = Value.ref a from ru)
  obtain ⟨its, rv, pl, hz⟩ := I1.list hq
  refine call_enumerate_list pl.isList fun h' he hit hsz kk => wpAny_pyIter_enum he ?_
  refine ⟨s1.heap.objs.size + 1, [s1.heap.objs.size + 1, s1.heap.objs.size], _, _, H1, rfl, I1.kept (t' := s1.toks) kk, turn_enum a s1.heap.objs.size (s1.heap.objs.size + 1) xs (Nat.succ_ne_self _), ⟨⟨_, he⟩, hit⟩, fun b hb => ?_, q⟩
  rcases List.mem_cons.mp hb with rfl | hb
  · exact I1.fpOk (Nat.le_succ _) (I1.hok.fresh (Nat.le_succ _))
  · have e := List.mem_singleton.mp hb
    subst e
    exact I1.fpOk (Nat.le_refl _) (I1.hok.fresh (Nat.le_refl _))
end
theorem for_enum {K : PySem.W.Frag} {a : Addr} {xs : List V} {g : TG} {tb : TS} {D : Ends} {σ : L2.St} {H : Hp} (Pv : Nat → L2.St → Hp → Prop) (h0 : Pv 0 σ H) (hl : ∀ i σ H, Pv i σ H → SqL K H a xs)
    (hs : ∀ i x σ H T, xs[i]? = some x → H T = none → Pv i σ H → g (.ref T) σ (upd H T (.tup [.int ((i : Nat) : Int), x])) fun σ2 H2 => tb { D with nx := Pv (i + 1), ct := Pv (i + 1), bk := D.nx } σ2 H2) (hd : ∀ σ H, Pv xs.length σ H → D.nx σ H) :
    ∃ W : Nat → Nat → L2.St → Hp → Prop, (∃ m, W 0 m σ H) ∧ ∀ i m σ H, W i m σ H →
      ((Ite K a xs).stop i H ∧ D.nx σ H) ∨ ((Ite K a xs).go i H ∧ ∃ N : L2.St → Hp → Prop, (∀ σ' H', N σ' H' → ∃ m', m' < m ∧ W (i + 1) m' σ' H') ∧ ∀ x H', (Ite K a xs).yld i H x H' → g x σ H' fun σ2 H2 => tb { D with nx := N, ct := N, bk := D.nx } σ2 H2) := by
  refine ⟨fun i m σ H => m = xs.length - i ∧ i ≤ xs.length ∧ Pv i σ H, ⟨xs.length, rfl, Nat.zero_le _, h0⟩, ?_⟩
  rintro i m σ H ⟨rfl, hi, p⟩
  rcases Nat.eq_or_lt_of_le hi with e | e
  · subst e
    exact .inl ⟨⟨rfl, hl _ σ H p⟩, hd σ H p⟩
  · refine .inr ⟨⟨e, hl i σ H p⟩, Pv (i + 1), fun σ' H' p' => ⟨xs.length - (i + 1), by omega, rfl, e, p'⟩, ?_⟩
    rintro x H' ⟨T, y, rfl, hT, hy, rfl⟩
    exact hs i y σ H T hy hT p
end FT

end
-- part 11
section
set_option Elab.async false
set_option linter.all false
set_option maxRecDepth 100000
namespace FT
open PySem PySem.Spec PyProof.Rows L2
/-! ### isinstance of an own error -/
structure ExcF (K : PySem.W.Frag) (C : Addr) : Prop where
  ga : PySem.W.findIn K (.ref C) "__getattribute__" = some (some (.builtin "BaseException.__getattribute__"))
  gh : PySem.W.findIn K (.ref C) "__getattr__" = some none
  cl : PySem.W.findIn K (.ref C) "__class__" = some (some (.builtin "object.__class__"))
  get : PySem.W.specialIn K (.builtin "object.__class__") "__get__" = some (some (.builtin "getset_descriptor.__get__"))
  dat : PySem.W.takesIn K (.builtin "object.__class__") = some true
  ob : PySem.W.mroIn K C (.type "object") = some true
  be : PySem.W.mroIn K C (.type "BaseException") = some true
  hdc : PySem.W.hasDictIn K C = true
theorem ExcF.isc {K : PySem.W.Frag} {C : Addr} (f : ExcF K C) : (PySem.W.clsIn K C).isSome = true := by
  obtain ⟨cd, hc, _⟩ := PySem.W.any_some f.hdc
  rw [hc]; rfl
theorem ExcF.find {K : PySem.W.Frag} {C : Addr} (f : ExcF K C) : PySem.W.findObj K C none "__class__" = some (.bind (.builtin "getset_descriptor.__get__") (.builtin "object.__class__")) := by
  obtain ⟨cd, hc⟩ := Option.isSome_iff_exists.mp f.isc
  unfold PySem.W.findObj
  rw [hc, Option.bind_some, f.cl, Option.bind_some]
  simp [f.get, f.dat]
section
variable {prog : Program} {w : World} {A : Around} {E : Value → Shared → Prop} {s : Shared} {K : PySem.W.Frag} {a C : Addr} {ox : Obj}
theorem exc_class {Q : Option Value → Shared → Prop} (X : K.In s.heap) (I : PySem.W.InstAt s.heap a ox C none) (f : ExcF K C) (h : Q (some (.ref C)) { s with toks := s.toks + 1 }) : wpAny (model prog w) A (getAttr? (.ref a) "__class__") Q E s := by
  obtain ⟨hh, g, d, t, os⟩ := s
  have L0 := I.type (M := model prog w)
  have L1 := PySem.W.looks_findIn (M := model prog w) X f.ga
  have L2 := PySem.W.looks_findIn (M := model prog w) X f.gh
  have L3 := PySem.W.looks_find (M := model prog w) X I f.find
  have L4 := PySem.W.looks_mroIn (M := model prog w) X f.be
  unfold getAttr? getAttrBy?
  refine wpAny_bind (wpAny_mkText (wpAny_bind (wpAny_attempt ?_)))
  unfold getAttrBy
  refine wpAny_holding (wpAny_bind (L0.at ?_))
  refine wpAny_bind (L1.at ?_)
  have hne : (onTheHeap (Value.ref C) && Value.builtin "BaseException.__getattribute__" == Value.builtin "object.__getattribute__") = false := by
    rw [show (Value.builtin "BaseException.__getattribute__" == Value.builtin "object.__getattribute__") = false by decide +kernel, Bool.and_false]
  dsimp only
  rw [if_neg (by rw [hne]; exact Bool.false_ne_true)]
  unfold getAttrByItsOwn hookBefore
  refine wpAny_bind ?_
  rw [if_pos (show onTheHeap (Value.ref C) = true from rfl)]
  refine L2.at ?_
  refine wpAny_bind (wpAny_attempt (wpAny_holding ?_))
  unfold callGetattribute
  rw [if_neg (show ¬ (false && onTheHeap (Value.builtin "BaseException.__getattribute__")) = true by decide)]
  unfold boundAndCalled
  refine wpAny_bind ?_
  rw [PySem.F.attrBase_ValueError.ga.bind (.ref a)]
  refine wpAny_pure ?_
  show wpAny _ _ (call (.builtin "BaseException.__getattribute__") ([.ref a] ++ [_])) _ _ _
  refine wpAny_call (codeAny_call_builtin PySem.F.attrBase_ValueError.ga.plain PySem.F.entry_bexc_ga ?_)
  have hk : builtinKind "BaseException.__getattribute__" = some .slot := by decide +kernel
  have hsp : splitId "BaseException.__getattribute__" = some ("BaseException", "__getattribute__") := by decide +kernel
  have har := PySem.F.args_bexc_ga (.ref a) (Value.str "__class__" t)
  simp only [checkBuiltinCall, hk, hsp]
  have LI : PySem.W.Looks (model prog w) hh (isInstance (.ref a) (.type "BaseException")) true := L0.andThen L4
  show wpAny _ _ (isInstance (.ref a) (.type "BaseException") >>= _) _ _ _
  refine wpAny_bind (LI.at ?_)
  rw [if_neg (by decide)]
  refine wpAny_of_eq har ?_
  show wpAny _ _ (Builtin.«object.__getattribute__» ⟨[.ref a, .str "__class__" t], []⟩) _ _ _
  unfold Builtin.«object.__getattribute__»
  refine wpAny_bind (wpAny_of_eq (a := (Value.ref a, [Value.str "__class__" t])) rfl ?_)
  refine wpAny_bind (wpAny_of_eq (a := ("__class__" : Str)) rfl ?_)
  refine wpAny_bind (L0.at ?_)
  refine wpAny_bind (L3.at ?_)
  show wpAny _ _ (Builtin.ObjectAttr.bindTo _ _ _ _) _ _ _
  unfold Builtin.ObjectAttr.bindTo
  refine wpAny_bind (wpAny_holding (wpAny_call (PySem.W.class_get (s := ⟨hh, g, d, t + 1, os⟩) X I f.ob ?_)))
  refine wpAny_pure ?_
  exact PySem.W.handed_on rfl (wpAny_pure h)
theorem cls_there {h : Heap} (X : K.In h) (f : ExcF K C) : ∃ c d cd sl, h.get? C = some ⟨c, d, .cls cd, sl⟩ := by
  obtain ⟨cd, hc⟩ := Option.isSome_iff_exists.mp f.isc
  unfold PySem.W.clsIn at hc
  split at hc
  · rename_i c' d' cd' sl' ho
    exact ⟨_, _, _, _, X _ _ ho⟩
  · cases hc
theorem isType_cls {M : Model} {h : Heap} (X : K.In h) (f : ExcF K C) : PySem.W.Looks M h (isType (.ref C)) true := by
  obtain ⟨c, d, cd, sl, e⟩ := cls_there X f
  intro A' Q' E' s' k q
  unfold isType loadHead
  exact wpAny_bind (wpAny_loadPart (k _ _ e) (wpAny_pure q))
theorem kitx_exc (f : ExcF K C) : PySem.W.KitX K (.ref a) (.ref C) (fun h => PySem.W.InstAt h a ox C none) where
  ty := fun _ _ _ I => I.type
  it := fun _ _ X _ => isType_cls X f
  ne := fun h tp dd its n sl X htp => by
    obtain ⟨c, d, cd, sl', e⟩ := cls_there X f
    refine Bool.eq_false_iff.mpr fun q => ?_
    have z : C = tp := Value.ref.inj (beq_iff_eq.mp q)
    rw [z, htp] at e
    cases e
  ca := fun X I k => exc_class X I f k
end
/-- a class as a value -/
def clsV : V → Option Value
  | .ref C => some (.ref C)
  | .ty T => some (.type T)
  | _ => none
theorem clsV_rel {c : V} {cv u : Value} (h : clsV c = some cv) (r : RelV c u) : u = cv := by
  cases c with
  | ref C => cases h; exact r
  | ty T => cases h; exact r
  | _ => cases h
def rIsiE (K : PySem.W.Frag) (ea C : Addr) : List V → Hp → VK → Prop := fun xs H Q => ∃ c cv b, xs = [.ref ea, c] ∧ clsV c = some cv ∧ PySem.W.kitOne K (.ref C) cv = some b ∧ Q (.bl b) H
theorem call_isiE {X : Cx} {ea C : Addr} {ob : Obj} (hp : (ea, ob) ∈ X.pn) (hc : ob.cls = .ref C) (hd : ob.dict = none) (hn : PySem.W.notCls ob = true) (f : ExcF X.K C) : CallR X (.builtin "isinstance") (rIsiE X.K ea C) := by
  intro pins s σ H xs us Q I r h
  obtain ⟨c, cv, b, rfl, ec, e, q⟩ := h
  obtain ⟨u, v, rfl, ru, rv⟩ := Vals.two r
  cases (show u = Value.ref ea from ru)
  cases clsV_rel ec rv
  have hob := (I.pin (ea, ob) (List.mem_append_left _ hp)).1
  have J : PySem.W.InstAt s.heap ea ob C none := ⟨hob, hc, hn, by rw [hd]; trivial⟩
  exact PySem.W.kia_one (kitx_exc f) I.kIn J e (fun z => nomatch z) fun tk => ⟨.bl b, H, I.tok tk, rfl, q⟩
/-! ### except C as e -/
abbrev heldP (X : Cx) (ea : Addr) (ob : Obj) : Cx := { held X ea with pn := (ea, ob) :: X.pn }
section
variable {X : Cx} {pins : List (Addr × Obj)} {σ : L2.St} {H : Hp} {s : Shared} {ea : Addr} {ob : Obj}
theorem ok_heldP (ok : X.Ok) (ea : Addr) (ob : Obj) : (heldP X ea ob).Ok :=
  ⟨ok.mod, ok.kind, ok.glob, ok.blt, ok.above, ok.inj, ok.has, ok.cab, fun z => Bool.noConfusion z, ok.frames, ok.stk, ok.exf, ok.bs, ok.bsz, ok.noex, ok.exfs, ok.funs, ok.frf⟩
theorem inv_heldP {vs : Array Value} (I : Inv X pins σ H s) (hob : s.heap.get? ea = some ob) (hd : ob.data = .fields vs) (hH : H ea = none) : Inv (heldP X ea ob) pins σ H s := by
  refine ⟨ok_heldP I.ok ea ob, I.os, I.bare, I.base, I.loc, I.cell, I.free, I.freeC, fun p hp => ?_, I.hok, I.len⟩
  rcases List.mem_cons.mp (show p ∈ (ea, ob) :: (X.pn ++ pins) from hp) with rfl | hp
  · refine ⟨hob, hH, fun z => ?_, fun z => ?_, fun v z => ?_⟩
    · obtain ⟨m, ⟨o, es, ep, ho, hd', _⟩, _⟩ := I.loc
      have z1 : ea = X.env.locals := z
      rw [← z1, hob] at ho
      cases ho
      rw [hd] at hd'; cases hd'
    · obtain ⟨_, o, ho, hn⟩ := I.funs.mem (show ea ∈ X.outer.filterMap (·.frame) from z)
      rw [hob] at ho
      cases ho
      exact hn vs hd
    · rw [show ob.data = _ from hd] at z; cases z
  · exact I.pin p hp
theorem inv_unheldP (ok : X.Ok) (I : Inv (heldP X ea ob) pins σ H s) : Inv X pins σ H s :=
  ⟨ok, I.os, I.bare, I.base, I.loc, I.cell, I.free, I.freeC, fun p hp => I.pin p (List.mem_cons_of_mem _ hp), I.hok, I.len⟩
/-- a local name goes -/
theorem goes_ok {M : Model} {A : Around} {E : Value → Shared → Prop} {i : Nat} {n : Str} {pos : Pos} {Q : Unit → Shared → Prop} (I : Inv X pins σ H s) (hN : X.N.Nodup) (hi : X.N[i]? = some n) (hl : X.env.kindOf n = some .local)
    (h : ∀ s', Inv X pins (σ.set i none) H s' → Q () s') : wpAny M A (do bindName X.env n .none; unbindBehindTheSuite X.env n pos) Q E s := by
  obtain ⟨m, hn, hlk⟩ := id I.loc
  have hcl : (X.env.scope.kind == .class || (X.env.scope.kind == .module && X.env.locals != X.env.globals)) = false := by rw [I.ok.kind]; rfl
  have hiσ : i < σ.length := by rw [I.len]; exact (List.getElem?_eq_some_iff.mp hi).1
  refine wpAny_nameGoes_keeps hl hn hcl fun h' v hn' hs => h _ ?_
  have lt : ∀ b o, X.s₀.heap.get? b = some o → b ≠ X.env.locals := fun b o e => Nat.ne_of_lt (Nat.lt_of_lt_of_le (Heap.lt_size e) I.ok.above)
  obtain ⟨oL, _, _, hoL, _⟩ := id hn
  refine ⟨I.ok, I.os, I.bare, ⟨fun b o e q hb hx => (hs.2 b (lt b o e)).trans (I.base.keep b o e q hb hx), fun b o e q hb hx => ?_, I.base.free, fun b o e hx => ?_, I.base.tups, I.base.frzs, I.base.tbls⟩, ⟨_, hn', fun j y w' e1 e2 e3 => ?_⟩, fun y c e => ?_, I.free, I.freeC, fun p hp => ?_, fun b u e => ?_, by simpa using I.len⟩
  · obtain ⟨sl, z⟩ := I.base.slot b o e q hb hx
    exact ⟨sl, (hs.2 b (lt b o e)).trans z⟩
  · obtain ⟨o', z⟩ := I.base.there b o e hx
    exact ⟨o', (hs.2 b (lt b o e)).trans z⟩
  · by_cases hj : j = i
    · subst hj
      rw [List.getElem?_set_self hiσ] at e2
      cases e2
    · rw [List.getElem?_set_ne (Ne.symm hj)] at e2
      obtain ⟨u, r, q⟩ := hlk j y w' e1 e2 e3
      refine ⟨u, r, ?_⟩
      rcases q with ⟨k, e⟩ | ⟨k, c, e, z⟩
      · refine .inl ⟨k, ?_⟩
        have ny : y ≠ n := fun e => hj (nodup_ix hN e1 (e ▸ hi))
        simp [ny, e]
      · exact .inr ⟨k, c, e, z.sameBut hs (I.cne y c e)⟩
  · obtain ⟨w', z⟩ := I.cell y c e
    exact ⟨w', z.sameBut hs (I.cne y c e)⟩
  · obtain ⟨e, q, ne, nf, d⟩ := I.pin p hp
    exact ⟨(hs.2 p.1 ne).trans e, q, ne, nf, d⟩
  · refine (I.hok b u e).stay (fun c o hc q => (hs.2 c ?_).trans q) (fun _ q => q) fun _ _ q => q
    rintro rfl
    rcases hc with z | z
    · rw [← z, I.free] at e; cases e
    · rw [I.free] at z; cases z
end
def endsAs (i : Nat) (D : Ends) : Ends := { nx := fun σ H => D.nx (σ.set i none) H, rt := D.rt, bk := fun σ H => D.bk (σ.set i none) H, ct := fun σ H => D.ct (σ.set i none) H }
def tHandAs (K : PySem.W.Frag) (C2 : Addr) (i : Nat) (ts : Addr → Addr → TS) (th : Addr → TS) : Addr → TS := fun C D σ H =>
  (PySem.W.exmOne K (.ref C) (.ref C2) = some true ∧ ExcF K C ∧ ∀ ea, H ea = none → ts ea C (endsAs i D) (σ.set i (some (.ref ea))) H) ∨ (PySem.W.exmOne K (.ref C) (.ref C2) = some false ∧ th C D σ H)
theorem ph_as {X : Cx} {x n : Str} {C2 : Addr} {i : Nat} {suite : List Stmt} {b₀ : Stmt} {rest : List ExceptHandler} {ts : Addr → Addr → TS} {th : Addr → TS} {np hpos : Pos} (hm : X.mg x = some (.ref C2)) (hg : Gl X x) (hN : X.N.Nodup) (hi : X.N[i]? = some n) (hl : X.env.kindOf n = some .local)
    (hs : ∀ ea ob C, ob.cls = .ref C → ob.dict = none → PySem.W.notCls ob = true → ExcF X.K C → PSs (heldP X ea ob) (b₀ :: suite) (ts ea C)) (hr : PH X rest th) (hd : (x == ("__debug__" : Str)) = false := by decide) :
    PH X (.ExceptHandler (some (.Name x np)) (some n) (b₀ :: suite) hpos :: rest) (tHandAs X.K C2 i ts th) := by
  intro pins s σ H D ea C L h
  obtain ⟨I5, dn5, fr5, B, a0, fl5, k⟩ := L
  refine wpAny_handleBy_cons (codeAny_handlers_test (ld_glob (X := held X ea) (inv_held I5 ea) hg hm ?_ hd)) (by intro z; cases z)
  obtain ⟨ob, hob, hobc⟩ := fl5.there
  have lt := looks_cls (M := model X.prog X.w) hob
  rw [hobc] at lt
  rcases h with ⟨e, fx, ht⟩ | ⟨e, ht⟩
  · refine (PySem.W.exm_one I5.kIn lt e).here ?_
    refine codeAny_handlers_suite_as ?_
    obtain ⟨f1, f2, f3, f4⟩ := id fl5
    refine flight_d f1 f3 f4.at f2 dn5 fun h6 fl6 up6 dn6 => ?_
    have I6 : Inv X pins σ H { s with heap := h6 } := k h6 fl6.1 up6
    obtain ⟨oe, vs, he, hec, hed, _⟩ := fl6.first
    obtain ⟨oe', he', hdct⟩ := dn6
    rw [he] at he'
    cases he'
    have hno : PySem.W.notCls oe = true := by unfold PySem.W.notCls; rw [hed]
    have I7 : Inv (heldP X ea oe) pins σ H { s with heap := h6 } := inv_heldP I6 he hed fr5
    refine store_ok (X := heldP X ea oe) I7 hN hi (Or.inl hl) (show RelV (.ref ea) (.ref ea) from rfl) (fun s8 I8 => ?_) (Or.inr hl)
    refine wpAny_mono (hs ea oe C hec hdct hno fx pins s8 _ H (endsAs i D) I8 (ht ea fr5)) (fun fl s9 q9 => ?_) fun _ _ z => z.elim
    show wpAny _ _ _ _ _ _
    cases fl with
    | next =>
      obtain ⟨σ', H', I9, q⟩ := q9
      exact goes_ok (inv_unheldP I5.ok I9) hN hi hl fun s' I' => ⟨_, H', I', q⟩
    | brk =>
      obtain ⟨σ', H', I9, q⟩ := q9
      exact goes_ok (inv_unheldP I5.ok I9) hN hi hl fun s' I' => ⟨_, H', I', q⟩
    | cont =>
      obtain ⟨σ', H', I9, q⟩ := q9
      exact goes_ok (inv_unheldP I5.ok I9) hN hi hl fun s' I' => ⟨_, H', I', q⟩
    | ret u =>
      obtain ⟨v, σ', H', I9, r, q⟩ := q9
      exact goes_ok (inv_unheldP I5.ok I9) hN hi hl fun s' I' => ⟨v, _, H', I', r, q⟩
  · refine (PySem.W.exm_one I5.kIn lt e).here ?_
    exact hr pins s σ H D ea C ⟨I5, dn5, fr5, B, a0, fl5, k⟩ ht
/-! ### xs.count(True) of bools -/
theorem count_bools {l : Addr} : ∀ {bs : List Bool} {us : List Value}, Vals (bs.map V.bl) us → us = bs.map Value.bool
  | [], _, .nil => rfl
  | b :: bs, _, .cons r t => by
    rw [count_bools (l := l) t, show _ = Value.bool b from r]
    rfl
def rCountT : V → List V → Hp → VK → Prop := fun x vs H Q => ∃ l bs, x = .ref l ∧ vs = [.bl true] ∧ H l = some (.lst (List.map V.bl bs)) ∧ Q (.int (bs.count true : Nat)) H
theorem mt_countT {X : Cx} : MtM X "list.count" rCountT := by
  intro pins s σ H x xs v us Q I rx rv h
  obtain ⟨l, bs, rfl, rfl, hH, q⟩ := h
  cases (show v = Value.ref l from rx)
  obtain ⟨u, rfl, ru⟩ := Vals.one rv
  cases (show u = Value.bool true from ru)
  obtain ⟨hz, its, n, r, hlen, ho⟩ := I.lstM hH
  have ei := count_bools (l := l) r
  subst ei
  refine PySem.call_meets PySem.F.slot_list_count ⟨_, ho, rfl⟩ PySem.F.entry_list_count (PySem.F.args_list_count_2 _ _) (PySem.SeqAt.list_countAt l _ n _ _ (.bool true) (isBoolOf true)) ⟨ho, fun y hy => ?_, ?_⟩
  · obtain ⟨b, _, rfl⟩ := List.mem_map.mp (show y ∈ List.map Value.bool bs by simpa using hy)
    exact PySem.SeqAt.EqAt.bool_bool b true
  · refine ⟨.int _, H, I.tok _, ⟨s.toks, ?_⟩, q⟩
    congr 1
    have ef : (isBoolOf true ∘ Value.bool) = fun x => x := by
      funext b
      cases b <;> rfl
    simp [List.count_eq_countP, List.countP_map, ef]
/-- a word put in another's place -/
theorem PSs.imp {X : Cx} {st : List Stmt} {t t' : TS} (h : PSs X st t) (i : ∀ D σ H, t' D σ H → t D σ H) : PSs X st t' := fun pins s σ H D I hw => h pins s σ H D I (i D σ H hw)
theorem boot_VE : bootBuiltins "ValueError" = some (.type "ValueError") := by decide +kernel
/-- what is known of one of the four errors: which handlers take it, which classes it is of -/
structure Exc1 (K : PySem.W.Frag) (C CE CB CT CS CN : Addr) (b t s n : Bool) : Prop where
  f : ExcF K C
  e : PySem.W.exmOne K (.ref C) (.ref CE) = some true
  v : PySem.W.kitOne K (.ref C) (.type "ValueError") = some true
  xb : PySem.W.exmOne K (.ref C) (.ref CB) = some b
  xt : PySem.W.exmOne K (.ref C) (.ref CT) = some t
  xs : PySem.W.exmOne K (.ref C) (.ref CS) = some s
  xn : PySem.W.exmOne K (.ref C) (.ref CN) = some n
  kb : PySem.W.kitOne K (.ref C) (.ref CB) = some b
  kt : PySem.W.kitOne K (.ref C) (.ref CT) = some t
  ks : PySem.W.kitOne K (.ref C) (.ref CS) = some s
  kn : PySem.W.kitOne K (.ref C) (.ref CN) = some n
structure ErrsX (K : PySem.W.Frag) (CE CB CT CS CN : Addr) : Prop where
  b : Exc1 K CB CE CB CT CS CN true false false false
  t : Exc1 K CT CE CB CT CS CN false true false false
  s : Exc1 K CS CE CB CT CS CN false false true false
  n : Exc1 K CN CE CB CT CS CN false false false true
def tSuite (K : PySem.W.Frag) (CE CB CT CS CN : Addr) : Addr → Addr → TS := fun ea C D σ H => ∃ b t s n, Exc1 K C CE CB CT CS CN b t s n ∧ [b, t, s, n].count true = 1 ∧ σ[4]? = some (some (.ref ea)) ∧ σ.length = 6 ∧ ∀ H', Same H H' → D.rt (.bl true) H'
theorem ref_leaf {K : PySem.W.Frag} {C CE CB CT CS CN : Addr} {b t s n : Bool} {D : Ends} {σ : L2.St} {H : Hp} (x : Exc1 K C CE CB CT CS CN b t s n) (hc : [b, t, s, n].count true = 1) (hi : σ.length = 6) (h : ∀ H', Same H H' → D.rt (.bl true) H') :
    tHandAs K CE 4 (tSuite K CE CB CT CS CN) (fun _ _ _ _ => False) C D σ H :=
  .inl ⟨x.e, x.f, fun ea hea => ⟨b, t, s, n, x, hc, List.getElem?_set_self (by omega), by rw [List.length_set]; exact hi, h⟩⟩
end FT

end
-- part 12
section
set_option Elab.async false
set_option linter.all false
set_option maxRecDepth 100000
namespace FT
open PySem PySem.Spec PyProof.Rows L2
/-! ### list(reversed(xs)) -/
theorem lri_no_len : typeLookup (.type "list_reverseiterator") "__len__" = pure none := by rw [typeLookup_type, builtinLookup_eq_fast]; kernel_rfl
theorem lri_hint : typeLookup (.type "list_reverseiterator") "__length_hint__" = pure (some (.builtin "list_reverseiterator.__length_hint__")) := by rw [typeLookup_type, builtinLookup_eq_fast]; kernel_rfl
theorem lri_self : isSubtype (.type "list_reverseiterator") (.type "list_reverseiterator") = pure true := by rw [isSubtype_type]; kernel_rfl
section
variable {prog : Program} {w : World} {A : Around} {E : Value → Shared → Prop} {s : Shared}
theorem hint_rev {J : Addr} {Q : Bool → Shared → Prop} (hT : s.TypeIs (.ref J) "list_reverseiterator") (h : Q false s) : wpAny (model prog w) A (Builtin.List.listLengthHint (.ref J)) Q E s := by
  unfold Builtin.List.listLengthHint
  refine wpAny_bind (wpAny_specialOf hT lri_no_len ?_)
  show wpAny _ _ (specialOf (Value.ref J) (Str.ofString "__length_hint__") >>= _) _ _ _
  refine wpAny_bind (wpAny_specialOf hT lri_hint ?_)
  generalize hid : ("list_reverseiterator.__length_hint__" : String) = id0
  wp_delta
  rw [show splitId id0 = some ("list_reverseiterator", "__length_hint__") from by subst hid; decide +kernel]
  subst hid
  refine wpAny_bind (wpAny_isInstance (T := "list_reverseiterator") (b := true) hT lri_self ?_)
  refine wpAny_ite_split (fun hab => absurd hab (by decide)) (fun _ => ?_)
  refine wpAny_ite_split (fun _ => ?_) (fun hab => absurd (by decide +kernel) hab)
  refine wpAny_ite_split (fun hab => absurd hab (by decide +kernel)) (fun _ => ?_)
  exact wpAny_pure h
theorem extend_rev {R : Result → Shared → Prop} {J l S : Addr} {items : Array Value} {c0 : Nat} (hh : A.handled = none) (hJ : s.heap.IsRevIter J l ((items.size : Int) - 1)) (hl : s.heap.IsList l items) (hz : items.size ≤ sizeLine) (hJl : l ≠ J)
    (hS : s.heap.get? S = some { cls := .type "list", data := .seq #[] c0 }) (hSl : S ≠ l)
    (hR : ∀ h' tk acc' c', (∀ b o, b ≠ S → b ≠ J → s.heap.get? b = some o → h'.get? b = some o) → h'.get? S = some { cls := .type "list", dict := none, data := .seq acc' c', slots := #[] } →
      ItemsOf (fun i v => items[items.size - 1 - i]? = some v) acc' items.size → R (.ok (.ret .none)) { s with heap := h', toks := tk }) :
    wpAny (model prog w) A.in1 (Builtin.List.listExtendWith (.ref S) (.ref J) .none)
      (fun fin s' => match fin with | .done f => R (.ok f) s' | .again c' => c'.quiet = true ∧ codeAny (model prog w) A c' R s') (fun e s' => R (.error e) s') s := by
  have hSJ : S ≠ J := fun e => by
    obtain ⟨o, ho, hc, _⟩ := hJ
    rw [← e, hS] at ho
    cases ho
    exact absurd (Value.type.inj hc) (by decide)
  have hT : s.TypeIs (.ref J) "list_reverseiterator" := hJ.typeIs
  have Wk := (Walks.listRev (prog := prog) (w := w) (A := A.in1) hh J l hJl items).toS
  unfold Builtin.List.listExtendWith
  refine wpAny_bind (wpAny_typeOf hT ?_)
  have h1 : Builtin.List.listSameRef (.ref S) (.ref J) = false := by simp [Builtin.List.listSameRef, hSJ]
  have h2 : (Value.type "list_reverseiterator" == Value.type "list") = false := by decide
  have h3 : (Value.type "list_reverseiterator" == Value.type "tuple") = false := by decide
  simp only [h1, h2, h3, Bool.or_false, Bool.false_eq_true, if_false]
  refine wpAny_bind (wpAny_pyIter_revIter hJ ?_)
  refine wpAny_bind (wpAny_holding (hint_rev hT ?_))
  refine wpAny_ite_split (fun hab => absurd hab (by decide +kernel)) (fun _ => ?_)
  have hSf : S ∉ [J, l] := fun hm => by
    rcases List.mem_cons.mp hm with e | hm
    · exact hSJ e
    · exact hSl (List.mem_singleton.mp hm)
  have hst : (0 : Nat) ≤ items.size ∧ s.heap.IsRevIter J l ((items.size : Int) - 1 - ((0 : Nat) : Int)) ∧ s.heap.IsList l items := ⟨Nat.zero_le _, by rw [show (items.size : Int) - 1 - ((0 : Nat) : Int) = (items.size : Int) - 1 by omega]; exact hJ, hl⟩
  refine wpAny_pure ⟨plainId_quiet F.plain_extend_loop _, codeAny_extend_loopS Wk hz _ hSf _ items.size 0 _ _ _ rfl (Nat.zero_le _) hst hS (ItemsOf.nil _) fun s' acc' c' hm hS' hacc => ?_⟩
  rw [Moved.eq_with hm]
  refine hR s'.heap s'.toks acc' c' (fun b o hb hj e => hm.heap b o (fun z => ?_) e) hS' hacc
  rcases List.mem_cons.mp z with e' | z
  · exact hb e'
  · exact hj (List.mem_singleton.mp z)
theorem call_list_rev {Q : Value → Shared → Prop} {J l : Addr} {items : Array Value} (hh : A.handled = none) (hJ : s.heap.IsRevIter J l ((items.size : Int) - 1)) (hl : s.heap.IsList l items) (hz : items.size ≤ sizeLine) (hJl : l ≠ J)
    (hQ : ∀ h' tk acc' c', (∀ b o, b ≠ J → s.heap.get? b = some o → h'.get? b = some o) → h'.get? s.heap.objs.size = some { cls := .type "list", dict := none, data := .seq acc' c', slots := #[] } →
      ItemsOf (fun i v => items[items.size - 1 - i]? = some v) acc' items.size → Q (.ref s.heap.objs.size) { s with heap := h', toks := tk }) :
    wpAny (model prog w) A (call (.type "list") [.ref J]) Q E s := by
  have lJ : J < s.heap.objs.size := by obtain ⟨o, ho, _⟩ := hJ; exact Heap.lt_size ho
  have ll : l < s.heap.objs.size := by obtain ⟨o, ho, _⟩ := hl; exact Heap.lt_size ho
  refine callType_codes (Q₁ := fun x s1 => x = .ref s.heap.objs.size ∧ s1 = { s with heap := s.heap.push { cls := .type "list", data := .seq #[] } }) F.called_list (F.typeCall_list_1 _) F.entry_list_init (code_list_new _ ⟨rfl, rfl⟩) fun x s1 e1 => ?_
  obtain ⟨rfl, rfl⟩ := e1
  have hS : (s.heap.push { cls := .type "list", data := .seq #[] }).get? s.heap.objs.size = some { cls := .type "list", data := .seq #[] } := Heap.get?_push_size _ rfl
  refine ⟨⟨_, hS, rfl⟩, F.args_list_init_2 _ _, ?_⟩
  show wpAny _ A.in1.in1 (do let old ← Builtin.List.listItems (.ref s.heap.objs.size); Builtin.List.listUpdate (.ref s.heap.objs.size) (fun _ => #[]); letGo old.toList.reverse; Builtin.List.listExtendWith (.ref s.heap.objs.size) (.ref J) .none) _ _ _
  refine wpAny_bind ?_
  unfold Builtin.List.listItems
  refine wpAny_bind (wpAny_seqItems hS rfl (wpAny_pure ?_))
  refine wpAny_bind (m := updateSeq s.heap.objs.size (fun _ => #[])) (wpAny_updateSeq hS rfl ?_)
  have hS2 := Heap.get?_update_self (Obj.mapSeq (fun _ => (#[] : Array Value))) hS rfl
  have oth : ∀ b o, b ≠ s.heap.objs.size → s.heap.get? b = some o → ((s.heap.push { cls := .type "list", data := .seq #[] }).update s.heap.objs.size (Obj.mapSeq (fun _ => (#[] : Array Value)))).get? b = some o := fun b o hb e =>
    (Heap.get?_update_other _ _ (Ne.symm hb)).trans (Heap.get?_push_of_some _ e)
  refine wpAny_bind (wpAny_letGo ?_)
  refine extend_rev (A := A.in1) hh (hJ.at fun o e => oth J o (Nat.ne_of_lt lJ) e) (hl.at fun o e => oth l o (Nat.ne_of_lt ll) e) hz hJl hS2 (Nat.ne_of_gt ll) fun h' tk acc' c' kp hS' hacc => ?_
  exact ⟨rfl, hQ h' tk acc' c' (fun b o hj e => kp b o (Nat.ne_of_lt (Heap.lt_size e)) hj (oth b o (Nat.ne_of_lt (Heap.lt_size e)) e)) hS' hacc⟩
end
/-- list(reversed(x)) -/
def tListRev (K : PySem.W.Frag) (te : TE) : TE := fun σ H Q => te σ H fun x H1 => ∃ a xs, x = .ref a ∧ SqL K H1 a xs ∧ ∀ D, H1 D = none → Q (.ref D) (upd H1 D (.lst xs.reverse))
theorem vals_rev {xs : List V} {its : List Value} {acc : Array Value} (r : Vals xs its) (h : ItemsOf (fun i v => its.toArray[its.toArray.size - 1 - i]? = some v) acc its.toArray.size) : Vals xs.reverse acc.toList := by
  have e : acc.toList = its.reverse := by
    apply List.ext_getElem?
    intro i
    obtain ⟨hs, hv⟩ := h
    rw [Array.getElem?_toList]
    cases q : acc[i]? with
    | none =>
      have : acc.size ≤ i := by simpa using q
      rw [List.getElem?_eq_none]
      rw [List.length_reverse]
      simp at hs
      omega
    | some v =>
      have z := hv i v q
      have lt : i < its.length := by
        have : i < acc.size := (Array.getElem?_eq_some_iff.mp q).1
        simp at hs
        omega
      rw [List.getElem?_reverse lt]
      simp at z
      exact z.symm
  rw [e]
  exact r.reverse
theorem pe_listrev {X : Cx} {e : Expr} {te : TE} {p p2 pos pos2 : Pos} (hc : X.calm = true) (hm : X.mg "list" = none) (hm2 : X.mg "reversed" = none) (ha : PE X e te) (hg : Gl X "list" := by rfl) (hg2 : Gl X "reversed" := by rfl) (h1 : notStar e = true := by rfl) :
    PE X (.Call (.Name "list" p) [.Call (.Name "reversed" p2) [e] [] pos2] [] pos) (tListRev X.K te) := by
  intro pins s σ H Q I h
  -- the inner call
  have inner : wpAny (model X.prog X.w) X.A (eval (.Call (.Name "reversed" p2) [e] [] pos2) X.env) (fun u s1 => ∃ H1 a xs its, Inv X pins σ H1 { s1 with heap := s1.heap } ∧ SqL X.K H1 a xs ∧ Vals xs its ∧ (∃ J, u = .ref J ∧ s1.heap.IsRevIter J a ((its.toArray.size : Int) - 1) ∧ s1.heap.IsList a its.toArray ∧ a ≠ J ∧ FpOk X pins H1 J) ∧ xs.length ≤ sizeLine ∧ ∀ D, H1 D = none → Q (.ref D) (upd H1 D (.lst xs.reverse))) X.xe s := by
    have pa : PA X [e] (tCons te tNil) := pac ha pa_nil h1
    have e2 : (fun (x : V) (H1 : Hp) => ∃ a xs, x = .ref a ∧ SqL X.K H1 a xs ∧ ∀ D, H1 D = none → Q (.ref D) (upd H1 D (.lst xs.reverse))) = fun x H1 => ∃ a xs, [x] = [V.ref a] ∧ SqL X.K H1 a xs ∧ ∀ D, H1 D = none → Q (.ref D) (upd H1 D (.lst xs.reverse)) := by
      funext x H1
      apply propext
      constructor
      · rintro ⟨a, xs, ea, r⟩
        exact ⟨a, xs, by rw [ea], r⟩
      · rintro ⟨a, xs, ea, r⟩
        exact ⟨a, xs, (List.cons.inj ea).1, r⟩
    unfold tListRev at h
    rw [e2] at h
    refine Call_ (ld_blt I hg2 hm2 boot_reversed (PyProof.Rows.callWith_type1 (thn (pa pos2 pins s σ H (fun vs H1 => ∃ a xs, vs = [.ref a] ∧ SqL X.K H1 a xs ∧ ∀ D, H1 D = none → Q (.ref D) (upd H1 D (.lst xs.reverse))) I h) fun us s1 ⟨vs, H1, I1, r1, a, xs, ev, hq, q⟩ => ?_) (star_plain h1) rfl))
    subst ev
    obtain ⟨u, rfl, ru⟩ := Vals.one r1
    cases (show u = Value.ref a from ru)
    obtain ⟨its, rv, pl, hz⟩ := I1.list hq
    refine call_reversed_list pl.isList ?_
    have la : a < s1.heap.objs.size := by obtain ⟨o, ho, _⟩ := pl.isList; exact Heap.lt_size ho
    exact ⟨H1, a, xs, its, I1.kept (t' := s1.toks) (fun b o z => Heap.get?_push_of_some _ z), hq, rv, ⟨_, rfl, ⟨_, Heap.get?_push_size _ rfl, rfl, rfl⟩, pl.isList.push _, Nat.ne_of_lt la, I1.fpOk (Nat.le_refl _) (I1.hok.fresh (Nat.le_refl _))⟩, hz, q⟩
  have nst : notStar (.Call (.Name "reversed" p2) [e] [] pos2) = true := rfl
  refine Call_ (ld_blt I hg hm PyProof.Rows.boot_list (PyProof.Rows.callWith_type1 ?_ (star_plain nst) rfl))
  rw [star_plain nst]
  refine Calls.spliced_cons (thn inner fun u s1 h1 => Calls.spliced_nil ?_)
  obtain ⟨H1, a, xs, its, I1, hq, rv, ⟨J, rfl, hJ, hl, hne, f0, f1, f2, f3, f4, f5⟩, hz, q⟩ := h1
  have hlen := rv.length
  refine call_list_rev (I.ok.hd hc) hJ hl (by simp only [List.size_toArray]; omega) hne fun h' tk acc' c' kp e' hacc => ?_
  have I2 : Inv X pins σ H1 { s1 with heap := h', toks := tk } := I1.turned (fun b o hb z => kp b o hb z) f0 f1 f3 f4 f5
  have hn : H1 s1.heap.objs.size = none := I1.hok.fresh (Nat.le_refl _)
  refine ⟨.ref s1.heap.objs.size, upd H1 s1.heap.objs.size (.lst xs.reverse), ?_, rfl, q _ hn⟩
  have nT : ∀ b o, s1.heap.get? b = some o → b ≠ s1.heap.objs.size := fun b o z => Nat.ne_of_lt (Heap.lt_size z)
  refine I1.step (g' := s1.gens) (d' := s1.drawn) (ch := [J]) (fun b hb => ?_) (fun b o _ _ hc z _ => kp b o (fun y => hc (List.mem_singleton.mpr y)) z) (fun b o _ _ hc z _ => ⟨o.slots, kp b o (fun y => hc (List.mem_singleton.mpr y)) z⟩)
    (fun b o _ z n => by rw [upd_ne (nT b o z)]; exact n) (fun b o hc z => ⟨o, kp b o (fun y => hc (List.mem_singleton.mpr y)) z⟩) (fun b ys z => by rw [upd_ne (ne_of_none z hn)]; exact z) (fun b o v z => by rw [upd_ne (ne_of_none z hn)]; exact z)
    (fun b ps z => ⟨#[], by rw [upd_ne (ne_of_none z hn), z]; simp⟩) (fun m hm' => ?_) (fun b o z => ?_) I1.bare
  · have y := List.mem_singleton.mp hb
    subst y
    exact ⟨f3, f1, f4, f5⟩
  · obtain ⟨o, es, ep, z, r⟩ := hm'
    exact ⟨o, es, ep, kp _ o (Ne.symm f1) z, r⟩
  · by_cases hb : b = s1.heap.objs.size
    · subst hb
      rw [upd_same] at z; cases z
      refine ⟨by rw [List.length_reverse]; exact hz, acc'.toList, c', vals_rev rv hacc, ?_⟩
      rw [Array.toArray_toList]
      exact e'
    · rw [upd_ne hb] at z
      refine (I1.hok b o z).stay (fun c v hc y => ?_) (fun c y => by rw [upd_ne (ne_of_none y hn)]; exact y) fun c ys y => by rw [upd_ne (ne_of_none y hn)]; exact y
      have nn : c ≠ J := by
        rcases hc with rfl | hc
        · exact ne_of_none z f0
        · exact ne_of_none hc f0
      exact kp c v nn y
end FT

end
-- part 13
section
set_option Elab.async false
set_option linter.all false
set_option maxRecDepth 100000
set_option maxHeartbeats 4000000
namespace FT
open PySem PySem.Spec PyProof.Rows L2
def top (i : Nat) : Stmt := PySem.Challenge.pw_figuretape_k07_compared_or_refused.main.body.getD i (.Pass ⟨0, 0, 0, 0⟩)
abbrev s_check_base : Stmt := top 7
abbrev s_check_tape : Stmt := top 8
abbrev s_check_pair : Stmt := top 9
abbrev s_order : Stmt := top 10
abbrev s_compared : Stmt := top 11
abbrev s_carried : Stmt := top 13
abbrev s_figure_at : Stmt := top 14
abbrev s_added : Stmt := top 15
abbrev s_lessened : Stmt := top 16
abbrev s_multiplied : Stmt := top 17
abbrev s_worth : Stmt := top 19
abbrev s_times_within : Stmt := top 20
abbrev s_split : Stmt := top 21
abbrev s_bettered : Stmt := top 22
abbrev s_root_of : Stmt := top 23
abbrev s_root : Stmt := top 24
abbrev s_rebased : Stmt := top 25
abbrev s_law_whole : Stmt := top 27
abbrev s_law_at : Stmt := top 28
abbrev s_law_worth_of : Stmt := top 29
abbrev s_law_base_by : Stmt := top 30
abbrev s_law_made : Stmt := top 31
abbrev s_law_two_by : Stmt := top 32
abbrev s_law_said : Stmt := top 33
abbrev s_law_good : Stmt := top 34
abbrev s_law_mixed : Stmt := top 35
abbrev s_law_refuses : Stmt := top 36
abbrev s_law_as_due : Stmt := top 37
abbrev s_law : Stmt := top 38
/-! ### the law's own defs: what each one promises -/
theorem same_new {H : Hp} {p : Addr} (h : H p = none) (o : HO) : Same H (upd H p o) := fun b u q => by rw [upd_ne (ne_of_none q h)]; exact q
theorem small {n : Nat} (h : n ≤ 1000) : n ≤ sizeLine := Nat.le_of_lt (small1000 h)
theorem int_at {ns : List Int} {i : Nat} {y : V} (h : (List.map V.int ns)[i]? = some y) : ∃ z, y = V.int z ∧ ns[i]? = some z := by
  rw [List.getElem?_map] at h
  cases e : ns[i]? with
  | none => rw [e] at h; cases h
  | some z => rw [e] at h; exact ⟨z, (Option.some.inj h).symm, rfl⟩
theorem atI_int {ns : List Int} {k : Int} (h0 : 0 ≤ k) (h : k < (ns.length : Int)) : atI (List.map V.int ns) k = some (.int (ns.getD k.toNat 0)) := by
  have hk : k.toNat < ns.length := by omega
  have ek : k = ((k.toNat : Nat) : Int) := by omega
  have q : atI (List.map V.int ns) ((k.toNat : Nat) : Int) = some (.int ns[k.toNat]) := atI_nat (by rw [List.getElem?_map, List.getElem?_eq_getElem hk] <;> rfl)
  rw [← ek] at q
  rw [q, List.getD_eq_getElem?_getD, List.getElem?_eq_getElem hk]
  rfl
theorem atI_lastI {ns : List Int} {x : Int} (h : ns.getLast? = some x) : atI (List.map V.int ns) (-1) = some (.int x) := by
  have e : ns = ns.dropLast ++ [x] := by
    have hn : ns ≠ [] := by rintro rfl; simp at h
    have q := List.dropLast_concat_getLast hn
    rw [List.getLast?_eq_some_getLast hn] at h
    rw [Option.some.inj h] at q
    exact q.symm
  rw [e, List.map_append]
  exact atI_last _ _
theorem get_last {ns : List Int} (h : ns ≠ []) : ∃ x, ns.getLast? = some x := ⟨_, List.getLast?_eq_some_getLast h⟩
def cutI (ns : List Int) (lo hi : Option Int) : List Int := (ns.drop (HT.sIx ns.length 0 lo)).take (HT.sIx ns.length ns.length hi - HT.sIx ns.length 0 lo)
theorem cutV_map (ns : List Int) (lo hi : Option Int) : cutV (List.map V.int ns) lo hi = List.map V.int (cutI ns lo hi) := by
  unfold cutV cutI
  rw [List.length_map, List.map_take, List.map_drop]
theorem cutI_len (ns : List Int) (lo hi : Option Int) : (cutI ns lo hi).length ≤ ns.length := by
  unfold cutI
  rw [List.length_take, List.length_drop]
  omega
theorem cutI_mem {ns : List Int} {lo hi : Option Int} {x : Int} (h : x ∈ cutI ns lo hi) : x ∈ ns := List.mem_of_mem_drop (List.mem_of_mem_take h)
/-- a def of the text as it may be called -/
def Okf (P : Program) (w : World) (K : PySem.W.Frag) (mg : Str → Option Value) (base : Heap) (k : Nat) (nm : Str) (ps : List Str) (sp : Sp) : Prop :=
  ∃ f fd, FnOk P w K mg base CX0 k f fd ps sp ∧ Binds K fd ps [] ∧ mg nm = some (.ref f) ∧ PySem.W.keepIn K (.ref f) = true
/-- a def of the text as it stands there -/
def Def (K : PySem.W.Frag) (mg : Str → Option Value) (nm : Str) (st : Stmt) (ps : List Str) : Prop :=
  ∃ f fd, Fun K nm nm st f fd ∧ Binds K fd ps [] ∧ mg nm = some (.ref f)
/-- the names of Python's own that the text reads -/
structure Own (mg : Str → Option Value) : Prop where
  len : mg "len" = none
  range : mg "range" = none
  isi : mg "isinstance" = none
  int : mg "int" = none
  bool : mg "bool" = none
  list : mg "list" = none
  tuple : mg "tuple" = none
  str : mg "str" = none
  max : mg "max" = none
  rev : mg "reversed" = none
  min : mg "min" = none
  enum : mg "enumerate" = none
  verr : mg "ValueError" = none

def spAt (K : PySem.W.Frag) : Sp := fun vs H Q _ => ∃ a ns k, vs = [.ref a, .int k] ∧ SqL K H a (List.map V.int ns) ∧ 0 ≤ k ∧ Q (.int (ns.getD k.toNat 0)) H
def spWorth (K : PySem.W.Frag) : Sp := fun vs H Q _ => ∃ b a ns, vs = [.int b, .ref a] ∧ SqL K H a (List.map V.int ns) ∧ (-(2 ^ 64) < b ∧ b < 2 ^ 64) ∧ (∀ x ∈ ns, -(2 ^ 64) < x ∧ x < 2 ^ 64) ∧ Q (.int (worth b ns)) H
def spBase : Sp := fun vs H Q _ => ∃ c : Int, vs = [.int c] ∧ ∀ b H', 2 ≤ b → b ≤ 9999999901 → Same H H' → Q (.int b) H'
def spMade (K : PySem.W.Frag) : Sp := fun vs H Q _ => ∃ b a cs, vs = [.int b, .ref a] ∧ SqL K H a (List.map V.int cs) ∧ 2 ≤ b ∧ b < 2 ^ 64 ∧ cs.length ≤ 500 ∧
  ∀ r ts H', Tape b ts → ts.length ≤ cs.length → H r = none → Same H H' → H' r = some (.lst (List.map V.int ts)) → Q (.ref r) H'
def spTwo (K : PySem.W.Frag) : Sp := fun vs H Q _ => ∃ a b ns, vs = [.ref a, .int b] ∧ SqL K H a (List.map V.int ns) ∧ 2 ≤ b ∧ b < 2 ^ 64 ∧ ns.length ≤ 500 ∧
  ∀ t r1 r2 xs ys H', Tape b xs → Tape b ys → xs.length ≤ ns.length → ys.length ≤ ns.length → H r1 = none → H r2 = none → r1 ≠ r2 → Same H H' → H' t = some (.tup [.ref r1, .ref r2]) →
    H' r1 = some (.lst (List.map V.int xs)) → H' r2 = some (.lst (List.map V.int ys)) → Q (.ref t) H'
def spWhole : Sp := fun vs H Q _ => ∃ i : Int, vs = [.int i] ∧ Q (.bl true) H
def spIsTape : Sp := fun vs H Q _ => ∃ a b ns, vs = [.ref a, .int b] ∧ H a = some (.lst (List.map V.int ns)) ∧ Tape b ns ∧ ∀ H', Same H H' → Q (.bl true) H'
def spMixed (K : PySem.W.Frag) : Sp := fun vs H Q _ => ∃ a ns, vs = [.ref a] ∧ SqL K H a (List.map V.int ns) ∧ ns.length ≤ 500 ∧
  ∀ r ms H', ms.length = ns.length → H r = none → Same H H' → H' r = some (.lst (List.map V.int ms)) → Q (.ref r) H'
/-- what stays_so compares: a number, a row of numbers, rows of them -/
inductive Itm where
  | num (i : Int) | row (ns : List Int) | rows (rs : List (List Int))
def Itm.size : Itm → Nat
  | .num _ => 1
  | .row ns => 1 + ns.length
  | .rows rs => 1 + (rs.map fun r => 1 + r.length).sum
def IsRow (H : Hp) (v : V) (ns : List Int) : Prop := ∃ a, v = .ref a ∧ H a = some (.lst (List.map V.int ns))
def Rep (H : Hp) : V → Itm → Prop
  | v, .num i => v = .int i
  | v, .row ns => IsRow H v ns
  | v, .rows rs => ∃ a vs, v = .ref a ∧ H a = some (.lst vs) ∧ Paired (IsRow H) vs rs
def spStays : Sp := fun vs H Q _ => ∃ a b it, vs = [a, b] ∧ Rep H a it ∧ Rep H b it ∧ it.size ≤ 900 ∧ ∀ H', Same H H' → Q (.bl true) H'

section
variable {P : Program} {w : World} {K : PySem.W.Frag} {mg : Str → Option Value} {base : Heap}

theorem sc_at : FnScope ["_law_script", "_law_k"] ["_law_script", "_law_k"] (defScope s_law_at) := ⟨rfl, rfl, rfl, by decide +kernel, rfl, by decide +kernel, by decide +kernel⟩
theorem ok_at (D : Def K mg "_law_at" s_law_at ["_law_script", "_law_k"]) (T : Own mg) : Okf P w K mg base 1 "_law_at" ["_law_script", "_law_k"] (spAt K) := by
  obtain ⟨f, fd, F, b, m⟩ := D
  refine ⟨f, fd, ?_, b, m, F.kp⟩
  refine F.ok sc_at (fun vs H Q E h => ?_) (fun cdv A outer s H vs Q E hr h => ?_)
  · obtain ⟨a, ns, k, rfl, _⟩ := h
    rfl
  obtain ⟨a, ns, k, rfl, hS, h0, q⟩ := h
  refine ⟨_, pss_cons (ps_if (pt_cmpR op_lt (pv 1) (pe_len T.len (pv 0)) (nomark _)) (pss_one (ps_ret (pe_atn (pv 0) (pv 1)))) pss_nil)
    (pss_one (ps_ret pe_int)), ?_⟩
  refine ⟨_, rfl, _, rfl, a, _, rfl, .inl hS, _, _, rfl, rfl, _, rfl, ?_⟩
  refine ite2 (fun c => ?_) (fun c => ?_)
  · have c' : k < ((List.map V.int ns).length : Int) := of_decide_eq_true c
    rw [List.length_map] at c'
    exact ⟨_, rfl, _, rfl, a, _, _, _, rfl, rfl, hS, atI_int h0 c', q⟩
  · have c' : ¬ k < ((List.map V.int ns).length : Int) := of_decide_eq_false (Bool.eq_false_iff.mpr c)
    rw [List.length_map] at c'
    have e : ns.getD k.toNat 0 = 0 := by
      rw [List.getD_eq_getElem?_getD, List.getElem?_eq_none (by omega)]
      rfl
    rw [e] at q
    exact q

theorem worth_take {b : Int} {ns : List Int} {i : Nat} {z : Int} (h : ns[i]? = some z) : worth b (ns.take (i + 1)) = worth b (ns.take i) + z * b ^ i := by
  have hi : i < ns.length := (List.getElem?_eq_some_iff.mp h).1
  rw [List.take_add_one, h, Option.toList_some, worth_snoc, List.length_take, Nat.min_eq_left (by omega), Int.mul_comm]
theorem sc_worth : FnScope ["_law_base", "_law_tape", "_law_total", "_law_weight", "_law_figure"] ["_law_base", "_law_tape"] (defScope s_law_worth_of) := ⟨rfl, rfl, rfl, by decide +kernel, rfl, by decide +kernel, by decide +kernel⟩
theorem ok_worth (D : Def K mg "_law_worth_of" s_law_worth_of ["_law_base", "_law_tape"]) : Okf P w K mg base 1 "_law_worth_of" ["_law_base", "_law_tape"] (spWorth K) := by
  obtain ⟨f, fd, F, bb, m⟩ := D
  refine ⟨f, fd, ?_, bb, m, F.kp⟩
  refine F.ok sc_worth (fun vs H Q E h => ?_) (fun cdv A outer s H vs Q E hr h => ?_)
  · obtain ⟨b, a, ns, rfl, _⟩ := h
    rfl
  obtain ⟨b, a, ns, rfl, hS, hb, hx, q⟩ := h
  refine ⟨_, pss_cons (ps_set (i := 2) sc_worth.nd rfl (Or.inl rfl) pe_int) (pss_cons (ps_set (i := 3) sc_worth.nd rfl (Or.inl rfl) pe_int)
    (pss_cons (ps_for PassesOwn.never rfl (pi_list (pv 1)) (pg_name (i := 4) sc_worth.nd rfl (Or.inl rfl))
      (pss_cons (ps_set (i := 2) sc_worth.nd rfl (Or.inl rfl) (pe_op op_add (pv 2) (pe_op op_mul (pv 4) (pv 3))))
      (pss_one (ps_set (i := 3) sc_worth.nd rfl (Or.inl rfl) (pe_op op_mul (pv 3) (pv 0))))))
    (pss_one (ps_ret (pv 2))))), ?_⟩
  refine ⟨_, rfl, a, rfl, ⟨_, hS⟩, for_list (K := K) (a := a) (xs := List.map V.int ns)
    (fun i σ H2 => H2 = H ∧ ∃ f, σ = [some (.int b), some (.ref a), some (.int (worth b (ns.take i))), some (.int (b ^ i)), f])
    ⟨rfl, none, by rw [List.take_zero, Int.pow_zero] <;> rfl⟩ (fun i σ H2 _ ⟨e, _⟩ => by rw [e]; exact hS) ?_ ?_⟩
  · rintro i y σ H2 hi ⟨rfl, g, rfl⟩
    obtain ⟨z, rfl, hz⟩ := int_at hi
    have hzm := hx z (List.mem_of_getElem? hz)
    refine ⟨_, rfl, _, rfl, _, rfl, _, _, rfl, rfl, .inl hzm, _, _, rfl, rfl, _, rfl, _, rfl, _, _, rfl, rfl, .inr hb, rfl, some (.int z), ?_⟩
    rw [worth_take hz, Int.pow_succ] <;> rfl
  · rintro σ H2 ⟨rfl, g, rfl⟩
    refine ⟨_, rfl, ?_⟩
    have e : ns.take (List.map V.int ns).length = ns := by rw [List.length_map]; exact List.take_length
    rw [e]
    exact q

theorem sc_base : FnScope ["_law_cell"] ["_law_cell"] (defScope s_law_base_by) := ⟨rfl, rfl, rfl, by decide +kernel, rfl, by decide +kernel, by decide +kernel⟩
theorem eight (c : Int) : c % 8 = 0 ∨ c % 8 = 1 ∨ c % 8 = 2 ∨ c % 8 = 3 ∨ c % 8 = 4 ∨ c % 8 = 5 ∨ c % 8 = 6 ∨ c % 8 = 7 := by omega
theorem ok_base (D : Def K mg "_law_base_by" s_law_base_by ["_law_cell"]) : Okf P w K mg base 1 "_law_base_by" ["_law_cell"] spBase := by
  obtain ⟨f, fd, F, bb, m⟩ := D
  refine ⟨f, fd, ?_, bb, m, F.kp⟩
  refine F.ok sc_base (fun vs H Q E h => ?_) (fun cdv A outer s H vs Q E hr h => ?_)
  · obtain ⟨c, rfl, _⟩ := h
    rfl
  obtain ⟨c, rfl, q⟩ := h
  refine ⟨_, pss_cons (ps_if (pt_cmpR op_eq (pe_op op_mod (pe_op op_fdiv (pv 0) pe_int) pe_int) pe_int (nomark _)) (pss_one (ps_ret (pe_op op_add pe_int (pe_op op_mod (pe_op op_fdiv (pv 0) pe_int) pe_int)))) pss_nil)
    (pss_cons (ps_if (pt_cmpR op_eq (pe_op op_mod (pe_op op_fdiv (pv 0) pe_int) pe_int) pe_int (nomark _)) (pss_one (ps_ret (pe_op op_add pe_int (pe_op op_mod (pe_op op_mul (pe_op op_mul (pv 0) pe_int) pe_int) pe_int)))) pss_nil)
    (@pss_one _ _ _ (@ps_ret _ _ _ _ (@pe_ix _ _ _ _ _ _ _ ix_list pe_lst8 (pe_op op_mod (pv 0) pe_int) (fun _ _ => rfl))))), ?_⟩
  refine ⟨_, rfl, _, _, rfl, rfl, ⟨by decide, by decide⟩, _, _, rfl, rfl, (by show (0 : Int) < 3; decide), rfl, _, rfl, ?_⟩
  refine ite2 (fun _ => ?_) (fun _ => ?_)
  · refine ⟨_, rfl, _, _, rfl, rfl, ⟨by decide, by decide⟩, _, _, rfl, rfl, (by show (0 : Int) < 652; decide), _, _, rfl, rfl, ?_⟩
    exact q _ H (by omega) (by omega) (Same.refl H)
  refine ⟨_, rfl, _, _, rfl, rfl, ⟨by decide, by decide⟩, _, _, rfl, rfl, (by show (0 : Int) < 6; decide), rfl, _, rfl, ?_⟩
  refine ite2 (fun _ => ?_) (fun _ => ?_)
  · refine ⟨_, rfl, ?_⟩
    refine ⟨_, _, rfl, rfl, .inr ⟨by decide, by decide⟩, ?_⟩
    refine ⟨_, _, rfl, rfl, .inr ⟨by decide, by decide⟩, ?_⟩
    refine ⟨_, _, rfl, rfl, ?_, ?_⟩
    · show (0 : Int) < 9999999900
      omega
    refine ⟨_, _, rfl, rfl, ?_⟩
    exact q _ H (by omega) (by omega) (Same.refl H)
  refine fun p hp => ⟨_, rfl, _, _, rfl, rfl, (by show (0 : Int) < 8; decide), ?_⟩
  have fin : ∀ b : Int, 2 ≤ b → b ≤ 9999999901 → Q (.int b) (upd H p (.lst [.int 10, .int 2, .int 3, .int 16, .int 7, .int 60, .int 5, .int 1000])) := fun b h1 h2 => q b _ h1 h2 (same_new hp _)
  show rIxL K (V.ref p) (V.int (c % 8)) (upd H p (.lst [.int 10, .int 2, .int 3, .int 16, .int 7, .int 60, .int 5, .int 1000])) Q
  rcases eight c with e | e | e | e | e | e | e | e <;> rw [e]
  · exact ⟨p, _, _, _, rfl, rfl, SqL.of upd_same, rfl, fin 10 (by decide) (by decide)⟩
  · exact ⟨p, _, _, _, rfl, rfl, SqL.of upd_same, rfl, fin 2 (by decide) (by decide)⟩
  · exact ⟨p, _, _, _, rfl, rfl, SqL.of upd_same, rfl, fin 3 (by decide) (by decide)⟩
  · exact ⟨p, _, _, _, rfl, rfl, SqL.of upd_same, rfl, fin 16 (by decide) (by decide)⟩
  · exact ⟨p, _, _, _, rfl, rfl, SqL.of upd_same, rfl, fin 7 (by decide) (by decide)⟩
  · exact ⟨p, _, _, _, rfl, rfl, SqL.of upd_same, rfl, fin 60 (by decide) (by decide)⟩
  · exact ⟨p, _, _, _, rfl, rfl, SqL.of upd_same, rfl, fin 5 (by decide) (by decide)⟩
  · exact ⟨p, _, _, _, rfl, rfl, SqL.of upd_same, rfl, fin 1000 (by decide) (by decide)⟩

theorem sc_made : FnScope ["_law_base", "_law_cells", "_law_figures", "_law_cell", "_law_menu"] ["_law_base", "_law_cells"] (defScope s_law_made) := ⟨rfl, rfl, rfl, by decide +kernel, rfl, by decide +kernel, by decide +kernel⟩
theorem four (c : Int) : c % 4 = 0 ∨ c % 4 = 1 ∨ c % 4 = 2 ∨ c % 4 = 3 := by omega
theorem len_lst {n : Nat} {fs : List Int} (h : fs.length ≤ n) (hn : n ≤ 900) : (List.map V.int fs).length < sizeLine := by
  rw [List.length_map]; exact small1000 (by omega)
theorem map_empty (fs : List Int) : (List.map V.int fs).isEmpty = fs.isEmpty := by cases fs <;> rfl
theorem map_dropLast (fs : List Int) : (List.map V.int fs).dropLast = List.map V.int fs.dropLast := (List.map_dropLast).symm
/-- the loop that cuts noughts off: its readings -/
theorem last_at {fs : List Int} {x : Int} (h : fs.getLast? = some x) : (List.map V.int fs)[(List.map V.int fs).length - 1]? = some (V.int x) := by
  rw [← List.getLast?_eq_getElem?, List.getLast?_map, h]
  rfl
theorem ok_made (D : Def K mg "_law_made" s_law_made ["_law_base", "_law_cells"]) : Okf P w K mg base 1 "_law_made" ["_law_base", "_law_cells"] (spMade K) := by
  obtain ⟨f, fd, F, bb, m⟩ := D
  refine ⟨f, fd, ?_, bb, m, F.kp⟩
  refine F.ok sc_made (fun vs H Q E h => ?_) (fun cdv A outer s H vs Q E hr h => ?_)
  · obtain ⟨b, a, cs, rfl, _⟩ := h
    rfl
  obtain ⟨b, a, cs, rfl, hS, hb, hb2, hl, q⟩ := h
  have hu := hr.units0
  refine ⟨_, pss_cons (ps_set (i := 2) sc_made.nd rfl (Or.inl rfl) (pe_lst pa_nil))
    (pss_cons (ps_for PassesOwn.never rfl (pi_list (pv 1)) (pg_name (i := 3) sc_made.nd rfl (Or.inl rfl))
      (pss_cons (ps_set (i := 4) sc_made.nd rfl (Or.inl rfl) (pe_lst (pac (pe_op op_mod (pv 3) (pv 0)) (pac (pe_op op_sub (pv 0) pe_int) (pac pe_int (pac (pe_op op_mod (pe_op op_fdiv (pv 3) pe_int) (pv 0)) pa_nil))))))
      (pss_one (ps_expr (pem_app (pv 2) (pe_ix ix_list (pv 4) (pe_op op_mod (pe_op op_fdiv (pv 3) pe_int) pe_int) (fun _ _ => rfl)))))))
    (pss_cons (ps_while PassesOwn.never (PW.pt (pw_and (pt_cmpR (op_neN hu) (pv 2) (pe_lst pa_nil) (nomark _)) (pw_and1 (pt_cmpR op_eq (pe_lastx (pv 2)) pe_int (nomark _)))))
      (pss_one (ps_expr (pem_pop (pv 2)))))
    (pss_one (ps_ret (pv 2))))), ?_⟩
  refine ⟨small (by decide), fun r hr0 => ?_⟩
  have g0 : Same H (upd H r (.lst [])) := same_new hr0 _
  refine ⟨_, rfl, a, rfl, ⟨_, g0.seq hS⟩, for_list (K := K) (a := a) (xs := List.map V.int cs)
    (fun i σ H2 => ∃ fs c m, σ = [some (.int b), some (.ref a), some (.ref r), c, m] ∧ H2 r = some (.lst (List.map V.int fs)) ∧ Figs b fs ∧ fs.length = i ∧ Same H H2)
    ⟨[], none, none, rfl, upd_same, Figs.nil b, rfl, g0⟩ (fun i σ H2 _ ⟨_, _, _, _, _, _, _, g⟩ => g.seq hS) ?_ ?_⟩
  · rintro i y σ H2 hi ⟨fs, c, m, rfl, hr2, hf, hlen, g⟩
    obtain ⟨z, rfl, hz⟩ := int_at hi
    have hi2 : i < cs.length := (List.getElem?_eq_some_iff.mp hz).1
    refine ⟨_, rfl, _, rfl, _, _, rfl, rfl, (by show 0 < b; omega), _, rfl, _, _, rfl, rfl, _, rfl, _, _, rfl, rfl, ⟨by decide, by decide⟩, _, rfl, _, _, rfl, rfl, (by show 0 < b; omega), small (show 4 ≤ 1000 by decide), fun p hp => ?_⟩
    have nrp : r ≠ p := ne_of_none hr2 hp
    have hr3 : ∀ o, (upd H2 p o) r = some (.lst (List.map V.int fs)) := fun o => by rw [upd_ne nrp]; exact hr2
    refine ⟨_, rfl, .inl ⟨rfl, _, SqL.of (hr3 _)⟩, _, rfl, _, rfl, _, _, rfl, rfl, ⟨by decide, by decide⟩, _, _, rfl, rfl, (by show (0 : Int) < 4; decide), ?_⟩
    have fin : ∀ x : Int, 0 ≤ x → x < b → rAppend (.ref r) [.int x] (upd H2 p (.lst [.int (z % b), .int (b - 1), .int 0, .int (z / 8 % b)])) fun _ H1 =>
        ∃ fs c m, [some (V.int b), some (V.ref a), some (V.ref r), some (V.int z), some (V.ref p)] = [some (V.int b), some (V.ref a), some (V.ref r), c, m] ∧ H1 r = some (.lst (List.map V.int fs)) ∧ Figs b fs ∧ fs.length = i + 1 ∧ Same H H1 := by
      intro x h0 h1
      refine ⟨r, _, _, rfl, rfl, hr3 _, len_lst (n := i) (by omega) (by omega), fs ++ [x], _, _, rfl, ?_, hf.snoc ⟨h0, h1⟩, by rw [List.length_append, hlen]; rfl, ?_⟩
      · rw [upd_same, List.map_append]; rfl
      · intro d o e
        have n1 : d ≠ r := ne_of_none e hr0
        have n2 : d ≠ p := ne_of_none (g d o e) hp
        rw [upd_ne n1, upd_ne n2]
        exact g d o e
    have b0 : (0 : Int) < b := by omega
    show rIxL K (V.ref p) (V.int (z / 64 % 4)) _ _
    rcases four (z / 64) with e | e | e | e <;> rw [e]
    · exact ⟨p, _, _, _, rfl, rfl, SqL.of upd_same, rfl, fin _ (Int.emod_nonneg _ (by omega)) (Int.emod_lt_of_pos _ b0)⟩
    · exact ⟨p, _, _, _, rfl, rfl, SqL.of upd_same, rfl, fin _ (by omega) (by omega)⟩
    · exact ⟨p, _, _, _, rfl, rfl, SqL.of upd_same, rfl, fin _ (by omega) (by omega)⟩
    · exact ⟨p, _, _, _, rfl, rfl, SqL.of upd_same, rfl, fin _ (Int.emod_nonneg _ (by omega)) (Int.emod_lt_of_pos _ b0)⟩
  · rintro σ H2 ⟨fs0, c, m, rfl, hr2, hf, hlen, g⟩
    rw [List.length_map] at hlen
    refine ⟨fun n σ H3 => ∃ fs, σ = [some (.int b), some (.ref a), some (.ref r), c, m] ∧ H3 r = some (.lst (List.map V.int fs)) ∧ trim fs = trim fs0 ∧ fs.length = n ∧ n ≤ cs.length ∧ Same H H3,
      ⟨cs.length, fs0, rfl, hr2, rfl, hlen, Nat.le_refl _, g⟩, ?_⟩
    rintro n σ H3 ⟨fs, rfl, hr3, ht, hn, hn2, g3⟩
    refine ⟨_, rfl, small (by decide), fun p hp => ?_⟩
    have nrp : r ≠ p := ne_of_none hr3 hp
    have hr4 : (upd H3 p (.lst [])) r = some (.lst (List.map V.int fs)) := by rw [upd_ne nrp]; exact hr3
    have g4 : Same H (upd H3 p (.lst [])) := g3.trans (same_new hp _)
    refine ⟨r, p, _, rfl, rfl, SqL.of hr4, SqL.of upd_same, _, rfl, ?_⟩
    rw [map_empty]
    have last : trim fs = fs → Q (.ref r) (upd H3 p (.lst [])) := fun e => by
      have ef : fs = trim fs0 := e.symm.trans ht
      refine q r fs _ (by rw [ef]; exact hf.tape) (by omega) hr0 g4 hr4
    by_cases hne : fs = []
    · subst hne
      exact iteF ⟨_, rfl, last rfl⟩
    · have e1 : (!fs.isEmpty) = true := by cases fs with | nil => exact absurd rfl hne | cons _ _ => rfl
      rw [e1]
      obtain ⟨x, hx⟩ := get_last hne
      refine iteT ⟨_, rfl, _, rfl, r, _, _, _, rfl, rfl, SqL.of hr4, atI_lastI hx, rfl, _, rfl, ?_⟩
      by_cases hx0 : x = 0
      · subst hx0
        rw [decide_eq_true rfl]
        refine iteT ⟨_, fun _ _ h => h, ⟨_, rfl, .inl ⟨rfl, _, SqL.of hr4⟩, r, _, _, rfl, rfl, hr4, last_at hx, n - 1, ?_, fs.dropLast, rfl, ?_, (trim_turn hne hx).trans ht, ?_, by omega, ?_⟩⟩
        · have : fs.length ≠ 0 := fun z => hne (List.eq_nil_of_length_eq_zero z)
          omega
        · rw [upd_same, map_dropLast]
        · rw [List.length_dropLast, hn]
        · intro d o e
          rw [upd_ne (ne_of_none e hr0)]
          exact g4 d o e
      · rw [decide_eq_false (fun z => hx0 (V.int.inj z))]
        exact iteF ⟨_, rfl, last (trim_stop (.inr ⟨x, hx, hx0⟩))⟩

theorem sc_whole : FnScope ["_law_found"] ["_law_found"] (defScope s_law_whole) := ⟨rfl, rfl, rfl, by decide +kernel, rfl, by decide +kernel, by decide +kernel⟩
theorem ok_whole (D : Def K mg "_law_whole" s_law_whole ["_law_found"]) (T : Own mg) : Okf P w K mg base 1 "_law_whole" ["_law_found"] spWhole := by
  obtain ⟨f, fd, F, bb, m⟩ := D
  refine ⟨f, fd, ?_, bb, m, F.kp⟩
  refine F.ok sc_whole (fun vs H Q E h => ?_) (fun cdv A outer s H vs Q E hr h => ?_)
  · obtain ⟨i, rfl, _⟩ := h
    rfl
  obtain ⟨i, rfl, q⟩ := h
  refine ⟨_, pss_one (ps_ret (pe_and (pe_isi T.isi T.int PyProof.Rows.boot_int (pv 0))
    (pe_one (pe_not (pe_isi T.isi T.bool PyProof.Rows.boot_bool (pv 0)))))), ?_⟩
  refine ⟨_, rfl, _, _, _, _, rfl, .int i, k_int_int, _, rfl, iteT ?_⟩
  exact ⟨_, rfl, _, _, _, _, rfl, .int i, k_int_bool, _, rfl, q⟩

theorem sc_two : FnScope ["_law_script", "_law_base", "_law_many", "_law_cells", "_law_cut"] ["_law_script", "_law_base"] (defScope s_law_two_by) := ⟨rfl, rfl, rfl, by decide +kernel, rfl, by decide +kernel, by decide +kernel⟩
theorem ok_two (D : Def K mg "_law_two_by" s_law_two_by ["_law_script", "_law_base"]) (T : Own mg) (OA : Okf P w K mg base 1 "_law_at" ["_law_script", "_law_k"] (spAt K)) (OM : Okf P w K mg base 1 "_law_made" ["_law_base", "_law_cells"] (spMade K)) :
    Okf P w K mg base 2 "_law_two_by" ["_law_script", "_law_base"] (spTwo K) := by
  obtain ⟨f, fd, F, bb, m⟩ := D
  obtain ⟨fA, dA, GA, bA, mA, kA⟩ := OA
  obtain ⟨fM, dM, GM, bM, mM, kM⟩ := OM
  refine ⟨f, fd, ?_, bb, m, F.kp⟩
  refine F.ok sc_two (fun vs H Q E h => ?_) (fun cdv A outer s H vs Q E hr h => ?_)
  · obtain ⟨a, b, ns, rfl, _⟩ := h
    rfl
  obtain ⟨a, b, ns, rfl, hS, hb, hb2, hl, q⟩ := h
  refine ⟨_, pss_cons (ps_set (i := 2) sc_two.nd rfl (Or.inl rfl) (pe_op op_mod (pef GA hr mA kA bA pass0 (pac (pv 0) (pac pe_int pa_nil))) pe_int))
    (pss_cons (ps_set (i := 3) sc_two.nd rfl (Or.inl rfl) (pe_slice sl_list (pv 0) (po_some pe_int) po_none))
    (pss_cons (ps_set (i := 4) sc_two.nd rfl (Or.inl rfl) (pe_op op_fdiv (pe_op op_mul (pe_len T.len (pv 3)) (pv 2)) pe_int))
    (pss_cons (ps_if (pt_cmpR op_eq (pe_op op_mod (pv 2) pe_int) pe_int (nomark _))
      (pss_one (ps_ret (pe_tup (pac (pef GM hr mM kM bM pass0 (pac (pv 1) (pac (pe_slice sl_list (pv 3) (po_some (pv 4)) po_none) pa_nil)))
        (pac (pef GM hr mM kM bM pass0 (pac (pv 1) (pac (pe_slice sl_list (pv 3) po_none (po_some (pv 4))) pa_nil))) pa_nil))))) pss_nil)
    (pss_one (ps_ret (pe_tup (pac (pef GM hr mM kM bM pass0 (pac (pv 1) (pac (pe_slice sl_list (pv 3) po_none (po_some (pv 4))) pa_nil)))
        (pac (pef GM hr mM kM bM pass0 (pac (pv 1) (pac (pe_slice sl_list (pv 3) (po_some (pv 4)) po_none) pa_nil))) pa_nil)))))))), ?_⟩
  refine ⟨_, rfl, a, ns, 1, rfl, hS, by decide, _, _, rfl, rfl, (by show (0 : Int) < 7; decide), _, rfl, _, rfl, a, _, rfl, hS, fun p hp => ?_⟩
  rw [cutV_map]
  have hcl := cutI_len ns (some 2) none
  generalize cutI ns (some 2) none = cs at hcl ⊢
  have g1 : Same H (upd H p (.lst (List.map V.int cs))) := same_new hp _
  generalize hH1 : upd H p (.lst (List.map V.int cs)) = H1 at g1 ⊢
  have hp1 : H1 p = some (.lst (List.map V.int cs)) := by rw [← hH1]; exact upd_same
  refine ⟨_, rfl, p, _, rfl, .inl (SqL.of hp1), _, rfl, _, _, rfl, rfl, .inr ⟨by omega, by omega⟩, _, _, rfl, rfl, ⟨by decide, by decide⟩, ?_⟩
  refine ⟨_, rfl, _, _, rfl, rfl, (by show (0 : Int) < 3; decide), rfl, _, rfl, ?_⟩
  have mk : ∀ (lo hi : Option Int) (H2 : Hp) (p1 : Addr) (R : VK), Same H1 H2 → H2 p1 = none → (∀ r ts H3, Tape b ts → ts.length ≤ ns.length → H2 r = none → Same H2 H3 → H3 r = some (.lst (List.map V.int ts)) → R (.ref r) H3) →
      spMade K [.int b, .ref p1] (upd H2 p1 (.lst (cutV (List.map V.int cs) lo hi))) R E0 := by
    intro lo hi H2 p1 R g2 hp1' k
    rw [cutV_map]
    have h1 := cutI_len cs lo hi
    refine ⟨b, p1, cutI cs lo hi, rfl, SqL.of upd_same, hb, hb2, by omega, fun r1 xs H3 t1 l1 n1 s1 e1 => ?_⟩
    exact k r1 xs H3 t1 (by omega) ((same_new hp1' _).free n1) ((same_new hp1' _).trans s1) e1
  have fin : ∀ r1 xs H2 r2 ys H3, Tape b xs → Tape b ys → xs.length ≤ ns.length → ys.length ≤ ns.length → H1 r1 = none → Same H1 H2 → H2 r1 = some (.lst (List.map V.int xs)) → H2 r2 = none → Same H2 H3 → H3 r2 = some (.lst (List.map V.int ys)) →
      ([V.ref r1, V.ref r2] : List V).length ≤ sizeLine ∧ ∀ t, H3 t = none → Q (.ref t) (upd H3 t (.tup [.ref r1, .ref r2])) := by
    intro r1 xs H2 r2 ys H3 t1 t2 l1 l2 n1 f1 e1 n2 f2 e2
    refine ⟨small (show 2 ≤ 1000 by decide), fun t ht => ?_⟩
    have f3 : Same H3 (upd H3 t (.tup [.ref r1, .ref r2])) := same_new ht _
    exact q t r1 r2 xs ys _ t1 t2 l1 l2 (g1.free n1) (g1.free (f1.free n2)) (ne_of_none e1 n2) (g1.trans (f1.trans (f2.trans f3))) upd_same (f3 _ _ (f2 _ _ e1)) (f3 _ _ e2)
  refine ite2 (fun _ => ?_) (fun _ => ?_)
  · refine ⟨_, rfl, _, rfl, _, rfl, _, rfl, p, _, rfl, SqL.of hp1, fun p1 hp1' => ?_⟩
    dsimp only [tNil, List.cons_append, List.nil_append]
    refine mk _ _ H1 p1 _ (Same.refl _) hp1' fun r1 xs H2 t1 l1 n1 s1 e1 => ?_
    refine ⟨_, rfl, _, rfl, _, rfl, _, rfl, p, _, rfl, SqL.of (s1 _ _ hp1), fun p2 hp2 => ?_⟩
    dsimp only [tNil, List.cons_append, List.nil_append]
    exact mk _ _ H2 p2 _ s1 hp2 fun r2 ys H3 t2 l2 n2 s2 e2 => fin r1 xs H2 r2 ys H3 t1 t2 l1 l2 n1 s1 e1 n2 s2 e2
  · refine ⟨_, rfl, _, rfl, _, rfl, _, rfl, p, _, rfl, SqL.of hp1, fun p1 hp1' => ?_⟩
    dsimp only [tNil, List.cons_append, List.nil_append]
    refine mk _ _ H1 p1 _ (Same.refl _) hp1' fun r1 xs H2 t1 l1 n1 s1 e1 => ?_
    refine ⟨_, rfl, _, rfl, _, rfl, _, rfl, p, _, rfl, SqL.of (s1 _ _ hp1), fun p2 hp2 => ?_⟩
    dsimp only [tNil, List.cons_append, List.nil_append]
    exact mk _ _ H2 p2 _ s1 hp2 fun r2 ys H3 t2 l2 n2 s2 e2 => fin r1 xs H2 r2 ys H3 t1 t2 l1 l2 n1 s1 e1 n2 s2 e2

theorem sc_mixed : FnScope ["_law_script"] ["_law_script"] (defScope s_law_mixed) := ⟨rfl, rfl, rfl, by decide +kernel, rfl, by decide +kernel, by decide +kernel⟩
theorem ok_mixed (D : Def K mg "_law_mixed" s_law_mixed ["_law_script"]) (T : Own mg) : Okf P w K mg base 1 "_law_mixed" ["_law_script"] (spMixed K) := by
  obtain ⟨f, fd, F, bb, m⟩ := D
  refine ⟨f, fd, ?_, bb, m, F.kp⟩
  refine F.ok sc_mixed (fun vs H Q E h => ?_) (fun cdv A outer s H vs Q E hr h => ?_)
  · obtain ⟨a, ns, rfl, _⟩ := h
    rfl
  obtain ⟨a, ns, rfl, hS, hl, q⟩ := h
  refine ⟨_, pss_one (ps_ret (pe_mixed (i := 0) rfl rfl rfl rfl rfl rfl (by decide +kernel) rfl (by decide +kernel) rfl rfl rfl T.range rfl T.len (by decide) (by decide) (by decide))), ?_⟩
  exact ⟨a, ns, rfl, hS, hl, fun D hD => q D (mixL ns) _ (mixL_len ns) hD (same_new hD _) upd_same⟩

def spGood (K : PySem.W.Frag) : Sp := fun vs H Q _ => ∃ b a ns, vs = [.int b, .ref a] ∧ SqL K H a (List.map V.int ns) ∧ ∀ k H', (k = true ↔ Tape b ns) → Same H H' → Q (.bl k) H'
theorem sc_good : FnScope ["_law_base", "_law_tape", "_law_figure"] ["_law_base", "_law_tape"] (defScope s_law_good) := ⟨rfl, rfl, rfl, by decide +kernel, rfl, by decide +kernel, by decide +kernel⟩
theorem ok_good (D : Def K mg "_law_good" s_law_good ["_law_base", "_law_tape"]) : Okf P w K mg base 1 "_law_good" ["_law_base", "_law_tape"] (spGood K) := by
  obtain ⟨f, fd, F, bb, m⟩ := D
  refine ⟨f, fd, ?_, bb, m, F.kp⟩
  refine F.ok sc_good (fun vs H Q E h => ?_) (fun cdv A outer s H vs Q E hr h => ?_)
  · obtain ⟨b, a, ns, rfl, _⟩ := h
    rfl
  obtain ⟨b, a, ns, rfl, hS, q⟩ := h
  have hu := hr.units0
  refine ⟨_, pss_cons (ps_for PassesOwn.never rfl (pi_list (pv 1)) (pg_name (i := 2) sc_good.nd rfl (Or.inl rfl))
      (pss_one (ps_if (PW.pt (pw_or (pt_cmpR op_lt (pv 2) pe_int (nomark _)) (pw_or1 (pt_cmpR op_ge (pv 2) (pv 0) (nomark _))))) (pss_one (ps_ret pe_bl)) pss_nil)))
    (pss_one (ps_ret (pe_or (pe_cmpR (op_eqN hu) (pv 1) (pe_lst pa_nil) (nomark _)) (pe_one (pe_cmpR op_ne (pe_lastx (pv 1)) pe_int (nomark _)))))), ?_⟩
  refine ⟨_, rfl, a, rfl, ⟨_, hS⟩, for_list (K := K) (a := a) (xs := List.map V.int ns) (fun i σ H2 => H2 = H ∧ Figs b (ns.take i) ∧ ∃ g, σ = [some (.int b), some (.ref a), g]) ⟨rfl, by rw [List.take_zero]; exact Figs.nil b, none, rfl⟩ (fun i σ H2 _ ⟨e, _⟩ => by rw [e]; exact hS) ?_ ?_⟩
  · rintro i y σ H2 hi ⟨rfl, hf, g, rfl⟩
    obtain ⟨z, rfl, hz⟩ := int_at hi
    have bad : ¬ (0 ≤ z ∧ z < b) → Q (.bl false) H2 := fun hn => q false H2 ⟨fun e => Bool.noConfusion e, fun t => absurd (t.figs.get hz) hn⟩ (Same.refl _)
    refine ⟨_, rfl, _, _, rfl, rfl, _, rfl, ?_⟩
    by_cases h1 : z < 0
    · rw [decide_eq_true h1]
      exact iteT (iteT (bad (by omega)))
    · rw [decide_eq_false h1]
      refine iteF ⟨_, rfl, _, rfl, _, _, rfl, rfl, _, rfl, ?_⟩
      by_cases h2 : b ≤ z
      · rw [decide_eq_true h2]
        exact iteT (bad (by omega))
      · rw [decide_eq_false h2]
        refine iteF ⟨rfl, ?_, _, rfl⟩
        rw [List.take_add_one, hz]
        exact hf.snoc ⟨by omega, by omega⟩
  · rintro σ H2 ⟨rfl, hf, g, rfl⟩
    have hf : Figs b ns := by rw [List.length_map, List.take_length] at hf; exact hf
    refine ⟨_, rfl, small (by decide), fun p hp => ?_⟩
    have hS2 : SqL K (upd H2 p (.lst [])) a (List.map V.int ns) := (same_new hp _).seq hS
    refine ⟨a, p, _, rfl, rfl, hS2, SqL.of upd_same, _, rfl, ?_⟩
    rw [map_empty]
    by_cases hne : ns = []
    · subst hne
      exact iteT (q true _ ⟨fun _ => Tape.nil b, fun _ => rfl⟩ (same_new hp _))
    · have e1 : ns.isEmpty = false := by cases ns with | nil => exact absurd rfl hne | cons _ _ => rfl
      rw [e1]
      obtain ⟨x, hx⟩ := get_last hne
      refine iteF ⟨_, rfl, _, rfl, a, _, _, _, rfl, rfl, hS2, atI_lastI hx, rfl, ?_⟩
      by_cases h0 : x = 0
      · subst h0
        exact q false _ ⟨fun e => Bool.noConfusion e, fun t => absurd rfl (t.noz 0 hx)⟩ (same_new hp _)
      · show Q (.bl (!decide (V.int x = V.int 0))) _
        rw [decide_eq_false (fun z => h0 (V.int.inj z))]
        refine q true _ ⟨fun _ => ⟨hf, fun y hy => ?_⟩, fun _ => rfl⟩ (same_new hp _)
        rw [hx] at hy; cases hy
        exact h0

/-! ### while xs != [] and xs[-1] == 0: xs.pop() -/
theorem trim_loop {K : PySem.W.Frag} {D : Ends} {σ : L2.St} {H H0 : Hp} {i : Nat} {r : Addr} {fs0 : List Int} (hσ : σ[i]? = some (some (.ref r))) (hr : H r = some (.lst (List.map V.int fs0))) (h0 : H0 r = none) (g : Same H0 H)
    (k : ∀ H', Same H0 H' → H' r = some (.lst (List.map V.int (trim fs0))) → D.nx σ H') :
    tWhile (tAnd (tTest (tOp (rNeN K) (tVar i) (tLst tNil))) (tTest (tOp rEq (tOp (rIxL K) (tVar i) (tUn (rU fun i => .int (-i)) (tC (.int 1)))) (tC (.int 0))))) (tDrop (tBM0 K "list" rPop (tVar i))) D σ H := by
  refine ⟨fun n σ1 H3 => ∃ fs, σ1 = σ ∧ H3 r = some (.lst (List.map V.int fs)) ∧ trim fs = trim fs0 ∧ fs.length = n ∧ Same H0 H3, ⟨fs0.length, fs0, rfl, hr, rfl, rfl, g⟩, ?_⟩
  rintro n σ1 H3 ⟨fs, rfl, hr3, ht, hn, g3⟩
  refine ⟨_, hσ, small (by decide), fun p hp => ?_⟩
  have nrp : r ≠ p := ne_of_none hr3 hp
  have hr4 : (upd H3 p (.lst [])) r = some (.lst (List.map V.int fs)) := by rw [upd_ne nrp]; exact hr3
  have g4 : Same H0 (upd H3 p (.lst [])) := g3.trans (same_new hp _)
  refine ⟨r, p, _, rfl, rfl, SqL.of hr4, SqL.of upd_same, _, rfl, ?_⟩
  rw [map_empty]
  have last : trim fs = fs → D.nx σ1 (upd H3 p (.lst [])) := fun e => k _ g4 (by rw [hr4, ← ht, e])
  by_cases hne : fs = []
  · subst hne
    exact iteF (last rfl)
  · have e1 : (!fs.isEmpty) = true := by cases fs with | nil => exact absurd rfl hne | cons _ _ => rfl
    rw [e1]
    obtain ⟨x, hx⟩ := get_last hne
    refine iteT ⟨_, hσ, _, rfl, r, _, _, _, rfl, rfl, SqL.of hr4, atI_lastI hx, rfl, _, rfl, ?_⟩
    by_cases hx0 : x = 0
    · subst hx0
      rw [decide_eq_true rfl]
      refine iteT ⟨_, fun _ _ h => h, ⟨_, hσ, .inl ⟨rfl, _, SqL.of hr4⟩, r, _, _, rfl, rfl, hr4, last_at hx, n - 1, ?_, fs.dropLast, rfl, ?_, (trim_turn hne hx).trans ht, ?_, ?_⟩⟩
      · have : fs.length ≠ 0 := fun z => hne (List.eq_nil_of_length_eq_zero z)
        omega
      · rw [upd_same, map_dropLast]
      · rw [List.length_dropLast, hn]
      · intro d o e
        rw [upd_ne (ne_of_none e h0)]
        exact g4 d o e
    · rw [decide_eq_false (fun z => hx0 (V.int.inj z))]
      exact iteF (last (trim_stop (.inr ⟨x, hx, hx0⟩)))

/-! ### what the program's defs promise -/
def Okx (P : Program) (w : World) (K : PySem.W.Frag) (mg : Str → Option Value) (base : Heap) (k : Nat) (nm : Str) (ps : List Str) (sp : Sp) : Prop :=
  ∃ f fd, FnOk P w K mg base (CX1 P w) k f fd ps sp ∧ Binds K fd ps [] ∧ mg nm = some (.ref f) ∧ PySem.W.keepIn K (.ref f) = true
def Refuse (H : Hp) (E : XK) (C : Addr) : Prop := ∀ H', Same H H' → E (.ref C) none H'
def sp2 (n : Nat) (K : PySem.W.Frag) (CB CT : Addr) (R : Int → List Int → List Int → Hp → VK → XK → Prop) : Sp := fun vs H Q E => ∃ b a c xs ys, vs = [.int b, .ref a, .ref c] ∧ SqL K H a (List.map V.int xs) ∧ SqL K H c (List.map V.int ys) ∧ b < 2 ^ 64 ∧ xs.length ≤ n ∧ ys.length ≤ n ∧
  (b < 2 → Refuse H E CB) ∧ (2 ≤ b → ¬ (Tape b xs ∧ Tape b ys) → Refuse H E CT) ∧ (2 ≤ b → Tape b xs → Tape b ys → R b xs ys H Q E)
/-- a tape comes back -/
def Gives (b : Int) (n : Nat) (v : Int) (H : Hp) (Q : VK) : Prop := ∀ r zs H', Tape b zs → worth b zs = v → zs.length ≤ n → Same H H' → H' r = some (.lst (List.map V.int zs)) → Q (.ref r) H'
/-- a pair of tapes comes back -/
def Gives2 (b : Int) (n : Nat) (Pq : Int → Int → Prop) (H : Hp) (Q : VK) : Prop := ∀ t r1 r2 xs ys H', Tape b xs → Tape b ys → Pq (worth b xs) (worth b ys) → xs.length ≤ n → ys.length ≤ n → Same H H' → H' t = some (.tup [.ref r1, .ref r2]) →
  H' r1 = some (.lst (List.map V.int xs)) → H' r2 = some (.lst (List.map V.int ys)) → Q (.ref t) H'
def spCompared (K : PySem.W.Frag) (CB CT : Addr) : Sp := sp2 1200 K CB CT fun b xs ys H Q _ => ∀ H', Same H H' → Q (.int (ord (worth b xs) (worth b ys))) H'
def spAdded (K : PySem.W.Frag) (CB CT : Addr) : Sp := sp2 1200 K CB CT fun b xs ys H Q _ => Gives b (xs.length + ys.length + 1) (worth b xs + worth b ys) H Q
def spLess (K : PySem.W.Frag) (CB CT CS : Addr) : Sp := sp2 1200 K CB CT fun b xs ys H Q E => (worth b xs < worth b ys → Refuse H E CS) ∧ (worth b ys ≤ worth b xs → Gives b xs.length (worth b xs - worth b ys) H Q)
def spMul (K : PySem.W.Frag) (CB CT : Addr) : Sp := sp2 1200 K CB CT fun b xs ys H Q _ => Gives b (xs.length + ys.length) (worth b xs * worth b ys) H Q
def spSplit (K : PySem.W.Frag) (CB CT CN : Addr) : Sp := sp2 500 K CB CT fun b xs ys H Q E => (ys = [] → Refuse H E CN) ∧ (ys ≠ [] → Gives2 b (xs.length + ys.length) (fun q r => worth b xs = q * worth b ys + r ∧ r < worth b ys) H Q)
def spRoot (K : PySem.W.Frag) (CB CT : Addr) : Sp := fun vs H Q E => ∃ b a xs, vs = [.int b, .ref a] ∧ SqL K H a (List.map V.int xs) ∧ b < 2 ^ 64 ∧ xs.length ≤ 70 ∧ (b < 2 → Refuse H E CB) ∧ (2 ≤ b → ¬ Tape b xs → Refuse H E CT) ∧
  (2 ≤ b → Tape b xs → Gives2 b xs.length (fun s r => worth b xs = s * s + r ∧ worth b xs < (s + 1) * (s + 1)) H Q)
def spRebased (K : PySem.W.Frag) (CB CT : Addr) : Sp := fun vs H Q E => ∃ b a xs o, vs = [.int b, .ref a, .int o] ∧ SqL K H a (List.map V.int xs) ∧ b < 2 ^ 64 ∧ o < 2 ^ 64 ∧ xs.length ≤ 70 ∧ (b < 2 ∨ o < 2 → Refuse H E CB) ∧ (2 ≤ b → 2 ≤ o → ¬ Tape b xs → Refuse H E CT) ∧
  (2 ≤ b → 2 ≤ o → Tape b xs → Gives o (xs.length * 64) (worth b xs) H Q)
theorem no2 {H : Hp} {b : Int} {C : Addr} (h : 2 ≤ b) : b < 2 → Refuse H E0 C := fun z => absurd z (by omega)
theorem noT {H : Hp} {b : Int} {xs ys : List Int} {C : Addr} (hx : Tape b xs) (hy : Tape b ys) : 2 ≤ b → ¬ (Tape b xs ∧ Tape b ys) → Refuse H E0 C := fun _ z => absurd ⟨hx, hy⟩ z
theorem noT1 {H : Hp} {b : Int} {xs : List Int} {C : Addr} (hx : Tape b xs) : 2 ≤ b → ¬ Tape b xs → Refuse H E0 C := fun _ z => absurd hx z
theorem figs64 {b : Int} {xs : List Int} (h : Figs b xs) (hb : b < 2 ^ 64) : ∀ x ∈ xs, -(2 ^ 64) < x ∧ x < 2 ^ 64 := fun x hx => by
  have := h x hx
  omega
theorem worth_abs {b : Int} {xs : List Int} (hb : 2 ≤ b) (hb2 : b < 2 ^ 64) (h : Figs b xs) : (worth b xs).natAbs < 2 ^ (64 * xs.length) := by
  have h0 := worth_nonneg (by omega) h
  have h1 := worth_lt (by omega) h
  have h2 : b ^ xs.length ≤ ((2 : Int) ^ 64) ^ xs.length := powl (by omega) (by omega) _
  have h3 : ((2 : Int) ^ 64) ^ xs.length = 2 ^ (64 * xs.length) := Int.pow_mul.symm
  have h5 : worth b xs < ((2 ^ (64 * xs.length) : Nat) : Int) := by
    rw [Int.natCast_pow]
    show worth b xs < (2 : Int) ^ (64 * xs.length)
    rw [h3] at h2
    exact Int.lt_of_lt_of_le h1 h2
  omega
theorem mul_worth {b : Int} {xs ys : List Int} (hb : 2 ≤ b) (hb2 : b < 2 ^ 64) (hx : Figs b xs) (hy : Figs b ys) (lx : xs.length ≤ 5000) (ly : ys.length ≤ 5000) : CMulB (worth b xs) (worth b ys) :=
  ⟨64 * xs.length, 64 * ys.length, by omega, by omega, worth_abs hb hb2 hx, worth_abs hb hb2 hy⟩

/-! ### figuretape.tapes: the refusals -/
theorem Okx.mono {j k : Nat} {nm : Str} {ps : List Str} {sp : Sp} (h : Okx P w K mg base j nm ps sp) (hjk : j ≤ k) : Okx P w K mg base k nm ps sp := let ⟨f, fd, G, r⟩ := h; ⟨f, fd, G.mono hjk, r⟩
theorem Okf.mono {j k : Nat} {nm : Str} {ps : List Str} {sp : Sp} (h : Okf P w K mg base j nm ps sp) (hjk : j ≤ k) : Okf P w K mg base k nm ps sp := let ⟨f, fd, G, r⟩ := h; ⟨f, fd, G.mono hjk, r⟩
def spCkBase (CB : Addr) : Sp := fun vs H Q E => ∃ b : Int, vs = [.int b] ∧ (b < 2 → Refuse H E CB) ∧ (2 ≤ b → Q .non H)
def spCkTape (K : PySem.W.Frag) (CT : Addr) : Sp := fun vs H Q E => ∃ b a ns, vs = [.int b, .ref a] ∧ SqL K H a (List.map V.int ns) ∧ (¬ Tape b ns → Refuse H E CT) ∧ (Tape b ns → Q .non H)
def spCkPair (K : PySem.W.Frag) (CB CT : Addr) : Sp := fun vs H Q E => ∃ b a c xs ys, vs = [.int b, .ref a, .ref c] ∧ SqL K H a (List.map V.int xs) ∧ SqL K H c (List.map V.int ys) ∧ (b < 2 → Refuse H E CB) ∧ (2 ≤ b → ¬ (Tape b xs ∧ Tape b ys) → Refuse H E CT) ∧ (2 ≤ b → Tape b xs → Tape b ys → Q .non H)
theorem sc_ckbase : FnScope ["base"] ["base"] (defScope s_check_base) := ⟨rfl, rfl, rfl, by decide +kernel, rfl, by decide +kernel, by decide +kernel⟩
theorem ok_ckbase {CB : Addr} (D : Def K mg "check_base" s_check_base ["base"]) (XB : ErrC K mg "BadBase" CB) : Okx P w K mg base 1 "check_base" ["base"] (spCkBase CB) := by
  obtain ⟨f, fd, F, bb, m⟩ := D
  refine ⟨f, fd, ?_, bb, m, F.kp⟩
  refine fun_okX F sc_ckbase (fun vs H Q E h => ?_) (fun cdv A outer s H vs Q E hr h => ?_)
  · obtain ⟨b, rfl, _⟩ := h
    rfl
  obtain ⟨b, rfl, hE, q⟩ := h
  refine ⟨_, pss_one (ps_if (pt_cmpR op_lt (pv 0) pe_int (nomark _)) (pss_one (ps_raise XB hr.hd rfl (pac pe_str pa_nil))) pss_nil), ?_⟩
  refine ⟨_, rfl, _, _, rfl, rfl, _, rfl, ?_⟩
  by_cases hb : b < 2
  · rw [decide_eq_true hb]
    exact iteT ⟨(show 1 ≤ 100 by decide), hE hb H (Same.refl H)⟩
  · rw [decide_eq_false hb]
    exact iteF (q (by omega))
theorem sc_cktape : FnScope ["base", "tape", "figure"] ["base", "tape"] (defScope s_check_tape) := ⟨rfl, rfl, rfl, by decide +kernel, rfl, by decide +kernel, by decide +kernel⟩
theorem figs_take_succ {b : Int} {ns : List Int} {i : Nat} {z : Int} (h : Figs b (ns.take i)) (e : ns[i]? = some z) (hz : 0 ≤ z ∧ z < b) : Figs b (ns.take (i + 1)) := by
  rw [List.take_add_one, e]
  exact h.snoc hz
theorem ok_cktape {CT : Addr} (D : Def K mg "check_tape" s_check_tape ["base", "tape"]) (T : Own mg) (XT : ErrC K mg "BadTape" CT) : Okx P w K mg base 1 "check_tape" ["base", "tape"] (spCkTape K CT) := by
  obtain ⟨f, fd, F, bb, m⟩ := D
  refine ⟨f, fd, ?_, bb, m, F.kp⟩
  refine fun_okX F sc_cktape (fun vs H Q E h => ?_) (fun cdv A outer s H vs Q E hr h => ?_)
  · obtain ⟨b, a, ns, rfl, _⟩ := h
    rfl
  obtain ⟨b, a, ns, rfl, hS, hE, q⟩ := h
  refine ⟨_, pss_cons (ps_for PySem.PassesOwn.leaving rfl (pi_list (pv 1)) (pg_name (i := 2) sc_cktape.nd rfl (Or.inl rfl))
      (pss_one (ps_if (PW.pt (pw_or (pt_cmpR op_lt (pv 2) pe_int (nomark _)) (pw_or1 (pt_cmpR op_ge (pv 2) (pv 0) (nomark _))))) (pss_one (ps_raise XT hr.hd rfl (pac pe_str pa_nil))) pss_nil)))
    (pss_one (ps_if (PW.pt (pw_and (pt_cmpR op_gt (pe_len T.len (pv 1)) pe_int (nomark _)) (pw_and1 (pt_cmpR op_eq (pe_lastx (pv 1)) pe_int (nomark _))))) (pss_one (ps_raise XT hr.hd rfl (pac pe_str pa_nil))) pss_nil)), ?_⟩
  refine ⟨_, rfl, a, rfl, ⟨_, hS⟩, for_list (K := K) (a := a) (xs := List.map V.int ns) (fun i σ H2 => H2 = H ∧ Figs b (ns.take i) ∧ ∃ g, σ = [some (.int b), some (.ref a), g]) ⟨rfl, by rw [List.take_zero]; exact Figs.nil b, none, rfl⟩ (fun i σ H2 _ ⟨e, _⟩ => by rw [e]; exact hS) ?_ ?_⟩
  · rintro i y σ H2 hi ⟨rfl, hf, g, rfl⟩
    obtain ⟨z, rfl, hz⟩ := int_at hi
    have bad : ¬ (0 ≤ z ∧ z < b) → E (.ref CT) none H2 := fun n => hE (fun t => n (t.figs.get hz)) _ (Same.refl _)
    refine ⟨_, rfl, _, _, rfl, rfl, _, rfl, ?_⟩
    by_cases h0 : z < 0
    · rw [decide_eq_true h0]
      exact iteT (iteT ⟨(show 1 ≤ 100 by decide), bad (by omega)⟩)
    · rw [decide_eq_false h0]
      refine iteF ⟨_, rfl, _, rfl, _, _, rfl, rfl, _, rfl, ?_⟩
      by_cases h1 : b ≤ z
      · rw [decide_eq_true h1]
        exact iteT ⟨(show 1 ≤ 100 by decide), bad (by omega)⟩
      · rw [decide_eq_false h1]
        exact iteF ⟨rfl, figs_take_succ hf hz ⟨by omega, by omega⟩, _, rfl⟩
  · rintro σ H2 ⟨rfl, hf, g, rfl⟩
    rw [List.length_map, List.take_length] at hf
    refine ⟨_, rfl, a, _, rfl, .inl hS, _, _, rfl, rfl, _, rfl, ?_⟩
    rw [List.length_map]
    by_cases hne : ns = []
    · subst hne
      exact iteF (iteF (q ⟨hf, NoZ.nil⟩))
    · have h1 : 0 < ns.length := Nat.pos_of_ne_zero fun z => hne (List.eq_nil_of_length_eq_zero z)
      rw [decide_eq_true (by omega : (0 : Int) < (ns.length : Int))]
      obtain ⟨x, hx⟩ := get_last hne
      refine iteT ⟨_, rfl, _, rfl, a, _, _, _, rfl, rfl, hS, atI_lastI hx, rfl, _, rfl, ?_⟩
      by_cases hx0 : x = 0
      · subst hx0
        rw [decide_eq_true rfl]
        exact iteT ⟨(show 1 ≤ 100 by decide), hE (fun t => t.noz 0 hx rfl) _ (Same.refl _)⟩
      · rw [decide_eq_false (fun z => hx0 (V.int.inj z))]
        refine iteF (q ⟨hf, fun y hy => ?_⟩)
        rw [hx] at hy; cases hy
        exact hx0

theorem sc_ckpair : FnScope ["base", "one", "two"] ["base", "one", "two"] (defScope s_check_pair) := ⟨rfl, rfl, rfl, by decide +kernel, rfl, by decide +kernel, by decide +kernel⟩
theorem ok_ckpair {CB CT : Addr} (D : Def K mg "check_pair" s_check_pair ["base", "one", "two"]) (OB : Okx P w K mg base 1 "check_base" ["base"] (spCkBase CB)) (OT : Okx P w K mg base 1 "check_tape" ["base", "tape"] (spCkTape K CT)) :
    Okx P w K mg base 2 "check_pair" ["base", "one", "two"] (spCkPair K CB CT) := by
  obtain ⟨f, fd, F, bb, m⟩ := D
  obtain ⟨fB, dB, GB, bB, mB, kB⟩ := OB
  obtain ⟨fT, dT, GT, bT, mT, kT⟩ := OT
  refine ⟨f, fd, ?_, bb, m, F.kp⟩
  refine fun_okX F sc_ckpair (fun vs H Q E h => ?_) (fun cdv A outer s H vs Q E hr h => ?_)
  · obtain ⟨b, a, c, xs, ys, rfl, _⟩ := h
    rfl
  obtain ⟨b, a, c, xs, ys, rfl, h1, h2, eB, eT, q⟩ := h
  refine ⟨_, pss_cons (ps_expr (pef GB hr mB kB bB passX (pac (pv 0) pa_nil))) (pss_cons (ps_expr (pef GT hr mT kT bT passX (pac (pv 0) (pac (pv 1) pa_nil))))
    (pss_one (ps_expr (pef GT hr mT kT bT passX (pac (pv 0) (pac (pv 2) pa_nil)))))), ?_⟩
  exact ⟨_, rfl, b, rfl, eB, fun hb => ⟨_, rfl, _, rfl, b, a, xs, rfl, h1, fun n => eT hb fun z => n z.1, fun t1 => ⟨_, rfl, _, rfl, b, c, ys, rfl, h2, fun n => eT hb fun z => n z.2, fun t2 => q hb t1 t2⟩⟩⟩

/-! ### figuretape.tapes: compared -/
def spOrder : Sp := fun vs H Q _ => ∃ x y : Int, vs = [.int x, .int y] ∧ Q (.int (ord x y)) H
theorem sc_order : FnScope ["left", "right"] ["left", "right"] (defScope s_order) := ⟨rfl, rfl, rfl, by decide +kernel, rfl, by decide +kernel, by decide +kernel⟩
theorem ok_order (D : Def K mg "order" s_order ["left", "right"]) : Okf P w K mg base 1 "order" ["left", "right"] spOrder := by
  obtain ⟨f, fd, F, bb, m⟩ := D
  refine ⟨f, fd, ?_, bb, m, F.kp⟩
  refine F.ok sc_order (fun vs H Q E h => ?_) (fun cdv A outer s H vs Q E hr h => ?_)
  · obtain ⟨x, y, rfl, _⟩ := h
    rfl
  obtain ⟨x, y, rfl, q⟩ := h
  refine ⟨_, pss_cons (ps_if (pt_cmpR op_lt (pv 0) (pv 1) (nomark _)) (pss_one (ps_ret (pe_un un_neg pe_int))) pss_nil)
    (pss_cons (ps_if (pt_cmpR op_gt (pv 0) (pv 1) (nomark _)) (pss_one (ps_ret pe_int)) pss_nil) (pss_one (ps_ret pe_int))), ?_⟩
  refine ⟨_, rfl, _, rfl, _, _, rfl, rfl, _, rfl, ?_⟩
  by_cases h1 : x < y
  · rw [decide_eq_true h1]
    rw [ord_lt h1] at q
    exact iteT ⟨_, rfl, q⟩
  · rw [decide_eq_false h1]
    refine iteF ⟨_, rfl, _, rfl, _, _, rfl, rfl, _, rfl, ?_⟩
    by_cases h2 : y < x
    · rw [decide_eq_true h2]
      rw [ord_gt h2] at q
      exact iteT q
    · rw [decide_eq_false h2]
      have e : x = y := by omega
      subst e
      rw [ord_eq] at q
      exact iteF q
theorem sc_compared : FnScope ["base", "one", "two", "answer", "place"] ["base", "one", "two"] (defScope s_compared) := ⟨rfl, rfl, rfl, by decide +kernel, rfl, by decide +kernel, by decide +kernel⟩
theorem drop_eq_succ {xs ys : List Int} {k : Nat} {x y : Int} (ex : xs[k]? = some x) (ey : ys[k]? = some y) (h : x = y) (e : xs.drop (k + 1) = ys.drop (k + 1)) : xs.drop k = ys.drop k := by
  obtain ⟨hx, gx⟩ := List.getElem?_eq_some_iff.mp ex
  obtain ⟨hy, gy⟩ := List.getElem?_eq_some_iff.mp ey
  rw [List.drop_eq_getElem_cons hx, List.drop_eq_getElem_cons hy, gx, gy, h, e]
theorem ok_compared {CB CT : Addr} (D : Def K mg "compared" s_compared ["base", "one", "two"]) (T : Own mg) (OP : Okx P w K mg base 2 "check_pair" ["base", "one", "two"] (spCkPair K CB CT)) (OO : Okf P w K mg base 1 "order" ["left", "right"] spOrder) :
    Okx P w K mg base 3 "compared" ["base", "one", "two"] (spCompared K CB CT) := by
  obtain ⟨f, fd, F, bb, m⟩ := D
  obtain ⟨fP, dP, GP, bP, mP, kP⟩ := OP
  obtain ⟨fO, dO, GO, bO, mO, kO⟩ := OO
  refine ⟨f, fd, ?_, bb, m, F.kp⟩
  refine fun_okX F sc_compared (fun vs H Q E h => ?_) (fun cdv A outer s H vs Q E hr h => ?_)
  · obtain ⟨b, a, c, xs, ys, rfl, _⟩ := h
    rfl
  obtain ⟨b, a, c, xs, ys, rfl, h1, h2, hb2, lx, ly, eB, eT, q⟩ := h
  have hr1 : Room 1 _ := hr.mono (by decide)
  refine ⟨_, pss_cons (ps_expr (pef GP hr mP kP bP passX (pac (pv 0) (pac (pv 1) (pac (pv 2) pa_nil)))))
    (pss_cons (ps_set (i := 3) sc_compared.nd rfl (Or.inl rfl) (pef GO hr1 mO kO bO pass0 (pac (pe_len T.len (pv 1)) (pac (pe_len T.len (pv 2)) pa_nil))))
    (pss_cons (ps_set (i := 4) sc_compared.nd rfl (Or.inl rfl) (pe_op op_sub (pe_len T.len (pv 1)) pe_int))
    (pss_cons (PS.nox (ps_while PassesOwn.never (PW.pt (pw_and (pt_cmpR op_eq (pv 3) pe_int (nomark _)) (pw_and1 (pt_cmpR op_ge (pv 4) pe_int (nomark _)))))
      (pss_cons (ps_set (i := 3) sc_compared.nd rfl (Or.inl rfl) (pef GO hr1 mO kO bO pass0 (pac (pe_atn (pv 1) (pv 4)) (pac (pe_atn (pv 2) (pv 4)) pa_nil))))
      (pss_one (ps_set (i := 4) sc_compared.nd rfl (Or.inl rfl) (pe_op op_sub (pv 4) pe_int))))))
    (pss_one (ps_ret (pv 3)))))), ?_⟩
  refine ⟨_, rfl, _, rfl, _, rfl, b, a, c, xs, ys, rfl, h1, h2, eB, eT, fun hb tx ty => ?_⟩
  have Qf : ∀ v, v = ord (worth b xs) (worth b ys) → Q (.int v) H := fun v e => by rw [e]; exact q hb tx ty H (Same.refl H)
  refine ⟨_, rfl, a, _, rfl, .inl h1, _, rfl, c, _, rfl, .inl h2, _, _, rfl, ?_⟩
  rw [List.length_map, List.length_map]
  refine ⟨_, rfl, a, _, rfl, .inl h1, _, _, rfl, rfl, ?_⟩
  rw [List.length_map]
  refine ⟨fun mm σ H2 => H2 = H ∧ ∃ an pl : Int, σ = [some (.int b), some (.ref a), some (.ref c), some (.int an), some (.int pl)] ∧ mm = (pl + 1).toNat ∧ -1 ≤ pl ∧
      ((an ≠ 0 ∧ an = ord (worth b xs) (worth b ys)) ∨ (an = 0 ∧ xs.length = ys.length ∧ pl < (xs.length : Int) ∧ xs.drop (pl + 1).toNat = ys.drop (pl + 1).toNat)), ⟨_, rfl, _, _, rfl, rfl, by omega, ?_⟩, ?_⟩
  · rcases Nat.lt_trichotomy xs.length ys.length with z | z | z
    · rw [ord_lt (by omega : (xs.length : Int) < (ys.length : Int)), ord_lt (worth_shorter hb tx.figs ty z)]
      exact .inl ⟨by decide, rfl⟩
    · rw [z, ord_eq]
      refine .inr ⟨rfl, rfl, by omega, ?_⟩
      have e : ((ys.length : Int) - 1 + 1).toNat = ys.length := by omega
      rw [e, List.drop_length, List.drop_of_length_le (by omega)]
    · rw [ord_gt (by omega : (ys.length : Int) < (xs.length : Int)), ord_gt (worth_shorter hb ty.figs tx z)]
      exact .inl ⟨by decide, rfl⟩
  · rintro mm σ H2 ⟨rfl, an, pl, rfl, rfl, hp, hi⟩
    refine ⟨_, rfl, rfl, _, rfl, ?_⟩
    rcases hi with ⟨n0, e⟩ | ⟨rfl, el, hpl, ed⟩
    · rw [decide_eq_false (fun z => n0 (V.int.inj z))]
      exact iteF ⟨_, rfl, Qf _ e⟩
    · rw [decide_eq_true rfl]
      refine iteT ⟨_, rfl, _, _, rfl, rfl, _, rfl, ?_⟩
      by_cases h0 : 0 ≤ pl
      · rw [decide_eq_true h0]
        have hk : pl.toNat < xs.length := by omega
        have ex : xs[pl.toNat]? = some xs[pl.toNat] := List.getElem?_eq_getElem hk
        have ey : ys[pl.toNat]? = some (ys[pl.toNat]'(by omega)) := List.getElem?_eq_getElem (by omega)
        have e1 : (pl + 1).toNat = pl.toNat + 1 := by omega
        have e2 : (pl - 1 + 1).toNat = pl.toNat := by omega
        rw [e1] at ed
        refine iteT ⟨_, fun _ _ h => h, ⟨_, rfl, _, rfl, a, _, _, _, rfl, rfl, h1, atI_int h0 (by omega), _, rfl, _, rfl, c, _, _, _, rfl, rfl, h2, atI_int h0 (by omega), _, _, rfl, _, rfl, _, _, rfl, rfl, pl.toNat, by omega, rfl, _, _, rfl, by omega, by omega, ?_⟩⟩
        rw [List.getD_eq_getElem?_getD, List.getD_eq_getElem?_getD, ex, ey, Option.getD_some, Option.getD_some]
        rcases Int.lt_trichotomy xs[pl.toNat] (ys[pl.toNat]'(by omega)) with z | z | z
        · rw [ord_lt z, ord_lt (worth_at hb tx.figs ty.figs ex ey ed z)]
          exact .inl ⟨by decide, rfl⟩
        · rw [z, ord_eq]
          refine .inr ⟨rfl, el, by omega, ?_⟩
          rw [e2]
          exact drop_eq_succ ex ey z ed
        · rw [ord_gt z, ord_gt (worth_at hb ty.figs tx.figs ey ex ed.symm z)]
          exact .inl ⟨by decide, rfl⟩
      · rw [decide_eq_false h0]
        refine iteF ⟨_, rfl, Qf _ ?_⟩
        have e1 : (pl + 1).toNat = 0 := by omega
        rw [e1, List.drop_zero, List.drop_zero] at ed
        rw [ed, ord_eq]

/-! ### figuretape.sums: carried -/
theorem small5 {n : Nat} (h : n ≤ 1000000) : n < sizeLine := Nat.lt_of_le_of_lt h (by decide)
theorem carry_turn {b : Int} {fs : List Int} {c z w1 : Int} {i : Nat} (h : worth b fs + b ^ i * c = w1) (hl : fs.length = i) : worth b (fs ++ [(z + c) % b]) + b ^ (i + 1) * ((z + c) / b) = w1 + z * b ^ i := by
  rw [worth_snoc, hl, Int.pow_succ]
  have e := Int.mul_ediv_add_emod (z + c) b
  have e2 : b ^ i * b * ((z + c) / b) = b ^ i * (b * ((z + c) / b)) := Int.mul_assoc _ _ _
  have e3 : b ^ i * (b * ((z + c) / b)) + b ^ i * ((z + c) % b) = b ^ i * (z + c) := by rw [← Int.mul_add, e]
  have e4 : b ^ i * (z + c) = b ^ i * c + z * b ^ i := by rw [Int.mul_add, Int.mul_comm z]; omega
  omega
theorem carry_nonneg {b : Int} {fs : List Int} {c w1 : Int} (hb : 2 ≤ b) (hf : Figs b fs) (h : worth b fs + b ^ fs.length * c = w1) (h0 : 0 ≤ w1) : 0 ≤ c := by
  rcases Int.lt_or_le c 0 with z | z
  · have h1 := worth_lt (by omega) hf
    have p : 0 < b ^ fs.length := Int.pow_pos (by omega)
    have h2 : b ^ fs.length * c ≤ b ^ fs.length * (-1) := Int.mul_le_mul_of_nonneg_left (by omega) (by omega)
    rw [Int.mul_neg, Int.mul_one] at h2
    omega
  · exact z
theorem carry_short {b : Int} {fs : List Int} {c w1 : Int} {k : Nat} (hb : 2 ≤ b) (hf : Figs b fs) (h : worth b fs + b ^ fs.length * c = w1) (hw : w1 < b ^ k) (hc : 0 < c) : fs.length < k := by
  rcases Nat.lt_or_ge fs.length k with z | z
  · exact z
  · have h1 := worth_nonneg (by omega) hf
    have p : 0 < b ^ fs.length := Int.pow_pos (by omega)
    have h2 : b ^ fs.length * 1 ≤ b ^ fs.length * c := Int.mul_le_mul_of_nonneg_left (by omega) (by omega)
    have h3 : b ^ k ≤ b ^ fs.length := pow_le (by omega) z
    omega
def spCarried (K : PySem.W.Frag) : Sp := fun vs H Q _ => ∃ (b : Int) (a : Addr) (cs : List Int) (k : Nat), vs = [.int b, .ref a] ∧ SqL K H a (List.map V.int cs) ∧ 2 ≤ b ∧ b < 2 ^ 64 ∧ 0 ≤ worth b cs ∧ worth b cs < b ^ k ∧ cs.length ≤ k ∧ k ≤ 100000 ∧
  ∀ r zs H', Tape b zs → worth b zs = worth b cs → zs.length ≤ k → H r = none → Same H H' → H' r = some (.lst (List.map V.int zs)) → Q (.ref r) H'
theorem sc_carried : FnScope ["base", "columns", "tape", "carry", "column"] ["base", "columns"] (defScope s_carried) := ⟨rfl, rfl, rfl, by decide +kernel, rfl, by decide +kernel, by decide +kernel⟩
theorem len_lst5 {n : Nat} {fs : List Int} (h : fs.length ≤ n) (hn : n ≤ 100000) : (List.map V.int fs).length < sizeLine := by
  rw [List.length_map]; exact small5 (by omega)
theorem ok_carried (D : Def K mg "carried" s_carried ["base", "columns"]) (T : Own mg) : Okf P w K mg base 1 "carried" ["base", "columns"] (spCarried K) := by
  obtain ⟨f, fd, F, bb, m⟩ := D
  refine ⟨f, fd, ?_, bb, m, F.kp⟩
  refine F.ok sc_carried (fun vs H Q E h => ?_) (fun cdv A outer s H vs Q E hr h => ?_)
  · obtain ⟨b, a, cs, k, rfl, _⟩ := h
    rfl
  obtain ⟨b, a, cs, k, rfl, hS, hb, hb2, hw0, hwk, hck, hk5, q⟩ := h
  have hb0 : 0 < b := by omega
  refine ⟨_, pss_cons (ps_set (i := 2) sc_carried.nd rfl (Or.inl rfl) (pe_lst pa_nil)) (pss_cons (ps_set (i := 3) sc_carried.nd rfl (Or.inl rfl) pe_int)
    (pss_cons (ps_for PassesOwn.never rfl (pi_list (pv 1)) (pg_name (i := 4) sc_carried.nd rfl (Or.inl rfl))
      (pss_cons (ps_expr (pem_app (pv 2) (pe_op op_mod (pe_op op_add (pv 4) (pv 3)) (pv 0))))
      (pss_one (ps_set (i := 3) sc_carried.nd rfl (Or.inl rfl) (pe_op op_fdivB (pe_op op_add (pv 4) (pv 3)) (pv 0))))))
    (pss_cons (ps_while PassesOwn.never (pt_cmpR op_gt (pv 3) pe_int (nomark _)) (pss_cons (ps_expr (pem_app (pv 2) (pe_op op_mod (pv 3) (pv 0)))) (pss_one (ps_set (i := 3) sc_carried.nd rfl (Or.inl rfl) (pe_op op_fdivB (pv 3) (pv 0))))))
    (pss_cons (ps_while PassesOwn.never (PW.pt (pw_and (pt_cmpR op_gt (pe_len T.len (pv 2)) pe_int (nomark _)) (pw_and1 (pt_cmpR op_eq (pe_lastx (pv 2)) pe_int (nomark _))))) (pss_one (ps_expr (pem_pop (pv 2)))))
    (pss_one (ps_ret (pv 2))))))), ?_⟩
  refine ⟨small (by decide), fun r hr0 => ?_⟩
  have g0 : Same H (upd H r (.lst [])) := same_new hr0 _
  have grow : ∀ {H2 : Hp} (o : HO), Same H H2 → Same H (upd H2 r o) := fun {H2} o g d u e => by
    rw [upd_ne (ne_of_none e hr0)]
    exact g d u e
  refine ⟨_, rfl, a, rfl, ⟨_, g0.seq hS⟩, for_list (K := K) (a := a) (xs := List.map V.int cs)
    (fun i σ H2 => ∃ fs c g, σ = [some (.int b), some (.ref a), some (.ref r), some (.int c), g] ∧ H2 r = some (.lst (List.map V.int fs)) ∧ Figs b fs ∧ fs.length = i ∧ worth b fs + b ^ i * c = worth b (cs.take i) ∧ Same H H2)
    ⟨[], 0, none, rfl, upd_same, Figs.nil b, rfl, by simp [worth], g0⟩ (fun i σ H2 _ ⟨_, _, _, _, _, _, _, _, g⟩ => g.seq hS) ?_ ?_⟩
  · rintro i y σ H2 hi ⟨fs, c, g, rfl, hr2, hf, hlen, hw, gg⟩
    obtain ⟨z, rfl, hz⟩ := int_at hi
    have hi2 : i < cs.length := (List.getElem?_eq_some_iff.mp hz).1
    refine ⟨_, rfl, .inl ⟨rfl, _, SqL.of hr2⟩, _, rfl, _, rfl, _, _, rfl, rfl, _, rfl, _, _, rfl, rfl, hb0, r, _, _, rfl, rfl, hr2, len_lst5 (n := i) (by omega) (by omega), _, rfl, _, rfl, _, _, rfl, rfl, _, rfl, _, _, rfl, rfl, ⟨hb0, hb2⟩,
      fs ++ [(z + c) % b], (z + c) / b, _, rfl, ?_, hf.snoc ⟨Int.emod_nonneg _ (by omega), Int.emod_lt_of_pos _ hb0⟩, by rw [List.length_append, hlen]; rfl, ?_, grow _ gg⟩
    · rw [upd_same, List.map_append]; rfl
    · rw [carry_turn hw hlen, worth_take hz]
  · rintro σ H2 ⟨fs0, c0, g, rfl, hr2, hf0, hlen, hw, gg⟩
    rw [List.length_map] at hlen hw
    rw [List.take_length, ← hlen] at hw
    refine ⟨fun mm σ H2 => ∃ fs c, σ = [some (.int b), some (.ref a), some (.ref r), some (.int c), g] ∧ H2 r = some (.lst (List.map V.int fs)) ∧ Figs b fs ∧ fs.length ≤ k ∧ 0 ≤ c ∧ worth b fs + b ^ fs.length * c = worth b cs ∧ mm = c.toNat ∧ Same H H2,
      ⟨_, fs0, c0, rfl, hr2, hf0, by omega, carry_nonneg hb hf0 hw hw0, hw, rfl, gg⟩, ?_⟩
    rintro mm σ H2 ⟨fs, c, rfl, hr2, hf, hlk, hc0, hw, rfl, gg⟩
    refine ⟨_, rfl, _, _, rfl, rfl, _, rfl, ?_⟩
    by_cases hc : 0 < c
    · rw [decide_eq_true hc]
      have hlt := carry_short hb hf hw hwk hc
      have d4 : 0 ≤ c / b := Int.ediv_nonneg (by omega) (by omega)
      have d1 : b * (c / b) + c % b = c := Int.mul_ediv_add_emod c b
      have d2 : 0 ≤ c % b := Int.emod_nonneg _ (by omega)
      have d5 : c / b < c := by
        rcases Int.lt_or_le (c / b) c with z | z
        · exact z
        · have : 2 * (c / b) ≤ b * (c / b) := Int.mul_le_mul_of_nonneg_right hb d4
          omega
      have ct := carry_turn (z := 0) hw rfl
      rw [Int.zero_add, Int.zero_mul, Int.add_zero] at ct
      refine iteT ⟨_, fun _ _ h => h, ⟨_, rfl, .inl ⟨rfl, _, SqL.of hr2⟩, _, rfl, _, rfl, _, _, rfl, rfl, hb0, r, _, _, rfl, rfl, hr2, len_lst5 (n := k) hlk hk5, _, rfl, _, rfl, _, _, rfl, rfl, ⟨hb0, hb2⟩, (c / b).toNat, by omega,
        fs ++ [c % b], c / b, rfl, ?_, hf.snoc ⟨d2, Int.emod_lt_of_pos _ hb0⟩, ?_, d4, ?_, rfl, grow _ gg⟩⟩
      · rw [upd_same, List.map_append]; rfl
      · rw [List.length_append, List.length_singleton]; omega
      · rw [List.length_append, List.length_singleton]; exact ct
    · rw [decide_eq_false hc]
      have e0 : c = 0 := by omega
      subst e0
      rw [Int.mul_zero, Int.add_zero] at hw
      refine iteF ?_
      refine ⟨fun n σ H3 => ∃ fs3, σ = [some (.int b), some (.ref a), some (.ref r), some (.int 0), g] ∧ H3 r = some (.lst (List.map V.int fs3)) ∧ trim fs3 = trim fs ∧ fs3.length = n ∧ n ≤ k ∧ Same H H3, ⟨_, fs, rfl, hr2, rfl, rfl, hlk, gg⟩, ?_⟩
      rintro n σ H3 ⟨fs3, rfl, hr3, ht, hn, hnk, g3⟩
      have last : trim fs3 = fs3 → Q (.ref r) H3 := fun e => by
        have ef : fs3 = trim fs := e.symm.trans ht
        refine q r fs3 _ (by rw [ef]; exact hf.tape) (by rw [ef, trim_worth]; exact hw) (by omega) hr0 g3 hr3
      refine ⟨_, rfl, r, _, rfl, .inl (SqL.of hr3), _, _, rfl, rfl, _, rfl, ?_⟩
      rw [List.length_map]
      by_cases hne : fs3 = []
      · subst hne
        exact iteF ⟨_, rfl, last rfl⟩
      · have h1 : 0 < fs3.length := Nat.pos_of_ne_zero fun z => hne (List.eq_nil_of_length_eq_zero z)
        rw [decide_eq_true (by omega : (0 : Int) < (fs3.length : Int))]
        obtain ⟨x, hx⟩ := get_last hne
        refine iteT ⟨_, rfl, _, rfl, r, _, _, _, rfl, rfl, SqL.of hr3, atI_lastI hx, rfl, _, rfl, ?_⟩
        by_cases hx0 : x = 0
        · subst hx0
          rw [decide_eq_true rfl]
          refine iteT ⟨_, fun _ _ h => h, ⟨_, rfl, .inl ⟨rfl, _, SqL.of hr3⟩, r, _, _, rfl, rfl, hr3, last_at hx, n - 1, by omega, fs3.dropLast, rfl, ?_, (trim_turn hne hx).trans ht, ?_, by omega, grow _ g3⟩⟩
          · rw [upd_same, map_dropLast]
          · rw [List.length_dropLast, hn]
        · rw [decide_eq_false (fun z => hx0 (V.int.inj z))]
          exact iteF ⟨_, rfl, last (trim_stop (.inr ⟨x, hx, hx0⟩))⟩

theorem worth_take' (b : Int) (ns : List Int) (i : Nat) : worth b (ns.take (i + 1)) = worth b (ns.take i) + ns.getD i 0 * b ^ i := by
  cases h : ns[i]? with
  | some z => rw [worth_take h, List.getD_eq_getElem?_getD, h]; rfl
  | none =>
    have hi : ns.length ≤ i := List.getElem?_eq_none_iff.mp h
    rw [List.getD_eq_getElem?_getD, h, List.take_of_length_le hi, List.take_of_length_le (by omega)]
    simp
/-- two rows put together place by place -/
def cols (g : Int → Int → Int) (xs ys : List Int) (n : Nat) : List Int := (List.range n).map fun j => g (xs.getD j 0) (ys.getD j 0)
theorem cols_len (g : Int → Int → Int) (xs ys : List Int) (n : Nat) : (cols g xs ys n).length = n := by unfold cols; rw [List.length_map, List.length_range]
theorem cols_succ (g : Int → Int → Int) (xs ys : List Int) (n : Nat) : cols g xs ys (n + 1) = cols g xs ys n ++ [g (xs.getD n 0) (ys.getD n 0)] := by
  unfold cols; rw [List.range_succ, List.map_append]; rfl
theorem cols_add (b : Int) (xs ys : List Int) : ∀ n, worth b (cols (· + ·) xs ys n) = worth b (xs.take n) + worth b (ys.take n)
  | 0 => rfl
  | n + 1 => by
    rw [cols_succ, worth_snoc, cols_len, cols_add b xs ys n, worth_take', worth_take', Int.mul_add, Int.mul_comm (b ^ n), Int.mul_comm (b ^ n)]
    omega
theorem cols_sub (b : Int) (xs ys : List Int) : ∀ n, worth b (cols (· - ·) xs ys n) = worth b (xs.take n) - worth b (ys.take n)
  | 0 => rfl
  | n + 1 => by
    rw [cols_succ, worth_snoc, cols_len, cols_sub b xs ys n, worth_take', worth_take', Int.mul_sub, Int.mul_comm (b ^ n), Int.mul_comm (b ^ n)]
    omega
theorem same_upd {H H2 : Hp} {D : Addr} (o : HO) (h : H D = none) (g : Same H H2) : Same H (upd H2 D o) := fun d u e => by
  rw [upd_ne (ne_of_none e h)]
  exact g d u e

theorem sc_figat : FnScope ["tape", "place"] ["tape", "place"] (defScope s_figure_at) := ⟨rfl, rfl, rfl, by decide +kernel, rfl, by decide +kernel, by decide +kernel⟩
theorem ok_figat (D : Def K mg "figure_at" s_figure_at ["tape", "place"]) (T : Own mg) : Okf P w K mg base 1 "figure_at" ["tape", "place"] (spAt K) := by
  obtain ⟨f, fd, F, b, m⟩ := D
  refine ⟨f, fd, ?_, b, m, F.kp⟩
  refine F.ok sc_figat (fun vs H Q E h => ?_) (fun cdv A outer s H vs Q E hr h => ?_)
  · obtain ⟨a, ns, k, rfl, _⟩ := h
    rfl
  obtain ⟨a, ns, k, rfl, hS, h0, q⟩ := h
  refine ⟨_, pss_cons (ps_if (pt_cmpR op_lt (pv 1) (pe_len T.len (pv 0)) (nomark _)) (pss_one (ps_ret (pe_atn (pv 0) (pv 1)))) pss_nil)
    (pss_one (ps_ret pe_int)), ?_⟩
  refine ⟨_, rfl, _, rfl, a, _, rfl, .inl hS, _, _, rfl, rfl, _, rfl, ?_⟩
  refine ite2 (fun c => ?_) (fun c => ?_)
  · have c' : k < ((List.map V.int ns).length : Int) := of_decide_eq_true c
    rw [List.length_map] at c'
    exact ⟨_, rfl, _, rfl, a, _, _, _, rfl, rfl, hS, atI_int h0 c', q⟩
  · have c' : ¬ k < ((List.map V.int ns).length : Int) := of_decide_eq_false (Bool.eq_false_iff.mpr c)
    rw [List.length_map] at c'
    have e : ns.getD k.toNat 0 = 0 := by
      rw [List.getD_eq_getElem?_getD, List.getElem?_eq_none (by omega)]
      rfl
    rw [e] at q
    exact q

/-! ### figuretape.sums: added -/
theorem add_bound {b : Int} {xs ys : List Int} {n : Nat} (hb : 2 ≤ b) (hx : Figs b xs) (hy : Figs b ys) (lx : xs.length ≤ n) (ly : ys.length ≤ n) : worth b xs + worth b ys < b ^ (n + 1) := by
  have h1 := worth_lt (by omega) hx
  have h2 := worth_lt (by omega) hy
  have h3 : b ^ xs.length ≤ b ^ n := pow_le (by omega) lx
  have h4 : b ^ ys.length ≤ b ^ n := pow_le (by omega) ly
  have p : 0 < b ^ n := Int.pow_pos (by omega)
  have h5 : b ^ n * 2 ≤ b ^ n * b := Int.mul_le_mul_of_nonneg_left hb (by omega)
  rw [Int.pow_succ]
  omega
theorem sc_added : FnScope ["base", "one", "two", "places"] ["base", "one", "two"] (defScope s_added) := ⟨rfl, rfl, rfl, by decide +kernel, rfl, by decide +kernel, by decide +kernel⟩
theorem ok_added {CB CT : Addr} (D : Def K mg "added" s_added ["base", "one", "two"]) (T : Own mg) (OP : Okx P w K mg base 2 "check_pair" ["base", "one", "two"] (spCkPair K CB CT)) (OC : Okf P w K mg base 1 "carried" ["base", "columns"] (spCarried K))
    (OF : Okf P w K mg base 1 "figure_at" ["tape", "place"] (spAt K)) : Okx P w K mg base 3 "added" ["base", "one", "two"] (spAdded K CB CT) := by
  obtain ⟨f, fd, F, bb, m⟩ := D
  obtain ⟨fP, dP, GP, bP, mP, kP⟩ := OP
  obtain ⟨fC, dC, GC, bC, mC, kC⟩ := OC
  obtain ⟨fF, dF, GF, bF, mF, kF⟩ := OF
  refine ⟨f, fd, ?_, bb, m, F.kp⟩
  refine fun_okX F sc_added (fun vs H Q E h => ?_) (fun cdv A outer s H vs Q E hr h => ?_)
  · obtain ⟨b, a, c, xs, ys, rfl, _⟩ := h
    rfl
  obtain ⟨b, a, c, xs, ys, rfl, h1, h2, hb2, lx, ly, eB, eT, q⟩ := h
  have hr1 : Room 1 _ := hr.mono (by decide)
  refine ⟨_, pss_cons (ps_expr (pef GP hr mP kP bP passX (pac (pv 0) (pac (pv 1) (pac (pv 2) pa_nil)))))
    (pss_cons (ps_set (i := 3) sc_added.nd rfl (Or.inl rfl) (peb (call_max2 rfl) T.max boot_max (pac (pe_len T.len (pv 1)) (pac (pe_len T.len (pv 2)) pa_nil))))
    (pss_one (ps_ret (pef GC hr1 mC kC bC pass0 (pac (pv 0) (pac (pe_lc (N' := ["place", "one", "two"]) (k := 1) (cap := [1, 2]) rfl ⟨rfl, fun _ _ h => h, rfl, by decide +kernel, rfl, by decide +kernel, ⟨⟨rfl, rfl, rfl⟩, ⟨rfl, rfl, rfl⟩, trivial⟩, by decide⟩
      (pi_range1 rfl T.range (pac (pv 3) pa_nil)) (fun _ _ _ _ => pg_name (i := 0) (show List.Nodup (["place", "one", "two"] : List Str) by decide +kernel) rfl (Or.inl rfl))
      (fun _ _ _ _ => pe_op op_add (pef GF hr1 mF kF bF pass0 (pac (pv 1) (pac (pv 0) pa_nil))) (pef GF hr1 mF kF bF pass0 (pac (pv 2) (pac (pv 0) pa_nil))))) pa_nil)))))), ?_⟩
  refine ⟨_, rfl, _, rfl, _, rfl, b, a, c, xs, ys, rfl, h1, h2, eB, eT, fun hb tx ty => ?_⟩
  refine ⟨_, rfl, a, _, rfl, .inl h1, _, rfl, c, _, rfl, .inl h2, _, _, rfl, ?_⟩
  have en : (if ((List.map V.int ys).length : Int) > ((List.map V.int xs).length : Int) then ((List.map V.int ys).length : Int) else ((List.map V.int xs).length : Int)) = ((max xs.length ys.length : Nat) : Int) := by
    rw [List.length_map, List.length_map]
    split <;> omega
  rw [en]
  refine ⟨_, rfl, _, rfl, _, rfl, by omega, by omega, fun Da hDa => ?_⟩
  rw [Int.toNat_natCast]
  have w0 := worth_nonneg (by omega) tx.figs
  have w1 := worth_nonneg (by omega) ty.figs
  refine ⟨max xs.length ys.length, fun i τ H2 zs => (∃ g, τ = [g, some (.ref a), some (.ref c)]) ∧ zs = List.map V.int (cols (· + ·) xs ys i) ∧ Same H H2, small5 (by omega), ⟨⟨none, rfl⟩, rfl, same_new hDa _⟩, ?_⟩
  rintro i τ H2 zs ⟨⟨g, rfl⟩, rfl, g2⟩ hi hl hD
  refine ⟨fun e => ⟨?_, ?_⟩, fun hlt => ⟨hlt, ?_⟩⟩
  · subst e
    exact Nat.le_refl _
  · subst e
    have ew : worth b (cols (· + ·) xs ys (max xs.length ys.length)) = worth b xs + worth b ys := by
      rw [cols_add, List.take_of_length_le (Nat.le_max_left _ _), List.take_of_length_le (Nat.le_max_right _ _)]
    refine ⟨b, Da, _, max xs.length ys.length + 1, rfl, SqL.of hD, hb, hb2, by rw [ew]; omega, by rw [ew]; exact add_bound hb tx.figs ty.figs (Nat.le_max_left _ _) (Nat.le_max_right _ _), by rw [cols_len]; omega, by omega, fun r zs H' tz wz lz _ g3 e3 => ?_⟩
    exact q hb tx ty r zs H' tz (by rw [wz, ew]) (by omega) (g2.trans g3) e3
  · rintro x H3 ⟨rfl, rfl⟩
    refine ⟨_, rfl, _, rfl, a, xs, _, rfl, g2.seq h1, by omega, _, rfl, _, rfl, c, ys, _, rfl, g2.seq h2, by omega, _, _, rfl, rfl, hD, ⟨_, rfl⟩, ?_, same_upd _ hDa g2⟩
    rw [cols_succ, List.map_append]
    have e0 : ((0 : Int) + ((i : Nat) : Int)).toNat = i := by omega
    rw [e0]
    rfl

/-! ### figuretape.sums: lessened -/
/-- a new tape comes back -/
def GivesF (b : Int) (n : Nat) (v : Int) (H : Hp) (Q : VK) : Prop := ∀ r zs H', Tape b zs → worth b zs = v → zs.length ≤ n → H r = none → Same H H' → H' r = some (.lst (List.map V.int zs)) → Q (.ref r) H'
def spLessF (K : PySem.W.Frag) (CB CT CS : Addr) : Sp := sp2 1200 K CB CT fun b xs ys H Q E => (worth b xs < worth b ys → Refuse H E CS) ∧ (worth b ys ≤ worth b xs → GivesF b xs.length (worth b xs - worth b ys) H Q)
theorem less_weak {CB CT CS : Addr} {k : Nat} (O : Okx P w K mg base k "lessened" ["base", "one", "two"] (spLessF K CB CT CS)) : Okx P w K mg base k "lessened" ["base", "one", "two"] (spLess K CB CT CS) := by
  obtain ⟨f, fd, G, r⟩ := O
  refine ⟨f, fd, G.imp fun vs H Q E h => ?_, r⟩
  obtain ⟨b, a, c, xs, ys, e, h1, h2, hb2, lx, ly, eB, eT, q⟩ := h
  refine ⟨b, a, c, xs, ys, e, h1, h2, hb2, lx, ly, eB, eT, fun hb tx ty => ?_⟩
  obtain ⟨qS, qG⟩ := q hb tx ty
  exact ⟨qS, fun hge r zs H' tz wz lz _ g e => qG hge r zs H' tz wz lz g e⟩
theorem sc_less : FnScope ["base", "one", "two"] ["base", "one", "two"] (defScope s_lessened) := ⟨rfl, rfl, rfl, by decide +kernel, rfl, by decide +kernel, by decide +kernel⟩
theorem ord_neg {x y : Int} : ord x y < 0 ↔ x < y := by
  unfold ord
  split
  · constructor
    · intro; assumption
    · intro; decide
  · split
    · constructor
      · intro h; exact absurd h (by decide)
      · intro h; omega
    · constructor
      · intro h; exact absurd h (by decide)
      · intro h; omega
theorem ok_less {CB CT CS : Addr} (D : Def K mg "lessened" s_lessened ["base", "one", "two"]) (T : Own mg) (XS : ErrC K mg "TooSmall" CS) (OM : Okx P w K mg base 3 "compared" ["base", "one", "two"] (spCompared K CB CT)) (OC : Okf P w K mg base 1 "carried" ["base", "columns"] (spCarried K))
    (OF : Okf P w K mg base 1 "figure_at" ["tape", "place"] (spAt K)) : Okx P w K mg base 4 "lessened" ["base", "one", "two"] (spLessF K CB CT CS) := by
  obtain ⟨f, fd, F, bb, m⟩ := D
  obtain ⟨fM, dM, GM, bM, mM, kM⟩ := OM
  obtain ⟨fC, dC, GC, bC, mC, kC⟩ := OC
  obtain ⟨fF, dF, GF, bF, mF, kF⟩ := OF
  refine ⟨f, fd, ?_, bb, m, F.kp⟩
  refine fun_okX F sc_less (fun vs H Q E h => ?_) (fun cdv A outer s H vs Q E hr h => ?_)
  · obtain ⟨b, a, c, xs, ys, rfl, _⟩ := h
    rfl
  obtain ⟨b, a, c, xs, ys, rfl, h1, h2, hb2, lx, ly, eB, eT, q⟩ := h
  have hr1 : Room 1 _ := hr.mono (by decide)
  refine ⟨_, pss_cons (ps_if (pt_cmpR op_lt (pef GM hr mM kM bM passX (pac (pv 0) (pac (pv 1) (pac (pv 2) pa_nil)))) pe_int (nomark _)) (pss_one (ps_raise XS hr.hd rfl (pac pe_str pa_nil))) pss_nil)
    (pss_one (ps_ret (pef GC hr1 mC kC bC pass0 (pac (pv 0) (pac (pe_lc (N' := ["place", "figure", "two"]) (g := gTup K 2 (gCons (gName 0) (gCons (gName 1) gNil))) (k := 2) (cap := [2]) rfl ⟨rfl, fun _ _ h => h, rfl, by decide +kernel, rfl, by decide +kernel, ⟨⟨rfl, rfl, rfl⟩, trivial⟩, by decide⟩
      (pi_enum T.enum (pv 1)) (fun _ _ _ _ => pg_tup rfl (pgs_cons (pg_name (i := 0) (show List.Nodup (["place", "figure", "two"] : List Str) by decide +kernel) rfl (Or.inl rfl) (Or.inr rfl)) (pgs_cons (pg_name (i := 1) (show List.Nodup (["place", "figure", "two"] : List Str) by decide +kernel) rfl (Or.inl rfl) (Or.inr rfl)) pgs_nil)))
      (fun _ _ _ _ => pe_op op_sub (pv 1) (pef GF hr1 mF kF bF pass0 (pac (pv 2) (pac (pv 0) pa_nil))))) pa_nil))))), ?_⟩
  refine ⟨_, rfl, _, rfl, _, rfl, b, a, c, xs, ys, rfl, h1, h2, hb2, lx, ly, eB, eT, fun hb tx ty H1 g1 => ?_⟩
  obtain ⟨qS, qG⟩ := q hb tx ty
  refine ⟨_, _, rfl, rfl, _, rfl, ?_⟩
  by_cases hlt : worth b xs < worth b ys
  · rw [decide_eq_true (ord_neg.mpr hlt)]
    exact iteT ⟨(show 1 ≤ 100 by decide), qS hlt H1 g1⟩
  · rw [decide_eq_false (fun z => hlt (ord_neg.mp z))]
    have hge : worth b ys ≤ worth b xs := by omega
    have w1 := worth_nonneg (by omega) ty.figs
    have w2 := worth_lt (by omega) tx.figs
    have hlen : ys.length ≤ xs.length := by
      rcases Nat.lt_or_ge xs.length ys.length with z | z
      · exact absurd (worth_shorter hb tx.figs ty z) hlt
      · exact z
    refine iteF ⟨_, rfl, _, rfl, a, _, rfl, g1.seq h1, fun Da hDa => ?_⟩
    refine ⟨(List.map V.int xs).length, fun i τ H2 zs => (∃ g g', τ = [g, g', some (.ref c)]) ∧ zs = List.map V.int (cols (· - ·) xs ys i) ∧ Same H1 H2, small5 (by rw [List.length_map]; omega), ⟨⟨none, none, rfl⟩, rfl, same_new hDa _⟩, ?_⟩
    rintro i τ H2 zs ⟨⟨g, g', rfl⟩, rfl, g2⟩ hi hl hD
    refine ⟨fun e => ⟨⟨e, g2.seq (g1.seq h1)⟩, ?_⟩, fun hlt => ⟨⟨hlt, g2.seq (g1.seq h1)⟩, ?_⟩⟩
    · rw [List.length_map] at e
      subst e
      have ew : worth b (cols (· - ·) xs ys xs.length) = worth b xs - worth b ys := by rw [cols_sub, List.take_length, List.take_of_length_le hlen]
      refine ⟨b, Da, _, xs.length, rfl, SqL.of hD, hb, hb2, by rw [ew]; omega, by rw [ew]; omega, by rw [cols_len]; omega, by omega, fun r zs H' tz wz lz hf g3 e3 => ?_⟩
      exact qG hge r zs H' tz (by rw [wz, ew]) lz ((g1.trans g2).free hf) (g1.trans (g2.trans g3)) e3
    · rintro x H3 ⟨Ta, y, rfl, hTa, hy, rfl⟩
      obtain ⟨z, rfl, hz⟩ := int_at hy
      have nDT : Da ≠ Ta := ne_of_none hD hTa
      have g3 : Same H1 (upd H2 Ta (.tup [.int ((i : Nat) : Int), .int z])) := g2.trans (same_new hTa _)
      refine ⟨Ta, _, rfl, SqT.of upd_same, rfl, _, _, rfl, _, _, rfl, rfl, ?_⟩
      refine ⟨_, rfl, _, rfl, _, rfl, c, ys, _, rfl, g3.seq (g1.seq h2), by omega, _, _, rfl, rfl, by rw [upd_ne nDT]; exact hD, ⟨_, _, rfl⟩, ?_, same_upd _ hDa g3⟩
      have ez : xs.getD i 0 = z := by rw [List.getD_eq_getElem?_getD, hz]; rfl
      rw [cols_succ, List.map_append, ez, Int.toNat_natCast]
      rfl

/-! ### figuretape.sums: multiplied -/
theorem rep_zero : ∀ k : Nat, (List.replicate k [V.int 0]).flatten = List.map V.int (List.replicate k 0)
  | 0 => rfl
  | k + 1 => by rw [List.replicate_succ, List.flatten_cons, rep_zero k, List.replicate_succ, List.map_cons]; rfl
theorem worth_zeros (b : Int) : ∀ k : Nat, worth b (List.replicate k 0) = 0
  | 0 => rfl
  | k + 1 => by rw [List.replicate_succ, worth_cons, worth_zeros b k]; simp
theorem worth_set (b : Int) : ∀ {ns : List Int} {k : Nat} {x d : Int}, ns[k]? = some x → worth b (ns.set k (x + d)) = worth b ns + d * b ^ k
  | [], _, _, _, h => by simp at h
  | y :: r, 0, x, d, h => by
    simp at h
    subst h
    rw [List.set_cons_zero, worth_cons, worth_cons, Int.pow_zero, Int.mul_one]
    omega
  | y :: r, k + 1, x, d, h => by
    rw [List.set_cons_succ, worth_cons, worth_cons, worth_set b (ns := r) (by simpa using h), Int.mul_add, Int.pow_succ, Int.mul_comm (b ^ k) b, ← Int.mul_assoc d b, Int.mul_comm d b, Int.mul_assoc b d]
    omega
theorem map_set_int (ns : List Int) (k : Nat) (x : Int) : (List.map V.int ns).set k (.int x) = List.map V.int (ns.set k x) := by rw [List.map_set]

theorem mul_bound {b : Int} {xs ys : List Int} (hb : 2 ≤ b) (hx : Figs b xs) (hy : Figs b ys) : 0 ≤ worth b xs * worth b ys ∧ worth b xs * worth b ys < b ^ (xs.length + ys.length) := by
  have h1 := worth_lt (by omega) hx
  have h2 := worth_lt (by omega) hy
  have h3 := worth_nonneg (by omega) hx
  have h4 := worth_nonneg (by omega) hy
  refine ⟨Int.mul_nonneg h3 h4, ?_⟩
  have p : 0 < b ^ ys.length := Int.pow_pos (by omega)
  have q : 0 < b ^ xs.length := Int.pow_pos (by omega)
  rw [Int.pow_add]
  have h5 : worth b xs * worth b ys ≤ worth b xs * b ^ ys.length := Int.mul_le_mul_of_nonneg_left (by omega) h3
  have h6 : (worth b xs + 1) * b ^ ys.length ≤ b ^ xs.length * b ^ ys.length := Int.mul_le_mul_of_nonneg_right (by omega) (by omega)
  rw [Int.add_mul] at h6
  omega
theorem sc_mul : FnScope ["base", "one", "two", "columns", "low", "left", "high", "right"] ["base", "one", "two"] (defScope s_multiplied) := ⟨rfl, rfl, rfl, by decide +kernel, rfl, by decide +kernel, by decide +kernel⟩
theorem ok_mul {CB CT : Addr} (D : Def K mg "multiplied" s_multiplied ["base", "one", "two"]) (T : Own mg) (OP : Okx P w K mg base 2 "check_pair" ["base", "one", "two"] (spCkPair K CB CT)) (OC : Okf P w K mg base 1 "carried" ["base", "columns"] (spCarried K)) :
    Okx P w K mg base 3 "multiplied" ["base", "one", "two"] (spMul K CB CT) := by
  obtain ⟨f, fd, F, bb, m⟩ := D
  obtain ⟨fP, dP, GP, bP, mP, kP⟩ := OP
  obtain ⟨fC, dC, GC, bC, mC, kC⟩ := OC
  refine ⟨f, fd, ?_, bb, m, F.kp⟩
  refine fun_okX F sc_mul (fun vs H Q E h => ?_) (fun cdv A outer s H vs Q E hr h => ?_)
  · obtain ⟨b, a, c, xs, ys, rfl, _⟩ := h
    rfl
  obtain ⟨b, a, c, xs, ys, rfl, h1, h2, hb2, lx, ly, eB, eT, q⟩ := h
  have hr1 : Room 1 _ := hr.mono (by decide)
  refine ⟨_, pss_cons (ps_expr (pef GP hr mP kP bP passX (pac (pv 0) (pac (pv 1) (pac (pv 2) pa_nil)))))
    (pss_cons (ps_set (i := 3) sc_mul.nd rfl (Or.inl rfl) (pe_op op_rep (pe_lst (pac pe_int pa_nil)) (pe_op op_add (pe_len T.len (pv 1)) (pe_len T.len (pv 2)))))
    (pss_cons (PS.nox (ps_for PassesOwn.never rfl (pi_enum T.enum (pv 1)) (pg_tup rfl (pgs_cons (pg_name (i := 4) sc_mul.nd rfl (Or.inl rfl)) (pgs_cons (pg_name (i := 5) sc_mul.nd rfl (Or.inl rfl)) pgs_nil)))
      (pss_one (ps_for PassesOwn.never rfl (pi_enum T.enum (pv 2)) (pg_tup rfl (pgs_cons (pg_name (i := 6) sc_mul.nd rfl (Or.inl rfl)) (pgs_cons (pg_name (i := 7) sc_mul.nd rfl (Or.inl rfl)) pgs_nil)))
        (pss_one (ps_asg (pe_op op_add (pe_ix ix_list (pv 3) (pe_op op_add (pv 4) (pv 6)) (fun _ _ => rfl)) (pe_op op_mul (pv 5) (pv 7))) (pg_sub (pv 3) (pe_op op_add (pv 4) (pv 6)) set_list)))))))
    (pss_one (ps_ret (pef GC hr1 mC kC bC pass0 (pac (pv 0) (pac (pv 3) pa_nil))))))), ?_⟩
  refine ⟨_, rfl, _, rfl, _, rfl, b, a, c, xs, ys, rfl, h1, h2, eB, eT, fun hb tx ty => ?_⟩
  refine ⟨small (show 1 ≤ 1000 by decide), fun z0 hz0 => ?_⟩
  have g0 : Same H (upd H z0 (.lst [.int 0])) := same_new hz0 _
  have e0 : (upd H z0 (.lst [.int 0])) z0 = some (.lst [.int 0]) := upd_same
  generalize upd H z0 (.lst [.int 0]) = H0 at g0 e0 ⊢
  refine ⟨_, rfl, a, _, rfl, .inl (g0.seq h1), _, rfl, c, _, rfl, .inl (g0.seq h2), _, _, rfl, rfl, ?_⟩
  rw [List.length_map, List.length_map]
  refine ⟨z0, _, _, rfl, rfl, e0, by omega, by omega, ?_, fun r hr0 => ?_⟩
  · show 1 * ((xs.length : Int) + (ys.length : Int)).toNat ≤ sizeLine
    exact Nat.le_of_lt (small5 (by omega))
  have ek : ((xs.length : Int) + (ys.length : Int)).toNat = xs.length + ys.length := by omega
  rw [ek, rep_zero]
  have g1 : Same H0 (upd H0 r (.lst (List.map V.int (List.replicate (xs.length + ys.length) 0)))) := same_new hr0 _
  have e1 : (upd H0 r (.lst (List.map V.int (List.replicate (xs.length + ys.length) 0)))) r = some (.lst (List.map V.int (List.replicate (xs.length + ys.length) 0))) := upd_same
  generalize upd H0 r (.lst (List.map V.int (List.replicate (xs.length + ys.length) 0))) = H1 at g1 e1 ⊢
  have keep : ∀ {H2 : Hp} {o : HO}, Same H0 H2 → Same H0 (upd H2 r o) := fun {H2 o} g => same_upd o hr0 g
  refine ⟨_, rfl, a, _, rfl, (g0.trans g1).seq h1, for_enum (K := K) (a := a) (xs := List.map V.int xs)
    (fun i σ H2 => ∃ cs g4 g5 g6 g7, σ = [some (.int b), some (.ref a), some (.ref c), some (.ref r), g4, g5, g6, g7] ∧ H2 r = some (.lst (List.map V.int cs)) ∧ cs.length = xs.length + ys.length ∧ worth b cs = worth b (xs.take i) * worth b ys ∧ Same H0 H2)
    ⟨_, none, none, none, none, rfl, e1, List.length_replicate, by rw [worth_zeros, List.take_zero, worth_nil, Int.zero_mul], g1⟩ (fun i σ H2 ⟨_, _, _, _, _, _, _, _, _, g⟩ => (g0.trans g).seq h1) ?_ ?_⟩
  · rintro i x0 σ H2 Ta hx0 hTa ⟨cs, g4, g5, g6, g7, rfl, hr2, hl2, hw2, g2⟩
    obtain ⟨x, rfl, hx⟩ := int_at hx0
    have hxi : i < xs.length := (List.getElem?_eq_some_iff.mp hx).1
    have fx := tx.figs.get hx
    have hr3 : (upd H2 Ta (.tup [.int ((i : Nat) : Int), .int x])) r = some (.lst (List.map V.int cs)) := by rw [upd_ne (ne_of_none hr2 hTa)]; exact hr2
    have g3 : Same H0 (upd H2 Ta (.tup [.int ((i : Nat) : Int), .int x])) := g2.trans (same_new hTa _)
    refine ⟨Ta, _, rfl, SqT.of upd_same, rfl, _, _, rfl, _, _, rfl, rfl, ?_⟩
    generalize upd H2 Ta (.tup [.int ((i : Nat) : Int), .int x]) = H3 at hr3 g3
    refine ⟨_, rfl, c, _, rfl, (g0.trans g3).seq h2, for_enum (K := K) (a := c) (xs := List.map V.int ys)
      (fun j σ H2 => ∃ cs g6 g7, σ = [some (.int b), some (.ref a), some (.ref c), some (.ref r), some (.int ((i : Nat) : Int)), some (.int x), g6, g7] ∧ H2 r = some (.lst (List.map V.int cs)) ∧ cs.length = xs.length + ys.length ∧
        worth b cs = worth b (xs.take i) * worth b ys + x * b ^ i * worth b (ys.take j) ∧ Same H0 H2)
      ⟨cs, g6, g7, rfl, hr3, hl2, by rw [hw2, List.take_zero, worth_nil, Int.mul_zero, Int.add_zero], g3⟩ (fun j σ H2 ⟨_, _, _, _, _, _, _, g⟩ => (g0.trans g).seq h2) ?_ ?_⟩
    · rintro j y0 σ H4 Tb hy0 hTb ⟨cs, g6, g7, rfl, hr4, hl4, hw4, g4⟩
      obtain ⟨y, rfl, hy⟩ := int_at hy0
      have hyj : j < ys.length := (List.getElem?_eq_some_iff.mp hy).1
      have fy := ty.figs.get hy
      have hr5 : (upd H4 Tb (.tup [.int ((j : Nat) : Int), .int y])) r = some (.lst (List.map V.int cs)) := by rw [upd_ne (ne_of_none hr4 hTb)]; exact hr4
      have g5 : Same H0 (upd H4 Tb (.tup [.int ((j : Nat) : Int), .int y])) := g4.trans (same_new hTb _)
      refine ⟨Tb, _, rfl, SqT.of upd_same, rfl, _, _, rfl, _, _, rfl, rfl, ?_⟩
      generalize upd H4 Tb (.tup [.int ((j : Nat) : Int), .int y]) = H5 at hr5 g5
      have ij : i + j < cs.length := by omega
      have ez : cs[i + j]? = some cs[i + j] := List.getElem?_eq_getElem ij
      have eij : ((i : Nat) : Int) + ((j : Nat) : Int) = ((i + j : Nat) : Int) := by omega
      refine ⟨_, rfl, _, rfl, _, rfl, _, _, rfl, rfl, r, _, _, _, rfl, rfl, SqL.of hr5, atI_int (by omega) (by omega), _, rfl, _, rfl, _, _, rfl, rfl, .inl ⟨by omega, by omega⟩, _, _, rfl, rfl, _, rfl, _, rfl, _, rfl, _, _, rfl, rfl,
        r, _, _, i + j, rfl, rfl, hr5, ?_, cs.set (i + j) (cs.getD (i + j) 0 + x * y), _, _, rfl, ?_, ?_, ?_, keep g5⟩
      · rw [eij]
        unfold ixN
        rw [List.length_map, if_pos (by omega), if_pos (by omega), Int.toNat_natCast]
      · have en : (((i : Nat) : Int) + ((j : Nat) : Int)).toNat = i + j := by omega
        rw [upd_same, map_set_int, en]
      · rw [List.length_set]; exact hl4
      · have ed : cs.getD (i + j) 0 = cs[i + j] := by rw [List.getD_eq_getElem?_getD, ez]; rfl
        rw [ed, worth_set b ez, hw4, worth_take hy, Int.mul_add, Int.pow_add]
        have e7 : x * y * (b ^ i * b ^ j) = x * b ^ i * (y * b ^ j) := by
          rw [Int.mul_assoc x y, Int.mul_assoc x (b ^ i), ← Int.mul_assoc y, Int.mul_comm y (b ^ i), Int.mul_assoc (b ^ i) y]
        rw [e7]
        omega
    · rintro σ H4 ⟨cs, g6, g7, rfl, hr4, hl4, hw4, g4⟩
      refine ⟨cs, _, _, _, _, rfl, hr4, hl4, ?_, g4⟩
      rw [List.length_map, List.take_length] at hw4
      rw [hw4, worth_take hx, Int.add_mul]
  · rintro σ H2 ⟨cs, g4, g5, g6, g7, rfl, hr2, hl2, hw2, g2⟩
    rw [List.length_map, List.take_length] at hw2
    obtain ⟨m0, m1⟩ := mul_bound hb tx.figs ty.figs
    refine ⟨_, rfl, _, rfl, b, r, cs, xs.length + ys.length, rfl, SqL.of hr2, hb, hb2, by rw [hw2]; exact m0, by rw [hw2]; exact m1, by omega, by omega, fun r' zs H' tz wz lz _ g3 e3 => ?_⟩
    exact q hb tx ty r' zs H' tz (by rw [wz, hw2]) lz (g0.trans (g2.trans g3)) e3

theorem drop_rev {ns : List Int} {i : Nat} {z : Int} (hi : i < ns.length) (hz : ns[ns.length - 1 - i]? = some z) : ns.drop (ns.length - (i + 1)) = z :: ns.drop (ns.length - i) := by
  have hk : ns.length - 1 - i < ns.length := by omega
  rw [List.getElem?_eq_getElem hk] at hz
  have e : ns.length - (i + 1) = ns.length - 1 - i := by omega
  rw [e, List.drop_eq_getElem_cons hk, Option.some.inj hz]
  congr 2
  omega

/-! ### figuretape.parts: worth, times_within -/
def CDivC (_ j : Int) : Prop := 0 < j ∧ j < 2 ^ 256
theorem log2_wide {j : Int} (h : 0 < j) (h2 : j < 2 ^ 256) : j.natAbs.log2 < 9000 := by
  have h0 : j.natAbs ≠ 0 := by omega
  refine Nat.lt_trans ((Nat.log2_lt h0).mpr (show j.natAbs < 2 ^ 256 by omega)) (by decide)
theorem op_fdivC {X : Cx} : OpR X (binaryOp .FloorDiv) (rI CDivC fun i j => .int (i / j)) := opI fun i j _ _ _ _ _ hc q => by
  have h1 : (0 : Int) < j := hc.1
  exact floordiv_int (by omega) (by rw [Int.fdiv_eq_ediv_of_nonneg i (by omega)]; exact q) (.inl (PyProof.noPylong_of_log2 (log2_wide hc.1 hc.2)))
theorem sc_worthp : FnScope ["base", "figures", "number", "figure"] ["base", "figures"] (defScope s_worth) := ⟨rfl, rfl, rfl, by decide +kernel, rfl, by decide +kernel, by decide +kernel⟩
def spWorthP (K : PySem.W.Frag) : Sp := fun vs H Q _ => ∃ b a ns, vs = [.int b, .ref a] ∧ SqL K H a (List.map V.int ns) ∧ (-(2 ^ 64) < b ∧ b < 2 ^ 64) ∧ Q (.int (worth b ns)) H
theorem ok_worthp (D : Def K mg "worth" s_worth ["base", "figures"]) (T : Own mg) : Okf P w K mg base 1 "worth" ["base", "figures"] (spWorthP K) := by
  obtain ⟨f, fd, F, bb, m⟩ := D
  refine ⟨f, fd, ?_, bb, m, F.kp⟩
  refine F.ok sc_worthp (fun vs H Q E h => ?_) (fun cdv A outer s H vs Q E hr h => ?_)
  · obtain ⟨b, a, ns, rfl, _⟩ := h
    rfl
  obtain ⟨b, a, ns, rfl, hS, hb, q⟩ := h
  refine ⟨_, pss_cons (ps_set (i := 2) sc_worthp.nd rfl (Or.inl rfl) pe_int)
    (pss_cons (ps_for PassesOwn.never rfl (pi_rev T.rev (pv 1)) (pg_name (i := 3) sc_worthp.nd rfl (Or.inl rfl))
      (pss_one (ps_set (i := 2) sc_worthp.nd rfl (Or.inl rfl) (pe_op op_add (pe_op op_mul (pv 2) (pv 0)) (pv 3)))))
    (pss_one (ps_ret (pv 2)))), ?_⟩
  refine ⟨_, rfl, a, _, rfl, hS, for_rev (K := K) (a := a) (xs := List.map V.int ns)
    (fun i σ H2 => H2 = H ∧ ∃ f, σ = [some (.int b), some (.ref a), some (.int (worth b (ns.drop (ns.length - i)))), f])
    ⟨rfl, none, by rw [Nat.sub_zero, List.drop_length]; rfl⟩ (fun i σ H2 ⟨e, _⟩ => by rw [e]; exact hS) ?_ ?_⟩
  · rintro i y σ H2 hi hy ⟨rfl, g, rfl⟩
    rw [List.length_map] at hi hy
    obtain ⟨z, rfl, hz⟩ := int_at hy
    refine ⟨_, rfl, _, rfl, _, _, rfl, rfl, .inr hb, _, rfl, _, _, rfl, rfl, rfl, some (.int z), ?_⟩
    rw [drop_rev hi hz, worth_cons, Int.mul_comm b, Int.add_comm] <;> rfl
  · rintro σ H2 ⟨rfl, g, rfl⟩
    refine ⟨_, rfl, ?_⟩
    rw [List.length_map, Nat.sub_self, List.drop_zero]
    exact q
/-- the guess by the highest figures -/
theorem guess_ok {b wr wy B R T r0 t0 : Int} (hb : 2 ≤ b) (hB : 0 < B) (er : wr = r0 + B * R) (hr0 : 0 ≤ r0) (hr1 : r0 < B) (ey : wy = t0 + B * T) (ht0 : 0 ≤ t0) (ht1 : t0 < B) (hR : 0 ≤ R) (hT : 0 < T) (hlt : wr < b * wy) (hc : (t0 = 0 ∧ B = 1) ∨ b ≤ T) :
    (R / T - 1) * wy ≤ wr ∧ wr < (R / T + 1) * wy ∧ 0 ≤ R / T ∧ R / T ≤ b := by
  have d1 : T * (R / T) + R % T = R := Int.mul_ediv_add_emod R T
  have d2 : 0 ≤ R % T := Int.emod_nonneg _ (by omega)
  have d3 : R % T < T := Int.emod_lt_of_pos _ hT
  have d4 : 0 ≤ R / T := Int.ediv_nonneg hR (by omega)
  generalize R / T = g at d1 d4 ⊢
  generalize R % T = e at d1 d2 d3
  have hwy : 0 < wy := by
    have := Int.mul_pos hB hT
    omega
  -- above
  have up : wr < (g + 1) * wy := by
    have h1 : R + 1 ≤ (g + 1) * T := by rw [Int.add_mul, Int.mul_comm g]; omega
    have h2 : B * (R + 1) ≤ B * ((g + 1) * T) := Int.mul_le_mul_of_nonneg_left h1 (by omega)
    have h3 : (g + 1) * (B * T) ≤ (g + 1) * wy := Int.mul_le_mul_of_nonneg_left (by omega) (by omega)
    have h4 : B * ((g + 1) * T) = (g + 1) * (B * T) := by rw [← Int.mul_assoc, Int.mul_comm B, Int.mul_assoc]
    rw [Int.mul_add B R 1] at h2
    omega
  have top : g ≤ b ∧ (g - 1) * wy ≤ wr := by
    rcases hc with ⟨h0, h1⟩ | hbT
    · subst h0 h1
      have e1 : wr = R := by omega
      have e2 : wy = T := by omega
      subst e1 e2
      have hle : g * wy ≤ wr := by rw [Int.mul_comm]; omega
      constructor
      · rcases Int.lt_or_le b g with z | z
        · have : b * wy ≤ g * wy := Int.mul_le_mul_of_nonneg_right (by omega) (by omega)
          omega
        · exact z
      · rw [Int.sub_mul]; omega
    · have h5 : wy < B * (T + 1) := by rw [Int.mul_add]; omega
      have h6 : B * R < B * (b * (T + 1)) := by
        have : b * wy ≤ b * (B * (T + 1)) := Int.mul_le_mul_of_nonneg_left (by omega) (by omega)
        have e7 : b * (B * (T + 1)) = B * (b * (T + 1)) := by rw [← Int.mul_assoc, Int.mul_comm b, Int.mul_assoc]
        omega
      have h7 : R < b * (T + 1) := Int.lt_of_mul_lt_mul_left h6 (by omega)
      have hgb : g ≤ b := by
        rcases Int.lt_or_le b g with z | z
        · have h8 : T * (b + 1) ≤ T * g := Int.mul_le_mul_of_nonneg_left (by omega) (by omega)
          rw [Int.mul_add] at h7 h8
          rw [Int.mul_comm T b] at h8
          omega
        · exact z
      refine ⟨hgb, ?_⟩
      rcases Int.lt_or_le g 1 with z | z
      · have : (g - 1) * wy ≤ 0 * wy := Int.mul_le_mul_of_nonneg_right (by omega) (by omega)
        have h9 : 0 ≤ B * R := Int.mul_nonneg (by omega) hR
        omega
      · have h8 : (g - 1) * wy ≤ (g - 1) * (B * (T + 1)) := Int.mul_le_mul_of_nonneg_left (by omega) (by omega)
        have e8 : (g - 1) * (B * (T + 1)) = B * ((g - 1) * (T + 1)) := by rw [← Int.mul_assoc, Int.mul_comm (g - 1), Int.mul_assoc]
        have e9 : (g - 1) * (T + 1) = T * g - T + g - 1 := by rw [Int.sub_mul, Int.mul_add, Int.mul_comm g T]; omega
        have h10 : B * ((g - 1) * (T + 1)) ≤ B * R := Int.mul_le_mul_of_nonneg_left (by rw [e9]; omega) (by omega)
        omega
  exact ⟨top.2, up, d4, top.1⟩
def spTimes (K : PySem.W.Frag) : Sp := fun vs H Q _ => ∃ b a c rs ys, vs = [.int b, .ref a, .ref c] ∧ SqL K H a (List.map V.int rs) ∧ SqL K H c (List.map V.int ys) ∧ 2 ≤ b ∧ b < 2 ^ 64 ∧ rs.length ≤ 600 ∧ ys.length ≤ 600 ∧ Tape b rs ∧ Tape b ys ∧ ys ≠ [] ∧ worth b rs < b * worth b ys ∧
  ∀ t H', t * worth b ys ≤ worth b rs → worth b rs < (t + 1) * worth b ys → Same H H' → Q (.int t) H'
theorem cutI_from (ns : List Int) (k : Nat) : cutI ns (some ((k : Nat) : Int)) none = ns.drop k := by
  unfold cutI
  rw [HT.sIx_none, HT.sIx_nat]
  have e1 : ns.drop (min k ns.length) = ns.drop k := by
    rcases Nat.le_total k ns.length with h | h
    · rw [Nat.min_eq_left h]
    · rw [Nat.min_eq_right h, List.drop_length, List.drop_of_length_le h]
  rw [e1, List.take_of_length_le]
  rw [List.length_drop]
  omega
theorem Tape.drop {b : Int} {xs : List Int} (h : Tape b xs) : ∀ k, Tape b (xs.drop k)
  | 0 => by rw [List.drop_zero]; exact h
  | k + 1 => by
    cases xs with
    | nil => rw [List.drop_nil]; exact h
    | cons x r => rw [List.drop_succ_cons]; exact h.tail.drop k
theorem worth_cut (b : Int) (xs : List Int) (k : Nat) (hk : k ≤ xs.length) : worth b xs = worth b (xs.take k) + b ^ k * worth b (xs.drop k) := by
  conv => lhs; rw [← List.take_append_drop k xs]
  rw [worth_append, List.length_take, Nat.min_eq_left hk]
theorem worth_cut' {b : Int} (hb : 2 ≤ b) {xs : List Int} (hx : Figs b xs) (k : Nat) : ∃ r0, worth b xs = r0 + b ^ k * worth b (xs.drop k) ∧ 0 ≤ r0 ∧ r0 < b ^ k := by
  rcases Nat.le_total k xs.length with h | h
  · refine ⟨_, worth_cut b xs k h, worth_nonneg (by omega) (hx.take k), ?_⟩
    have := worth_lt (by omega) (hx.take k)
    rwa [List.length_take, Nat.min_eq_left h] at this
  · refine ⟨worth b xs, by rw [List.drop_of_length_le h, worth_nil]; omega, worth_nonneg (by omega) hx, ?_⟩
    have h1 := worth_lt (by omega) hx
    have h2 : b ^ xs.length ≤ b ^ k := pow_le (by omega) h
    omega
theorem sc_times : FnScope ["base", "rest", "two", "place", "guess"] ["base", "rest", "two"] (defScope s_times_within) := ⟨rfl, rfl, rfl, by decide +kernel, rfl, by decide +kernel, by decide +kernel⟩
theorem ord_pos {x y : Int} : 0 < ord x y ↔ y < x := by
  unfold ord
  split
  · constructor
    · intro h; exact absurd h (by decide)
    · intro h; omega
  · split
    · constructor
      · intro; assumption
      · intro; decide
    · constructor
      · intro h; exact absurd h (by decide)
      · intro h; omega
theorem pow2_lt {b : Int} (hb : 2 ≤ b) (h : b < 2 ^ 64) : b ^ 2 < 2 ^ 256 := by
  have h1 : b ^ 2 ≤ ((2 : Int) ^ 64) ^ 2 := powl (by omega) (by omega) 2
  have h2 : ((2 : Int) ^ 64) ^ 2 < 2 ^ 256 := by decide
  omega
theorem ok_times {CB CT : Addr} (D : Def K mg "times_within" s_times_within ["base", "rest", "two"]) (T : Own mg) (OW : Okf P w K mg base 1 "worth" ["base", "figures"] (spWorthP K)) (OM : Okx P w K mg base 3 "compared" ["base", "one", "two"] (spCompared K CB CT))
    (OU : Okx P w K mg base 3 "multiplied" ["base", "one", "two"] (spMul K CB CT)) (OC : Okf P w K mg base 1 "carried" ["base", "columns"] (spCarried K)) : Okf P w K mg base 4 "times_within" ["base", "rest", "two"] (spTimes K) := by
  obtain ⟨f, fd, F, bb, m⟩ := D
  obtain ⟨fW, dW, GW, bW, mW, kW⟩ := OW
  obtain ⟨fM, dM, GM, bM, mM, kM⟩ := OM
  obtain ⟨fU, dU, GU, bU, mU, kU⟩ := OU
  obtain ⟨fC, dC, GC, bC, mC, kC⟩ := OC
  refine ⟨f, fd, ?_, bb, m, F.kp⟩
  refine F.ok sc_times (fun vs H Q E h => ?_) (fun cdv A outer s H vs Q E hr h => ?_)
  · obtain ⟨b, a, c, rs, ys, rfl, _⟩ := h
    rfl
  obtain ⟨b, a, c, rs, ys, rfl, h1, h2, hb, hb2, lr, ly, tr, ty, hne, hlt, q⟩ := h
  have hr1 : Room 1 _ := hr.mono (by decide)
  refine ⟨_, pss_cons (ps_set (i := 3) sc_times.nd rfl (Or.inl rfl) (peb (call_max2 rfl) T.max boot_max (pac (pe_op op_sub (pe_len T.len (pv 2)) pe_int) (pac pe_int pa_nil))))
    (pss_cons (ps_set (i := 4) sc_times.nd rfl (Or.inl rfl) (pe_op op_fdivC (pef GW hr1 mW kW bW pass0 (pac (pv 0) (pac (pe_slice sl_list (pv 1) (po_some (pv 3)) po_none) pa_nil))) (pef GW hr1 mW kW bW pass0 (pac (pv 0) (pac (pe_slice sl_list (pv 2) (po_some (pv 3)) po_none) pa_nil)))))
    (pss_cons (ps_if (pt_cmpR op_gt (pef GM hr mM kM bM passF (pac (pv 0) (pac (pef GU hr mU kU bU passF (pac (pv 0) (pac (pv 2) (pac (pef GC hr1 mC kC bC pass0 (pac (pv 0) (pac (pe_lst (pac (pv 4) pa_nil)) pa_nil))) pa_nil)))) (pac (pv 1) pa_nil)))) pe_int (nomark _))
      (pss_one (ps_ret (pe_op op_sub (pv 4) pe_int))) pss_nil)
    (pss_one (ps_ret (pv 4))))), ?_⟩
  refine ⟨_, rfl, c, _, rfl, .inl h2, _, _, rfl, rfl, _, _, rfl, ?_⟩
  have ep : (if (0 : Int) > ((List.map V.int ys).length : Int) - 2 then (0 : Int) else ((List.map V.int ys).length : Int) - 2) = ((ys.length - 2 : Nat) : Int) := by
    rw [List.length_map]
    split <;> omega
  rw [ep]
  generalize hp : ys.length - 2 = p
  have hlen : 0 < ys.length := Nat.pos_of_ne_zero fun z => hne (List.eq_nil_of_length_eq_zero z)
  have hdne : ys.drop p ≠ [] := fun z => by
    have := congrArg List.length z
    rw [List.length_drop] at this
    have e0 : ([] : List Int).length = 0 := rfl
    omega
  refine ⟨_, rfl, _, rfl, _, rfl, _, rfl, a, _, rfl, h1, fun p1 hp1 => ?_⟩
  rw [cutV_map, cutI_from]
  have g1 : Same H (upd H p1 (.lst (List.map V.int (rs.drop p)))) := same_new hp1 _
  have e1 : (upd H p1 (.lst (List.map V.int (rs.drop p)))) p1 = some (.lst (List.map V.int (rs.drop p))) := upd_same
  generalize upd H p1 (.lst (List.map V.int (rs.drop p))) = H1 at g1 e1 ⊢
  have hb64 : -(2 ^ 64) < b ∧ b < 2 ^ 64 := ⟨by omega, hb2⟩
  refine ⟨b, p1, _, rfl, SqL.of e1, hb64, ?_⟩
  refine ⟨_, rfl, _, rfl, _, rfl, _, rfl, c, _, rfl, g1.seq h2, fun p2 hp2 => ?_⟩
  rw [cutV_map, cutI_from]
  have g2 : Same H1 (upd H1 p2 (.lst (List.map V.int (ys.drop p)))) := same_new hp2 _
  have e2 : (upd H1 p2 (.lst (List.map V.int (ys.drop p)))) p2 = some (.lst (List.map V.int (ys.drop p))) := upd_same
  generalize upd H1 p2 (.lst (List.map V.int (ys.drop p))) = H2 at g2 e2 ⊢
  have g02 : Same H H2 := g1.trans g2
  refine ⟨b, p2, _, rfl, SqL.of e2, hb64, _, _, rfl, rfl, ?_⟩
  -- the reckoning
  have tyd := ty.drop p
  have hT : 0 < worth b (ys.drop p) := worth_pos (by omega) tyd hdne
  have hR : 0 ≤ worth b (rs.drop p) := worth_nonneg (by omega) (tr.figs.drop p)
  obtain ⟨r0, er, hr0, hr1'⟩ := worth_cut' hb tr.figs p
  obtain ⟨t0, ey, ht0, ht1⟩ := worth_cut' hb ty.figs p
  have hTb : worth b (ys.drop p) < 2 ^ 256 := by
    have h3 := worth_lt (by omega) tyd.figs
    have h4 : b ^ (ys.drop p).length ≤ b ^ 2 := pow_le (by omega) (by rw [List.length_drop]; omega)
    have h5 := pow2_lt hb hb2
    omega
  have hcase : (t0 = 0 ∧ b ^ p = 1) ∨ b ≤ worth b (ys.drop p) := by
    rcases Nat.eq_zero_or_pos p with z | z
    · left
      rw [z, Int.pow_zero] at ht1 ⊢
      exact ⟨by omega, rfl⟩
    · right
      have := worth_ge (by omega) tyd 1 (by rw [List.length_drop]; omega)
      rwa [Int.pow_succ, Int.pow_zero, Int.one_mul] at this
  obtain ⟨lo, up, gnn, gb⟩ := guess_ok hb (Int.pow_pos (by omega)) er hr0 hr1' ey ht0 ht1 hR hT hlt hcase
  refine ⟨⟨hT, hTb⟩, ?_⟩
  dsimp only
  generalize worth b (rs.drop p) / worth b (ys.drop p) = g at lo up gnn gb ⊢
  -- compared(base, multiplied(base, two, carried(base, [guess])), rest)
  refine ⟨_, rfl, _, rfl, _, rfl, _, rfl, _, rfl, small (show 1 ≤ 1000 by decide), fun p3 hp3 => ?_⟩
  have g3 : Same H2 (upd H2 p3 (.lst [.int g])) := same_new hp3 _
  have e3 : (upd H2 p3 (.lst [.int g])) p3 = some (.lst [.int g]) := upd_same
  generalize upd H2 p3 (.lst [.int g]) = H3 at g3 e3 ⊢
  have g03 : Same H H3 := g02.trans g3
  have wg : worth b [g] = g := by rw [worth_cons, worth_nil]; omega
  have gk : g < b ^ 2 := by
    have h6 : b * 2 ≤ b * b := Int.mul_le_mul_of_nonneg_left hb (by omega)
    rw [Int.pow_succ, Int.pow_succ, Int.pow_zero, Int.one_mul]
    omega
  refine ⟨b, p3, [g], 2, rfl, SqL.of e3, hb, hb2, by rw [wg]; exact gnn, by rw [wg]; exact gk, by show 1 ≤ 2; decide, by decide, fun r4 gs H4 tg wg4 lg _ g4 e4 => ?_⟩
  rw [wg] at wg4
  have g04 : Same H H4 := g03.trans g4
  refine ⟨b, c, r4, ys, gs, rfl, g04.seq h2, SqL.of e4, hb2, by omega, by omega, no2 hb, noT ty tg, fun _ _ _ r5 ps H5 tp wp lp g5 e5 => ?_⟩
  have g05 : Same H H5 := g04.trans g5
  refine ⟨_, rfl, b, r5, a, ps, rs, rfl, SqL.of e5, g05.seq h1, hb2, by omega, by omega, no2 hb, noT tp tr, fun _ _ _ H6 g6 => ?_⟩
  have g06 : Same H H6 := g05.trans g6
  refine ⟨_, _, rfl, rfl, _, rfl, ?_⟩
  rw [wp, wg4, Int.mul_comm]
  by_cases hgt : worth b rs < g * worth b ys
  · rw [decide_eq_true (ord_pos.mpr hgt)]
    refine iteT ⟨_, rfl, _, _, rfl, rfl, q _ H6 lo ?_ g06⟩
    rw [show g - 1 + 1 = g by omega]
    exact hgt
  · rw [decide_eq_false (fun z => hgt (ord_pos.mp z))]
    exact iteF ⟨_, rfl, q _ H6 (by omega) up g06⟩

/-! ### figuretape.parts: split -/
theorem shorter_of_lt {b : Int} (hb : 2 ≤ b) {xs ys : List Int} (hx : Tape b xs) (hy : Figs b ys) (h : worth b xs < worth b ys) : xs.length ≤ ys.length := by
  rcases Nat.lt_or_ge ys.length xs.length with z | z
  · have := worth_shorter hb hy hx z
    omega
  · exact z
theorem sc_split : FnScope ["base", "one", "two", "figures", "rest", "figure", "times"] ["base", "one", "two"] (defScope s_split) := ⟨rfl, rfl, rfl, by decide +kernel, rfl, by decide +kernel, by decide +kernel⟩
theorem split_turn {b x wr wy wd wf t : Int} (h : wd = wf * wy + wr) : x + b * wd = (t + b * wf) * wy + (x + b * wr - wy * t) := by
  rw [h, Int.mul_add, Int.add_mul, Int.mul_comm t wy, Int.mul_assoc b wf wy]
  omega
theorem ok_split {CB CT CS CN : Addr} (D : Def K mg "split" s_split ["base", "one", "two"]) (T : Own mg) (XN : ErrC K mg "NoDivisor" CN) (OP : Okx P w K mg base 2 "check_pair" ["base", "one", "two"] (spCkPair K CB CT)) (OC : Okf P w K mg base 1 "carried" ["base", "columns"] (spCarried K))
    (OT : Okf P w K mg base 4 "times_within" ["base", "rest", "two"] (spTimes K)) (OL : Okx P w K mg base 4 "lessened" ["base", "one", "two"] (spLessF K CB CT CS)) (OU : Okx P w K mg base 3 "multiplied" ["base", "one", "two"] (spMul K CB CT)) :
    Okx P w K mg base 5 "split" ["base", "one", "two"] (spSplit K CB CT CN) := by
  obtain ⟨f, fd, F, bb, m⟩ := D
  obtain ⟨fP, dP, GP, bP, mP, kP⟩ := OP
  obtain ⟨fC, dC, GC, bC, mC, kC⟩ := OC
  obtain ⟨fT, dT, GT, bT, mT, kT⟩ := OT
  obtain ⟨fL, dL, GL, bL, mL, kL⟩ := OL
  obtain ⟨fU, dU, GU, bU, mU, kU⟩ := OU
  refine ⟨f, fd, ?_, bb, m, F.kp⟩
  refine fun_okX F sc_split (fun vs H Q E h => ?_) (fun cdv A outer s H vs Q E hr h => ?_)
  · obtain ⟨b, a, c, xs, ys, rfl, _⟩ := h
    rfl
  obtain ⟨b, a, c, xs, ys, rfl, h1, h2, hb2, lx, ly, eB, eT, q⟩ := h
  have hr1 : Room 1 _ := hr.mono (by decide)
  have hr2 : Room 2 _ := hr.mono (by decide)
  have hr3 : Room 3 _ := hr.mono (by decide)
  refine ⟨_, pss_cons (ps_expr (pef GP hr2 mP kP bP passX (pac (pv 0) (pac (pv 1) (pac (pv 2) pa_nil)))))
    (pss_cons (ps_if (pt_cmpR op_eq (pe_len T.len (pv 2)) pe_int (nomark _)) (pss_one (ps_raise XN hr.hd rfl (pac pe_str pa_nil))) pss_nil)
    (pss_cons (ps_set (i := 3) sc_split.nd rfl (Or.inl rfl) (pe_lst pa_nil))
    (pss_cons (ps_set (i := 4) sc_split.nd rfl (Or.inl rfl) (pe_lst pa_nil))
    (pss_cons (PS.nox (ps_for PassesOwn.never rfl (pi_rev T.rev (pv 1)) (pg_name (i := 5) sc_split.nd rfl (Or.inl rfl))
      (pss_cons (ps_set (i := 4) sc_split.nd rfl (Or.inl rfl) (pef GC hr1 mC kC bC pass0 (pac (pv 0) (pac (pe_op op_cat (pe_lst (pac (pv 5) pa_nil)) (pv 4)) pa_nil))))
      (pss_cons (ps_set (i := 6) sc_split.nd rfl (Or.inl rfl) (pef GT hr mT kT bT pass0 (pac (pv 0) (pac (pv 4) (pac (pv 2) pa_nil)))))
      (pss_cons (ps_set (i := 4) sc_split.nd rfl (Or.inl rfl) (pef GL hr mL kL bL passF (pac (pv 0) (pac (pv 4) (pac (pef GU hr3 mU kU bU passF (pac (pv 0) (pac (pv 2) (pac (pef GC hr1 mC kC bC pass0 (pac (pv 0) (pac (pe_lst (pac (pv 6) pa_nil)) pa_nil))) pa_nil)))) pa_nil)))))
      (pss_one (ps_expr (pem_app (pv 3) (pv 6)))))))))
    (pss_cons (ps_expr (pem_rev (pv 3)))
    (pss_one (ps_ret (pe_tup (pac (pef GC hr1 mC kC bC pass0 (pac (pv 0) (pac (pv 3) pa_nil))) (pac (pv 4) pa_nil))))))))))  , ?_⟩
  refine ⟨_, rfl, _, rfl, _, rfl, b, a, c, xs, ys, rfl, h1, h2, eB, eT, fun hb tx ty => ?_⟩
  obtain ⟨qN, qG⟩ := q hb tx ty
  refine ⟨_, rfl, c, _, rfl, .inl h2, rfl, _, rfl, ?_⟩
  rw [List.length_map]
  by_cases hne : ys = []
  · rw [decide_eq_true (by rw [hne]; rfl)]
    exact iteT ⟨(show 1 ≤ 100 by decide), qN hne H (Same.refl H)⟩
  have hlen : 0 < ys.length := Nat.pos_of_ne_zero fun z => hne (List.eq_nil_of_length_eq_zero z)
  rw [decide_eq_false (fun z => by have z1 := V.int.inj z; omega)]
  have hwy : 0 < worth b ys := worth_pos (by omega) ty hne
  refine iteF ⟨small (by decide), fun rF hrF => ?_⟩
  have g1 : Same H (upd H rF (.lst [])) := same_new hrF _
  have e1 : (upd H rF (.lst [])) rF = some (.lst []) := upd_same
  generalize upd H rF (.lst []) = H1 at g1 e1 ⊢
  refine ⟨small (by decide), fun r0 hr0 => ?_⟩
  have g2 : Same H1 (upd H1 r0 (.lst [])) := same_new hr0 _
  have e2 : (upd H1 r0 (.lst [])) r0 = some (.lst []) := upd_same
  generalize upd H1 r0 (.lst []) = H2 at g2 e2 ⊢
  have g02 := g1.trans g2
  refine ⟨_, rfl, a, _, rfl, g02.seq h1, for_rev (K := K) (a := a) (xs := List.map V.int xs)
    (fun i σ H3 => ∃ fs rs rr g5 g6, σ = [some (.int b), some (.ref a), some (.ref c), some (.ref rF), some (.ref rr), g5, g6] ∧ H3 rF = some (.lst (List.map V.int fs)) ∧ H3 rr = some (.lst (List.map V.int rs)) ∧ rr ≠ rF ∧ Figs b fs ∧ fs.length = i ∧ i ≤ xs.length ∧ Tape b rs ∧
      worth b rs < worth b ys ∧ worth b (xs.drop (xs.length - i)) = worth b fs.reverse * worth b ys + worth b rs ∧ Same H H3)
    ⟨[], [], r0, none, none, rfl, g2 _ _ e1, e2, Ne.symm (ne_of_none e1 hr0), Figs.nil b, rfl, Nat.zero_le _, Tape.nil b, hwy, by rw [Nat.sub_zero, List.drop_length]; simp [worth], g02⟩ (fun i σ H3 ⟨_, _, _, _, _, _, _, _, _, _, _, _, _, _, _, g⟩ => g.seq h1) ?_ ?_⟩
  · rintro i x0 σ H3 hi hx0 ⟨fs, rs, rr, g5, g6, rfl, eF, eR, nRF, hf, hlf, hix, tr, hlt, hw, g3⟩
    rw [List.length_map] at hi hx0
    obtain ⟨x, rfl, hx⟩ := int_at hx0
    have fx := tx.figs.get hx
    have lr := shorter_of_lt hb tr ty.figs hlt
    -- rest = carried(base, [figure] + rest)
    refine ⟨_, rfl, _, rfl, small (show 1 ≤ 1000 by decide), fun p1 hp1 => ?_⟩
    have g4 : Same H3 (upd H3 p1 (.lst [.int x])) := same_new hp1 _
    have e4 : (upd H3 p1 (.lst [.int x])) p1 = some (.lst [.int x]) := upd_same
    generalize upd H3 p1 (.lst [.int x]) = H4 at g4 e4 ⊢
    refine ⟨_, rfl, p1, rr, _, _, rfl, rfl, e4, g4 _ _ eR, ?_, fun p2 hp2 => ?_⟩
    · rw [List.length_map]
      exact Nat.le_of_lt (small5 (show 1 + rs.length ≤ 1000000 by omega))
    have ecat : [V.int x] ++ List.map V.int rs = List.map V.int (x :: rs) := rfl
    rw [ecat]
    have g5' : Same H4 (upd H4 p2 (.lst (List.map V.int (x :: rs)))) := same_new hp2 _
    have e5 : (upd H4 p2 (.lst (List.map V.int (x :: rs)))) p2 = some (.lst (List.map V.int (x :: rs))) := upd_same
    generalize upd H4 p2 (.lst (List.map V.int (x :: rs))) = H5 at g5' e5 ⊢
    have fxr : Figs b (x :: rs) := Figs.cons.mpr ⟨fx, tr.figs⟩
    refine ⟨b, p2, x :: rs, rs.length + 1, rfl, SqL.of e5, hb, hb2, worth_nonneg (by omega) fxr, worth_lt (by omega) fxr, Nat.le_refl _, by omega, fun r6 rs6 H6 t6 w6 l6 n6 g6' e6 => ?_⟩
    have g36 : Same H3 H6 := (g4.trans g5').trans g6'
    have g06 : Same H H6 := g3.trans g36
    rw [worth_cons] at w6
    have wlt : worth b rs6 < b * worth b ys := by
      have h7 : b * (worth b rs + 1) ≤ b * worth b ys := Int.mul_le_mul_of_nonneg_left (by omega) (by omega)
      rw [Int.mul_add] at h7
      omega
    have wnn : 0 ≤ worth b rs6 := worth_nonneg (by omega) t6.figs
    -- times = times_within(base, rest, two)
    refine ⟨_, rfl, _, rfl, _, rfl, b, r6, c, rs6, ys, rfl, SqL.of e6, g06.seq h2, hb, hb2, by omega, by omega, t6, ty, hne, wlt, fun t H7 lo up g7 => ?_⟩
    have t0 : 0 ≤ t := by
      rcases Int.lt_or_le t 0 with z | z
      · have : (t + 1) * worth b ys ≤ 0 * worth b ys := Int.mul_le_mul_of_nonneg_right (by omega) (by omega)
        omega
      · exact z
    have tb : t < b := by
      rcases Int.lt_or_le t b with z | z
      · exact z
      · have : b * worth b ys ≤ t * worth b ys := Int.mul_le_mul_of_nonneg_right z (by omega)
        omega
    -- rest = lessened(base, rest, multiplied(base, two, carried(base, [times])))
    refine ⟨_, rfl, _, rfl, _, rfl, _, rfl, _, rfl, _, rfl, small (show 1 ≤ 1000 by decide), fun p8 hp8 => ?_⟩
    have g8 : Same H7 (upd H7 p8 (.lst [.int t])) := same_new hp8 _
    have e8 : (upd H7 p8 (.lst [.int t])) p8 = some (.lst (List.map V.int [t])) := upd_same
    generalize upd H7 p8 (.lst [.int t]) = H8 at g8 e8 ⊢
    have wt : worth b [t] = t := by rw [worth_cons, worth_nil]; omega
    refine ⟨b, p8, [t], 1, rfl, SqL.of e8, hb, hb2, by rw [wt]; exact t0, by rw [wt, Int.pow_succ, Int.pow_zero, Int.one_mul]; exact tb, Nat.le_refl _, by decide, fun r9 ts H9 t9 w9 l9 _ g9 e9 => ?_⟩
    rw [wt] at w9
    have g69 : Same H6 H9 := (g7.trans g8).trans g9
    have g09 : Same H H9 := g06.trans g69
    refine ⟨b, c, r9, ys, ts, rfl, g09.seq h2, SqL.of e9, hb2, by omega, by omega, no2 hb, noT ty t9, fun _ _ _ r10 ps H10 t10 w10 l10 g10 e10 => ?_⟩
    rw [w9] at w10
    have g610 : Same H6 H10 := g69.trans g10
    refine ⟨b, r6, r10, rs6, ps, rfl, SqL.of (g610 _ _ e6), SqL.of e10, hb2, by omega, by omega, no2 hb, noT t6 t10, fun _ _ _ => ⟨fun z => ?_, fun _ r11 us H11 t11 w11 l11 n11 g11 e11 => ?_⟩⟩
    · rw [w10, Int.mul_comm] at z
      omega
    rw [w10] at w11
    have g311 : Same H3 H11 := g36.trans (g610.trans g11)
    have eF11 := g311 _ _ eF
    have nF11 : r11 ≠ rF := Ne.symm (ne_of_none ((g36.trans g610) _ _ eF) n11)
    -- figures.append(times)
    refine ⟨_, rfl, .inl ⟨rfl, _, SqL.of eF11⟩, _, rfl, rF, _, _, rfl, rfl, eF11, len_lst5 (n := i) (by omega) (by omega), fs ++ [t], us, r11, _, _, rfl, ?_, ?_, ?_, hf.snoc ⟨t0, tb⟩, by rw [List.length_append, hlf]; rfl, hi, t11, ?_, ?_, ?_⟩
    · rw [upd_same, List.map_append]; rfl
    · rw [upd_ne nF11]; exact e11
    · exact nF11
    · rw [w11, Int.mul_comm]
      rw [Int.add_mul] at up
      omega
    · rw [drop_rev hi hx, worth_cons, List.reverse_append]
      show _ = worth b (t :: fs.reverse) * _ + _
      rw [worth_cons, w11, w6]
      exact split_turn hw
    · exact same_upd _ hrF (g3.trans g311)
  · rintro σ H3 ⟨fs, rs, rr, g5, g6, rfl, eF, eR, nRF, hf, hlf, hix, tr, hlt, hw, g3⟩
    rw [List.length_map] at hlf hw
    rw [Nat.sub_self, List.drop_zero] at hw
    have lr := shorter_of_lt hb tr ty.figs hlt
    refine ⟨_, rfl, .inl ⟨rfl, _, SqL.of eF⟩, rF, _, rfl, rfl, eF, ?_⟩
    rw [← List.map_reverse]
    have g4 : Same H (upd H3 rF (.lst (List.map V.int fs.reverse))) := same_upd _ hrF g3
    have e4 : (upd H3 rF (.lst (List.map V.int fs.reverse))) rF = some (.lst (List.map V.int fs.reverse)) := upd_same
    have e4r : (upd H3 rF (.lst (List.map V.int fs.reverse))) rr = some (.lst (List.map V.int rs)) := by rw [upd_ne nRF]; exact eR
    generalize upd H3 rF (.lst (List.map V.int fs.reverse)) = H4 at g4 e4 e4r ⊢
    have fr : Figs b fs.reverse := fun y hy => hf y (List.mem_reverse.mp hy)
    have lr2 : fs.reverse.length = xs.length := by rw [List.length_reverse, hlf]
    refine ⟨_, rfl, _, rfl, b, rF, fs.reverse, xs.length, rfl, SqL.of e4, hb, hb2, worth_nonneg (by omega) fr, by have := worth_lt (by omega : (0 : Int) < b) fr; rwa [lr2] at this, by omega, by omega, fun r5 qs H5 t5 w5 l5 _ g5 e5 => ?_⟩
    refine ⟨_, rfl, small (show 2 ≤ 1000 by decide), fun tp htp => ?_⟩
    have g6 : Same H5 (upd H5 tp (.tup [.ref r5, .ref rr])) := same_new htp _
    refine qG hne tp r5 rr qs rs _ t5 tr ⟨by rw [w5]; exact hw, hlt⟩ (by omega) (by omega) ((g4.trans g5).trans g6) upd_same (g6 _ _ e5) (g6 _ _ (g5 _ _ e4r))

/-! ### figuretape.parts: root -/
theorem sq_le {x y : Int} : 4 * (x * y) ≤ (x + y) * (x + y) := by
  have h : 0 ≤ (x - y) * (x - y) := by
    rcases Int.le_total 0 (x - y) with z | z
    · exact Int.mul_nonneg z z
    · exact Int.mul_nonneg_of_nonpos_of_nonpos z z
  have e1 : (x - y) * (x - y) = x * x - x * y - x * y + y * y := by rw [Int.sub_mul, Int.mul_sub, Int.mul_sub, Int.mul_comm y x]; omega
  have e2 : (x + y) * (x + y) = x * x + x * y + x * y + y * y := by rw [Int.add_mul, Int.mul_add, Int.mul_add, Int.mul_comm y x]; omega
  omega
theorem sq_mono {x y : Int} (h0 : 0 ≤ x) (h : x ≤ y) : x * x ≤ y * y := Int.mul_le_mul h h h0 (by omega)
/-- the middle of a guess and the tape split by it -/
structure Mid (wx g t : Int) : Prop where
  ex : ∃ q, q * g ≤ wx ∧ wx < (q + 1) * g ∧ 2 * t ≤ g + q ∧ g + q < 2 * t + 2
theorem Mid.above {wx g t : Int} (hg : 0 < g) (hx : 0 ≤ wx) (ht : 0 ≤ t) (h : Mid wx g t) : wx < (t + 1) * (t + 1) := by
  obtain ⟨q, h1, h2, h3, h4⟩ := h.ex
  have hq : 0 ≤ q := by
    rcases Int.lt_or_le q 0 with z | z
    · have : (q + 1) * g ≤ 0 * g := Int.mul_le_mul_of_nonneg_right (by omega) (by omega)
      omega
    · exact z
  have a := @sq_le g (q + 1)
  have b : (g + (q + 1)) * (g + (q + 1)) ≤ (2 * (t + 1)) * (2 * (t + 1)) := sq_mono (by omega) (by omega)
  have e : (2 * (t + 1)) * (2 * (t + 1)) = 4 * ((t + 1) * (t + 1)) := by rw [Int.mul_assoc, ← Int.mul_assoc (t + 1), Int.mul_comm (t + 1) 2, Int.mul_assoc, ← Int.mul_assoc]; rfl
  rw [Int.mul_comm g (q + 1)] at a
  omega
theorem Mid.stop {wx g t : Int} (hg : 0 < g) (h : Mid wx g t) (hle : g ≤ t) : g * g ≤ wx := by
  obtain ⟨q, h1, h2, h3, h4⟩ := h.ex
  have : g * g ≤ q * g := Int.mul_le_mul_of_nonneg_right (by omega) (by omega)
  omega
def spBettered (K : PySem.W.Frag) : Sp := fun vs H Q _ => ∃ b a c xs gs, vs = [.int b, .ref a, .ref c] ∧ SqL K H a (List.map V.int xs) ∧ SqL K H c (List.map V.int gs) ∧ 2 ≤ b ∧ b < 2 ^ 64 ∧ xs.length ≤ 100 ∧ gs.length ≤ 100 ∧ Tape b xs ∧ Tape b gs ∧ gs ≠ [] ∧
  ∀ r zs H', Tape b zs → Mid (worth b xs) (worth b gs) (worth b zs) → zs.length ≤ 600 → Same H H' → H' r = some (.lst (List.map V.int zs)) → Q (.ref r) H'
theorem sc_bettered : FnScope ["base", "tape", "guess", "both"] ["base", "tape", "guess"] (defScope s_bettered) := ⟨rfl, rfl, rfl, by decide +kernel, rfl, by decide +kernel, by decide +kernel⟩
theorem ok_bettered {CB CT CN : Addr} (D : Def K mg "bettered" s_bettered ["base", "tape", "guess"]) (OA : Okx P w K mg base 3 "added" ["base", "one", "two"] (spAdded K CB CT)) (OS : Okx P w K mg base 5 "split" ["base", "one", "two"] (spSplit K CB CT CN))
    (OC : Okf P w K mg base 1 "carried" ["base", "columns"] (spCarried K)) : Okf P w K mg base 6 "bettered" ["base", "tape", "guess"] (spBettered K) := by
  obtain ⟨f, fd, F, bb, m⟩ := D
  obtain ⟨fA, dA, GA, bA, mA, kA⟩ := OA
  obtain ⟨fS, dS, GS, bS, mS, kS⟩ := OS
  obtain ⟨fC, dC, GC, bC, mC, kC⟩ := OC
  refine ⟨f, fd, ?_, bb, m, F.kp⟩
  refine F.ok sc_bettered (fun vs H Q E h => ?_) (fun cdv A outer s H vs Q E hr h => ?_)
  · obtain ⟨b, a, c, xs, gs, rfl, _⟩ := h
    rfl
  obtain ⟨b, a, c, xs, gs, rfl, h1, h2, hb, hb2, lx, lg, tx, tg, hne, q⟩ := h
  have hr1 : Room 1 _ := hr.mono (by decide)
  have hr3 : Room 3 _ := hr.mono (by decide)
  refine ⟨_, pss_cons (ps_set (i := 3) sc_bettered.nd rfl (Or.inl rfl) (pef GA hr3 mA kA bA passF (pac (pv 0) (pac (pv 2) (pac (pe_ix ix_tup (pef GS hr mS kS bS passF (pac (pv 0) (pac (pv 1) (pac (pv 2) pa_nil)))) pe_int (fun _ _ => rfl)) pa_nil)))))
    (pss_one (ps_ret (pe_ix ix_tup (pef GS hr mS kS bS passF (pac (pv 0) (pac (pv 3) (pac (pef GC hr1 mC kC bC pass0 (pac (pv 0) (pac (pe_lst (pac pe_int pa_nil)) pa_nil))) pa_nil)))) pe_int (fun _ _ => rfl)))), ?_⟩
  refine ⟨_, rfl, _, rfl, _, rfl, _, rfl, _, rfl, b, a, c, xs, gs, rfl, h1, h2, hb2, by omega, by omega, no2 hb, noT tx tg, fun _ _ _ => ⟨fun z => absurd z hne, fun _ t1 r1 r2 qs rs H1 tq tr pq lq lr g1 et e1 e2 => ?_⟩⟩
  refine ⟨t1, _, _, _, rfl, rfl, SqT.of et, rfl, ?_⟩
  refine ⟨b, c, r1, gs, qs, rfl, g1.seq h2, SqL.of e1, hb2, by omega, by omega, no2 hb, noT tg tq, fun _ _ _ r3 bs H2 tb wb lb g2 e3 => ?_⟩
  have g02 := g1.trans g2
  refine ⟨_, rfl, _, rfl, _, rfl, small (show 1 ≤ 1000 by decide), fun p3 hp3 => ?_⟩
  have g3 : Same H2 (upd H2 p3 (.lst [.int 2])) := same_new hp3 _
  have e4 : (upd H2 p3 (.lst [.int 2])) p3 = some (.lst (List.map V.int [2])) := upd_same
  generalize upd H2 p3 (.lst [.int 2]) = H3 at g3 e4 ⊢
  have w2 : worth b [2] = 2 := by rw [worth_cons, worth_nil]; omega
  have h22 : (2 : Int) < b ^ 2 := by
    have h6 : b * 2 ≤ b * b := Int.mul_le_mul_of_nonneg_left hb (by omega)
    rw [Int.pow_succ, Int.pow_succ, Int.pow_zero, Int.one_mul]
    omega
  refine ⟨b, p3, [2], 2, rfl, SqL.of e4, hb, hb2, by rw [w2]; decide, by rw [w2]; exact h22, by show 1 ≤ 2; decide, by decide, fun r5 ts H4 tt wt lt _ g4 e5 => ?_⟩
  rw [w2] at wt
  have tne : ts ≠ [] := fun z => by rw [z, worth_nil] at wt; exact absurd wt (by decide)
  have g24 := g3.trans g4
  refine ⟨b, r3, r5, bs, ts, rfl, SqL.of (g24 _ _ e3), SqL.of e5, hb2, by omega, by omega, no2 hb, noT tb tt, fun _ _ _ => ⟨fun z => absurd z tne, fun _ t6 r7 r8 zs us H5 tz tu pz lz lu g5 et6 e7 e8 => ?_⟩⟩
  refine ⟨t6, _, _, _, rfl, rfl, SqT.of et6, rfl, ?_⟩
  obtain ⟨pz1, pz2⟩ := pz
  obtain ⟨pq1, pq2⟩ := pq
  have nr := worth_nonneg (by omega) tr.figs
  have nu := worth_nonneg (by omega) tu.figs
  refine q r7 zs H5 tz ⟨⟨worth b qs, by omega, by rw [Int.add_mul]; omega, ?_, ?_⟩⟩ (by omega) ((g02.trans g24).trans g5) e7
  · rw [wb, wt] at pz1
    omega
  · rw [wb, wt] at pz1
    rw [wt] at pz2
    omega
def spRootOf (K : PySem.W.Frag) : Sp := fun vs H Q _ => ∃ b a xs, vs = [.int b, .ref a] ∧ SqL K H a (List.map V.int xs) ∧ 2 ≤ b ∧ b < 2 ^ 64 ∧ xs.length ≤ 70 ∧ Tape b xs ∧
  ∀ r zs H', Tape b zs → worth b zs * worth b zs ≤ worth b xs → worth b xs < (worth b zs + 1) * (worth b zs + 1) → Same H H' → H' r = some (.lst (List.map V.int zs)) → Q (.ref r) H'
theorem sc_rootof : FnScope ["base", "tape", "guess", "better"] ["base", "tape"] (defScope s_root_of) := ⟨rfl, rfl, rfl, by decide +kernel, rfl, by decide +kernel, by decide +kernel⟩
theorem first_guess {b : Int} (hb : 2 ≤ b) (k : Nat) : Tape b (List.replicate k 0 ++ [1]) ∧ worth b (List.replicate k 0 ++ [1]) = b ^ k := by
  refine ⟨⟨fun x hx => ?_, NoZ.snoc (by decide)⟩, ?_⟩
  · rcases List.mem_append.mp hx with h | h
    · rw [List.eq_of_mem_replicate h]; omega
    · rw [List.mem_singleton.mp h]; omega
  · rw [worth_snoc, worth_zeros, List.length_replicate]; omega
theorem ok_rootof {CB CT : Addr} (D : Def K mg "root_of" s_root_of ["base", "tape"]) (T : Own mg) (OM : Okx P w K mg base 3 "compared" ["base", "one", "two"] (spCompared K CB CT)) (OE : Okf P w K mg base 6 "bettered" ["base", "tape", "guess"] (spBettered K)) :
    Okf P w K mg base 7 "root_of" ["base", "tape"] (spRootOf K) := by
  obtain ⟨f, fd, F, bb, m⟩ := D
  obtain ⟨fM, dM, GM, bM, mM, kM⟩ := OM
  obtain ⟨fE, dE, GE, bE, mE, kE⟩ := OE
  refine ⟨f, fd, ?_, bb, m, F.kp⟩
  refine F.ok sc_rootof (fun vs H Q E h => ?_) (fun cdv A outer s H vs Q E hr h => ?_)
  · obtain ⟨b, a, xs, rfl, _⟩ := h
    rfl
  obtain ⟨b, a, xs, rfl, hS, hb, hb2, lx, tx, q⟩ := h
  have hr3 : Room 3 _ := hr.mono (by decide)
  refine ⟨_, pss_cons (ps_if (pt_cmpR op_eq (pe_len T.len (pv 1)) pe_int (nomark _)) (pss_one (ps_ret (pe_lst pa_nil))) pss_nil)
    (pss_cons (ps_set (i := 2) sc_rootof.nd rfl (Or.inl rfl) (pe_op op_cat (pe_op op_rep (pe_lst (pac pe_int pa_nil)) (pe_op op_fdiv (pe_op op_add (pe_len T.len (pv 1)) pe_int) pe_int)) (pe_lst (pac pe_int pa_nil))))
    (pss_cons (ps_set (i := 3) sc_rootof.nd rfl (Or.inl rfl) (pef GE hr mE kE bE pass0 (pac (pv 0) (pac (pv 1) (pac (pv 2) pa_nil)))))
    (pss_cons (ps_while PassesOwn.never (pt_cmpR op_lt (pef GM hr3 mM kM bM passF (pac (pv 0) (pac (pv 3) (pac (pv 2) pa_nil)))) pe_int (nomark _))
      (pss_cons (ps_set (i := 2) sc_rootof.nd rfl (Or.inl rfl) (pv 3)) (pss_one (ps_set (i := 3) sc_rootof.nd rfl (Or.inl rfl) (pef GE hr mE kE bE pass0 (pac (pv 0) (pac (pv 1) (pac (pv 2) pa_nil))))))))
    (pss_one (ps_ret (pv 2)))))), ?_⟩
  refine ⟨_, rfl, a, _, rfl, .inl hS, rfl, _, rfl, ?_⟩
  rw [List.length_map]
  have wx0 := worth_nonneg (by omega) tx.figs
  by_cases hne : xs = []
  · rw [decide_eq_true (by rw [hne]; rfl)]
    refine iteT ⟨small (by decide), fun r hr0 => ?_⟩
    exact q r [] _ (Tape.nil b) (by rw [hne, worth_nil]; decide) (by rw [hne, worth_nil]; decide) (same_new hr0 _) upd_same
  have hlen : 0 < xs.length := Nat.pos_of_ne_zero fun z => hne (List.eq_nil_of_length_eq_zero z)
  have wx1 : 0 < worth b xs := worth_pos (by omega) tx hne
  rw [decide_eq_false (fun z => by have z1 := V.int.inj z; omega)]
  refine iteF ⟨small (show 1 ≤ 1000 by decide), fun p1 hp1 => ?_⟩
  have g1 : Same H (upd H p1 (.lst [.int 0])) := same_new hp1 _
  have e1 : (upd H p1 (.lst [.int 0])) p1 = some (.lst [.int 0]) := upd_same
  generalize upd H p1 (.lst [.int 0]) = H1 at g1 e1 ⊢
  refine ⟨_, rfl, a, _, rfl, .inl (g1.seq hS), _, _, rfl, rfl, _, _, rfl, rfl, ⟨by decide, by decide⟩, ?_⟩
  rw [List.length_map]
  have ek : (((xs.length : Int) + 1) / 2).toNat = (xs.length + 1) / 2 := by omega
  refine ⟨p1, _, _, rfl, rfl, e1, by omega, by omega, ?_, fun p2 hp2 => ?_⟩
  · show 1 * (((xs.length : Int) + 1) / 2).toNat ≤ sizeLine
    exact Nat.le_of_lt (small5 (by omega))
  rw [ek, rep_zero]
  generalize hk : (xs.length + 1) / 2 = k
  have g2 : Same H1 (upd H1 p2 (.lst (List.map V.int (List.replicate k 0)))) := same_new hp2 _
  have e2 : (upd H1 p2 (.lst (List.map V.int (List.replicate k 0)))) p2 = some (.lst (List.map V.int (List.replicate k 0))) := upd_same
  generalize upd H1 p2 (.lst (List.map V.int (List.replicate k 0))) = H2 at g2 e2 ⊢
  refine ⟨small (show 1 ≤ 1000 by decide), fun p3 hp3 => ?_⟩
  have g3 : Same H2 (upd H2 p3 (.lst [.int 1])) := same_new hp3 _
  have e3 : (upd H2 p3 (.lst [.int 1])) p3 = some (.lst (List.map V.int [1])) := upd_same
  generalize upd H2 p3 (.lst [.int 1]) = H3 at g3 e3 ⊢
  refine ⟨p2, p3, _, _, rfl, rfl, g3 _ _ e2, e3, ?_, fun p4 hp4 => ?_⟩
  · rw [List.length_map, List.length_replicate]
    exact Nat.le_of_lt (small5 (show k + 1 ≤ 1000000 by omega))
  rw [← List.map_append]
  obtain ⟨tg0, wg0⟩ := first_guess hb k
  have lg0 : (List.replicate k (0 : Int) ++ [1]).length = k + 1 := by rw [List.length_append, List.length_replicate]; rfl
  generalize List.replicate k (0 : Int) ++ [1] = gs0 at tg0 wg0 lg0 ⊢
  have g4 : Same H3 (upd H3 p4 (.lst (List.map V.int gs0))) := same_new hp4 _
  have e4 : (upd H3 p4 (.lst (List.map V.int gs0))) p4 = some (.lst (List.map V.int gs0)) := upd_same
  generalize upd H3 p4 (.lst (List.map V.int gs0)) = H4 at g4 e4 ⊢
  have g04 : Same H H4 := ((g1.trans g2).trans g3).trans g4
  have pk : 0 < b ^ k := Int.pow_pos (by omega)
  have ab0 : worth b xs < (worth b gs0 + 1) * (worth b gs0 + 1) := by
    have h5 := worth_lt (by omega) tx.figs
    have h6 : b ^ xs.length ≤ b ^ (k + k) := pow_le (by omega) (by omega)
    rw [Int.pow_add] at h6
    have h7 : b ^ k * b ^ k ≤ (b ^ k + 1) * (b ^ k + 1) := sq_mono (by omega) (by omega)
    rw [wg0]
    omega
  have ne0 : gs0 ≠ [] := fun z => by rw [z] at lg0; exact absurd lg0 (by simp)
  refine ⟨_, rfl, _, rfl, _, rfl, b, a, p4, xs, gs0, rfl, g04.seq hS, SqL.of e4, hb, hb2, by omega, by omega, tx, tg0, ne0, fun r5 ts5 H5 t5 m5 l5 g5 e5 => ?_⟩
  refine ⟨fun mm σ H6 => ∃ gs ts rg rt, σ = [some (.int b), some (.ref a), some (.ref rg), some (.ref rt)] ∧ H6 rg = some (.lst (List.map V.int gs)) ∧ H6 rt = some (.lst (List.map V.int ts)) ∧ Tape b gs ∧ Tape b ts ∧ gs ≠ [] ∧ gs.length ≤ k + 1 ∧ ts.length ≤ 600 ∧
      Mid (worth b xs) (worth b gs) (worth b ts) ∧ worth b xs < (worth b gs + 1) * (worth b gs + 1) ∧ mm = (worth b gs).toNat ∧ Same H H6,
    ⟨_, gs0, ts5, p4, r5, rfl, g5 _ _ e4, e5, tg0, t5, ne0, by omega, l5, m5, ab0, rfl, g04.trans g5⟩, ?_⟩
  rintro mm σ H6 ⟨gs, ts, rg, rt, rfl, eg, et, tg, tt, gne, lg, lt, md, ab, rfl, g6⟩
  have wg1 : 0 < worth b gs := worth_pos (by omega) tg gne
  have wt0 : 0 ≤ worth b ts := worth_nonneg (by omega) tt.figs
  refine ⟨_, rfl, _, rfl, _, rfl, b, rt, rg, ts, gs, rfl, SqL.of et, SqL.of eg, hb2, by omega, by omega, no2 hb, noT tt tg, fun _ _ _ H7 g7 => ⟨_, _, rfl, rfl, _, rfl, ?_⟩⟩
  by_cases hlt : worth b ts < worth b gs
  · rw [decide_eq_true (ord_neg.mpr hlt)]
    have ab2 := md.above wg1 wx0 wt0
    have tne : ts ≠ [] := fun z => by
      rw [z, worth_nil] at ab2
      omega
    have lts := shorter_of_lt hb tt tg.figs hlt
    have g07 := g6.trans g7
    refine iteT ⟨_, fun _ _ h => h, ⟨_, rfl, _, rfl, _, rfl, _, rfl, b, a, rt, xs, ts, rfl, g07.seq hS, SqL.of (g7 _ _ et), hb, hb2, by omega, by omega, tx, tt, tne, fun r8 us H8 t8 m8 l8 g8 e8 => ?_⟩⟩
    exact ⟨(worth b ts).toNat, by omega, ts, us, rt, r8, rfl, g8 _ _ (g7 _ _ et), e8, tt, t8, tne, by omega, l8, m8, ab2, rfl, g07.trans g8⟩
  · rw [decide_eq_false (fun z => hlt (ord_neg.mp z))]
    exact iteF ⟨_, rfl, q rg gs H7 tg (md.stop wg1 (by omega)) ab (g6.trans g7) (g7 _ _ eg)⟩
theorem sc_root : FnScope ["base", "tape", "answer"] ["base", "tape"] (defScope s_root) := ⟨rfl, rfl, rfl, by decide +kernel, rfl, by decide +kernel, by decide +kernel⟩
theorem ok_root {CB CT CS : Addr} (D : Def K mg "root" s_root ["base", "tape"]) (OB : Okx P w K mg base 1 "check_base" ["base"] (spCkBase CB)) (OT : Okx P w K mg base 1 "check_tape" ["base", "tape"] (spCkTape K CT)) (OR : Okf P w K mg base 7 "root_of" ["base", "tape"] (spRootOf K))
    (OL : Okx P w K mg base 4 "lessened" ["base", "one", "two"] (spLessF K CB CT CS)) (OU : Okx P w K mg base 3 "multiplied" ["base", "one", "two"] (spMul K CB CT)) : Okx P w K mg base 8 "root" ["base", "tape"] (spRoot K CB CT) := by
  obtain ⟨f, fd, F, bb, m⟩ := D
  obtain ⟨fB, dB, GB, bB, mB, kB⟩ := OB
  obtain ⟨fT, dT, GT, bT, mT, kT⟩ := OT
  obtain ⟨fR, dR, GR, bR, mR, kR⟩ := OR
  obtain ⟨fL, dL, GL, bL, mL, kL⟩ := OL
  obtain ⟨fU, dU, GU, bU, mU, kU⟩ := OU
  refine ⟨f, fd, ?_, bb, m, F.kp⟩
  refine fun_okX F sc_root (fun vs H Q E h => ?_) (fun cdv A outer s H vs Q E hr h => ?_)
  · obtain ⟨b, a, xs, rfl, _⟩ := h
    rfl
  obtain ⟨b, a, xs, rfl, hS, hb2, lx, eB, eT, q⟩ := h
  have hr1 : Room 1 _ := hr.mono (by decide)
  have hr3 : Room 3 _ := hr.mono (by decide)
  have hr4 : Room 4 _ := hr.mono (by decide)
  refine ⟨_, pss_cons (ps_expr (pef GB hr1 mB kB bB passX (pac (pv 0) pa_nil)))
    (pss_cons (ps_expr (pef GT hr1 mT kT bT passX (pac (pv 0) (pac (pv 1) pa_nil))))
    (pss_cons (ps_set (i := 2) sc_root.nd rfl (Or.inl rfl) (pef GR hr mR kR bR pass0 (pac (pv 0) (pac (pv 1) pa_nil))))
    (pss_one (ps_ret (pe_tup (pac (pv 2) (pac (pef GL hr4 mL kL bL passF (pac (pv 0) (pac (pv 1) (pac (pef GU hr3 mU kU bU passF (pac (pv 0) (pac (pv 2) (pac (pv 2) pa_nil)))) pa_nil)))) pa_nil))))))), ?_⟩
  refine ⟨_, rfl, b, rfl, eB, fun hb => ⟨_, rfl, _, rfl, b, a, xs, rfl, hS, fun n => eT hb n, fun tx => ?_⟩⟩
  refine ⟨_, rfl, _, rfl, b, a, xs, rfl, hS, hb, hb2, lx, tx, fun r1 zs H1 tz lo up g1 e1 => ?_⟩
  have wz0 := worth_nonneg (by omega) tz.figs
  have lz : zs.length ≤ xs.length := by
    rcases Nat.lt_or_ge xs.length zs.length with z | z
    · have h3 := worth_shorter hb tx.figs tz z
      have h4 : 1 * worth b zs ≤ worth b zs * worth b zs := by
        rcases Int.lt_or_le (worth b zs) 1 with y | y
        · have : worth b zs = 0 := by omega
          rw [this]; decide
        · exact Int.mul_le_mul_of_nonneg_right y wz0
      omega
    · exact z
  refine ⟨_, rfl, _, rfl, _, rfl, _, rfl, _, rfl, _, rfl, b, r1, r1, zs, zs, rfl, SqL.of e1, SqL.of e1, hb2, by omega, by omega, no2 hb, noT tz tz, fun _ _ _ r2 ps H2 tp wp lp g2 e2 => ?_⟩
  have g02 := g1.trans g2
  refine ⟨b, a, r2, xs, ps, rfl, g02.seq hS, SqL.of e2, hb2, by omega, by omega, no2 hb, noT tx tp, fun _ _ _ => ⟨fun z => by rw [wp] at z; omega, fun _ r3 us H3 tu wu lu _ g3 e3 => ?_⟩⟩
  refine ⟨small (show 2 ≤ 1000 by decide), fun tp4 htp => ?_⟩
  have g4 : Same H3 (upd H3 tp4 (.tup [.ref r1, .ref r3])) := same_new htp _
  exact q hb tx tp4 r1 r3 zs us _ tz tu ⟨by rw [wu, wp]; omega, up⟩ lz lu ((g02.trans g3).trans g4) upd_same (g4 _ _ (g3 _ _ (g2 _ _ e1))) (g4 _ _ e3)

/-! ### figuretape.parts: rebased -/
theorem worth_scaled (o b : Int) : ∀ zs : List Int, worth o (zs.map (· * b)) = b * worth o zs
  | [] => by simp [worth]
  | z :: r => by
    rw [List.map_cons, worth_cons, worth_cons, worth_scaled o b r, Int.mul_add, Int.mul_comm z b, ← Int.mul_assoc, ← Int.mul_assoc, Int.mul_comm o b]
theorem figs_pow {b o : Int} {xs : List Int} {k : Nat} (hb : 2 ≤ b) (hb2 : b < 2 ^ 64) (ho : 2 ≤ o) (hx : Figs b xs) (hl : xs.length ≤ k) : worth b xs < o ^ (64 * k) := by
  have h1 := worth_lt (by omega) hx
  have h2 : b ^ xs.length ≤ b ^ k := pow_le (by omega) hl
  have h3 : b ^ k ≤ ((2 : Int) ^ 64) ^ k := powl (by omega) (by omega) k
  have h4 : ((2 : Int) ^ 64) ^ k = 2 ^ (64 * k) := Int.pow_mul.symm
  have h5 : (2 : Int) ^ (64 * k) ≤ o ^ (64 * k) := powl (by omega) ho _
  rw [h4] at h3
  exact Int.lt_of_lt_of_le h1 (Int.le_trans h2 (Int.le_trans h3 h5))
theorem sc_rebased : FnScope ["base", "tape", "other", "answer", "figure", "columns"] ["base", "tape", "other"] (defScope s_rebased) := ⟨rfl, rfl, rfl, by decide +kernel, rfl, by decide +kernel, by decide +kernel⟩
theorem ok_rebased {CB CT : Addr} (D : Def K mg "rebased" s_rebased ["base", "tape", "other"]) (T : Own mg) (OB : Okx P w K mg base 1 "check_base" ["base"] (spCkBase CB)) (OT : Okx P w K mg base 1 "check_tape" ["base", "tape"] (spCkTape K CT)) (OC : Okf P w K mg base 1 "carried" ["base", "columns"] (spCarried K)) :
    Okx P w K mg base 2 "rebased" ["base", "tape", "other"] (spRebased K CB CT) := by
  obtain ⟨f, fd, F, bb, m⟩ := D
  obtain ⟨fB, dB, GB, bB, mB, kB⟩ := OB
  obtain ⟨fT, dT, GT, bT, mT, kT⟩ := OT
  obtain ⟨fC, dC, GC, bC, mC, kC⟩ := OC
  refine ⟨f, fd, ?_, bb, m, F.kp⟩
  refine fun_okX F sc_rebased (fun vs H Q E h => ?_) (fun cdv A outer s H vs Q E hr h => ?_)
  · obtain ⟨b, a, xs, o, rfl, _⟩ := h
    rfl
  obtain ⟨b, a, xs, o, rfl, hS, hb2, ho2, lx, eB, eT, q⟩ := h
  refine ⟨_, pss_cons (ps_expr (pef GB hr mB kB bB passX (pac (pv 0) pa_nil)))
    (pss_cons (ps_expr (pef GB hr mB kB bB passX (pac (pv 2) pa_nil)))
    (pss_cons (ps_expr (pef GT hr mT kT bT passX (pac (pv 0) (pac (pv 1) pa_nil))))
    (pss_cons (ps_set (i := 3) sc_rebased.nd rfl (Or.inl rfl) (pe_lst pa_nil))
    (pss_cons (PS.nox (ps_for PassesOwn.never rfl (pi_rev T.rev (pv 1)) (pg_name (i := 4) sc_rebased.nd rfl (Or.inl rfl))
      (pss_cons (ps_set (i := 5) sc_rebased.nd rfl (Or.inl rfl) (pe_op op_cat (pe_lc (N' := ["part", "base"]) (k := 1) (cap := [0]) rfl ⟨rfl, fun _ _ h => h, rfl, by decide +kernel, rfl, by decide +kernel, ⟨⟨rfl, rfl, rfl⟩, trivial⟩, by decide⟩
        (pi_list (pv 3)) (fun _ _ _ _ => pg_name (i := 0) (show List.Nodup (["part", "base"] : List Str) by decide +kernel) rfl (Or.inl rfl)) (fun _ _ _ _ => pe_op op_mul (pv 0) (pv 1))) (pe_lst (pac pe_int pa_nil))))
      (pss_cons (ps_asg (pe_op op_add (pe_atc (pv 5)) (pv 4)) (pg_sub (pv 5) pe_int set_list))
      (pss_one (ps_set (i := 3) sc_rebased.nd rfl (Or.inl rfl) (pef GC hr mC kC bC pass0 (pac (pv 2) (pac (pv 5) pa_nil)))))))))
    (pss_one (ps_ret (pv 3))))))), ?_⟩
  refine ⟨_, rfl, b, rfl, fun z => eB (.inl z), fun hb => ⟨_, rfl, o, rfl, fun z => eB (.inr z), fun ho => ⟨_, rfl, _, rfl, b, a, xs, rfl, hS, fun n => eT hb ho n, fun tx => ?_⟩⟩⟩
  have Qf := q hb ho tx
  refine ⟨small (by decide), fun r0 hr0 => ?_⟩
  have g1 : Same H (upd H r0 (.lst [])) := same_new hr0 _
  have e1 : (upd H r0 (.lst [])) r0 = some (.lst (List.map V.int [])) := upd_same
  generalize upd H r0 (.lst []) = H1 at g1 e1 ⊢
  refine ⟨_, rfl, a, _, rfl, g1.seq hS, for_rev (K := K) (a := a) (xs := List.map V.int xs)
    (fun i σ H2 => ∃ zs rr g4 g5, σ = [some (.int b), some (.ref a), some (.int o), some (.ref rr), g4, g5] ∧ H2 rr = some (.lst (List.map V.int zs)) ∧ Tape o zs ∧ worth o zs = worth b (xs.drop (xs.length - i)) ∧ zs.length ≤ 64 * i ∧ i ≤ xs.length ∧ Same H H2)
    ⟨[], r0, none, none, rfl, e1, Tape.nil o, by rw [Nat.sub_zero, List.drop_length]; rfl, Nat.zero_le _, Nat.zero_le _, g1⟩ (fun i σ H2 ⟨_, _, _, _, _, _, _, _, _, _, g⟩ => g.seq hS) ?_ ?_⟩
  · rintro i x0 σ H2 hi hx0 ⟨zs, rr, g4, g5, rfl, er, tz, wz, lz, hix, g2⟩
    rw [List.length_map] at hi hx0
    obtain ⟨x, rfl, hx⟩ := int_at hx0
    -- [part * base for part in answer]
    refine ⟨_, rfl, rr, rfl, ⟨_, SqL.of er⟩, fun Da hDa => ?_⟩
    have g3 : Same H2 (upd H2 Da (.lst [])) := same_new hDa _
    refine ⟨(List.map V.int zs).length, fun j τ H3 us => (∃ g, τ = [g, some (.int b)]) ∧ us = List.map V.int ((zs.take j).map (· * b)) ∧ Same H2 H3, small5 (by rw [List.length_map]; omega), ⟨⟨none, rfl⟩, rfl, g3⟩, ?_⟩
    rintro j τ H3 us ⟨⟨g, rfl⟩, rfl, g3⟩ hj hl hD
    have sq : SqL K H3 rr (List.map V.int zs) := SqL.of (g3 _ _ er)
    refine ⟨fun e => ⟨⟨_, sq, by rw [e]; exact Nat.le_refl _⟩, ?_⟩, fun hlt => ⟨⟨_, _, sq, List.getElem?_eq_getElem hlt⟩, ?_⟩⟩
    · rw [List.length_map] at e
      subst e
      rw [List.take_length] at hD
      -- + [0]
      refine ⟨small (show 1 ≤ 1000 by decide), fun p4 hp4 => ?_⟩
      have g4 : Same H3 (upd H3 p4 (.lst [.int 0])) := same_new hp4 _
      have e4 : (upd H3 p4 (.lst [.int 0])) p4 = some (.lst (List.map V.int [0])) := upd_same
      generalize upd H3 p4 (.lst [.int 0]) = H4 at g4 e4 ⊢
      refine ⟨Da, p4, _, _, rfl, rfl, g4 _ _ hD, e4, ?_, fun p5 hp5 => ?_⟩
      · rw [List.length_map, List.length_map, List.length_map]
        exact Nat.le_of_lt (small5 (show zs.length + 1 ≤ 1000000 by omega))
      rw [← List.map_append]
      have g5 : Same H4 (upd H4 p5 (.lst (List.map V.int (zs.map (· * b) ++ [0])))) := same_new hp5 _
      have e5 : (upd H4 p5 (.lst (List.map V.int (zs.map (· * b) ++ [0])))) p5 = some (.lst (List.map V.int (zs.map (· * b) ++ [0]))) := upd_same
      generalize upd H4 p5 (.lst (List.map V.int (zs.map (· * b) ++ [0]))) = H5 at g5 e5 ⊢
      have hp5H : H p5 = none := ((g2.trans g3).trans g4).free hp5
      have wc : worth o (zs.map (· * b) ++ [0]) = b * worth o zs := by rw [worth_snoc, worth_scaled, Int.mul_zero, Int.add_zero]
      have lc : (zs.map (· * b) ++ [0]).length = zs.length + 1 := by rw [List.length_append, List.length_map]; rfl
      generalize zs.map (· * b) ++ [0] = cs at e5 wc lc
      have l0 : 0 < cs.length := by omega
      have ez : cs[0]? = some cs[0] := List.getElem?_eq_getElem l0
      -- columns[0] = columns[0] + figure
      refine ⟨_, rfl, p5, _, _, _, rfl, rfl, SqL.of e5, atI_int (by decide) (by omega), _, rfl, _, _, rfl, rfl, _, rfl, p5, _, _, 0, rfl, rfl, e5, ?_, ?_⟩
      · unfold ixN
        rw [List.length_map, if_pos (by decide), if_pos (by omega)]
        rfl
      have ed : cs.getD (0 : Int).toNat 0 = cs[0] := by rw [List.getD_eq_getElem?_getD]; show cs[0]?.getD 0 = _; rw [ez]; rfl
      rw [ed, map_set_int]
      have wn := worth_set o (d := x) ez
      rw [Int.pow_zero, Int.mul_one, wc, wz] at wn
      have ln : (cs.set 0 (cs[0] + x)).length = zs.length + 1 := by rw [List.length_set, lc]
      generalize cs.set 0 (cs[0] + x) = ds at wn ln ⊢
      have g6 : Same H (upd H5 p5 (.lst (List.map V.int ds))) := same_upd _ hp5H ((((g2.trans g3).trans g4)).trans g5)
      have e6 : (upd H5 p5 (.lst (List.map V.int ds))) p5 = some (.lst (List.map V.int ds)) := upd_same
      generalize upd H5 p5 (.lst (List.map V.int ds)) = H6 at g6 e6 ⊢
      have wd : worth o ds = worth b (xs.drop (xs.length - (i + 1))) := by rw [wn, drop_rev hi hx, worth_cons]; omega
      have fd' := tx.figs.drop (xs.length - (i + 1))
      have ld : (xs.drop (xs.length - (i + 1))).length ≤ i + 1 := by rw [List.length_drop]; omega
      refine ⟨_, rfl, _, rfl, o, p5, ds, 64 * (i + 1), rfl, SqL.of e6, ho, ho2, by rw [wd]; exact worth_nonneg (by omega) fd', by rw [wd]; exact figs_pow hb hb2 ho fd' ld, by omega, by omega, fun r7 us H7 t7 w7 l7 _ g7 e7 => ?_⟩
      exact ⟨us, r7, _, _, rfl, e7, t7, by rw [w7, wd], l7, hi, g6.trans g7⟩
    · rintro y H4 ⟨rfl, hy⟩
      have hy := hy _ sq
      obtain ⟨z, rfl, hz⟩ := int_at hy
      refine ⟨_, rfl, _, rfl, _, _, rfl, rfl, .inr ⟨by omega, hb2⟩, hD, ⟨_, rfl⟩, ?_, same_upd _ hDa g3⟩
      rw [List.take_add_one, hz, Option.toList_some, List.map_append, List.map_append]
      rfl
  · rintro σ H2 ⟨zs, rr, g4, g5, rfl, er, tz, wz, lz, hix, g2⟩
    rw [List.length_map] at wz lz
    rw [Nat.sub_self, List.drop_zero] at wz
    exact ⟨_, rfl, Qf rr zs H2 tz wz (by omega) g2 er⟩

/-- which handler takes which refusal -/
structure Errs (K : PySem.W.Frag) (CB CT CS CN : Addr) : Prop where
  bb : PySem.W.exmOne K (.ref CB) (.ref CB) = some true
  tb : PySem.W.exmOne K (.ref CT) (.ref CB) = some false
  tt : PySem.W.exmOne K (.ref CT) (.ref CT) = some true
  sb : PySem.W.exmOne K (.ref CS) (.ref CB) = some false
  st : PySem.W.exmOne K (.ref CS) (.ref CT) = some false
  ss : PySem.W.exmOne K (.ref CS) (.ref CS) = some true
  nb : PySem.W.exmOne K (.ref CN) (.ref CB) = some false
  nt : PySem.W.exmOne K (.ref CN) (.ref CT) = some false
  ns : PySem.W.exmOne K (.ref CN) (.ref CS) = some false
  nn : PySem.W.exmOne K (.ref CN) (.ref CN) = some true
theorem ErrsX.errs {K : PySem.W.Frag} {CE CB CT CS CN : Addr} (X : ErrsX K CE CB CT CS CN) : Errs K CB CT CS CN := ⟨X.b.xb, X.t.xb, X.t.xt, X.s.xb, X.s.xt, X.s.xs, X.n.xb, X.n.xt, X.n.xs, X.n.xn⟩
/-- what each of the nine calls should end with: 0 done, 1 base, 2 tape, 3 small, 4 none -/
inductive Ends9 (b : Int) (xs ys : List Int) : Int → Nat → Prop where
  | base {wh : Int} (h : b < 2) : Ends9 b xs ys wh 1
  | tape {wh : Int} (h : 2 ≤ b) (hw : wh ≤ 4) (n : ¬ (Tape b xs ∧ Tape b ys)) : Ends9 b xs ys wh 2
  | small (h : 2 ≤ b) (hx : Tape b xs) (hy : Tape b ys) (hl : worth b xs < worth b ys) : Ends9 b xs ys 2 3
  | none (h : 2 ≤ b) (hx : Tape b xs) (hy : Tape b ys) (hn : ys = []) : Ends9 b xs ys 4 4
  | done {wh : Int} (h : 2 ≤ b) (hw : wh ≤ 4) (hx : Tape b xs) (hy : Tape b ys) (h2 : wh = 2 → ¬ worth b xs < worth b ys) (h4 : wh = 4 → ys ≠ []) : Ends9 b xs ys wh 0
  | tape5 (h : 2 ≤ b) (n : ¬ Tape b ys) : Ends9 b xs ys 5 2
  | done5 (h : 2 ≤ b) (n : Tape b ys) : Ends9 b xs ys 5 0
  | tape6 (h : 2 ≤ b) (n : ¬ Tape 10 xs) : Ends9 b xs ys 6 2
  | done6 (h : 2 ≤ b) (n : Tape 10 xs) : Ends9 b xs ys 6 0
  | tape7 (h : 2 ≤ b) (n : ¬ Tape b ys) : Ends9 b xs ys 7 2
  | done7 (h : 2 ≤ b) (n : Tape b ys) : Ends9 b xs ys 7 0
  | base8 : Ends9 b xs ys 8 1
def word : Nat → Str
  | 0 => "done"
  | 1 => "base"
  | 2 => "tape"
  | 3 => "small"
  | _ => "none"
def spSaid (K : PySem.W.Frag) : Sp := fun vs H Q _ => ∃ (wh b : Int) (a c : Addr) (xs ys : List Int), vs = [.int wh, .int b, .ref a, .ref c] ∧ 0 ≤ wh ∧ wh ≤ 8 ∧ SqL K H a (List.map V.int xs) ∧ SqL K H c (List.map V.int ys) ∧ b < 2 ^ 64 ∧ xs.length ≤ 70 ∧ ys.length ≤ 70 ∧
  ∀ k H', Ends9 b xs ys wh k → Same H H' → Q (.str (word k)) H'
theorem sc_said : FnScope ["_law_which", "_law_base", "_law_one", "_law_two", "_law_word"] ["_law_which", "_law_base", "_law_one", "_law_two"] (defScope s_law_said) := ⟨rfl, rfl, rfl, by decide +kernel, rfl, by decide +kernel, by decide +kernel⟩
theorem ok_said (D : Def K mg "_law_said" s_law_said ["_law_which", "_law_base", "_law_one", "_law_two"]) {CB CT CS CN : Addr} (X : Errs K CB CT CS CN) (mB : mg "BadBase" = some (.ref CB)) (mT : mg "BadTape" = some (.ref CT)) (mS : mg "TooSmall" = some (.ref CS)) (mN : mg "NoDivisor" = some (.ref CN))
    (O0 : Okx P w K mg base 15 "compared" ["base", "one", "two"] (spCompared K CB CT)) (O1 : Okx P w K mg base 15 "added" ["base", "one", "two"] (spAdded K CB CT)) (O2 : Okx P w K mg base 15 "lessened" ["base", "one", "two"] (spLess K CB CT CS)) (O3 : Okx P w K mg base 15 "multiplied" ["base", "one", "two"] (spMul K CB CT))
    (O4 : Okx P w K mg base 15 "split" ["base", "one", "two"] (spSplit K CB CT CN)) (O5 : Okx P w K mg base 15 "root" ["base", "tape"] (spRoot K CB CT)) (O6 : Okx P w K mg base 15 "rebased" ["base", "tape", "other"] (spRebased K CB CT)) : Okf P w K mg base 16 "_law_said" ["_law_which", "_law_base", "_law_one", "_law_two"] (spSaid K) := by
  obtain ⟨f, fd, F, bb, m⟩ := D
  obtain ⟨f0, d0, G0, b0, m0, k0⟩ := O0
  obtain ⟨f1, d1, G1, b1, m1, k1⟩ := O1
  obtain ⟨f2, d2, G2, b2, m2, k2⟩ := O2
  obtain ⟨f3, d3, G3, b3, m3, k3⟩ := O3
  obtain ⟨f4, d4, G4, b4, m4, k4⟩ := O4
  obtain ⟨f5, d5, G5, b5, m5, k5⟩ := O5
  obtain ⟨f6, d6, G6, b6, m6, k6⟩ := O6
  refine ⟨f, fd, ?_, bb, m, F.kp⟩
  refine F.ok sc_said (fun vs H Q E h => ?_) (fun cdv A outer s H vs Q E hr h => ?_)
  · obtain ⟨wh, b, a, c, xs, ys, rfl, _⟩ := h
    rfl
  obtain ⟨wh, b, a, c, xs, ys, rfl, w0, w8, hx, hy, hb, lx, ly, q⟩ := h
  refine ⟨_, pss_cons (ps_set (i := 4) sc_said.nd rfl (Or.inl rfl) pe_str)
    (pss_cons (ps_tryH rfl rfl (pssx_one (psx_if (pt_cmpR op_eq (pv 0) pe_int (nomark _)) (pssx_one (psx_expr (pex_call G0 hr rfl m0 k0 b0 (pac (pv 1) (pac (pv 2) (pac (pv 3) pa_nil))))))
        (pssx_one (psx_if (pt_cmpR op_eq (pv 0) pe_int (nomark _)) (pssx_one (psx_expr (pex_call G1 hr rfl m1 k1 b1 (pac (pv 1) (pac (pv 2) (pac (pv 3) pa_nil))))))
        (pssx_one (psx_if (pt_cmpR op_eq (pv 0) pe_int (nomark _)) (pssx_one (psx_expr (pex_call G2 hr rfl m2 k2 b2 (pac (pv 1) (pac (pv 2) (pac (pv 3) pa_nil))))))
        (pssx_one (psx_if (pt_cmpR op_eq (pv 0) pe_int (nomark _)) (pssx_one (psx_expr (pex_call G3 hr rfl m3 k3 b3 (pac (pv 1) (pac (pv 2) (pac (pv 3) pa_nil))))))
        (pssx_one (psx_if (pt_cmpR op_eq (pv 0) pe_int (nomark _)) (pssx_one (psx_expr (pex_call G4 hr rfl m4 k4 b4 (pac (pv 1) (pac (pv 2) (pac (pv 3) pa_nil))))))
        (pssx_one (psx_if (pt_cmpR op_eq (pv 0) pe_int (nomark _)) (pssx_one (psx_expr (pex_call G5 hr rfl m5 k5 b5 (pac (pv 1) (pac (pv 3) pa_nil)))))
        (pssx_one (psx_if (pt_cmpR op_eq (pv 0) pe_int (nomark _)) (pssx_one (psx_expr (pex_call G6 hr rfl m6 k6 b6 (pac pe_int (pac (pv 2) (pac (pv 1) pa_nil))))))
        (pssx_one (psx_if (pt_cmpR op_eq (pv 0) pe_int (nomark _)) (pssx_one (psx_expr (pex_call G6 hr rfl m6 k6 b6 (pac (pv 1) (pac (pv 3) (pac pe_int pa_nil))))))
        (pssx_one (psx_expr (pex_call G6 hr rfl m6 k6 b6 (pac (pv 1) (pac (pv 2) (pac pe_int pa_nil))))))))))))))))))))))
      (ph_cons mB rfl (fun _ => pss_one (ps_set (i := 4) sc_said.nd rfl (Or.inl rfl) pe_str)) (ph_cons mT rfl (fun _ => pss_one (ps_set (i := 4) sc_said.nd rfl (Or.inl rfl) pe_str))
        (ph_cons mS rfl (fun _ => pss_one (ps_set (i := 4) sc_said.nd rfl (Or.inl rfl) pe_str)) (ph_cons mN rfl (fun _ => pss_one (ps_set (i := 4) sc_said.nd rfl (Or.inl rfl) pe_str)) ph_nil)))))
    (pss_one (ps_ret (pv 4)))), ?_⟩
  rcases (by omega : wh = 0 ∨ wh = 1 ∨ wh = 2 ∨ wh = 3 ∨ wh = 4 ∨ wh = 5 ∨ wh = 6 ∨ wh = 7 ∨ wh = 8) with rfl | rfl | rfl | rfl | rfl | rfl | rfl | rfl | rfl
  · refine ⟨_, rfl, rfl, _, rfl, iteT ?_⟩
    exact ⟨_, rfl, _, rfl, _, rfl, b, a, c, xs, ys, rfl, hx, hy, hb, by omega, by omega, fun h H' g => ⟨CB, rfl, .inl ⟨X.bb, _, rfl, q 1 H' (.base h) g⟩⟩, fun h n H' g => ⟨CT, rfl, .inr ⟨X.tb, .inl ⟨X.tt, _, rfl, q 2 H' (.tape h (by decide) n) g⟩⟩⟩, fun h t1 t2 H' g => ⟨_, rfl, q 0 H' (.done h (by decide) t1 t2 (fun z => absurd z (by decide)) (fun z => absurd z (by decide))) g⟩⟩
  · refine ⟨_, rfl, rfl, _, rfl, iteF ⟨_, rfl, rfl, _, rfl, iteT ?_⟩⟩
    exact ⟨_, rfl, _, rfl, _, rfl, b, a, c, xs, ys, rfl, hx, hy, hb, by omega, by omega, fun h H' g => ⟨CB, rfl, .inl ⟨X.bb, _, rfl, q 1 H' (.base h) g⟩⟩, fun h n H' g => ⟨CT, rfl, .inr ⟨X.tb, .inl ⟨X.tt, _, rfl, q 2 H' (.tape h (by decide) n) g⟩⟩⟩, fun h t1 t2 r zs H' _ _ _ g _ => ⟨_, rfl, q 0 H' (.done h (by decide) t1 t2 (fun z => absurd z (by decide)) (fun z => absurd z (by decide))) g⟩⟩
  · refine ⟨_, rfl, rfl, _, rfl, iteF ⟨_, rfl, rfl, _, rfl, iteF ⟨_, rfl, rfl, _, rfl, iteT ?_⟩⟩⟩
    exact ⟨_, rfl, _, rfl, _, rfl, b, a, c, xs, ys, rfl, hx, hy, hb, by omega, by omega, fun h H' g => ⟨CB, rfl, .inl ⟨X.bb, _, rfl, q 1 H' (.base h) g⟩⟩, fun h n H' g => ⟨CT, rfl, .inr ⟨X.tb, .inl ⟨X.tt, _, rfl, q 2 H' (.tape h (by decide) n) g⟩⟩⟩, fun h t1 t2 => ⟨fun hl H' g => ⟨CS, rfl, .inr ⟨X.sb, .inr ⟨X.st, .inl ⟨X.ss, _, rfl, q 3 H' (.small h t1 t2 hl) g⟩⟩⟩⟩, fun hge r zs H' _ _ _ g _ => ⟨_, rfl, q 0 H' (.done h (by decide) t1 t2 (fun _ => by omega) (fun z => absurd z (by decide))) g⟩⟩⟩
  · refine ⟨_, rfl, rfl, _, rfl, iteF ⟨_, rfl, rfl, _, rfl, iteF ⟨_, rfl, rfl, _, rfl, iteF ⟨_, rfl, rfl, _, rfl, iteT ?_⟩⟩⟩⟩
    exact ⟨_, rfl, _, rfl, _, rfl, b, a, c, xs, ys, rfl, hx, hy, hb, by omega, by omega, fun h H' g => ⟨CB, rfl, .inl ⟨X.bb, _, rfl, q 1 H' (.base h) g⟩⟩, fun h n H' g => ⟨CT, rfl, .inr ⟨X.tb, .inl ⟨X.tt, _, rfl, q 2 H' (.tape h (by decide) n) g⟩⟩⟩, fun h t1 t2 r zs H' _ _ _ g _ => ⟨_, rfl, q 0 H' (.done h (by decide) t1 t2 (fun z => absurd z (by decide)) (fun z => absurd z (by decide))) g⟩⟩
  · refine ⟨_, rfl, rfl, _, rfl, iteF ⟨_, rfl, rfl, _, rfl, iteF ⟨_, rfl, rfl, _, rfl, iteF ⟨_, rfl, rfl, _, rfl, iteF ⟨_, rfl, rfl, _, rfl, iteT ?_⟩⟩⟩⟩⟩
    exact ⟨_, rfl, _, rfl, _, rfl, b, a, c, xs, ys, rfl, hx, hy, hb, by omega, by omega, fun h H' g => ⟨CB, rfl, .inl ⟨X.bb, _, rfl, q 1 H' (.base h) g⟩⟩, fun h n H' g => ⟨CT, rfl, .inr ⟨X.tb, .inl ⟨X.tt, _, rfl, q 2 H' (.tape h (by decide) n) g⟩⟩⟩, fun h t1 t2 => ⟨fun hn H' g => ⟨CN, rfl, .inr ⟨X.nb, .inr ⟨X.nt, .inr ⟨X.ns, .inl ⟨X.nn, _, rfl, q 4 H' (.none h t1 t2 hn) g⟩⟩⟩⟩⟩, fun hne t r1 r2 us vs H' _ _ _ _ _ g _ _ _ => ⟨_, rfl, q 0 H' (.done h (by decide) t1 t2 (fun z => absurd z (by decide)) (fun _ => hne)) g⟩⟩⟩
  · refine ⟨_, rfl, rfl, _, rfl, iteF ⟨_, rfl, rfl, _, rfl, iteF ⟨_, rfl, rfl, _, rfl, iteF ⟨_, rfl, rfl, _, rfl, iteF ⟨_, rfl, rfl, _, rfl, iteF ⟨_, rfl, rfl, _, rfl, iteT ?_⟩⟩⟩⟩⟩⟩
    exact ⟨_, rfl, _, rfl, b, c, ys, rfl, hy, hb, by omega, fun h H' g => ⟨CB, rfl, .inl ⟨X.bb, _, rfl, q 1 H' (.base h) g⟩⟩, fun h n H' g => ⟨CT, rfl, .inr ⟨X.tb, .inl ⟨X.tt, _, rfl, q 2 H' (.tape5 h n) g⟩⟩⟩, fun h t tt r1 r2 us vs H' _ _ _ _ _ g _ _ _ => ⟨_, rfl, q 0 H' (.done5 h t) g⟩⟩
  · refine ⟨_, rfl, rfl, _, rfl, iteF ⟨_, rfl, rfl, _, rfl, iteF ⟨_, rfl, rfl, _, rfl, iteF ⟨_, rfl, rfl, _, rfl, iteF ⟨_, rfl, rfl, _, rfl, iteF ⟨_, rfl, rfl, _, rfl, iteF ⟨_, rfl, rfl, _, rfl, iteT ?_⟩⟩⟩⟩⟩⟩⟩
    exact ⟨_, rfl, _, rfl, 10, a, xs, b, rfl, hx, by decide, hb, by omega, fun h H' g => ⟨CB, rfl, .inl ⟨X.bb, _, rfl, q 1 H' (.base (by omega)) g⟩⟩, fun _ h n H' g => ⟨CT, rfl, .inr ⟨X.tb, .inl ⟨X.tt, _, rfl, q 2 H' (.tape6 h n) g⟩⟩⟩, fun _ h t r zs H' _ _ _ g _ => ⟨_, rfl, q 0 H' (.done6 h t) g⟩⟩
  · refine ⟨_, rfl, rfl, _, rfl, iteF ⟨_, rfl, rfl, _, rfl, iteF ⟨_, rfl, rfl, _, rfl, iteF ⟨_, rfl, rfl, _, rfl, iteF ⟨_, rfl, rfl, _, rfl, iteF ⟨_, rfl, rfl, _, rfl, iteF ⟨_, rfl, rfl, _, rfl, iteF ⟨_, rfl, rfl, _, rfl, iteT ?_⟩⟩⟩⟩⟩⟩⟩⟩
    exact ⟨_, rfl, _, rfl, b, c, ys, 10, rfl, hy, hb, by decide, by omega, fun h H' g => ⟨CB, rfl, .inl ⟨X.bb, _, rfl, q 1 H' (.base (by omega)) g⟩⟩, fun h _ n H' g => ⟨CT, rfl, .inr ⟨X.tb, .inl ⟨X.tt, _, rfl, q 2 H' (.tape7 h n) g⟩⟩⟩, fun h _ t r zs H' _ _ _ g _ => ⟨_, rfl, q 0 H' (.done7 h t) g⟩⟩
  · refine ⟨_, rfl, rfl, _, rfl, iteF ⟨_, rfl, rfl, _, rfl, iteF ⟨_, rfl, rfl, _, rfl, iteF ⟨_, rfl, rfl, _, rfl, iteF ⟨_, rfl, rfl, _, rfl, iteF ⟨_, rfl, rfl, _, rfl, iteF ⟨_, rfl, rfl, _, rfl, iteF ⟨_, rfl, rfl, _, rfl, iteF ?_⟩⟩⟩⟩⟩⟩⟩⟩
    exact ⟨_, rfl, _, rfl, b, a, xs, 0, rfl, hx, hb, by decide, by omega, fun _ H' g => ⟨CB, rfl, .inl ⟨X.bb, _, rfl, q 1 H' .base8 g⟩⟩, fun _ h => absurd h (by decide), fun _ h => absurd h (by decide)⟩

def spRefuses (K : PySem.W.Frag) : Sp := fun vs H Q _ => ∃ (wh b : Int) (a c : Addr) (xs ys : List Int), vs = [.int wh, .int b, .ref a, .ref c] ∧ 0 ≤ wh ∧ wh ≤ 8 ∧ SqL K H a (List.map V.int xs) ∧ SqL K H c (List.map V.int ys) ∧ b < 2 ^ 64 ∧ xs.length ≤ 70 ∧ ys.length ≤ 70 ∧
  ∀ k H', Ends9 b xs ys wh k → Same H H' → Q (.bl (k != 0)) H'
theorem sc_refuses : FnScope ["_law_which", "_law_base", "_law_one", "_law_two", "e", "_law_under"] ["_law_which", "_law_base", "_law_one", "_law_two"] (defScope s_law_refuses) := ⟨rfl, rfl, rfl, by decide +kernel, rfl, by decide +kernel, by decide +kernel⟩
theorem ok_refuses (D : Def K mg "_law_refuses" s_law_refuses ["_law_which", "_law_base", "_law_one", "_law_two"]) (T : Own mg) {CE CB CT CS CN : Addr} (X : ErrsX K CE CB CT CS CN) (mE : mg "TapeError" = some (.ref CE)) (mB : mg "BadBase" = some (.ref CB)) (mT : mg "BadTape" = some (.ref CT)) (mS : mg "TooSmall" = some (.ref CS)) (mN : mg "NoDivisor" = some (.ref CN))
    (O0 : Okx P w K mg base 15 "compared" ["base", "one", "two"] (spCompared K CB CT)) (O1 : Okx P w K mg base 15 "added" ["base", "one", "two"] (spAdded K CB CT)) (O2 : Okx P w K mg base 15 "lessened" ["base", "one", "two"] (spLess K CB CT CS)) (O3 : Okx P w K mg base 15 "multiplied" ["base", "one", "two"] (spMul K CB CT))
    (O4 : Okx P w K mg base 15 "split" ["base", "one", "two"] (spSplit K CB CT CN)) (O5 : Okx P w K mg base 15 "root" ["base", "tape"] (spRoot K CB CT)) (O6 : Okx P w K mg base 15 "rebased" ["base", "tape", "other"] (spRebased K CB CT)) : Okf P w K mg base 16 "_law_refuses" ["_law_which", "_law_base", "_law_one", "_law_two"] (spRefuses K) := by
  obtain ⟨f, fd, F, bb, m⟩ := D
  obtain ⟨f0, d0, G0, b0, m0, k0⟩ := O0
  obtain ⟨f1, d1, G1, b1, m1, k1⟩ := O1
  obtain ⟨f2, d2, G2, b2, m2, k2⟩ := O2
  obtain ⟨f3, d3, G3, b3, m3, k3⟩ := O3
  obtain ⟨f4, d4, G4, b4, m4, k4⟩ := O4
  obtain ⟨f5, d5, G5, b5, m5, k5⟩ := O5
  obtain ⟨f6, d6, G6, b6, m6, k6⟩ := O6
  refine ⟨f, fd, ?_, bb, m, F.kp⟩
  refine F.ok sc_refuses (fun vs H Q E h => ?_) (fun cdv A outer s H vs Q E hr h => ?_)
  · obtain ⟨wh, b, a, c, xs, ys, rfl, _⟩ := h
    rfl
  obtain ⟨wh, b, a, c, xs, ys, rfl, w0, w8, hx, hy, hb, lx, ly, q⟩ := h
  refine ⟨_, pss_cons (ps_tryH rfl rfl (pssx_one (psx_if (pt_cmpR op_eq (pv 0) pe_int (nomark _)) (pssx_one (psx_expr (pex_call G0 hr rfl m0 k0 b0 (pac (pv 1) (pac (pv 2) (pac (pv 3) pa_nil))))))
        (pssx_one (psx_if (pt_cmpR op_eq (pv 0) pe_int (nomark _)) (pssx_one (psx_expr (pex_call G1 hr rfl m1 k1 b1 (pac (pv 1) (pac (pv 2) (pac (pv 3) pa_nil))))))
        (pssx_one (psx_if (pt_cmpR op_eq (pv 0) pe_int (nomark _)) (pssx_one (psx_expr (pex_call G2 hr rfl m2 k2 b2 (pac (pv 1) (pac (pv 2) (pac (pv 3) pa_nil))))))
        (pssx_one (psx_if (pt_cmpR op_eq (pv 0) pe_int (nomark _)) (pssx_one (psx_expr (pex_call G3 hr rfl m3 k3 b3 (pac (pv 1) (pac (pv 2) (pac (pv 3) pa_nil))))))
        (pssx_one (psx_if (pt_cmpR op_eq (pv 0) pe_int (nomark _)) (pssx_one (psx_expr (pex_call G4 hr rfl m4 k4 b4 (pac (pv 1) (pac (pv 2) (pac (pv 3) pa_nil))))))
        (pssx_one (psx_if (pt_cmpR op_eq (pv 0) pe_int (nomark _)) (pssx_one (psx_expr (pex_call G5 hr rfl m5 k5 b5 (pac (pv 1) (pac (pv 3) pa_nil)))))
        (pssx_one (psx_if (pt_cmpR op_eq (pv 0) pe_int (nomark _)) (pssx_one (psx_expr (pex_call G6 hr rfl m6 k6 b6 (pac pe_int (pac (pv 2) (pac (pv 1) pa_nil))))))
        (pssx_one (psx_if (pt_cmpR op_eq (pv 0) pe_int (nomark _)) (pssx_one (psx_expr (pex_call G6 hr rfl m6 k6 b6 (pac (pv 1) (pac (pv 3) (pac pe_int pa_nil))))))
        (pssx_one (psx_expr (pex_call G6 hr rfl m6 k6 b6 (pac (pv 1) (pac (pv 2) (pac pe_int pa_nil))))))))))))))))))))))
      (ph_as (i := 4) (ts := tSuite K CE CB CT CS CN) mE rfl sc_refuses.nd rfl rfl (fun ea ob C hc hd hn fx => by
        refine PSs.imp (pss_cons (ps_set (i := 5) sc_refuses.nd rfl (Or.inl rfl) (pe_lst (pac (peb (call_isiE List.mem_cons_self hc hd hn fx) T.isi boot_isinstance (pac (pv 4) (pac (pe_glob (v := .ref CB) rfl mB rfl) pa_nil))) (pac (peb (call_isiE List.mem_cons_self hc hd hn fx) T.isi boot_isinstance (pac (pv 4) (pac (pe_glob (v := .ref CT) rfl mT rfl) pa_nil))) (pac (peb (call_isiE List.mem_cons_self hc hd hn fx) T.isi boot_isinstance (pac (pv 4) (pac (pe_glob (v := .ref CS) rfl mS rfl) pa_nil))) pa_nil)))))
          (pss_cons (ps_set (i := 5) sc_refuses.nd rfl (Or.inl rfl) (pe_op op_cat (pv 5) (pe_lst (pac (peb (call_isiE List.mem_cons_self hc hd hn fx) T.isi boot_isinstance (pac (pv 4) (pac (pe_glob (v := .ref CN) rfl mN rfl) pa_nil))) pa_nil))))
          (pss_one (ps_ret (pe_and (peb (call_isiE List.mem_cons_self hc hd hn fx) T.isi boot_isinstance (pac (pv 4) (pac (pe_bltn (v := .ty "ValueError") rfl T.verr boot_VE rfl) pa_nil)))
            (pe_one (pe_cmpR op_eq (pem PySem.F.plainAttrs_list PySem.F.slot_list_count PySem.F.type_list_count mt_countT (pv 5) (pac pe_bl pa_nil)) pe_int (nomark _)))))))) (fun D σ H h => ?_)
        obtain ⟨b, t, s, n, x, hct, he, hl, q⟩ := h
        have h5 : ∀ v : Option V, (σ.set 5 v)[4]? = some (some (.ref ea)) := fun v => by rw [List.getElem?_set_ne (by decide)]; exact he
        have h55 : ∀ (τ : L2.St) (v : Option V), τ.length = 6 → (τ.set 5 v)[5]? = some v := fun τ v z => List.getElem?_set_self (by omega)
        refine ⟨_, he, _, _, _, rfl, rfl, x.kb, _, he, _, _, _, rfl, rfl, x.kt, _, he, _, _, _, rfl, rfl, x.ks, small (show 3 ≤ 1000 by decide), fun p1 hp1 => ?_⟩
        have g1 : Same H (upd H p1 (.lst [.bl b, .bl t, .bl s])) := same_new hp1 _
        have e1 : (upd H p1 (.lst [.bl b, .bl t, .bl s])) p1 = some (.lst [.bl b, .bl t, .bl s]) := upd_same
        generalize upd H p1 (.lst [.bl b, .bl t, .bl s]) = H1 at g1 e1 ⊢
        refine ⟨_, h55 _ _ hl, _, h5 _, _, _, _, rfl, rfl, x.kn, small (show 1 ≤ 1000 by decide), fun p2 hp2 => ?_⟩
        have g2 : Same H1 (upd H1 p2 (.lst [.bl n])) := same_new hp2 _
        have e2 : (upd H1 p2 (.lst [.bl n])) p2 = some (.lst [.bl n]) := upd_same
        generalize upd H1 p2 (.lst [.bl n]) = H2 at g2 e2 ⊢
        refine ⟨p1, p2, _, _, rfl, rfl, g2 _ _ e1, e2, small (show 4 ≤ 1000 by decide), fun p3 hp3 => ?_⟩
        have g3 : Same H2 (upd H2 p3 (.lst ([.bl b, .bl t, .bl s] ++ [.bl n]))) := same_new hp3 _
        have e3 : (upd H2 p3 (.lst ([.bl b, .bl t, .bl s] ++ [.bl n]))) p3 = some (.lst (List.map V.bl [b, t, s, n])) := upd_same
        generalize upd H2 p3 (.lst ([.bl b, .bl t, .bl s] ++ [.bl n])) = H3 at g3 e3 ⊢
        have h6 : ∀ u v : Option V, ((σ.set 5 u).set 5 v)[4]? = some (some (.ref ea)) := fun u v => by rw [List.getElem?_set_ne (by decide)]; exact h5 u
        refine ⟨_, h6 _ _, _, _, _, rfl, rfl, x.v, _, rfl, iteT ?_⟩
        refine ⟨_, h55 _ _ (by rw [List.length_set]; exact hl), .inl ⟨rfl, _, SqL.of e3⟩, p3, _, rfl, rfl, e3, rfl, ?_⟩
        rw [hct, decide_eq_true (show V.int ((1 : Nat) : Int) = V.int 1 from rfl)]
        exact q H3 ((g1.trans g2).trans g3)) ph_nil))
    (pss_one (ps_ret pe_bl)), ?_⟩
  rcases (by omega : wh = 0 ∨ wh = 1 ∨ wh = 2 ∨ wh = 3 ∨ wh = 4 ∨ wh = 5 ∨ wh = 6 ∨ wh = 7 ∨ wh = 8) with rfl | rfl | rfl | rfl | rfl | rfl | rfl | rfl | rfl
  · refine ⟨_, rfl, rfl, _, rfl, iteT ?_⟩
    exact ⟨_, rfl, _, rfl, _, rfl, b, a, c, xs, ys, rfl, hx, hy, hb, by omega, by omega, fun h H' g => ⟨CB, rfl, ref_leaf X.b rfl rfl fun H'' g' => q 1 H'' (.base h) (g.trans g')⟩, fun h n H' g => ⟨CT, rfl, ref_leaf X.t rfl rfl fun H'' g' => q 2 H'' (.tape h (by decide) n) (g.trans g')⟩, fun h t1 t2 H' g => q 0 H' (.done h (by decide) t1 t2 (fun z => absurd z (by decide)) (fun z => absurd z (by decide))) g⟩
  · refine ⟨_, rfl, rfl, _, rfl, iteF ⟨_, rfl, rfl, _, rfl, iteT ?_⟩⟩
    exact ⟨_, rfl, _, rfl, _, rfl, b, a, c, xs, ys, rfl, hx, hy, hb, by omega, by omega, fun h H' g => ⟨CB, rfl, ref_leaf X.b rfl rfl fun H'' g' => q 1 H'' (.base h) (g.trans g')⟩, fun h n H' g => ⟨CT, rfl, ref_leaf X.t rfl rfl fun H'' g' => q 2 H'' (.tape h (by decide) n) (g.trans g')⟩, fun h t1 t2 r zs H' _ _ _ g _ => q 0 H' (.done h (by decide) t1 t2 (fun z => absurd z (by decide)) (fun z => absurd z (by decide))) g⟩
  · refine ⟨_, rfl, rfl, _, rfl, iteF ⟨_, rfl, rfl, _, rfl, iteF ⟨_, rfl, rfl, _, rfl, iteT ?_⟩⟩⟩
    exact ⟨_, rfl, _, rfl, _, rfl, b, a, c, xs, ys, rfl, hx, hy, hb, by omega, by omega, fun h H' g => ⟨CB, rfl, ref_leaf X.b rfl rfl fun H'' g' => q 1 H'' (.base h) (g.trans g')⟩, fun h n H' g => ⟨CT, rfl, ref_leaf X.t rfl rfl fun H'' g' => q 2 H'' (.tape h (by decide) n) (g.trans g')⟩, fun h t1 t2 => ⟨fun hl H' g => ⟨CS, rfl, ref_leaf X.s rfl rfl fun H'' g' => q 3 H'' (.small h t1 t2 hl) (g.trans g')⟩, fun hge r zs H' _ _ _ g _ => q 0 H' (.done h (by decide) t1 t2 (fun _ => by omega) (fun z => absurd z (by decide))) g⟩⟩
  · refine ⟨_, rfl, rfl, _, rfl, iteF ⟨_, rfl, rfl, _, rfl, iteF ⟨_, rfl, rfl, _, rfl, iteF ⟨_, rfl, rfl, _, rfl, iteT ?_⟩⟩⟩⟩
    exact ⟨_, rfl, _, rfl, _, rfl, b, a, c, xs, ys, rfl, hx, hy, hb, by omega, by omega, fun h H' g => ⟨CB, rfl, ref_leaf X.b rfl rfl fun H'' g' => q 1 H'' (.base h) (g.trans g')⟩, fun h n H' g => ⟨CT, rfl, ref_leaf X.t rfl rfl fun H'' g' => q 2 H'' (.tape h (by decide) n) (g.trans g')⟩, fun h t1 t2 r zs H' _ _ _ g _ => q 0 H' (.done h (by decide) t1 t2 (fun z => absurd z (by decide)) (fun z => absurd z (by decide))) g⟩
  · refine ⟨_, rfl, rfl, _, rfl, iteF ⟨_, rfl, rfl, _, rfl, iteF ⟨_, rfl, rfl, _, rfl, iteF ⟨_, rfl, rfl, _, rfl, iteF ⟨_, rfl, rfl, _, rfl, iteT ?_⟩⟩⟩⟩⟩
    exact ⟨_, rfl, _, rfl, _, rfl, b, a, c, xs, ys, rfl, hx, hy, hb, by omega, by omega, fun h H' g => ⟨CB, rfl, ref_leaf X.b rfl rfl fun H'' g' => q 1 H'' (.base h) (g.trans g')⟩, fun h n H' g => ⟨CT, rfl, ref_leaf X.t rfl rfl fun H'' g' => q 2 H'' (.tape h (by decide) n) (g.trans g')⟩, fun h t1 t2 => ⟨fun hn H' g => ⟨CN, rfl, ref_leaf X.n rfl rfl fun H'' g' => q 4 H'' (.none h t1 t2 hn) (g.trans g')⟩, fun hne t r1 r2 us vs H' _ _ _ _ _ g _ _ _ => q 0 H' (.done h (by decide) t1 t2 (fun z => absurd z (by decide)) (fun _ => hne)) g⟩⟩
  · refine ⟨_, rfl, rfl, _, rfl, iteF ⟨_, rfl, rfl, _, rfl, iteF ⟨_, rfl, rfl, _, rfl, iteF ⟨_, rfl, rfl, _, rfl, iteF ⟨_, rfl, rfl, _, rfl, iteF ⟨_, rfl, rfl, _, rfl, iteT ?_⟩⟩⟩⟩⟩⟩
    exact ⟨_, rfl, _, rfl, b, c, ys, rfl, hy, hb, by omega, fun h H' g => ⟨CB, rfl, ref_leaf X.b rfl rfl fun H'' g' => q 1 H'' (.base h) (g.trans g')⟩, fun h n H' g => ⟨CT, rfl, ref_leaf X.t rfl rfl fun H'' g' => q 2 H'' (.tape5 h n) (g.trans g')⟩, fun h t tt r1 r2 us vs H' _ _ _ _ _ g _ _ _ => q 0 H' (.done5 h t) g⟩
  · refine ⟨_, rfl, rfl, _, rfl, iteF ⟨_, rfl, rfl, _, rfl, iteF ⟨_, rfl, rfl, _, rfl, iteF ⟨_, rfl, rfl, _, rfl, iteF ⟨_, rfl, rfl, _, rfl, iteF ⟨_, rfl, rfl, _, rfl, iteF ⟨_, rfl, rfl, _, rfl, iteT ?_⟩⟩⟩⟩⟩⟩⟩
    exact ⟨_, rfl, _, rfl, 10, a, xs, b, rfl, hx, by decide, hb, by omega, fun h H' g => ⟨CB, rfl, ref_leaf X.b rfl rfl fun H'' g' => q 1 H'' (.base (by omega)) (g.trans g')⟩, fun _ h n H' g => ⟨CT, rfl, ref_leaf X.t rfl rfl fun H'' g' => q 2 H'' (.tape6 h n) (g.trans g')⟩, fun _ h t r zs H' _ _ _ g _ => q 0 H' (.done6 h t) g⟩
  · refine ⟨_, rfl, rfl, _, rfl, iteF ⟨_, rfl, rfl, _, rfl, iteF ⟨_, rfl, rfl, _, rfl, iteF ⟨_, rfl, rfl, _, rfl, iteF ⟨_, rfl, rfl, _, rfl, iteF ⟨_, rfl, rfl, _, rfl, iteF ⟨_, rfl, rfl, _, rfl, iteF ⟨_, rfl, rfl, _, rfl, iteT ?_⟩⟩⟩⟩⟩⟩⟩⟩
    exact ⟨_, rfl, _, rfl, b, c, ys, 10, rfl, hy, hb, by decide, by omega, fun h H' g => ⟨CB, rfl, ref_leaf X.b rfl rfl fun H'' g' => q 1 H'' (.base (by omega)) (g.trans g')⟩, fun h _ n H' g => ⟨CT, rfl, ref_leaf X.t rfl rfl fun H'' g' => q 2 H'' (.tape7 h n) (g.trans g')⟩, fun h _ t r zs H' _ _ _ g _ => q 0 H' (.done7 h t) g⟩
  · refine ⟨_, rfl, rfl, _, rfl, iteF ⟨_, rfl, rfl, _, rfl, iteF ⟨_, rfl, rfl, _, rfl, iteF ⟨_, rfl, rfl, _, rfl, iteF ⟨_, rfl, rfl, _, rfl, iteF ⟨_, rfl, rfl, _, rfl, iteF ⟨_, rfl, rfl, _, rfl, iteF ⟨_, rfl, rfl, _, rfl, iteF ?_⟩⟩⟩⟩⟩⟩⟩⟩
    exact ⟨_, rfl, _, rfl, b, a, xs, 0, rfl, hx, hb, by decide, by omega, fun _ H' g => ⟨CB, rfl, ref_leaf X.b rfl rfl fun H'' g' => q 1 H'' .base8 (g.trans g')⟩, fun _ h => absurd h (by decide), fun _ h => absurd h (by decide)⟩

def spAsDue (K : PySem.W.Frag) : Sp := fun vs H Q _ => ∃ (wh b : Int) (a c : Addr) (xs ys : List Int) (u : Str), vs = [.int wh, .int b, .ref a, .ref c, .str u] ∧ 0 ≤ wh ∧ wh ≤ 8 ∧ SqL K H a (List.map V.int xs) ∧ SqL K H c (List.map V.int ys) ∧ b < 2 ^ 64 ∧ xs.length ≤ 70 ∧ ys.length ≤ 70 ∧
  (∀ k, Ends9 b xs ys wh k → word k = u) ∧ ∀ H', Same H H' → Q (.bl true) H'
theorem word_done : ∀ k : Nat, V.bl (k != 0) = V.bl (!decide (V.str (word k) = V.str "done"))
  | 0 => by decide +kernel
  | 1 => by decide +kernel
  | 2 => by decide +kernel
  | 3 => by decide +kernel
  | n + 4 => by
    have e : (n + 4 != 0) = true := rfl
    rw [e]
    show V.bl true = V.bl (!decide (V.str "none" = V.str "done"))
    decide +kernel
theorem sc_asdue : FnScope ["_law_which", "_law_base", "_law_one", "_law_two", "_law_due"] ["_law_which", "_law_base", "_law_one", "_law_two", "_law_due"] (defScope s_law_as_due) := ⟨rfl, rfl, rfl, by decide +kernel, rfl, by decide +kernel, by decide +kernel⟩
theorem ok_asdue (D : Def K mg "_law_as_due" s_law_as_due ["_law_which", "_law_base", "_law_one", "_law_two", "_law_due"]) (OR : Okf P w K mg base 16 "_law_refuses" ["_law_which", "_law_base", "_law_one", "_law_two"] (spRefuses K)) (OS : Okf P w K mg base 16 "_law_said" ["_law_which", "_law_base", "_law_one", "_law_two"] (spSaid K)) :
    Okf P w K mg base 17 "_law_as_due" ["_law_which", "_law_base", "_law_one", "_law_two", "_law_due"] (spAsDue K) := by
  obtain ⟨f, fd, F, bb, m⟩ := D
  obtain ⟨fR, dR, GR, bR, mR, kR⟩ := OR
  obtain ⟨fS, dS, GS, bS, mS, kS⟩ := OS
  refine ⟨f, fd, ?_, bb, m, F.kp⟩
  refine F.ok sc_asdue (fun vs H Q E h => ?_) (fun cdv A outer s H vs Q E hr h => ?_)
  · obtain ⟨wh, b, a, c, xs, ys, u, rfl, _⟩ := h
    rfl
  obtain ⟨wh, b, a, c, xs, ys, u, rfl, w0, w8, hx, hy, hb, lx, ly, hw, q⟩ := h
  refine ⟨_, pss_cons (ps_if (pt_cmpR op_ne (pef GR hr mR kR bR pass0 (pac (pv 0) (pac (pv 1) (pac (pv 2) (pac (pv 3) pa_nil))))) (pe_cmpR op_ne (pv 4) pe_str (nomark _)) (nomark _)) (pss_one (ps_ret pe_bl)) pss_nil)
    (pss_one (ps_ret (pe_cmpR op_eq (pef GS hr mS kS bS pass0 (pac (pv 0) (pac (pv 1) (pac (pv 2) (pac (pv 3) pa_nil))))) (pv 4) (nomark _)))), ?_⟩
  refine ⟨_, rfl, _, rfl, _, rfl, _, rfl, wh, b, a, c, xs, ys, rfl, w0, w8, hx, hy, hb, lx, ly, fun k H1 hk g1 => ?_⟩
  have hu := hw k hk
  subst hu
  refine ⟨_, rfl, rfl, rfl, _, rfl, ?_⟩
  refine iteNS (word_done k) ?_
  refine ⟨_, rfl, _, rfl, _, rfl, _, rfl, wh, b, a, c, xs, ys, rfl, w0, w8, g1.seq hx, g1.seq hy, hb, lx, ly, fun k2 H2 hk2 g2 => ?_⟩
  refine ⟨_, rfl, rfl, ?_⟩
  rw [hw k2 hk2, decide_eq_true rfl]
  exact q H2 (g1.trans g2)

def spLaw (K : PySem.W.Frag) : Sp := fun vs H Q _ => ∃ a ns, vs = [.ref a] ∧ SqL K H a (List.map V.int ns) ∧ ns.length ≤ 63 ∧ ∀ H', Q (.bl true) H'
theorem Ends9.inv {b : Int} {xs ys : List Int} {wh : Int} {k : Nat} (h : Ends9 b xs ys wh k) : (b < 2 ∧ k = 1) ∨ (wh = 8 ∧ k = 1) ∨ (2 ≤ b ∧ ((wh ≤ 4 ∧ ¬ (Tape b xs ∧ Tape b ys) ∧ k = 2) ∨ (wh = 2 ∧ Tape b xs ∧ Tape b ys ∧ worth b xs < worth b ys ∧ k = 3) ∨ (wh = 4 ∧ Tape b xs ∧ Tape b ys ∧ ys = [] ∧ k = 4) ∨
    (wh ≤ 4 ∧ Tape b xs ∧ Tape b ys ∧ (wh = 2 → ¬ worth b xs < worth b ys) ∧ (wh = 4 → ys ≠ []) ∧ k = 0) ∨ (wh = 5 ∧ ¬ Tape b ys ∧ k = 2) ∨ (wh = 5 ∧ Tape b ys ∧ k = 0) ∨ (wh = 6 ∧ ¬ Tape 10 xs ∧ k = 2) ∨ (wh = 6 ∧ Tape 10 xs ∧ k = 0) ∨ (wh = 7 ∧ ¬ Tape b ys ∧ k = 2) ∨ (wh = 7 ∧ Tape b ys ∧ k = 0))) := by
  cases h with
  | base h => exact .inl ⟨h, rfl⟩
  | tape h hw n => exact .inr (.inr ⟨h, .inl ⟨hw, n, rfl⟩⟩)
  | small h hx hy hl => exact .inr (.inr ⟨h, .inr (.inl ⟨rfl, hx, hy, hl, rfl⟩)⟩)
  | none h hx hy hn => exact .inr (.inr ⟨h, .inr (.inr (.inl ⟨rfl, hx, hy, hn, rfl⟩))⟩)
  | done h hw hx hy h2 h4 => exact .inr (.inr ⟨h, .inr (.inr (.inr (.inl ⟨hw, hx, hy, h2, h4, rfl⟩)))⟩)
  | tape5 h n => exact .inr (.inr ⟨h, .inr (.inr (.inr (.inr (.inl ⟨rfl, n, rfl⟩))))⟩)
  | done5 h n => exact .inr (.inr ⟨h, .inr (.inr (.inr (.inr (.inr (.inl ⟨rfl, n, rfl⟩)))))⟩)
  | tape6 h n => exact .inr (.inr ⟨h, .inr (.inr (.inr (.inr (.inr (.inr (.inl ⟨rfl, n, rfl⟩))))))⟩)
  | done6 h n => exact .inr (.inr ⟨h, .inr (.inr (.inr (.inr (.inr (.inr (.inr (.inl ⟨rfl, n, rfl⟩)))))))⟩)
  | tape7 h n => exact .inr (.inr ⟨h, .inr (.inr (.inr (.inr (.inr (.inr (.inr (.inr (.inl ⟨rfl, n, rfl⟩))))))))⟩)
  | done7 h n => exact .inr (.inr ⟨h, .inr (.inr (.inr (.inr (.inr (.inr (.inr (.inr (.inr ⟨rfl, n, rfl⟩))))))))⟩)
  | base8 => exact .inr (.inl ⟨rfl, rfl⟩)
/-- the six words of the first calls -/
def Six (b : Int) (xs ys : List Int) (ws : List Str) : Prop := ws.length = 6 ∧ (∀ (i : Nat) k, i ≤ 5 → Ends9 b xs ys ((i : Nat) : Int) k → ws[i]? = some (word k)) ∧ (ws[0]? = some (word 0) → 2 ≤ b ∧ Tape b xs ∧ Tape b ys)
theorem six_base {b : Int} {xs ys : List Int} (h : b < 2) : Six b xs ys ["base", "base", "base", "base", "base", "base"] := by
  refine ⟨rfl, fun i k hi e => ?_, fun z => absurd z (by decide +kernel)⟩
  rcases e.inv with ⟨_, rfl⟩ | ⟨z, _⟩ | ⟨z, _⟩
  · rcases (by omega : i = 0 ∨ i = 1 ∨ i = 2 ∨ i = 3 ∨ i = 4 ∨ i = 5) with rfl | rfl | rfl | rfl | rfl | rfl <;> rfl
  · omega
  · omega
theorem six_tape {b : Int} {xs ys : List Int} {w5 : Str} (h : 2 ≤ b) (n : ¬ (Tape b xs ∧ Tape b ys)) (h5 : ∀ k, (Tape b ys ∧ k = 0) ∨ (¬ Tape b ys ∧ k = 2) → w5 = word k) : Six b xs ys ["tape", "tape", "tape", "tape", "tape", w5] := by
  refine ⟨rfl, fun i k hi e => ?_, fun z => absurd (Option.some.inj (show some ("tape" : Str) = some (word 0) from z)) (by decide +kernel)⟩
  rcases e.inv with ⟨z, _⟩ | ⟨z, _⟩ | ⟨_, ⟨hw, _, rfl⟩ | ⟨_, hx, hy, _⟩ | ⟨_, hx, hy, _⟩ | ⟨_, hx, hy, _⟩ | ⟨e5, ny, rfl⟩ | ⟨e5, ny, rfl⟩ | ⟨z, _⟩ | ⟨z, _⟩ | ⟨z, _⟩ | ⟨z, _⟩⟩
  · omega
  · omega
  · rcases (by omega : i = 0 ∨ i = 1 ∨ i = 2 ∨ i = 3 ∨ i = 4) with rfl | rfl | rfl | rfl | rfl <;> rfl
  · exact absurd ⟨hx, hy⟩ n
  · exact absurd ⟨hx, hy⟩ n
  · exact absurd ⟨hx, hy⟩ n
  · have e : i = 5 := by omega
    subst e
    exact congrArg some (h5 2 (.inr ⟨ny, rfl⟩))
  · have e : i = 5 := by omega
    subst e
    exact congrArg some (h5 0 (.inl ⟨ny, rfl⟩))
  · omega
  · omega
  · omega
  · omega
theorem six_good {b : Int} {xs ys : List Int} {w2 w4 : Str} (h : 2 ≤ b) (tx : Tape b xs) (ty : Tape b ys) (h2 : w2 = if worth b xs < worth b ys then word 3 else word 0) (h4 : w4 = if ys = [] then word 4 else word 0) : Six b xs ys ["done", "done", w2, "done", w4, "done"] := by
  refine ⟨rfl, fun i k hi e => ?_, fun _ => ⟨h, tx, ty⟩⟩
  rcases e.inv with ⟨z, _⟩ | ⟨z, _⟩ | ⟨_, ⟨_, n, _⟩ | ⟨e2, _, _, hl, rfl⟩ | ⟨e4, _, _, hn, rfl⟩ | ⟨hw, _, _, n2, n4, rfl⟩ | ⟨_, n, _⟩ | ⟨e5, _, rfl⟩ | ⟨z, _⟩ | ⟨z, _⟩ | ⟨z, _⟩ | ⟨z, _⟩⟩
  · omega
  · omega
  · exact absurd ⟨tx, ty⟩ n
  · have e : i = 2 := by omega
    subst e
    rw [if_pos hl] at h2
    exact congrArg some h2
  · have e : i = 4 := by omega
    subst e
    rw [if_pos hn] at h4
    exact congrArg some h4
  · rcases (by omega : i = 0 ∨ i = 1 ∨ i = 2 ∨ i = 3 ∨ i = 4) with rfl | rfl | rfl | rfl | rfl
    · rfl
    · rfl
    · rw [if_neg (n2 rfl)] at h2
      exact congrArg some h2
    · rfl
    · rw [if_neg (n4 rfl)] at h4
      exact congrArg some h4
  · exact absurd ty n
  · have e : i = 5 := by omega
    subst e
    rfl
  · omega
  · omega
  · omega
  · omega
theorem str_at {ws : List Str} {i : Nat} {u : Str} (h : ws[i]? = some u) : atI (List.map V.str ws) ((i : Nat) : Int) = some (.str u) := atI_nat (by rw [List.getElem?_map, h]; rfl)
/-- the rows that the law hands in -/
def Row (xs : List Int) (n : Nat) : Prop := xs.length ≤ n ∧ ∀ x ∈ xs, -(2 ^ 64) < x ∧ x < 2 ^ 64
theorem Row.mono {xs : List Int} {m n : Nat} (h : Row xs m) (hmn : m ≤ n) : Row xs n := ⟨Nat.le_trans h.1 hmn, h.2⟩
theorem Row.app {xs ys : List Int} {m n : Nat} (h : Row xs m) (h2 : Row ys n) : Row (xs ++ ys) (m + n) := ⟨by rw [List.length_append]; have := h.1; have := h2.1; omega, fun x hx => (List.mem_append.mp hx).elim (h.2 x) (h2.2 x)⟩
theorem Row.sub {xs ys : List Int} {n : Nat} (h : Row ys n) (hl : xs.length ≤ ys.length) (hs : ∀ x ∈ xs, x ∈ ys) : Row xs n := ⟨Nat.le_trans hl h.1, fun x hx => h.2 x (hs x hx)⟩
theorem Row.one {x : Int} (h : -(2 ^ 64) < x ∧ x < 2 ^ 64) : Row [x] 1 := ⟨Nat.le_refl _, fun y hy => by rw [List.mem_singleton.mp hy]; exact h⟩
theorem sc_law : FnScope ["_law_script", "_law_way", "_law_base", "_law_one", "_law_two", "_law_spoilt", "_law_due", "_law_last", "_law_which", "_law_found", "_law_gap"] ["_law_script"] (defScope s_law) := ⟨rfl, rfl, rfl, by decide +kernel, rfl, by decide +kernel, by decide +kernel⟩
theorem ok_law {f : Addr} {fd : FuncData} (F : Fun K "law" "law" s_law f fd) (T : Own mg)
    (OX : Okf P w K mg base 1 "_law_mixed" ["_law_script"] (spMixed K)) (OA : Okf P w K mg base 1 "_law_at" ["_law_script", "_law_k"] (spAt K)) (OB : Okf P w K mg base 1 "_law_base_by" ["_law_cell"] spBase)
    (O2 : Okf P w K mg base 2 "_law_two_by" ["_law_script", "_law_base"] (spTwo K)) (OG : Okf P w K mg base 1 "_law_good" ["_law_base", "_law_tape"] (spGood K)) (OH : Okf P w K mg base 1 "_law_whole" ["_law_found"] spWhole)
    (OW : Okf P w K mg base 1 "_law_worth_of" ["_law_base", "_law_tape"] (spWorth K)) (OD : Okf P w K mg base 17 "_law_as_due" ["_law_which", "_law_base", "_law_one", "_law_two", "_law_due"] (spAsDue K)) {CB CT : Addr} (OC : Okx P w K mg base 15 "compared" ["base", "one", "two"] (spCompared K CB CT)) :
    FnOk P w K mg base CX0 20 f fd ["_law_script"] (spLaw K) := by
  obtain ⟨fX, dX, GX, bX, mX, kX⟩ := OX
  obtain ⟨fA, dA, GA, bA, mA, kA⟩ := OA
  obtain ⟨fB, dB, GB, bB, mB, kB⟩ := OB
  obtain ⟨f2, d2, G2, b2, m2, k2⟩ := O2
  obtain ⟨fG, dG, GG, bG, mG, kG⟩ := OG
  obtain ⟨fH, dH, GH, bH, mH, kH⟩ := OH
  obtain ⟨fW, dW, GW, bW, mW, kW⟩ := OW
  obtain ⟨fD, dD, GD, bD, mD, kD⟩ := OD
  obtain ⟨fC, dC, GC, bC, mC, kC⟩ := OC
  refine F.ok sc_law (fun vs H Q E h => ?_) (fun cdv A outer s H vs Q E hr h => ?_)
  · obtain ⟨a, ns, rfl, _⟩ := h
    rfl
  obtain ⟨a, ns, rfl, hS, hl, q⟩ := h
  have hu := hr.units0
  have hr1 : Room 1 _ := hr.mono (by decide)
  have hr2 : Room 2 _ := hr.mono (by decide)
  have hr15 : Room 15 _ := hr.mono (by decide)
  have hr17 : Room 17 _ := hr.mono (by decide)
  -- from the nine words on
  have tailB : ∃ t, PSs (cxOf CX0 P w K mg base ["_law_script", "_law_way", "_law_base", "_law_one", "_law_two", "_law_spoilt", "_law_due", "_law_last", "_law_which", "_law_found", "_law_gap"] "law" (defScope s_law) f cdv A outer s H E).nox (List.drop 15 (defBody s_law)) t ∧
      ∀ (s0 s1 s5 : Option V) (b : Int) (r1 r2 rd : Addr) (xs ys : List Int) (ws : List Str) (w6 : Str) (H3 : Hp), -(2 ^ 64) < b → b < 2 ^ 64 → Row xs 40 → Row ys 40 → H3 r1 = some (.lst (List.map V.int xs)) → H3 r2 = some (.lst (List.map V.int ys)) → H3 rd = some (.lst (List.map V.str ws)) → Six b xs ys ws →
        (∀ k, Ends9 b xs ys 6 k → w6 = word k) → t { nx := fun _ H' => Q .non H', rt := Q } [s0, s1, some (.int b), some (.ref r1), some (.ref r2), s5, some (.ref rd), some (.str w6), none, none, none] H3 := by
    refine ⟨_, pss_cons (ps_set (i := 6) sc_law.nd rfl (Or.inl rfl) (pe_op op_cat (pv 6) (pe_lst (pac (pv 7) (pac (pe_atc (pv 6)) (pac pe_str pa_nil))))))
      (pss_cons (ps_for PassesOwn.never rfl (pi_range1 rfl T.range (pac pe_int pa_nil)) (pg_name (i := 8) sc_law.nd rfl (Or.inl rfl))
        (pss_one (ps_if (pt_not (pt_val (pef GD hr17 mD kD bD pass0 (pac (pv 8) (pac (pv 2) (pac (pe_list T.list (pv 3)) (pac (pe_list T.list (pv 4)) (pac (pe_atn (pv 6) (pv 8)) pa_nil)))))))) (pss_one (ps_ret pe_bl)) pss_nil)))
      (pss_cons (ps_if (pt_cmpR op_ne (pe_atc (pv 6)) pe_str (nomark _)) (pss_one (ps_ret pe_bl)) pss_nil)
      (pss_cons (ps_set (i := 9) sc_law.nd rfl (Or.inl rfl) (pef GC hr15 mC kC bC passF (pac (pv 2) (pac (pe_list T.list (pv 3)) (pac (pe_list T.list (pv 4)) pa_nil)))))
      (pss_cons (ps_set (i := 10) sc_law.nd rfl (Or.inl rfl) (pe_op op_sub (pef GW hr1 mW kW bW pass0 (pac (pv 2) (pac (pv 3) pa_nil))) (pef GW hr1 mW kW bW pass0 (pac (pv 2) (pac (pv 4) pa_nil)))))
      (pss_one (ps_ret (pe_and (pef GH hr1 mH kH bH pass0 (pac (pv 9) pa_nil)) (pe_one (pe_cmpR op_eq (pv 9) (pe_op op_sub (pety call_int1 T.int PyProof.Rows.boot_int (pac (pe_cmpR op_gt (pv 10) pe_int (nomark _)) pa_nil)) (pety call_int1 T.int PyProof.Rows.boot_int (pac (pe_cmpR op_lt (pv 10) pe_int (nomark _)) pa_nil))) (nomark _)))))))))), ?_⟩
    intro s0 s1 s5 b r1 r2 rd xs ys ws w6 H3 hb0 hb2 Rx Ry e1 e2 ed six h6
    obtain ⟨lw, hw, hw0⟩ := six
    have l5 : 5 < ws.length := by omega
    have e5 : ws[5]? = some ws[5] := List.getElem?_eq_getElem l5
    have l0 : 0 < ws.length := by omega
    have e0 : ws[0]? = some ws[0] := List.getElem?_eq_getElem l0
    refine ⟨_, rfl, _, rfl, _, rfl, rd, _, _, _, rfl, rfl, SqL.of ed, str_at e5, small (show 3 ≤ 1000 by decide), fun p1 hp1 => ?_⟩
    have g1 : Same H3 (upd H3 p1 (.lst [.str w6, .str ws[5], .str "base"])) := same_new hp1 _
    have f1 : (upd H3 p1 (.lst [.str w6, .str ws[5], .str "base"])) p1 = some (.lst (List.map V.str [w6, ws[5], "base"])) := upd_same
    generalize upd H3 p1 (.lst [.str w6, .str ws[5], .str "base"]) = H4 at g1 f1 ⊢
    refine ⟨rd, p1, _, _, rfl, rfl, g1 _ _ ed, f1, ?_, fun p2 hp2 => ?_⟩
    · rw [List.length_map]
      exact Nat.le_of_lt (small1000 (show ws.length + 3 ≤ 1000 by omega))
    rw [← List.map_append]
    have g2 : Same H4 (upd H4 p2 (.lst (List.map V.str (ws ++ [w6, ws[5], "base"])))) := same_new hp2 _
    have f2 : (upd H4 p2 (.lst (List.map V.str (ws ++ [w6, ws[5], "base"])))) p2 = some (.lst (List.map V.str (ws ++ [w6, ws[5], "base"]))) := upd_same
    generalize upd H4 p2 (.lst (List.map V.str (ws ++ [w6, ws[5], "base"]))) = H5 at g2 f2 ⊢
    have g5 := g1.trans g2
    -- the nine words
    have nine : ∀ (i : Nat) (k : Nat), i < 9 → Ends9 b xs ys ((i : Nat) : Int) k → (ws ++ [w6, ws[5], "base"])[i]? = some (word k) := by
      intro i k hi e
      rcases Nat.lt_or_ge i 6 with z | z
      · rw [List.getElem?_append_left (by omega)]
        exact hw i k (by omega) e
      · rw [List.getElem?_append_right (by omega), lw]
        rcases (by omega : i = 6 ∨ i = 7 ∨ i = 8) with rfl | rfl | rfl
        · exact congrArg some (h6 k e)
        · have e7 : Ends9 b xs ys ((5 : Nat) : Int) k := by
            rcases e.inv with ⟨h, rfl⟩ | ⟨z, _⟩ | ⟨h, ⟨z, _⟩ | ⟨z, _⟩ | ⟨z, _⟩ | ⟨z, _⟩ | ⟨z, _⟩ | ⟨z, _⟩ | ⟨z, _⟩ | ⟨z, _⟩ | ⟨_, n, rfl⟩ | ⟨_, n, rfl⟩⟩
            · exact .base h
            · omega
            · omega
            · omega
            · omega
            · omega
            · omega
            · omega
            · omega
            · omega
            · exact .tape5 h n
            · exact .done5 h n
          have := hw 5 k (by omega) e7
          rw [e5] at this
          exact this
        · have ek : k = 1 := by
            rcases e.inv with ⟨_, h⟩ | ⟨_, h⟩ | ⟨_, ⟨z, _⟩ | ⟨z, _⟩ | ⟨z, _⟩ | ⟨z, _⟩ | ⟨z, _⟩ | ⟨z, _⟩ | ⟨z, _⟩ | ⟨z, _⟩ | ⟨z, _⟩ | ⟨z, _⟩⟩
            · exact h
            · exact h
            all_goals omega
          subst ek
          rfl
    have n0 : (ws ++ [w6, ws[5], "base"])[0]? = some ws[0] := by rw [List.getElem?_append_left l0]; exact e0
    have ln : (ws ++ [w6, ws[5], "base"]).length = 9 := by rw [List.length_append, lw]; rfl
    generalize ws ++ [w6, ws[5], "base"] = vs at f2 nine n0 ln
    refine ⟨9, rfl, by decide, by decide, for_range (lo := 0) (n := 9) (fun i σ H6 => (∃ g, σ = [s0, s1, some (.int b), some (.ref r1), some (.ref r2), s5, some (.ref p2), some (.str w6), g, none, none]) ∧ Same H5 H6) ⟨⟨none, rfl⟩, Same.refl _⟩ ?_ ?_⟩
    · rintro i σ H6 hi ⟨⟨g, rfl⟩, g6⟩
      have ei : (0 : Int) + ((i : Nat) : Int) = ((i : Nat) : Int) := by omega
      rw [ei]
      have li : i < vs.length := by omega
      have evi : vs[i]? = some vs[i] := List.getElem?_eq_getElem li
      have g36 := g5.trans g6
      refine ⟨_, rfl, _, rfl, _, rfl, r1, _, rfl, .inl (SqL.of (g36 _ _ e1)), fun c1 hc1 => ?_⟩
      have g7 : Same H6 (upd H6 c1 (.lst (List.map V.int xs))) := same_new hc1 _
      have f7 : (upd H6 c1 (.lst (List.map V.int xs))) c1 = some (.lst (List.map V.int xs)) := upd_same
      generalize upd H6 c1 (.lst (List.map V.int xs)) = H7 at g7 f7 ⊢
      refine ⟨_, rfl, r2, _, rfl, .inl (SqL.of (g7 _ _ (g36 _ _ e2))), fun c2 hc2 => ?_⟩
      have g8 : Same H7 (upd H7 c2 (.lst (List.map V.int ys))) := same_new hc2 _
      have f8 : (upd H7 c2 (.lst (List.map V.int ys))) c2 = some (.lst (List.map V.int ys)) := upd_same
      generalize upd H7 c2 (.lst (List.map V.int ys)) = H8 at g8 f8 ⊢
      have g68 := g6.trans (g7.trans g8)
      refine ⟨_, rfl, _, rfl, p2, _, _, _, rfl, rfl, SqL.of (g68 _ _ f2), str_at evi, ?_⟩
      refine ⟨((i : Nat) : Int), b, c1, c2, xs, ys, vs[i], rfl, by omega, by omega, SqL.of (g8 _ _ f7), SqL.of f8, hb2, by have := Rx.1; omega, by have := Ry.1; omega, fun k hk => ?_, fun H9 g9 => ⟨_, rfl, iteF ⟨⟨_, rfl⟩, g68.trans g9⟩⟩⟩
      have := nine i k hi hk
      rw [evi] at this
      exact (Option.some.inj this).symm
    · rintro σ H6 ⟨⟨g, rfl⟩, g6⟩
      have g36 := g5.trans g6
      refine ⟨_, rfl, p2, _, _, _, rfl, rfl, SqL.of (g6 _ _ f2), str_at n0, rfl, _, rfl, ?_⟩
      by_cases hd : ws[0] = "done"
      · obtain ⟨hb, tx, ty⟩ := hw0 (by rw [e0, hd]; rfl)
        refine iteNS (by rw [hd]) ?_
        refine ⟨_, rfl, _, rfl, r1, _, rfl, .inl (SqL.of (g36 _ _ e1)), fun c1 hc1 => ?_⟩
        have g7 : Same H6 (upd H6 c1 (.lst (List.map V.int xs))) := same_new hc1 _
        have f7 : (upd H6 c1 (.lst (List.map V.int xs))) c1 = some (.lst (List.map V.int xs)) := upd_same
        generalize upd H6 c1 (.lst (List.map V.int xs)) = H7 at g7 f7 ⊢
        refine ⟨_, rfl, r2, _, rfl, .inl (SqL.of (g7 _ _ (g36 _ _ e2))), fun c2 hc2 => ?_⟩
        have g8 : Same H7 (upd H7 c2 (.lst (List.map V.int ys))) := same_new hc2 _
        have f8 : (upd H7 c2 (.lst (List.map V.int ys))) c2 = some (.lst (List.map V.int ys)) := upd_same
        generalize upd H7 c2 (.lst (List.map V.int ys)) = H8 at g8 f8 ⊢
        have g38 := g36.trans (g7.trans g8)
        refine ⟨b, c1, c2, xs, ys, rfl, SqL.of (g8 _ _ f7), SqL.of f8, hb2, by have := Rx.1; omega, by have := Ry.1; omega, no2 hb, noT tx ty, fun _ _ _ H9 g9 => ?_⟩
        have g39 := g38.trans g9
        have hb64 : -(2 ^ 64) < b ∧ b < 2 ^ 64 := ⟨hb0, hb2⟩
        refine ⟨_, rfl, _, rfl, b, r1, xs, rfl, SqL.of (g39 _ _ e1), hb64, Rx.2, _, rfl, _, rfl, b, r2, ys, rfl, SqL.of (g39 _ _ e2), hb64, Ry.2, _, _, rfl, rfl, ?_⟩
        refine ⟨_, rfl, _, rfl, _, rfl, iteT ⟨_, rfl, ?_⟩⟩
        refine ⟨_, rfl, _, _, rfl, rfl, .inr ⟨_, rfl, ?_⟩⟩
        refine ⟨_, rfl, _, _, rfl, rfl, .inr ⟨_, rfl, ?_⟩⟩
        refine ⟨_, _, rfl, rfl, rfl, ?_⟩
        have fin : ord (worth b xs) (worth b ys) = (if decide (0 < worth b xs - worth b ys) = true then (1 : Int) else 0) - (if decide (worth b xs - worth b ys < 0) = true then (1 : Int) else 0) := by
          rcases Int.lt_trichotomy (worth b xs) (worth b ys) with z | z | z
          · rw [ord_lt z, decide_eq_false (by omega), decide_eq_true (by omega)]; rfl
          · rw [z, ord_eq, decide_eq_false (by omega), decide_eq_false (by omega)]; rfl
          · rw [ord_gt z, decide_eq_true (by omega), decide_eq_false (by omega)]; rfl
        rw [decide_eq_true (congrArg V.int fin)]
        exact q _
      · rw [decide_eq_false (fun z => hd (V.str.inj z))]
        exact iteT (q _)
  obtain ⟨tB, htB, qB⟩ := tailB
  -- from the six words on
  have tailA : ∃ t, PSs (cxOf CX0 P w K mg base ["_law_script", "_law_way", "_law_base", "_law_one", "_law_two", "_law_spoilt", "_law_due", "_law_last", "_law_which", "_law_found", "_law_gap"] "law" (defScope s_law) f cdv A outer s H E).nox (List.drop 13 (defBody s_law)) t ∧
      ∀ (s0 s1 s5 : Option V) (b : Int) (r1 r2 rd : Addr) (xs ys : List Int) (ws : List Str) (H3 : Hp), -(2 ^ 64) < b → b < 2 ^ 64 → Row xs 40 → Row ys 40 → H3 r1 = some (.lst (List.map V.int xs)) → H3 r2 = some (.lst (List.map V.int ys)) → H3 rd = some (.lst (List.map V.str ws)) → Six b xs ys ws →
        t { nx := fun _ H' => Q .non H', rt := Q } [s0, s1, some (.int b), some (.ref r1), some (.ref r2), s5, some (.ref rd), none, none, none, none] H3 := by
    refine ⟨_, pss_cons (ps_set (i := 7) sc_law.nd rfl (Or.inl rfl) (pe_ix ix_list (pe_lst (pac pe_str (pac pe_str pa_nil))) (pety call_int1 T.int PyProof.Rows.boot_int (pac (pe_not (pef GG hr1 mG kG bG pass0 (pac pe_int (pac (pv 3) pa_nil)))) pa_nil)) (fun _ _ => rfl)))
      (pss_cons (ps_if (pt_cmpR op_lt (pv 2) pe_int (nomark _)) (pss_one (ps_set (i := 7) sc_law.nd rfl (Or.inl rfl) pe_str)) pss_nil) htB), ?_⟩
    intro s0 s1 s5 b r1 r2 rd xs ys ws H3 hb0 hb2 Rx Ry e1 e2 ed six
    refine ⟨small (show 2 ≤ 1000 by decide), fun p1 hp1 => ?_⟩
    have g1 : Same H3 (upd H3 p1 (.lst [.str "done", .str "tape"])) := same_new hp1 _
    have f1 : (upd H3 p1 (.lst [.str "done", .str "tape"])) p1 = some (.lst (List.map V.str ["done", "tape"])) := upd_same
    generalize upd H3 p1 (.lst [.str "done", .str "tape"]) = H4 at g1 f1 ⊢
    refine ⟨_, rfl, 10, r1, xs, rfl, SqL.of (g1 _ _ e1), fun k H5 hk g5 => ⟨_, rfl, .inr ⟨_, rfl, ?_⟩⟩⟩
    have g35 := g1.trans g5
    have next : ∀ w6 : Str, (∀ k, 2 ≤ b → Ends9 b xs ys 6 k → w6 = word k) → (tSeq (tIfS (tTest (tOp (rI0 fun i j => .bl (decide (i < j))) (tVar 2) (tC (.int 2)))) (tAsg (tC (.str "base")) (gName 7)) tNext) tB) { nx := fun _ H' => Q .non H', rt := Q } [s0, s1, some (.int b), some (.ref r1), some (.ref r2), s5, some (.ref rd), some (.str w6), none, none, none] H5 := by
      intro w6 h6
      refine ⟨_, rfl, _, _, rfl, rfl, _, rfl, ?_⟩
      by_cases hb : b < 2
      · rw [decide_eq_true hb]
        refine iteT (qB s0 s1 s5 b r1 r2 rd xs ys ws "base" H5 hb0 hb2 Rx Ry (g35 _ _ e1) (g35 _ _ e2) (g35 _ _ ed) six fun k e => ?_)
        rcases e.inv with ⟨_, rfl⟩ | ⟨z, _⟩ | ⟨z, _⟩
        · rfl
        · omega
        · omega
      · rw [decide_eq_false hb]
        exact iteF (qB s0 s1 s5 b r1 r2 rd xs ys ws w6 H5 hb0 hb2 Rx Ry (g35 _ _ e1) (g35 _ _ e2) (g35 _ _ ed) six fun k e => h6 k (by omega) e)
    have inv6 : ∀ k, 2 ≤ b → Ends9 b xs ys 6 k → (¬ Tape 10 xs ∧ k = 2) ∨ (Tape 10 xs ∧ k = 0) := fun k hb e => by
      rcases e.inv with ⟨z, _⟩ | ⟨z, _⟩ | ⟨_, ⟨z, _⟩ | ⟨z, _⟩ | ⟨z, _⟩ | ⟨z, _⟩ | ⟨z, _⟩ | ⟨z, _⟩ | ⟨_, n, h⟩ | ⟨_, n, h⟩ | ⟨z, _⟩ | ⟨z, _⟩⟩
      · omega
      · omega
      · omega
      · omega
      · omega
      · omega
      · omega
      · omega
      · exact .inl ⟨n, h⟩
      · exact .inr ⟨n, h⟩
      · omega
      · omega
    cases k with
    | true =>
      have t10 := hk.mp rfl
      refine ⟨p1, _, _, _, rfl, rfl, SqL.of (g5 _ _ f1), rfl, next "done" fun k hb e => ?_⟩
      rcases inv6 k hb e with ⟨n, _⟩ | ⟨_, rfl⟩
      · exact absurd t10 n
      · rfl
    | false =>
      have t10 : ¬ Tape 10 xs := fun z => Bool.noConfusion (hk.mpr z)
      refine ⟨p1, _, _, _, rfl, rfl, SqL.of (g5 _ _ f1), rfl, next "tape" fun k hb e => ?_⟩
      rcases inv6 k hb e with ⟨_, rfl⟩ | ⟨n, _⟩
      · rfl
      · exact absurd n t10
  obtain ⟨tA, htA, qA⟩ := tailA
  -- the words are chosen
  have tailC : ∃ t, PSs (cxOf CX0 P w K mg base ["_law_script", "_law_way", "_law_base", "_law_one", "_law_two", "_law_spoilt", "_law_due", "_law_last", "_law_which", "_law_found", "_law_gap"] "law" (defScope s_law) f cdv A outer s H E).nox (List.drop 11 (defBody s_law)) t ∧
      ∀ (s0 s1 s5 : Option V) (b : Int) (r1 r2 : Addr) (xs ys : List Int) (H3 : Hp), -(2 ^ 64) < b → b < 2 ^ 64 → Row xs 40 → Row ys 40 → H3 r1 = some (.lst (List.map V.int xs)) → H3 r2 = some (.lst (List.map V.int ys)) →
        t { nx := fun _ H' => Q .non H', rt := Q } [s0, s1, some (.int b), some (.ref r1), some (.ref r2), s5, none, none, none, none, none] H3 := by
    refine ⟨_, pss_cons (ps_set (i := 6) sc_law.nd rfl (Or.inl rfl) (pe_op op_rep (pe_lst (pac pe_str pa_nil)) pe_int))
      (pss_cons (ps_if (pt_cmpR op_lt (pv 2) pe_int (nomark _)) (pss_one (ps_set (i := 6) sc_law.nd rfl (Or.inl rfl) (pe_op op_rep (pe_lst (pac pe_str pa_nil)) pe_int)))
        (pss_one (ps_if (PW.pt (pw_or (pt_not (pt_val (pef GG hr1 mG kG bG pass0 (pac (pv 2) (pac (pv 3) pa_nil))))) (pw_or1 (pt_not (pt_val (pef GG hr1 mG kG bG pass0 (pac (pv 2) (pac (pv 4) pa_nil))))))))
          (pss_one (ps_set (i := 6) sc_law.nd rfl (Or.inl rfl) (pe_op op_cat (pe_op op_rep (pe_lst (pac pe_str pa_nil)) pe_int) (pe_lst (pac (pe_ix ix_list (pe_lst (pac pe_str (pac pe_str pa_nil))) (pety call_int1 T.int PyProof.Rows.boot_int (pac (pef GG hr1 mG kG bG pass0 (pac (pv 2) (pac (pv 4) pa_nil))) pa_nil)) (fun _ _ => rfl)) pa_nil)))))
          (pss_cons (ps_asg (pe_ix ix_list (pe_lst (pac pe_str (pac pe_str pa_nil))) (pety call_int1 T.int PyProof.Rows.boot_int (pac (pe_cmpR (op_eqN hu) (pv 4) (pe_lst pa_nil) (nomark _)) pa_nil)) (fun _ _ => rfl)) (pg_sub (pv 6) pe_int set_list))
          (pss_one (ps_if (pt_cmpR op_lt (pef GW hr1 mW kW bW pass0 (pac (pv 2) (pac (pv 3) pa_nil))) (pef GW hr1 mW kW bW pass0 (pac (pv 2) (pac (pv 4) pa_nil))) (nomark _)) (pss_one (ps_asg pe_str (pg_sub (pv 6) pe_int set_list))) pss_nil))))))
      htA), ?_⟩
    intro s0 s1 s5 b r1 r2 xs ys H3 hb0 hb2 Rx Ry e1 e2
    have hb64 : -(2 ^ 64) < b ∧ b < 2 ^ 64 := ⟨hb0, hb2⟩
    refine ⟨small (show 1 ≤ 1000 by decide), fun p1 hp1 => ?_⟩
    have g1 : Same H3 (upd H3 p1 (.lst [.str "done"])) := same_new hp1 _
    have f1 : (upd H3 p1 (.lst [.str "done"])) p1 = some (.lst [.str "done"]) := upd_same
    generalize upd H3 p1 (.lst [.str "done"]) = H4 at g1 f1 ⊢
    refine ⟨p1, 6, _, rfl, rfl, f1, by decide, by decide, small (show 6 ≤ 1000 by decide), fun p2 hp2 => ?_⟩
    have g2 : Same H4 (upd H4 p2 (.lst (List.replicate (6 : Int).toNat [V.str "done"]).flatten)) := same_new hp2 _
    have f2 : (upd H4 p2 (.lst (List.replicate (6 : Int).toNat [V.str "done"]).flatten)) p2 = some (.lst (List.map V.str ["done", "done", "done", "done", "done", "done"])) := upd_same
    generalize upd H4 p2 (.lst (List.replicate (6 : Int).toNat [V.str "done"]).flatten) = H5 at g2 f2 ⊢
    have g35 := g1.trans g2
    have hp2H : H3 p2 = none := g1.free hp2
    refine ⟨_, rfl, _, _, rfl, rfl, _, rfl, ?_⟩
    by_cases hb : b < 2
    · rw [decide_eq_true hb]
      refine iteT ⟨small (show 1 ≤ 1000 by decide), fun p3 hp3 => ?_⟩
      have g3 : Same H5 (upd H5 p3 (.lst [.str "base"])) := same_new hp3 _
      have f3 : (upd H5 p3 (.lst [.str "base"])) p3 = some (.lst [.str "base"]) := upd_same
      generalize upd H5 p3 (.lst [.str "base"]) = H6 at g3 f3 ⊢
      refine ⟨p3, 6, _, rfl, rfl, f3, by decide, by decide, small (show 6 ≤ 1000 by decide), fun p4 hp4 => ?_⟩
      have g4 : Same H3 (upd H6 p4 (.lst (List.replicate (6 : Int).toNat [V.str "base"]).flatten)) := (g35.trans g3).trans (same_new hp4 _)
      exact qA s0 s1 s5 b r1 r2 p4 xs ys ["base", "base", "base", "base", "base", "base"] _ hb0 hb2 Rx Ry (g4 _ _ e1) (g4 _ _ e2) upd_same (six_base hb)
    · rw [decide_eq_false hb]
      have hb : 2 ≤ b := by omega
      refine iteF ?_
      -- no tape
      have bad : ∀ H6, Same H5 H6 → ¬ (Tape b xs ∧ Tape b ys) → (tAsg (tOp rCat (tOp rRep (tLst (tCons (tC (.str "tape")) tNil)) (tC (.int 5))) (tLst (tCons (tOp (rIxL K) (tLst (tCons (tC (.str "tape")) (tCons (tC (.str "done")) tNil))) (tCB (fun xs H Q => (∃ i, xs = [.int i] ∧ Q (.int i) H) ∨ ∃ k, xs = [.bl k] ∧ Q (.int (if k then 1 else 0)) H) (tCons (tCall (spGood K) [] E0 (tCons (tVar 2) (tCons (tVar 4) tNil))) tNil))) tNil))) (gName 6))
          { nx := tA { nx := fun _ H' => Q .non H', rt := Q }, rt := Q } [s0, s1, some (.int b), some (.ref r1), some (.ref r2), s5, some (.ref p2), none, none, none, none] H6 := by
        intro H6 g6 nt
        refine ⟨small (show 1 ≤ 1000 by decide), fun p3 hp3 => ?_⟩
        have g3 : Same H6 (upd H6 p3 (.lst [.str "tape"])) := same_new hp3 _
        have f3 : (upd H6 p3 (.lst [.str "tape"])) p3 = some (.lst [.str "tape"]) := upd_same
        generalize upd H6 p3 (.lst [.str "tape"]) = H7 at g3 f3 ⊢
        refine ⟨p3, 5, _, rfl, rfl, f3, by decide, by decide, small (show 5 ≤ 1000 by decide), fun p4 hp4 => ?_⟩
        have g4 : Same H7 (upd H7 p4 (.lst (List.replicate (5 : Int).toNat [V.str "tape"]).flatten)) := same_new hp4 _
        have f4 : (upd H7 p4 (.lst (List.replicate (5 : Int).toNat [V.str "tape"]).flatten)) p4 = some (.lst (List.map V.str ["tape", "tape", "tape", "tape", "tape"])) := upd_same
        generalize upd H7 p4 (.lst (List.replicate (5 : Int).toNat [V.str "tape"]).flatten) = H8 at g4 f4 ⊢
        refine ⟨small (show 2 ≤ 1000 by decide), fun p5 hp5 => ?_⟩
        have g5 : Same H8 (upd H8 p5 (.lst [.str "tape", .str "done"])) := same_new hp5 _
        have f5 : (upd H8 p5 (.lst [.str "tape", .str "done"])) p5 = some (.lst (List.map V.str ["tape", "done"])) := upd_same
        generalize upd H8 p5 (.lst [.str "tape", .str "done"]) = H9 at g5 f5 ⊢
        have g39 := g35.trans (g6.trans (g3.trans (g4.trans g5)))
        refine ⟨_, rfl, _, rfl, b, r2, ys, rfl, SqL.of (g39 _ _ e2), fun k H10 hk g10 => .inr ⟨_, rfl, ?_⟩⟩
        have rest : ∀ w5 : Str, (∀ k, (Tape b ys ∧ k = 0) ∨ (¬ Tape b ys ∧ k = 2) → w5 = word k) → ([V.str w5].length ≤ sizeLine ∧ ∀ p, H10 p = none → rCat (.ref p4) (.ref p) (upd H10 p (.lst [.str w5])) fun v H1 => tA { nx := fun _ H' => Q .non H', rt := Q } [s0, s1, some (.int b), some (.ref r1), some (.ref r2), s5, some v, none, none, none, none] H1) := by
          intro w5 h5
          refine ⟨small (show 1 ≤ 1000 by decide), fun p6 hp6 => ?_⟩
          have g11 : Same H10 (upd H10 p6 (.lst [.str w5])) := same_new hp6 _
          have f11 : (upd H10 p6 (.lst [.str w5])) p6 = some (.lst (List.map V.str [w5])) := upd_same
          generalize upd H10 p6 (.lst [.str w5]) = H11 at g11 f11 ⊢
          refine ⟨p4, p6, _, _, rfl, rfl, g11 _ _ (g10 _ _ (g5 _ _ f4)), f11, small (show 6 ≤ 1000 by decide), fun p7 hp7 => ?_⟩
          have g12 := (g39.trans (g10.trans g11)).trans (same_new hp7 (.lst (List.map V.str ["tape", "tape", "tape", "tape", "tape"] ++ List.map V.str [w5])))
          exact qA s0 s1 s5 b r1 r2 p7 xs ys ["tape", "tape", "tape", "tape", "tape", w5] _ hb0 hb2 Rx Ry (g12 _ _ e1) (g12 _ _ e2) upd_same (six_tape hb nt h5)
        cases k with
        | true =>
          have ty := hk.mp rfl
          refine ⟨p5, _, _, _, rfl, rfl, SqL.of (g10 _ _ f5), rfl, rest "done" fun k h => ?_⟩
          rcases h with ⟨_, rfl⟩ | ⟨n, _⟩
          · rfl
          · exact absurd ty n
        | false =>
          have ty : ¬ Tape b ys := fun z => Bool.noConfusion (hk.mpr z)
          refine ⟨p5, _, _, _, rfl, rfl, SqL.of (g10 _ _ f5), rfl, rest "tape" fun k h => ?_⟩
          rcases h with ⟨n, _⟩ | ⟨_, rfl⟩
          · exact absurd n ty
          · rfl
      refine ⟨_, rfl, _, rfl, b, r1, xs, rfl, SqL.of (g35 _ _ e1), fun k1 H6 hk1 g6 => ⟨_, rfl, ?_⟩⟩
      cases k1 with
      | false => exact iteT (iteT (bad H6 g6 fun z => Bool.noConfusion (hk1.mpr z.1)))
      | true =>
        have tx := hk1.mp rfl
        refine iteF ⟨_, rfl, _, rfl, b, r2, ys, rfl, SqL.of (g6 _ _ (g35 _ _ e2)), fun k2 H7 hk2 g7 => ⟨_, rfl, ?_⟩⟩
        cases k2 with
        | false => exact iteT (bad H7 (g6.trans g7) fun z => Bool.noConfusion (hk2.mpr z.2))
        | true =>
          have ty := hk2.mp rfl
          have g37 := g35.trans (g6.trans g7)
          have f7 := g7 _ _ (g6 _ _ f2)
          refine iteF ⟨small (show 2 ≤ 1000 by decide), fun p3 hp3 => ?_⟩
          have g8 : Same H7 (upd H7 p3 (.lst [.str "done", .str "none"])) := same_new hp3 _
          have f8 : (upd H7 p3 (.lst [.str "done", .str "none"])) p3 = some (.lst (List.map V.str ["done", "none"])) := upd_same
          generalize upd H7 p3 (.lst [.str "done", .str "none"]) = H8 at g8 f8 ⊢
          refine ⟨_, rfl, small (show 0 ≤ 1000 by decide), fun p4 hp4 => ?_⟩
          have g9 : Same H8 (upd H8 p4 (.lst [])) := same_new hp4 _
          have f9 : (upd H8 p4 (.lst [])) p4 = some (.lst []) := upd_same
          generalize upd H8 p4 (.lst []) = H9 at g9 f9 ⊢
          have g39 := g37.trans (g8.trans g9)
          refine ⟨r2, p4, _, rfl, rfl, SqL.of (g39 _ _ e2), SqL.of f9, .inr ⟨_, rfl, ?_⟩⟩
          rw [map_empty]
          -- due[4], due[2]
          have rest : ∀ w4 : Str, (w4 = if ys = [] then word 4 else word 0) → gSub (tVar 6) (tC (.int 4)) rSetL (.str w4) [s0, s1, some (.int b), some (.ref r1), some (.ref r2), s5, some (.ref p2), none, none, none, none] H9
              ((tIfS (tTest (tOp (rI0 fun i j => .bl (decide (i < j))) (tCall (spWorth K) [] E0 (tCons (tVar 2) (tCons (tVar 3) tNil))) (tCall (spWorth K) [] E0 (tCons (tVar 2) (tCons (tVar 4) tNil))))) (tAsg (tC (.str "small")) (gSub (tVar 6) (tC (.int 2)) rSetL)) tNext) { nx := tA { nx := fun _ H' => Q .non H', rt := Q }, rt := Q }) := by
            intro w4 h4
            refine ⟨_, rfl, p2, _, _, 4, rfl, rfl, g9 _ _ (g8 _ _ f7), rfl, ?_⟩
            have g10 : Same H3 (upd H9 p2 (.lst ((List.map V.str ["done", "done", "done", "done", "done", "done"]).set 4 (.str w4)))) := same_upd _ hp2H g39
            have f10 : (upd H9 p2 (.lst ((List.map V.str ["done", "done", "done", "done", "done", "done"]).set 4 (.str w4)))) p2 = some (.lst (List.map V.str ["done", "done", "done", "done", w4, "done"])) := upd_same
            generalize upd H9 p2 (.lst ((List.map V.str ["done", "done", "done", "done", "done", "done"]).set 4 (.str w4))) = H10 at g10 f10 ⊢
            refine ⟨_, rfl, _, rfl, b, r1, xs, rfl, SqL.of (g10 _ _ e1), hb64, Rx.2, _, rfl, _, rfl, b, r2, ys, rfl, SqL.of (g10 _ _ e2), hb64, Ry.2, _, _, rfl, rfl, _, rfl, ?_⟩
            by_cases hlt : worth b xs < worth b ys
            · rw [decide_eq_true hlt]
              refine iteT ⟨_, rfl, p2, _, _, 2, rfl, rfl, f10, rfl, ?_⟩
              have g11 : Same H3 (upd H10 p2 (.lst ((List.map V.str ["done", "done", "done", "done", w4, "done"]).set 2 (.str "small")))) := same_upd _ hp2H g10
              exact qA s0 s1 s5 b r1 r2 p2 xs ys ["done", "done", "small", "done", w4, "done"] _ hb0 hb2 Rx Ry (g11 _ _ e1) (g11 _ _ e2) upd_same (six_good hb tx ty (by rw [if_pos hlt]; rfl) h4)
            · rw [decide_eq_false hlt]
              exact iteF (qA s0 s1 s5 b r1 r2 p2 xs ys ["done", "done", "done", "done", w4, "done"] _ hb0 hb2 Rx Ry (g10 _ _ e1) (g10 _ _ e2) f10 (six_good hb tx ty (by rw [if_neg hlt]; rfl) h4))
          by_cases hy : ys = []
          · have e : ys.isEmpty = true := by rw [hy]; rfl
            rw [e]
            exact ⟨p3, _, _, _, rfl, rfl, SqL.of (g9 _ _ f8), rfl, rest "none" (by rw [if_pos hy]; rfl)⟩
          · have e : ys.isEmpty = false := by cases ys with | nil => exact absurd rfl hy | cons _ _ => rfl
            rw [e]
            exact ⟨p3, _, _, _, rfl, rfl, SqL.of (g9 _ _ f8), rfl, rest "done" (by rw [if_neg hy]; rfl)⟩
  obtain ⟨tC', htC, qC⟩ := tailC
  -- base = 1 - ..
  have tail10 : ∃ t, PSs (cxOf CX0 P w K mg base ["_law_script", "_law_way", "_law_base", "_law_one", "_law_two", "_law_spoilt", "_law_due", "_law_last", "_law_which", "_law_found", "_law_gap"] "law" (defScope s_law) f cdv A outer s H E).nox (List.drop 10 (defBody s_law)) t ∧
      ∀ (sc : Addr) (ms : List Int) (wy : Int) (s5 : Option V) (b : Int) (r1 r2 : Addr) (xs ys : List Int) (H3 : Hp), H3 sc = some (.lst (List.map V.int ms)) → 2 ≤ b → b < 2 ^ 64 → Row xs 40 → Row ys 40 → H3 r1 = some (.lst (List.map V.int xs)) → H3 r2 = some (.lst (List.map V.int ys)) →
        t { nx := fun _ H' => Q .non H', rt := Q } [some (.ref sc), some (.int wy), some (.int b), some (.ref r1), some (.ref r2), s5, none, none, none, none, none] H3 := by
    refine ⟨_, pss_cons (ps_if (pt_cmpR op_eq (pv 1) pe_int (nomark _)) (pss_one (ps_set (i := 2) sc_law.nd rfl (Or.inl rfl) (pe_op op_sub pe_int (pe_op op_mod (pe_op op_fdiv (pef GA hr1 mA kA bA pass0 (pac (pv 0) (pac pe_int pa_nil))) pe_int) pe_int)))) pss_nil) htC, ?_⟩
    intro sc ms wy s5 b r1 r2 xs ys H3 hm hb hb2 Rx Ry e1 e2
    refine ⟨_, rfl, rfl, _, rfl, ?_⟩
    refine ite2 (fun _ => ?_) (fun _ => ?_)
    · refine ⟨_, rfl, sc, ms, 0, rfl, SqL.of hm, by decide, _, _, rfl, rfl, ⟨by decide, by decide⟩, _, _, rfl, rfl, (by show (0 : Int) < 4; decide), _, _, rfl, rfl, ?_⟩
      have m1 : 0 ≤ (ms.getD (0 : Int).toNat 0) / 8 % 4 := Int.emod_nonneg _ (by decide)
      have m2 : (ms.getD (0 : Int).toNat 0) / 8 % 4 < 4 := Int.emod_lt_of_pos _ (by decide)
      exact qC _ _ _ _ r1 r2 xs ys H3 (by omega) (by omega) Rx Ry e1 e2
    · exact qC _ _ _ _ r1 r2 xs ys H3 (by omega) hb2 Rx Ry e1 e2
  obtain ⟨t10, ht10, q10⟩ := tail10
  have tail8 : ∃ t, PSs (cxOf CX0 P w K mg base ["_law_script", "_law_way", "_law_base", "_law_one", "_law_two", "_law_spoilt", "_law_due", "_law_last", "_law_which", "_law_found", "_law_gap"] "law" (defScope s_law) f cdv A outer s H E).nox (List.drop 8 (defBody s_law)) t ∧
      ∀ (sc : Addr) (ms : List Int) (wy : Int) (s5 : Option V) (b : Int) (r1 r2 : Addr) (xs ys : List Int) (H3 : Hp), H3 sc = some (.lst (List.map V.int ms)) → 2 ≤ b → b < 2 ^ 64 → Row xs 40 → Row ys 40 → H3 r1 = some (.lst (List.map V.int xs)) → H3 r2 = some (.lst (List.map V.int ys)) →
        t { nx := fun _ H' => Q .non H', rt := Q } [some (.ref sc), some (.int wy), some (.int b), some (.ref r1), some (.ref r2), s5, none, none, none, none, none] H3 := by
    have tail9 : ∃ t, PSs (cxOf CX0 P w K mg base ["_law_script", "_law_way", "_law_base", "_law_one", "_law_two", "_law_spoilt", "_law_due", "_law_last", "_law_which", "_law_found", "_law_gap"] "law" (defScope s_law) f cdv A outer s H E).nox (List.drop 9 (defBody s_law)) t ∧
        ∀ (sc : Addr) (ms : List Int) (wy : Int) (s5 : Option V) (b : Int) (r1 r2 : Addr) (xs ys : List Int) (H3 : Hp), H3 sc = some (.lst (List.map V.int ms)) → 2 ≤ b → b < 2 ^ 64 → Row xs 40 → Row ys 40 → H3 r1 = some (.lst (List.map V.int xs)) → H3 r2 = some (.lst (List.map V.int ys)) →
          t { nx := fun _ H' => Q .non H', rt := Q } [some (.ref sc), some (.int wy), some (.int b), some (.ref r1), some (.ref r2), s5, none, none, none, none, none] H3 := by
      refine ⟨_, pss_cons (ps_if (PW.pt (pw_and (pt_cmpR op_eq (pv 1) pe_int (nomark _)) (pw_and (pt_cmpR (op_neN hu) (pv 3) (pe_lst pa_nil) (nomark _)) (pw_and1 (pt_cmpR op_ne (pe_atc (pv 3)) pe_int (nomark _)))))) (pss_one (ps_set (i := 4) sc_law.nd rfl (Or.inl rfl) (pe_listrev rfl T.list T.rev (pv 3)))) pss_nil) ht10, ?_⟩
      intro sc ms wy s5 b r1 r2 xs ys H3 hm hb hb2 Rx Ry e1 e2
      refine ⟨_, rfl, rfl, _, rfl, ?_⟩
      refine ite2 (fun _ => ?_) (fun _ => iteF (q10 sc ms wy s5 b r1 r2 xs ys H3 hm hb hb2 Rx Ry e1 e2))
      refine ⟨_, rfl, small (show 0 ≤ 1000 by decide), fun p1 hp1 => ?_⟩
      have g1 : Same H3 (upd H3 p1 (.lst [])) := same_new hp1 _
      have f1 : (upd H3 p1 (.lst [])) p1 = some (.lst []) := upd_same
      generalize upd H3 p1 (.lst []) = H4 at g1 f1 ⊢
      refine ⟨r1, p1, _, rfl, rfl, SqL.of (g1 _ _ e1), SqL.of f1, _, rfl, ?_⟩
      rw [map_empty]
      cases xs with
      | nil => exact iteF (iteF (q10 sc ms wy s5 b r1 r2 [] ys H4 (g1 _ _ hm) hb hb2 Rx Ry (g1 _ _ e1) (g1 _ _ e2)))
      | cons x xr =>
        refine iteT ⟨_, rfl, r1, _, _, _, rfl, rfl, SqL.of (g1 _ _ e1), (atI_nat (xs := List.map V.int (x :: xr)) (j := 0) (v := V.int x) rfl), rfl, _, rfl, ?_⟩
        refine ite2 (fun _ => ?_) (fun _ => q10 sc ms wy s5 b r1 r2 (x :: xr) ys H4 (g1 _ _ hm) hb hb2 Rx Ry (g1 _ _ e1) (g1 _ _ e2))
        refine ⟨_, rfl, r1, _, rfl, SqL.of (g1 _ _ e1), fun p2 hp2 => ?_⟩
        rw [← List.map_reverse]
        have g2 := g1.trans (same_new hp2 (.lst (List.map V.int (x :: xr).reverse)))
        exact q10 sc ms wy s5 b r1 p2 (x :: xr) (x :: xr).reverse _ (g2 _ _ hm) hb hb2 Rx (Rx.sub (by rw [List.length_reverse]; exact Nat.le_refl _) fun y hy => List.mem_reverse.mp hy) (g2 _ _ e1) upd_same
    obtain ⟨t9, ht9, q9⟩ := tail9
    refine ⟨_, pss_cons (ps_if (pt_cmpR op_eq (pv 1) pe_int (nomark _)) (pss_one (ps_set (i := 4) sc_law.nd rfl (Or.inl rfl) (pe_list T.list (pv 3)))) pss_nil) ht9, ?_⟩
    intro sc ms wy s5 b r1 r2 xs ys H3 hm hb hb2 Rx Ry e1 e2
    refine ⟨_, rfl, rfl, _, rfl, ?_⟩
    refine ite2 (fun _ => ?_) (fun _ => q9 sc ms wy s5 b r1 r2 xs ys H3 hm hb hb2 Rx Ry e1 e2)
    refine ⟨_, rfl, r1, _, rfl, .inl (SqL.of e1), fun p1 hp1 => ?_⟩
    have g1 := same_new hp1 (.lst (List.map V.int xs))
    exact q9 sc ms wy s5 b r1 p1 xs xs _ (g1 _ _ hm) hb hb2 Rx Rx (g1 _ _ e1) upd_same
  obtain ⟨t8, ht8, q8⟩ := tail8
  have tail7 : ∃ t, PSs (cxOf CX0 P w K mg base ["_law_script", "_law_way", "_law_base", "_law_one", "_law_two", "_law_spoilt", "_law_due", "_law_last", "_law_which", "_law_found", "_law_gap"] "law" (defScope s_law) f cdv A outer s H E).nox (List.drop 7 (defBody s_law)) t ∧
      ∀ (sc : Addr) (ms : List Int) (wy sp : Int) (b : Int) (r1 r2 : Addr) (xs ys : List Int) (H3 : Hp), H3 sc = some (.lst (List.map V.int ms)) → 2 ≤ b → b < 2 ^ 64 → -(2 ^ 64) < sp → sp < 2 ^ 64 → Row xs 14 → Row ys 13 → H3 r1 = some (.lst (List.map V.int xs)) → H3 r2 = some (.lst (List.map V.int ys)) →
        t { nx := fun _ H' => Q .non H', rt := Q } [some (.ref sc), some (.int wy), some (.int b), some (.ref r1), some (.ref r2), some (.int sp), none, none, none, none, none] H3 := by
    refine ⟨_, pss_cons (ps_if (pt_cmpR op_eq (pv 1) pe_int (nomark _)) (pss_one (ps_set (i := 4) sc_law.nd rfl (Or.inl rfl) (pe_op op_cat (pe_op op_cat (pe_slice sl_list (pv 4) po_none (po_some pe_int)) (pe_lst (pac (pv 5) pa_nil))) (pe_slice sl_list (pv 4) (po_some pe_int) po_none)))) pss_nil) ht8, ?_⟩
    intro sc ms wy sp b r1 r2 xs ys H3 hm hb hb2 hs1 hs2 Rx Ry e1 e2
    refine ⟨_, rfl, rfl, _, rfl, ?_⟩
    refine ite2 (fun _ => ?_) (fun _ => q8 sc ms wy _ b r1 r2 xs ys H3 hm hb hb2 (Rx.mono (by decide)) (Ry.mono (by decide)) e1 e2)
    refine ⟨_, rfl, _, rfl, r2, _, rfl, SqL.of e2, fun p1 hp1 => ?_⟩
    rw [cutV_map]
    have la := cutI_len ys none (some 1)
    have ra : Row (cutI ys none (some 1)) 13 := Ry.sub la fun x hx => cutI_mem hx
    generalize cutI ys none (some 1) = us at la ra ⊢
    have g1 : Same H3 (upd H3 p1 (.lst (List.map V.int us))) := same_new hp1 _
    have f1 : (upd H3 p1 (.lst (List.map V.int us))) p1 = some (.lst (List.map V.int us)) := upd_same
    generalize upd H3 p1 (.lst (List.map V.int us)) = H4 at g1 f1 ⊢
    refine ⟨_, rfl, small (show 1 ≤ 1000 by decide), fun p2 hp2 => ?_⟩
    have g2 : Same H4 (upd H4 p2 (.lst [.int sp])) := same_new hp2 _
    have f2 : (upd H4 p2 (.lst [.int sp])) p2 = some (.lst (List.map V.int [sp])) := upd_same
    generalize upd H4 p2 (.lst [.int sp]) = H5 at g2 f2 ⊢
    refine ⟨p1, p2, _, _, rfl, rfl, g2 _ _ f1, f2, ?_, fun p3 hp3 => ?_⟩
    · rw [List.length_map]
      exact Nat.le_of_lt (small1000 (show us.length + 1 ≤ 1000 by have := ra.1; omega))
    rw [← List.map_append]
    have rb : Row (us ++ [sp]) 14 := ra.app (Row.one ⟨hs1, hs2⟩)
    generalize us ++ [sp] = vs at rb ⊢
    have g3 : Same H5 (upd H5 p3 (.lst (List.map V.int vs))) := same_new hp3 _
    have f3 : (upd H5 p3 (.lst (List.map V.int vs))) p3 = some (.lst (List.map V.int vs)) := upd_same
    generalize upd H5 p3 (.lst (List.map V.int vs)) = H6 at g3 f3 ⊢
    have g36 := g1.trans (g2.trans g3)
    refine ⟨_, rfl, _, rfl, r2, _, rfl, SqL.of (g36 _ _ e2), fun p4 hp4 => ?_⟩
    rw [cutV_map]
    have lc := cutI_len ys (some 1) none
    have rc : Row (cutI ys (some 1) none) 13 := Ry.sub lc fun x hx => cutI_mem hx
    generalize cutI ys (some 1) none = ts at lc rc ⊢
    have g4 : Same H6 (upd H6 p4 (.lst (List.map V.int ts))) := same_new hp4 _
    have f4 : (upd H6 p4 (.lst (List.map V.int ts))) p4 = some (.lst (List.map V.int ts)) := upd_same
    generalize upd H6 p4 (.lst (List.map V.int ts)) = H7 at g4 f4 ⊢
    refine ⟨p3, p4, _, _, rfl, rfl, g4 _ _ f3, f4, ?_, fun p5 hp5 => ?_⟩
    · rw [List.length_map, List.length_map]
      exact Nat.le_of_lt (small1000 (show vs.length + ts.length ≤ 1000 by have := rb.1; have := rc.1; omega))
    rw [← List.map_append]
    have g5 := (g36.trans g4).trans (same_new hp5 (.lst (List.map V.int (vs ++ ts))))
    exact q8 sc ms wy _ b r1 p5 xs (vs ++ ts) _ (g5 _ _ hm) hb hb2 (Rx.mono (by decide)) ((rb.app rc).mono (by decide)) (g5 _ _ e1) upd_same
  obtain ⟨t7, ht7, q7⟩ := tail7
  refine ⟨_, pss_cons (ps_set (i := 0) sc_law.nd rfl (Or.inl rfl) (pe_slice sl_list (pv 0) po_none (po_some pe_int)))
    (pss_cons (ps_set (i := 0) sc_law.nd rfl (Or.inl rfl) (pef GX hr1 mX kX bX pass0 (pac (pv 0) pa_nil)))
    (pss_cons (ps_set (i := 1) sc_law.nd rfl (Or.inl rfl) (pe_op op_mod (pe_op op_fdiv (pef GA hr1 mA kA bA pass0 (pac (pv 0) (pac pe_int pa_nil))) pe_int) pe_int))
    (pss_cons (ps_set (i := 2) sc_law.nd rfl (Or.inl rfl) (pef GB hr1 mB kB bB pass0 (pac (pef GA hr1 mA kA bA pass0 (pac (pv 0) (pac pe_int pa_nil))) pa_nil)))
    (pss_cons (ps_asg (pef G2 hr2 m2 k2 b2 pass0 (pac (pe_slice sl_list (pv 0) po_none (po_some pe_int)) (pac (pv 2) pa_nil))) (pg_tup rfl (pgs_cons (pg_name (i := 3) sc_law.nd rfl (Or.inl rfl)) (pgs_cons (pg_name (i := 4) sc_law.nd rfl (Or.inl rfl)) pgs_nil))))
    (pss_cons (ps_set (i := 5) sc_law.nd rfl (Or.inl rfl) (pe_ix ix_list (pe_lst (pac pe_int (pac (pe_un un_neg pe_int) (pac (pv 2) pa_nil)))) (pe_op op_mod (pe_op op_fdiv (pef GA hr1 mA kA bA pass0 (pac (pv 0) (pac pe_int pa_nil))) pe_int) pe_int) (fun _ _ => rfl)))
    (pss_cons (ps_if (pt_cmpR op_eq (pv 1) pe_int (nomark _)) (pss_one (ps_set (i := 3) sc_law.nd rfl (Or.inl rfl) (pe_op op_cat (pv 3) (pe_lst (pac (pv 5) pa_nil))))) pss_nil)
    ht7)))))), ?_⟩
  refine ⟨_, rfl, _, rfl, a, _, rfl, hS, fun p1 hp1 => ?_⟩
  rw [cutV_map]
  have l1 := cutI_len ns none (some 500)
  refine ⟨_, rfl, p1, _, rfl, SqL.of upd_same, by omega, fun sc ms H1 lm _ _ hm => ?_⟩
  refine ⟨_, rfl, sc, ms, 1, rfl, SqL.of hm, by decide, _, _, rfl, rfl, ⟨by decide, by decide⟩, _, _, rfl, rfl, (by show (0 : Int) < 9; decide), ?_⟩
  refine ⟨_, rfl, sc, ms, 0, rfl, SqL.of hm, by decide, _, rfl, fun b H2 hb hb2 g2 => ?_⟩
  refine ⟨_, rfl, _, rfl, sc, _, rfl, SqL.of (g2 _ _ hm), fun p2 hp2 => ?_⟩
  rw [cutV_map]
  have l2 := cutI_len ms none (some 12)
  have l12 : (cutI ms none (some 12)).length ≤ 12 := by
    unfold cutI
    rw [List.length_take, HT.sIx_none, show (some (12 : Int)) = some ((12 : Nat) : Int) from rfl, HT.sIx_nat]
    omega
  generalize cutI ms none (some 12) = cs at l12 ⊢
  have g3 : Same H2 (upd H2 p2 (.lst (List.map V.int cs))) := same_new hp2 _
  have f3 : (upd H2 p2 (.lst (List.map V.int cs))) p2 = some (.lst (List.map V.int cs)) := upd_same
  generalize upd H2 p2 (.lst (List.map V.int cs)) = H3 at g3 f3 ⊢
  refine ⟨_, rfl, p2, b, cs, rfl, SqL.of f3, hb, by omega, by omega, fun t r1 r2 xs ys H4 tx ty lx ly _ _ n12 g4 ht h1 h2 => ?_⟩
  refine ⟨t, _, rfl, SqT.of ht, rfl, _, _, rfl, _, _, rfl, rfl, ?_⟩
  have hm4 := g4 _ _ (g3 _ _ (g2 _ _ hm))
  have hb64 : b < 2 ^ 64 := by omega
  have Rx : Row xs 13 := ⟨by omega, figs64 tx.figs hb64⟩
  have Ry : Row ys 13 := ⟨by omega, figs64 ty.figs hb64⟩
  refine ⟨_, rfl, _, rfl, small (show 3 ≤ 1000 by decide), fun p3 hp3 => ?_⟩
  have g5 : Same H4 (upd H4 p3 (.lst [.int 0, .int (-1), .int b])) := same_new hp3 _
  have f5 : (upd H4 p3 (.lst [.int 0, .int (-1), .int b])) p3 = some (.lst [.int 0, .int (-1), .int b]) := upd_same
  generalize upd H4 p3 (.lst [.int 0, .int (-1), .int b]) = H5 at g5 f5 ⊢
  refine ⟨_, rfl, sc, ms, 0, rfl, SqL.of (g5 _ _ hm4), by decide, _, _, rfl, rfl, ⟨by decide, by decide⟩, _, _, rfl, rfl, (by show (0 : Int) < 3; decide), ?_⟩
  have next : ∀ sp : Int, -(2 ^ 64) < sp → sp < 2 ^ 64 → (tSeq (tIfS (tTest (tOp rEq (tVar 1) (tC (.int 1)))) (tAsg (tOp rCat (tVar 3) (tLst (tCons (tVar 5) tNil))) (gName 3)) tNext) t7) { nx := fun _ H' => Q .non H', rt := Q }
      [some (.ref sc), some (.int (ms.getD (1 : Int).toNat 0 / 7 % 9)), some (.int b), some (.ref r1), some (.ref r2), some (.int sp), none, none, none, none, none] H5 := by
    intro sp hs1 hs2
    refine ⟨_, rfl, rfl, _, rfl, ?_⟩
    refine ite2 (fun _ => ?_) (fun _ => q7 sc ms _ sp b r1 r2 xs ys H5 (g5 _ _ hm4) hb hb64 hs1 hs2 (Rx.mono (by decide)) Ry (g5 _ _ h1) (g5 _ _ h2))
    refine ⟨_, rfl, _, rfl, small (show 1 ≤ 1000 by decide), fun p4 hp4 => ?_⟩
    have g6 : Same H5 (upd H5 p4 (.lst [.int sp])) := same_new hp4 _
    have f6 : (upd H5 p4 (.lst [.int sp])) p4 = some (.lst (List.map V.int [sp])) := upd_same
    generalize upd H5 p4 (.lst [.int sp]) = H6 at g6 f6 ⊢
    refine ⟨r1, p4, _, _, rfl, rfl, g6 _ _ (g5 _ _ h1), f6, ?_, fun p5 hp5 => ?_⟩
    · rw [List.length_map]
      exact Nat.le_of_lt (small1000 (show xs.length + 1 ≤ 1000 by omega))
    rw [← List.map_append]
    have g7 := (g5.trans g6).trans (same_new hp5 (.lst (List.map V.int (xs ++ [sp]))))
    exact q7 sc ms _ sp b p5 r2 (xs ++ [sp]) ys _ (g7 _ _ hm4) hb hb64 hs1 hs2 (Rx.app (Row.one ⟨hs1, hs2⟩)) Ry upd_same (g7 _ _ h2)
  show rIxL K (V.ref p3) (V.int (ms.getD (0 : Int).toNat 0 / 8 % 3)) _ _
  rcases (by omega : ms.getD (0 : Int).toNat 0 / 8 % 3 = 0 ∨ ms.getD (0 : Int).toNat 0 / 8 % 3 = 1 ∨ ms.getD (0 : Int).toNat 0 / 8 % 3 = 2) with e | e | e <;> rw [e]
  · exact ⟨p3, _, _, _, rfl, rfl, SqL.of f5, rfl, next 0 (by decide) (by decide)⟩
  · exact ⟨p3, _, _, _, rfl, rfl, SqL.of f5, rfl, next (-1) (by decide) (by decide)⟩
  · exact ⟨p3, _, _, _, rfl, rfl, SqL.of f5, rfl, next b (by omega) hb64⟩

theorem main {f : Addr} {fd : FuncData} (F : Fun K "law" "law" s_law f fd) (T : Own mg)
    (Dcheck_base : Def K mg "check_base" s_check_base ["base"])
    (Dcheck_tape : Def K mg "check_tape" s_check_tape ["base", "tape"])
    (Dcheck_pair : Def K mg "check_pair" s_check_pair ["base", "one", "two"])
    (Dorder : Def K mg "order" s_order ["left", "right"])
    (Dcompared : Def K mg "compared" s_compared ["base", "one", "two"])
    (Dcarried : Def K mg "carried" s_carried ["base", "columns"])
    (Dfigure_at : Def K mg "figure_at" s_figure_at ["tape", "place"])
    (Dadded : Def K mg "added" s_added ["base", "one", "two"])
    (Dlessened : Def K mg "lessened" s_lessened ["base", "one", "two"])
    (Dmultiplied : Def K mg "multiplied" s_multiplied ["base", "one", "two"])
    (Dworth : Def K mg "worth" s_worth ["base", "figures"])
    (Dtimes_within : Def K mg "times_within" s_times_within ["base", "rest", "two"])
    (Dsplit : Def K mg "split" s_split ["base", "one", "two"])
    (Dbettered : Def K mg "bettered" s_bettered ["base", "tape", "guess"])
    (Droot_of : Def K mg "root_of" s_root_of ["base", "tape"])
    (Droot : Def K mg "root" s_root ["base", "tape"])
    (Drebased : Def K mg "rebased" s_rebased ["base", "tape", "other"])
    (D_law_whole : Def K mg "_law_whole" s_law_whole ["_law_found"])
    (D_law_at : Def K mg "_law_at" s_law_at ["_law_script", "_law_k"])
    (D_law_worth_of : Def K mg "_law_worth_of" s_law_worth_of ["_law_base", "_law_tape"])
    (D_law_base_by : Def K mg "_law_base_by" s_law_base_by ["_law_cell"])
    (D_law_made : Def K mg "_law_made" s_law_made ["_law_base", "_law_cells"])
    (D_law_two_by : Def K mg "_law_two_by" s_law_two_by ["_law_script", "_law_base"])
    (D_law_said : Def K mg "_law_said" s_law_said ["_law_which", "_law_base", "_law_one", "_law_two"])
    (D_law_good : Def K mg "_law_good" s_law_good ["_law_base", "_law_tape"])
    (D_law_mixed : Def K mg "_law_mixed" s_law_mixed ["_law_script"])
    (D_law_refuses : Def K mg "_law_refuses" s_law_refuses ["_law_which", "_law_base", "_law_one", "_law_two"])
    (D_law_as_due : Def K mg "_law_as_due" s_law_as_due ["_law_which", "_law_base", "_law_one", "_law_two", "_law_due"]) (Y : ∃ CE CB CT CS CN, ErrC K mg "BadBase" CB ∧ ErrC K mg "BadTape" CT ∧ ErrC K mg "TooSmall" CS ∧ ErrC K mg "NoDivisor" CN ∧ mg "TapeError" = some (.ref CE) ∧ ErrsX K CE CB CT CS CN) : FnOk P w K mg base CX0 20 f fd ["_law_script"] (spLaw K) := by
  obtain ⟨CE, CB, CT, CS, CN, XBadBase, XBadTape, XTooSmall, XNoDivisor, mE, XX⟩ := Y
  have lA := ok_at (P := P) (w := w) (base := base) D_law_at T
  have lW := ok_worth (P := P) (w := w) (base := base) D_law_worth_of
  have lB := ok_base (P := P) (w := w) (base := base) D_law_base_by
  have lM := ok_made (P := P) (w := w) (base := base) D_law_made
  have lH := ok_whole (P := P) (w := w) (base := base) D_law_whole T
  have l2 := ok_two D_law_two_by T lA lM
  have lX := ok_mixed (P := P) (w := w) (base := base) D_law_mixed T
  have lG := ok_good (P := P) (w := w) (base := base) D_law_good
  have oB := ok_ckbase (P := P) (w := w) (base := base) Dcheck_base XBadBase
  have oT := ok_cktape (P := P) (w := w) (base := base) Dcheck_tape T XBadTape
  have oP := ok_ckpair Dcheck_pair oB oT
  have oO := ok_order (P := P) (w := w) (base := base) Dorder
  have oM := ok_compared Dcompared T oP oO
  have oC := ok_carried (P := P) (w := w) (base := base) Dcarried T
  have oF := ok_figat (P := P) (w := w) (base := base) Dfigure_at T
  have oA := ok_added Dadded T oP oC oF
  have oL := ok_less Dlessened T XTooSmall oM oC oF
  have oU := ok_mul Dmultiplied T oP oC
  have oW := ok_worthp (P := P) (w := w) (base := base) Dworth T
  have oI := ok_times Dtimes_within T oW oM oU oC
  have oS := ok_split Dsplit T XNoDivisor oP oC oI oL oU
  have oE := ok_bettered Dbettered oA oS oC
  have oR := ok_rootof Droot_of T oM oE
  have oRt := ok_root Droot oB oT oR oL oU
  have oRb := ok_rebased Drebased T oB oT oC
  have lE := ok_said D_law_said XX.errs XBadBase.at_ XBadTape.at_ XTooSmall.at_ XNoDivisor.at_ (oM.mono (by decide)) (oA.mono (by decide)) (less_weak oL |>.mono (by decide)) (oU.mono (by decide)) (oS.mono (by decide)) (oRt.mono (by decide)) (oRb.mono (by decide))
  have lR := ok_refuses D_law_refuses T XX mE XBadBase.at_ XBadTape.at_ XTooSmall.at_ XNoDivisor.at_ (oM.mono (by decide)) (oA.mono (by decide)) (less_weak oL |>.mono (by decide)) (oU.mono (by decide)) (oS.mono (by decide)) (oRt.mono (by decide)) (oRb.mono (by decide))
  have lD := ok_asdue D_law_as_due lR lE
  exact ok_law F T lX lA lB l2 lG lH lW lD (oM.mono (by decide))

end
theorem with_fact {A B : Prop} (a : A) (f : A → B) : B := f a
theorem err_mk {K : PySem.W.Frag} {h : Heap} {mg : Str → Option Value} {x : Str} {C : Addr} (X : K.In h) (G : h.Ns mainGlobals mg) (a : PySem.W.nsIn K mainGlobals x = some (some (.ref C))) (q : PySem.W.excIn K C errMro "ValueError.__new__" = true) : ∃ C, ErrC K mg x C :=
  ⟨C, a, PySem.W.mg_of X G a, q⟩
theorem errs_mk {K : PySem.W.Frag} {h : Heap} {mg : Str → Option Value} {CE CB CT CS CN : Addr} (X : K.In h) (G : h.Ns mainGlobals mg) (aB : PySem.W.nsIn K mainGlobals "BadBase" = some (some (.ref CB))) (aT : PySem.W.nsIn K mainGlobals "BadTape" = some (some (.ref CT))) (aS : PySem.W.nsIn K mainGlobals "TooSmall" = some (some (.ref CS)))
    (aN : PySem.W.nsIn K mainGlobals "NoDivisor" = some (some (.ref CN))) (aE : PySem.W.nsIn K mainGlobals "TapeError" = some (some (.ref CE))) (zB : PySem.W.excIn K CB errMro "ValueError.__new__" = true) (zT : PySem.W.excIn K CT errMro "ValueError.__new__" = true) (zS : PySem.W.excIn K CS errMro "ValueError.__new__" = true) (zN : PySem.W.excIn K CN errMro "ValueError.__new__" = true)
    (eB : Exc1 K CB CE CB CT CS CN true false false false) (eT : Exc1 K CT CE CB CT CS CN false true false false) (eS : Exc1 K CS CE CB CT CS CN false false true false) (eN : Exc1 K CN CE CB CT CS CN false false false true) :
    ∃ CE CB CT CS CN, ErrC K mg "BadBase" CB ∧ ErrC K mg "BadTape" CT ∧ ErrC K mg "TooSmall" CS ∧ ErrC K mg "NoDivisor" CN ∧ mg "TapeError" = some (.ref CE) ∧ ErrsX K CE CB CT CS CN :=
  ⟨CE, CB, CT, CS, CN, ⟨aB, PySem.W.mg_of X G aB, zB⟩, ⟨aT, PySem.W.mg_of X G aT, zT⟩, ⟨aS, PySem.W.mg_of X G aS, zS⟩, ⟨aN, PySem.W.mg_of X G aN, zN⟩, PySem.W.mg_of X G aE, ⟨eB, eT, eS, eN⟩⟩
/-! ### the program's top: each def stands there as the text says -/
theorem def_mk {K : PySem.W.Frag} {h : Heap} {mg : Str → Option Value} {nm : Str} {st : Stmt} {ps : List Str} {f : Addr} {oc : Value} {od an : Option Addr} {osl : Array (Option Value)} {kV doc pm cdv ct : Value} (X : K.In h) (G : h.Ns mainGlobals mg)
    (a : PySem.W.nsIn K mainGlobals nm = some (some (.ref f))) (l : K.lookup f = some ⟨oc, od, .func (PySem.W.fnOf nm nm (defArgs st) (defBody st) (defScope st) .none kV doc pm an cdv ct), osl⟩)
    (c : PySem.W.codeIn K cdv nm = true) (k : PySem.W.keepIn K (.ref f) = true)
    (hb : ∀ (kV doc pm : Value) (an : Option Addr) (cdv ct : Value) (us : List Value), us.length = ps.length → bindArgs (PySem.W.fnOf nm nm (defArgs st) (defBody st) (defScope st) .none kV doc pm an cdv ct) ⟨us, []⟩ = pure (ps.zip us)) : Def K mg nm st ps :=
  ⟨f, _, fun_mk (st := st) l c k, (fun_mk (st := st) l c k).binds hb, PySem.W.mg_of X G a⟩
theorem law_mk {K : PySem.W.Frag} {h : Heap} {mg : Str → Option Value} {nm x : Str} {st : Stmt} {f fa : Addr} {oc : Value} {od an : Option Addr} {osl : Array (Option Value)} {kV doc pm cdv ct : Value} (X : K.In h) (G : h.Ns mainGlobals mg) (hfa : mg nm = some (.ref fa))
    (a : PySem.W.nsIn K mainGlobals nm = some (some (.ref f))) (l : K.lookup f = some ⟨oc, od, .func (PySem.W.fnOf nm nm (defArgs st) (defBody st) (defScope st) .none kV doc pm an cdv ct), osl⟩)
    (c : PySem.W.codeIn K cdv nm = true) (k : PySem.W.keepIn K (.ref f) = true)
    (hb : ∀ (s : Shared) (kV doc pm : Value) (an : Option Addr) (cdv ct : Value) (v : Value), BindsTo s (PySem.W.fnOf nm nm (defArgs st) (defBody st) (defScope st) .none kV doc pm an cdv ct) ⟨[v], []⟩ [(x, v)]) :
    ∃ fd, (∀ (s : Shared) (v : Value), BindsTo s fd ⟨[v], []⟩ [(x, v)]) ∧ Fun K nm nm st fa fd := by
  have e := hfa.symm.trans (PySem.W.mg_of X G a)
  cases e
  exact ⟨_, fun s v => hb s _ _ _ _ _ _ v, fun_mk (st := st) l c k⟩
theorem walk {l : PySem.W.OpenLaw} {q : Program} {loose : List Str} {XP : (Str → Option Value) → Heap → Prop} {YP : World → Heap → Prop} {d : DefRec} {K : Params → PySem.W.Frag} (hn : l.most = some 63) (hdf : d.params.defaults = [])
    (hY : ∀ (w : World) (h : Heap), YP w h → (K w.params).In h)
    (F : ∀ (w : World) (mg : Str → Option Value) (fa : Addr) (h : Heap), (K w.params).In h → h.Ns mainGlobals mg → mg d.name = some (.ref fa) →
      ∃ fd : FuncData, (∀ (s : Shared) (u : Value), BindsTo s fd ⟨[u], []⟩ [("_law_script", u)]) ∧ ∀ base : Heap, (K w.params).In base → base.Ns mainGlobals mg → FnOk l.prog w (K w.params) mg base CX0 20 fa fd ["_law_script"] (spLaw (K w.params))) :
    PySem.W.WalkO q loose XP YP l.row.toRowW d [] (fun f vs => PySem.call f vs) :=
  L2.walk_of (n := 63) (k := 20) (x := "_law_script") (CX := fun _ => CX0) (sp := fun w => spLaw (K w.params)) hn (by decide) hdf ⟨rfl, by decide, by decide⟩ hY F (fun _ _ a ns hl _ hS => ⟨a, ns, rfl, hS, hl, fun _ => rfl⟩) fun _ _ _ _ _ z => z

end FT
open PySem PySem.W PyProof.Rows
set_option maxRecDepth 100000 in
set_option maxHeartbeats 0 in
theorem PySem.Challenge.cw_figuretape_k07_compared_or_refused_holds : PySem.Challenge.rw_figuretape_k07_compared_or_refused.Holds := by
  w_on; o_law; k_head; (case hw => w_witness2)
  k_fill
  refine FT.walk (l := PySem.Challenge.rw_figuretape_k07_compared_or_refused) rfl rfl (fun w h Y => PySem.W.kIn_of Y) ?F
  case F =>
    intro w mg fa h KX G hmg
    refine' FT.with_fact (FT.def_mk (nm := "check_base") (st := FT.s_check_base) (ps := ["base"]) KX G ?a ?l ?c ?k ?b) ?_
    (case a => k_is); (case l => k_is); (case c => k_is); (case k => k_is)
    (case b => exact fun _ _ _ _ _ _ us hl => match us, hl with | [_], _ => rfl)
    intro D0
    refine' FT.with_fact (FT.def_mk (nm := "check_tape") (st := FT.s_check_tape) (ps := ["base", "tape"]) KX G ?a ?l ?c ?k ?b) ?_
    (case a => k_is); (case l => k_is); (case c => k_is); (case k => k_is)
    (case b => exact fun _ _ _ _ _ _ us hl => match us, hl with | [_, _], _ => rfl)
    intro D1
    refine' FT.with_fact (FT.def_mk (nm := "check_pair") (st := FT.s_check_pair) (ps := ["base", "one", "two"]) KX G ?a ?l ?c ?k ?b) ?_
    (case a => k_is); (case l => k_is); (case c => k_is); (case k => k_is)
    (case b => exact fun _ _ _ _ _ _ us hl => match us, hl with | [_, _, _], _ => rfl)
    intro D2
    refine' FT.with_fact (FT.def_mk (nm := "order") (st := FT.s_order) (ps := ["left", "right"]) KX G ?a ?l ?c ?k ?b) ?_
    (case a => k_is); (case l => k_is); (case c => k_is); (case k => k_is)
    (case b => exact fun _ _ _ _ _ _ us hl => match us, hl with | [_, _], _ => rfl)
    intro D3
    refine' FT.with_fact (FT.def_mk (nm := "compared") (st := FT.s_compared) (ps := ["base", "one", "two"]) KX G ?a ?l ?c ?k ?b) ?_
    (case a => k_is); (case l => k_is); (case c => k_is); (case k => k_is)
    (case b => exact fun _ _ _ _ _ _ us hl => match us, hl with | [_, _, _], _ => rfl)
    intro D4
    refine' FT.with_fact (FT.def_mk (nm := "carried") (st := FT.s_carried) (ps := ["base", "columns"]) KX G ?a ?l ?c ?k ?b) ?_
    (case a => k_is); (case l => k_is); (case c => k_is); (case k => k_is)
    (case b => exact fun _ _ _ _ _ _ us hl => match us, hl with | [_, _], _ => rfl)
    intro D5
    refine' FT.with_fact (FT.def_mk (nm := "figure_at") (st := FT.s_figure_at) (ps := ["tape", "place"]) KX G ?a ?l ?c ?k ?b) ?_
    (case a => k_is); (case l => k_is); (case c => k_is); (case k => k_is)
    (case b => exact fun _ _ _ _ _ _ us hl => match us, hl with | [_, _], _ => rfl)
    intro D6
    refine' FT.with_fact (FT.def_mk (nm := "added") (st := FT.s_added) (ps := ["base", "one", "two"]) KX G ?a ?l ?c ?k ?b) ?_
    (case a => k_is); (case l => k_is); (case c => k_is); (case k => k_is)
    (case b => exact fun _ _ _ _ _ _ us hl => match us, hl with | [_, _, _], _ => rfl)
    intro D7
    refine' FT.with_fact (FT.def_mk (nm := "lessened") (st := FT.s_lessened) (ps := ["base", "one", "two"]) KX G ?a ?l ?c ?k ?b) ?_
    (case a => k_is); (case l => k_is); (case c => k_is); (case k => k_is)
    (case b => exact fun _ _ _ _ _ _ us hl => match us, hl with | [_, _, _], _ => rfl)
    intro D8
    refine' FT.with_fact (FT.def_mk (nm := "multiplied") (st := FT.s_multiplied) (ps := ["base", "one", "two"]) KX G ?a ?l ?c ?k ?b) ?_
    (case a => k_is); (case l => k_is); (case c => k_is); (case k => k_is)
    (case b => exact fun _ _ _ _ _ _ us hl => match us, hl with | [_, _, _], _ => rfl)
    intro D9
    refine' FT.with_fact (FT.def_mk (nm := "worth") (st := FT.s_worth) (ps := ["base", "figures"]) KX G ?a ?l ?c ?k ?b) ?_
    (case a => k_is); (case l => k_is); (case c => k_is); (case k => k_is)
    (case b => exact fun _ _ _ _ _ _ us hl => match us, hl with | [_, _], _ => rfl)
    intro D10
    refine' FT.with_fact (FT.def_mk (nm := "times_within") (st := FT.s_times_within) (ps := ["base", "rest", "two"]) KX G ?a ?l ?c ?k ?b) ?_
    (case a => k_is); (case l => k_is); (case c => k_is); (case k => k_is)
    (case b => exact fun _ _ _ _ _ _ us hl => match us, hl with | [_, _, _], _ => rfl)
    intro D11
    refine' FT.with_fact (FT.def_mk (nm := "split") (st := FT.s_split) (ps := ["base", "one", "two"]) KX G ?a ?l ?c ?k ?b) ?_
    (case a => k_is); (case l => k_is); (case c => k_is); (case k => k_is)
    (case b => exact fun _ _ _ _ _ _ us hl => match us, hl with | [_, _, _], _ => rfl)
    intro D12
    refine' FT.with_fact (FT.def_mk (nm := "bettered") (st := FT.s_bettered) (ps := ["base", "tape", "guess"]) KX G ?a ?l ?c ?k ?b) ?_
    (case a => k_is); (case l => k_is); (case c => k_is); (case k => k_is)
    (case b => exact fun _ _ _ _ _ _ us hl => match us, hl with | [_, _, _], _ => rfl)
    intro D13
    refine' FT.with_fact (FT.def_mk (nm := "root_of") (st := FT.s_root_of) (ps := ["base", "tape"]) KX G ?a ?l ?c ?k ?b) ?_
    (case a => k_is); (case l => k_is); (case c => k_is); (case k => k_is)
    (case b => exact fun _ _ _ _ _ _ us hl => match us, hl with | [_, _], _ => rfl)
    intro D14
    refine' FT.with_fact (FT.def_mk (nm := "root") (st := FT.s_root) (ps := ["base", "tape"]) KX G ?a ?l ?c ?k ?b) ?_
    (case a => k_is); (case l => k_is); (case c => k_is); (case k => k_is)
    (case b => exact fun _ _ _ _ _ _ us hl => match us, hl with | [_, _], _ => rfl)
    intro D15
    refine' FT.with_fact (FT.def_mk (nm := "rebased") (st := FT.s_rebased) (ps := ["base", "tape", "other"]) KX G ?a ?l ?c ?k ?b) ?_
    (case a => k_is); (case l => k_is); (case c => k_is); (case k => k_is)
    (case b => exact fun _ _ _ _ _ _ us hl => match us, hl with | [_, _, _], _ => rfl)
    intro D16
    refine' FT.with_fact (FT.def_mk (nm := "_law_whole") (st := FT.s_law_whole) (ps := ["_law_found"]) KX G ?a ?l ?c ?k ?b) ?_
    (case a => k_is); (case l => k_is); (case c => k_is); (case k => k_is)
    (case b => exact fun _ _ _ _ _ _ us hl => match us, hl with | [_], _ => rfl)
    intro D17
    refine' FT.with_fact (FT.def_mk (nm := "_law_at") (st := FT.s_law_at) (ps := ["_law_script", "_law_k"]) KX G ?a ?l ?c ?k ?b) ?_
    (case a => k_is); (case l => k_is); (case c => k_is); (case k => k_is)
    (case b => exact fun _ _ _ _ _ _ us hl => match us, hl with | [_, _], _ => rfl)
    intro D18
    refine' FT.with_fact (FT.def_mk (nm := "_law_worth_of") (st := FT.s_law_worth_of) (ps := ["_law_base", "_law_tape"]) KX G ?a ?l ?c ?k ?b) ?_
    (case a => k_is); (case l => k_is); (case c => k_is); (case k => k_is)
    (case b => exact fun _ _ _ _ _ _ us hl => match us, hl with | [_, _], _ => rfl)
    intro D19
    refine' FT.with_fact (FT.def_mk (nm := "_law_base_by") (st := FT.s_law_base_by) (ps := ["_law_cell"]) KX G ?a ?l ?c ?k ?b) ?_
    (case a => k_is); (case l => k_is); (case c => k_is); (case k => k_is)
    (case b => exact fun _ _ _ _ _ _ us hl => match us, hl with | [_], _ => rfl)
    intro D20
    refine' FT.with_fact (FT.def_mk (nm := "_law_made") (st := FT.s_law_made) (ps := ["_law_base", "_law_cells"]) KX G ?a ?l ?c ?k ?b) ?_
    (case a => k_is); (case l => k_is); (case c => k_is); (case k => k_is)
    (case b => exact fun _ _ _ _ _ _ us hl => match us, hl with | [_, _], _ => rfl)
    intro D21
    refine' FT.with_fact (FT.def_mk (nm := "_law_two_by") (st := FT.s_law_two_by) (ps := ["_law_script", "_law_base"]) KX G ?a ?l ?c ?k ?b) ?_
    (case a => k_is); (case l => k_is); (case c => k_is); (case k => k_is)
    (case b => exact fun _ _ _ _ _ _ us hl => match us, hl with | [_, _], _ => rfl)
    intro D22
    refine' FT.with_fact (FT.def_mk (nm := "_law_said") (st := FT.s_law_said) (ps := ["_law_which", "_law_base", "_law_one", "_law_two"]) KX G ?a ?l ?c ?k ?b) ?_
    (case a => k_is); (case l => k_is); (case c => k_is); (case k => k_is)
    (case b => exact fun _ _ _ _ _ _ us hl => match us, hl with | [_, _, _, _], _ => rfl)
    intro D23
    refine' FT.with_fact (FT.def_mk (nm := "_law_good") (st := FT.s_law_good) (ps := ["_law_base", "_law_tape"]) KX G ?a ?l ?c ?k ?b) ?_
    (case a => k_is); (case l => k_is); (case c => k_is); (case k => k_is)
    (case b => exact fun _ _ _ _ _ _ us hl => match us, hl with | [_, _], _ => rfl)
    intro D24
    refine' FT.with_fact (FT.def_mk (nm := "_law_mixed") (st := FT.s_law_mixed) (ps := ["_law_script"]) KX G ?a ?l ?c ?k ?b) ?_
    (case a => k_is); (case l => k_is); (case c => k_is); (case k => k_is)
    (case b => exact fun _ _ _ _ _ _ us hl => match us, hl with | [_], _ => rfl)
    intro D25
    refine' FT.with_fact (FT.def_mk (nm := "_law_refuses") (st := FT.s_law_refuses) (ps := ["_law_which", "_law_base", "_law_one", "_law_two"]) KX G ?a ?l ?c ?k ?b) ?_
    (case a => k_is); (case l => k_is); (case c => k_is); (case k => k_is)
    (case b => exact fun _ _ _ _ _ _ us hl => match us, hl with | [_, _, _, _], _ => rfl)
    intro D26
    refine' FT.with_fact (FT.def_mk (nm := "_law_as_due") (st := FT.s_law_as_due) (ps := ["_law_which", "_law_base", "_law_one", "_law_two", "_law_due"]) KX G ?a ?l ?c ?k ?b) ?_
    (case a => k_is); (case l => k_is); (case c => k_is); (case k => k_is)
    (case b => exact fun _ _ _ _ _ _ us hl => match us, hl with | [_, _, _, _, _], _ => rfl)
    intro D27
    refine' FT.with_fact (FT.errs_mk KX G ?aB ?aT ?aS ?aN ?aE ?zB ?zT ?zS ?zN ?eB ?eT ?eS ?eN) ?_
    (case aB => k_is)
    (case aT => k_is)
    (case aS => k_is)
    (case aN => k_is)
    (case aE => k_is)
    (case zB => k_exc)
    (case zT => k_exc)
    (case zS => k_exc)
    (case zN => k_exc)
    (case eB => exact ⟨⟨by k_is, by k_is, by k_is, by k_is, by k_is, by k_is, by k_is, by k_is⟩, by kts_exm, by kit_is, by kts_exm, by kts_exm, by kts_exm, by kts_exm, by kit_is, by kit_is, by kit_is, by kit_is⟩)
    (case eT => exact ⟨⟨by k_is, by k_is, by k_is, by k_is, by k_is, by k_is, by k_is, by k_is⟩, by kts_exm, by kit_is, by kts_exm, by kts_exm, by kts_exm, by kts_exm, by kit_is, by kit_is, by kit_is, by kit_is⟩)
    (case eS => exact ⟨⟨by k_is, by k_is, by k_is, by k_is, by k_is, by k_is, by k_is, by k_is⟩, by kts_exm, by kit_is, by kts_exm, by kts_exm, by kts_exm, by kts_exm, by kit_is, by kit_is, by kit_is, by kit_is⟩)
    (case eN => exact ⟨⟨by k_is, by k_is, by k_is, by k_is, by k_is, by k_is, by k_is, by k_is⟩, by kts_exm, by kit_is, by kts_exm, by kts_exm, by kts_exm, by kts_exm, by kit_is, by kit_is, by kit_is, by kit_is⟩)
    intro X0
    have T : FT.Own mg := ⟨PySem.W.mg_none_of KX G (by k_is), PySem.W.mg_none_of KX G (by k_is), PySem.W.mg_none_of KX G (by k_is), PySem.W.mg_none_of KX G (by k_is), PySem.W.mg_none_of KX G (by k_is), PySem.W.mg_none_of KX G (by k_is), PySem.W.mg_none_of KX G (by k_is), PySem.W.mg_none_of KX G (by k_is), PySem.W.mg_none_of KX G (by k_is), PySem.W.mg_none_of KX G (by k_is), PySem.W.mg_none_of KX G (by k_is), PySem.W.mg_none_of KX G (by k_is), PySem.W.mg_none_of KX G (by k_is)⟩
    refine' FT.with_fact (FT.law_mk (nm := "law") (x := "_law_script") (st := FT.s_law) KX G hmg ?a ?l ?c ?k ?b) ?_
    (case a => k_is); (case l => k_is); (case c => k_is); (case k => k_is)
    (case b => exact fun _ _ _ _ _ _ _ _ => .of_eq rfl)
    intro L
    obtain ⟨fd, hb, F⟩ := L
    exact ⟨fd, hb, fun base _ _ => FT.main F T D0 D1 D2 D3 D4 D5 D6 D7 D8 D9 D10 D11 D12 D13 D14 D15 D16 D17 D18 D19 D20 D21 D22 D23 D24 D25 D26 D27 X0⟩

end