import PyProof.Rows.All
import Wide.All
import OpenK.AllK
import Wide.FinOn
import Lean
import PyProof.EqAt
import PyProof.EqKinds
import PyProof.TupleCall
import PyProof.CompFree
import PyProof.AttrMissHeap
import PyProof.ListNew
import PyProof.DictUpdate
import PyProof.DictList
import PyProof.FactsAll.dict_1
import PyProof.Rows.DictSet
import PyProof.Seq
import PyProof.TupleIter
import KE.KDictOf
import PyProof.NeKinds
import PyProof.ZipIter
import PyProof.EnumIter
import PyProof.EnumFor
import PyProof.EnumMake
import KE.KRevIter
import KE.KDictLaws
import PyProof.DictRoadsH
import KE.KDictList
import PyProof.ConsumeWalk
import PyProof.DictTruth
import PyProof.StrLawsTight
import PyProof.Rows.StrNews2
import KE.KIntText
import PyProof.Rows.FStrParts
import PyProof.StrWalks
import PySem.Challenge.RW_factloom_k11_whole_shown_and_read

set_option Elab.async false
set_option linter.all false
set_option maxRecDepth 100000
/-! THE HAND LAYER, for ints, bools, texts, own classes, LISTS and tuples (index, slices, in, append, pop ..), calls, loops. Paste it whole ahead of your own text; what your proof does not reach may be deleted. -/
namespace L2
open PySem PySem.Spec PyProof.Rows

/-- a key: an int or a str -/
abbrev Key := Sum Int Str
def keyIs : Key → Value → Bool
  | .inl k, v => Value.isInt k v
  | .inr x, v => Value.isStrOf x v
def keyH (w : World) : Key → Int
  | .inl k => hashInt k
  | .inr x => hashStr w x
theorem keyIs_shape : ∀ {k : Key} {v : Value}, keyIs k v = true → (∃ i t, k = Sum.inl i ∧ v = Value.int i t) ∨ (∃ x t, k = Sum.inr x ∧ v = Value.str x t)
  | .inl i, v, h => by
    obtain ⟨t, e⟩ := Value.isInt_shape (k := i) (v := v) h
    exact .inl ⟨i, t, rfl, e⟩
  | .inr x, v, h => by
    obtain ⟨t, e⟩ := Value.isStrOf_shape (x := x) (v := v) h
    exact .inr ⟨x, t, rfl, e⟩
theorem keyIs_int (i : Int) (t : Tok) : keyIs (.inl i) (.int i t) = true := by simp [keyIs, Value.isInt]
theorem keyIs_str (x : Str) (t : Tok) : keyIs (.inr x) (.str x t) = true := by simp [keyIs, Value.isStrOf]
theorem key_ll (a b : Int) : decide ((Sum.inl a : Key) = Sum.inl b) = (a == b) := by
  by_cases e : a = b
  · subst e; simp
  · have h : ¬ (Sum.inl a : Key) = Sum.inl b := fun q => e (Sum.inl.inj q)
    rw [decide_eq_false h]
    exact (beq_eq_false_iff_ne.mpr e).symm
theorem key_rr (a b : Str) : decide ((Sum.inr a : Key) = Sum.inr b) = decide (a = b) := by
  by_cases e : a = b
  · subst e; simp
  · have h : ¬ (Sum.inr a : Key) = Sum.inr b := fun q => e (Sum.inr.inj q)
    rw [decide_eq_false h, decide_eq_false e]
theorem key_lr (a : Int) (b : Str) : decide ((Sum.inl a : Key) = Sum.inr b) = false := decide_eq_false (fun q => nomatch q)
theorem key_rl (a : Str) (b : Int) : decide ((Sum.inr a : Key) = Sum.inl b) = false := decide_eq_false (fun q => nomatch q)

def mixKind (prog : Program) (w : World) : PySem.KeyKind prog w Key where
  is := keyIs
  hash := keyH w
  inj := fun v a b ha hb => by
    rcases keyIs_shape ha with ⟨i, t, rfl, rfl⟩ | ⟨x, t, rfl, rfl⟩
    · rcases keyIs_shape hb with ⟨j, u, rfl, e⟩ | ⟨y, u, rfl, e⟩
      · injection e with e1 _; rw [e1]
      · exact nomatch e
    · rcases keyIs_shape hb with ⟨j, u, rfl, e⟩ | ⟨y, u, rfl, e⟩
      · exact nomatch e
      · injection e with e1 _; rw [e1]
  byValue := fun k v h => by
    rcases keyIs_shape h with ⟨i, t, rfl, rfl⟩ | ⟨x, t, rfl, rfl⟩ <;> rfl
  pyHash := fun hv h => by
    rcases keyIs_shape hv with ⟨i, t, rfl, rfl⟩ | ⟨x, t, rfl, rfl⟩
    · exact wpAny_pyHash_int h
    · exact wpAny_pyHash_str h
  eqBool := fun hu hv h => by
    rcases keyIs_shape hu with ⟨i, t, rfl, rfl⟩ | ⟨x, t, rfl, rfl⟩
    · rcases keyIs_shape hv with ⟨j, u, rfl, rfl⟩ | ⟨y, u, rfl, rfl⟩
      · rw [key_ll] at h; exact wpAny_eqBool_int h
      · rw [key_lr] at h; exact SeqAt.EqAt.int_str i t y u _ _ _ _ h
    · rcases keyIs_shape hv with ⟨j, u, rfl, rfl⟩ | ⟨y, u, rfl, rfl⟩
      · rw [key_rl] at h; exact SeqAt.EqAt.str_int x t j u _ _ _ _ h
      · rw [key_rr] at h; exact wpAny_eqBool_str h
  «strs» := fun k x t v h => by
    rcases keyIs_shape h with ⟨i, u, rfl, e⟩ | ⟨y, u, rfl, e⟩
    · exact nomatch e
    · injection e with e1 _
      subst e1
      cases v <;> rfl

theorem mixKind_is (prog : Program) (w : World) (k : Key) (v : Value) : (mixKind prog w).is k v = keyIs k v := rfl
theorem mixKind_int (prog : Program) (w : World) (i : Int) (t : Tok) : (mixKind prog w).is (.inl i) (.int i t) = true := keyIs_int i t
theorem mixKind_str (prog : Program) (w : World) (x : Str) (t : Tok) : (mixKind prog w).is (.inr x) (.str x t) = true := keyIs_str x t
end L2

namespace L2
open PySem PySem.Spec PyProof.Rows

/-- a value, without the heap -/
inductive V where
  | non | bl (b : Bool) | int (i : Int) | str (x : Str) | byt (b : Array UInt8) | flt (b : UInt64) | ref (a : Addr) | ty (n : String)
  deriving DecidableEq

def RelV : V → Value → Prop
  | .non, u => u = Value.none
  | .bl b, u => u = Value.bool b
  | .int i, u => ∃ t, u = Value.int i t
  | .str x, u => ∃ t, u = Value.str x t
  | .byt b, u => ∃ t, u = Value.bytes b t
  | .flt b, u => ∃ t, u = Value.float b t
  | .ref a, u => u = Value.ref a
  | .ty n, u => u = Value.type n

abbrev Vals : List V → List Value → Prop := Paired RelV
theorem Vals.length {xs : List V} {us : List Value} (r : Vals xs us) : xs.length = us.length := Paired.length r
theorem Vals.get : ∀ {xs : List V} {us : List Value} {i : Nat} {x : V}, Vals xs us → xs[i]? = some x → ∃ u, us[i]? = some u ∧ RelV x u
  | _, _, _, _, .nil, e => by simp at e
  | _, _, 0, _, .cons r _, e => by simp at e; subst e; exact ⟨_, rfl, r⟩
  | _, _, i + 1, x, .cons _ t, e => by
    obtain ⟨u, h1, h2⟩ := Vals.get (i := i) (x := x) t (by simpa using e)
    exact ⟨u, by simpa using h1, h2⟩
theorem Vals.set {x : V} {u : Value} (r : RelV x u) : ∀ {xs : List V} {us : List Value} (i : Nat), Vals xs us → Vals (xs.set i x) (us.set i u)
  | _, _, _, .nil => .nil
  | _, _, 0, .cons _ t => .cons r t
  | _, _, i + 1, .cons q t => .cons q (Vals.set r i t)
theorem Vals.append : ∀ {xs ys : List V} {us ws : List Value}, Vals xs us → Vals ys ws → Vals (xs ++ ys) (us ++ ws)
  | _, _, _, _, .nil, s => s
  | _, _, _, _, .cons r t, s => .cons r (Vals.append t s)
theorem Vals.take : ∀ {xs : List V} {us : List Value} (n : Nat), Vals xs us → Vals (xs.take n) (us.take n)
  | _, _, 0, _ => .nil
  | _, _, _ + 1, .nil => .nil
  | _, _, n + 1, .cons r t => .cons r (Vals.take n t)
theorem Vals.drop : ∀ {xs : List V} {us : List Value} (n : Nat), Vals xs us → Vals (xs.drop n) (us.drop n)
  | _, _, 0, r => r
  | _, _, _ + 1, .nil => .nil
  | _, _, n + 1, .cons _ t => Vals.drop n t
theorem Vals.none_of : ∀ {xs : List V} {us : List Value} {i : Nat}, Vals xs us → xs[i]? = none → us[i]? = none := fun {xs us i} r e => by
  have h1 := r.length
  have h2 : xs.length ≤ i := List.getElem?_eq_none_iff.mp e
  exact List.getElem?_eq_none_iff.mpr (by omega)

def RelO : Option V → Option Value → Prop
  | some v, some u => RelV v u
  | none, none => True
  | _, _ => False
def KV {κ : Type} : List (κ × V) → List (κ × Value) → Prop := Paired fun (p : κ × V) (q : κ × Value) => p.1 = q.1 ∧ RelV p.2 q.2

/-- a key of a dict (00_mix): an int or a text -/
def kV : Key → V
  | .inl i => .int i
  | .inr x => .str x

/-- what stands at a tracked address -/
inductive HO where
  /-- a list -/
  | lst (xs : List V)
  /-- a tuple (never changes) -/
  | tup (xs : List V)
  /-- a dict whose keys are ints and texts; one whose keys are tuples of ints and texts (the empty one is both) -/
  | dK (kvs : List (Key × V)) | dT (kvs : List (List Key × V))
  /-- a set of ints: its members, its size -/
  | set (S : Int → Bool) (n : Nat)
  /-- an instance of the class at C, its dict at dx, its attributes -/
  | ins (C dx : Addr) (fs : List (Str × V))
  /-- the dict of the instance at x -/
  | own (x : Addr)
  /-- the dict of an exception -/
  | xd (fs : List (Str × V))
  /-- a bound method, f of x -/
  | met (f x : Addr)
  /-- a range object lo, lo + 1, .. below hi -/
  | rng (lo hi : Int)
  /-- a thing that is known to the object (the script; a dict while a loop walks it): read, never written while it is so -/
  | frz (o : Obj) (u : HO)
  /-- a code object's table -/
  | tbl (ps : Array Value)
  /-- any other thing, by what is true of its one object (a def of one's own: SetO a S n := HO.ext fun h => ..) -/
  | ext (φ : Heap → Prop)

abbrev Hp := Addr → Option HO
def upd (H : Hp) (a : Addr) (o : HO) : Hp := fun b => if b = a then some o else H b
theorem upd_same {H : Hp} {a : Addr} {o : HO} : upd H a o a = some o := by unfold upd; rw [if_pos rfl]
theorem upd_ne {H : Hp} {a b : Addr} {o : HO} (h : b ≠ a) : upd H a o b = H b := by unfold upd; rw [if_neg h]
theorem upd_upd {H : Hp} {a : Addr} {o u : HO} : upd (upd H a o) a u = upd H a u := by
  funext b; unfold upd; split <;> rfl
/-- two objects of different content stand apart -/
theorem ne_of {H : Hp} {a b : Addr} {o u : HO} (h : H a = some o) (h' : H b = some u) (d : o ≠ u) : a ≠ b := by
  intro e; subst e; rw [h] at h'; exact d (Option.some.inj h')
theorem ne_of_none {H : Hp} {a b : Addr} {o : HO} (h : H a = some o) (h' : H b = none) : a ≠ b := by
  intro e; subst e; rw [h] at h'; cases h'

section
variable (P : Program) (w : World)
def ObjOk (H : Hp) (h : Heap) (a : Addr) : HO → Prop
  | .lst xs => xs.length ≤ sizeLine ∧ ∃ (its : List Value) (n : Nat), Vals xs its ∧ h.get? a = some { cls := .type "list", data := .seq its.toArray n }
  | .tup xs => xs.length ≤ sizeLine ∧ ∃ its : List Value, Vals xs its ∧ IsTup h a its.toArray
  | .dK kvs => kvs.length ≤ sizeLine ∧ (a == sysModules) = false ∧ ∃ vs, KV kvs vs ∧ h.DictOf (mixKind P w) a vs
  | .dT kvs => kvs.length ≤ sizeLine ∧ (a == sysModules) = false ∧ ∃ xs : List (List Key × Addr × Value),
      Paired (fun (p : List Key × V) (q : List Key × Addr × Value) => p.1 = q.1 ∧ H q.2.1 = some (.tup (p.1.map kV)) ∧ RelV p.2 q.2.2) kvs xs ∧
      ∃ o es ep, h.get? a = some o ∧ o.ExactDict ∧ o.data = .dict es ep ∧ es.toList = xs.map (entryOfKey (tupleKind (mixKind P w))) ∧ (xs.map (·.1)).Nodup
  | .set S n => h.SetOf (intKind P w) a S n
  | .ins C dx fs => H dx = some (.own a) ∧ fs.length ≤ 1000 ∧ dx ≠ a ∧ h.get? a = some (PySem.W.instObj C dx) ∧
      ∃ mA, h.Ns1 dx mA ∧ (∀ f, RelO (fs.lookup f) (mA f)) ∧ PySem.Within mA (fs.map (·.1))
  | .own _ => ∃ o, h.get? a = some o
  | .xd fs => ∃ mA, h.Ns1 a mA ∧ ∀ f, RelO (fs.lookup f) (mA f)
  | .rng lo hi => ∃ t u v, h.get? a = some { cls := .type "range", data := .fields #[.int lo t, .int hi u, .int 1 v] }
  | .frz o u => h.get? a = some o ∧ ObjOk H h a u
  | .tbl ps => h.get? a = some { cls := .none, data := .fields ps }
  | .met f x => h.get? a = some (PySem.W.methodObj (.ref f) (.ref x))
  | .ext φ => φ h ∧ (∃ o, h.get? a = some o) ∧ ∀ h1 h2 : Heap, φ h1 → (∀ o, h1.get? a = some o → h2.get? a = some o) → φ h2
/-- the abstract heap is held -/
def HOk (H : Hp) (h : Heap) : Prop := ∀ a o, H a = some o → ObjOk P w H h a o
end

section
variable {P : Program} {w : World} {H H' : Hp} {h h' : Heap} {a : Addr} {o : HO}
theorem ObjOk.lt (x : ObjOk P w H h a o) : a < h.objs.size := by
  cases o with
  | lst xs => obtain ⟨_, _, _, _, e⟩ := x; exact Heap.lt_size e
  | tup xs => obtain ⟨_, _, _, p⟩ := x; exact p.lt
  | dK kvs => obtain ⟨_, _, _, _, o, _, _, e, _⟩ := x; exact Heap.lt_size e
  | dT kvs => obtain ⟨_, _, _, _, o, _, _, e, _⟩ := x; exact Heap.lt_size e
  | set S n => obtain ⟨o, _, _, _, e, _⟩ := x; exact Heap.lt_size e
  | ins C dx fs => obtain ⟨_, _, _, e, _⟩ := x; exact Heap.lt_size e
  | own y => obtain ⟨_, e⟩ := x; exact Heap.lt_size e
  | xd fs => obtain ⟨_, ⟨_, _, _, e, _⟩, _⟩ := x; exact Heap.lt_size e
  | rng lo hi => obtain ⟨_, _, _, e⟩ := x; exact Heap.lt_size e
  | frz ob u => obtain ⟨e, _⟩ := x; exact Heap.lt_size e
  | tbl ps => exact Heap.lt_size (show h.get? a = some _ from x)
  | met f y => exact Heap.lt_size (show h.get? a = some _ from x)
  | ext φ => obtain ⟨_, ⟨_, e⟩, _⟩ := x; exact Heap.lt_size e
theorem Paired.mapP {α β : Type} {F G : α → β → Prop} : ∀ {l₁ : List α} {l₂ : List β}, Paired F l₁ l₂ → (∀ a b, F a b → G a b) → Paired G l₁ l₂
  | _, _, .nil, _ => .nil
  | _, _, .cons r t, f => .cons (f _ _ r) (Paired.mapP t f)
theorem Paired.imp' {α β : Type} {F G : α → β → Prop} (f : ∀ a b, F a b → G a b) {l₁ : List α} {l₂ : List β} (r : Paired F l₁ l₂) : Paired G l₁ l₂ := Paired.mapP r f
/-- what an object's description leans on: its own object, its own dict, the tuples -/
theorem ObjOk.stay (x : ObjOk P w H h a o) (k : ∀ b u, (b = a ∨ H b = some (.own a)) → h.get? b = some u → h'.get? b = some u)
    (ho : ∀ b, H b = some (.own a) → H' b = some (.own a)) (ht : ∀ b xs, H b = some (.tup xs) → H' b = some (.tup xs)) : ObjOk P w H' h' a o := by
  induction o with
  | lst xs => obtain ⟨z, its, n, r, e⟩ := x; exact ⟨z, its, n, r, k _ _ (.inl rfl) e⟩
  | tup xs => obtain ⟨z, its, r, ob, e, c⟩ := x; exact ⟨z, its, r, ob, k _ _ (.inl rfl) e, c⟩
  | dK kvs => obtain ⟨z, y, vs, r, ob, es, ep, e, c⟩ := x; exact ⟨z, y, vs, r, ob, es, ep, k _ _ (.inl rfl) e, c⟩
  | dT kvs =>
    obtain ⟨z, y, xs, r, ob, es, ep, e, c⟩ := x
    exact ⟨z, y, xs, Paired.mapP r fun p q z => ⟨z.1, ht _ _ z.2.1, z.2.2⟩, ob, es, ep, k _ _ (.inl rfl) e, c⟩
  | set S n => obtain ⟨ob, es, ep, t, e, c⟩ := x; exact ⟨ob, es, ep, t, k _ _ (.inl rfl) e, c⟩
  | ins C dx fs =>
    obtain ⟨d, z, ne, e, mA, ⟨od, es, ep, e2, c⟩, r⟩ := x
    exact ⟨ho _ d, z, ne, k _ _ (.inl rfl) e, mA, ⟨od, es, ep, k _ _ (.inr d) e2, c⟩, r⟩
  | own y => obtain ⟨ob, e⟩ := x; exact ⟨ob, k _ _ (.inl rfl) e⟩
  | xd fs => obtain ⟨mA, ⟨od, es, ep, e, c⟩, r⟩ := x; exact ⟨mA, ⟨od, es, ep, k _ _ (.inl rfl) e, c⟩, r⟩
  | rng lo hi => obtain ⟨t, u, v, e⟩ := x; exact ⟨t, u, v, k _ _ (.inl rfl) e⟩
  | frz ob u ih => obtain ⟨e, q⟩ := x; exact ⟨k _ _ (.inl rfl) e, ih q⟩
  | tbl ps =>
    have e : h.get? a = some { cls := .none, data := .fields ps } := x
    show h'.get? a = some { cls := .none, data := .fields ps }
    exact k a _ (.inl rfl) e
  | met f y =>
    have e : h.get? a = some (PySem.W.methodObj (.ref f) (.ref y)) := x
    show h'.get? a = some (PySem.W.methodObj (.ref f) (.ref y))
    exact k a _ (.inl rfl) e
  | ext φ => obtain ⟨p, ⟨o, e⟩, st⟩ := x; exact ⟨st _ _ p fun o q => k _ _ (.inl rfl) q, ⟨o, k _ _ (.inl rfl) e⟩, st⟩
theorem HOk.lt (x : HOk P w H h) (e : H a = some o) : a < h.objs.size := (x a o e).lt
theorem HOk.fresh (x : HOk P w H h) (e : h.objs.size ≤ a) : H a = none := by
  cases q : H a with
  | none => rfl
  | some u => exact absurd (Nat.lt_of_lt_of_le (x.lt q) e) (Nat.lt_irrefl _)
/-- every object of the heap is kept -/
theorem HOk.kept (x : HOk P w H h) (k : ∀ b u, h.get? b = some u → h'.get? b = some u) : HOk P w H h' := fun a o e =>
  (x a o e).stay (fun b u _ q => k b u q) (fun _ q => q) fun _ _ q => q
/-- a new object is laid and tracked -/
theorem HOk.laid (x : HOk P w H h) (k : ∀ b u, h.get? b = some u → h'.get? b = some u) (hp : h.objs.size ≤ a) (new : ObjOk P w (upd H a o) h' a o) : HOk P w (upd H a o) h' := fun b u e => by
  have hn := x.fresh hp
  by_cases hb : b = a
  · subst hb; rw [upd_same] at e; cases e; exact new
  · rw [upd_ne hb] at e
    exact (x b u e).stay (fun c v _ q => k c v q) (fun c q => by rw [upd_ne (ne_of_none q hn)]; exact q) fun c xs q => by rw [upd_ne (ne_of_none q hn)]; exact q
end

/-- what may be read as u: it is u, or a known u -/
def Rd (H : Hp) (a : Addr) (u : HO) : Prop := H a = some u ∨ ∃ o, H a = some (.frz o u)
theorem Rd.of {H : Hp} {a : Addr} {u : HO} (h : H a = some u) : Rd H a u := .inl h
theorem Rd.ok {P : Program} {w : World} {H : Hp} {h : Heap} {a : Addr} {u : HO} (r : Rd H a u) (x : HOk P w H h) : ObjOk P w H h a u := by
  rcases r with r | ⟨o, r⟩
  · exact x a u r
  · obtain ⟨_, q⟩ := x a _ r
    exact q
/-- what may be written -/
def Mut : Option HO → Prop
  | some (.lst _) => True
  | some (.dK _) => True
  | some (.dT _) => True
  | some (.set _ _) => True
  | some (.ins _ _ _) => True
  | some (.ext _) => True
  | _ => False
section
variable {P : Program} {w : World} {H : Hp} {h h' : Heap} {x e : Addr} {o' : HO}
/-- the object at e is changed: x itself, or the dict of the instance x -/
theorem HOk.write (ok : HOk P w H h) (mu : Mut (H x)) (he : e = x ∨ H e = some (.own x)) (k : ∀ b u, b ≠ e → h.get? b = some u → h'.get? b = some u) (heo : ∃ u, h'.get? e = some u)
    (new : ObjOk P w (upd H x o') h' x o') : HOk P w (upd H x o') h' := fun b u q => by
  have nown : ∀ c y, H c = some (.own y) → c ≠ x := fun c y r z => by subst z; rw [r] at mu; exact mu
  have ntup : ∀ c xs, H c = some (.tup xs) → c ≠ x := fun c xs r z => by subst z; rw [r] at mu; exact mu
  by_cases hb : b = x
  · subst hb; rw [upd_same] at q; cases q; exact new
  · rw [upd_ne hb] at q
    by_cases hbe : b = e
    · have q' : H b = some (.own x) := by
        rcases he with z | z
        · exact absurd (hbe.trans z) hb
        · rw [hbe]; exact z
      rw [q] at q'; cases q'
      obtain ⟨v, hv⟩ := heo
      exact ⟨v, by rw [hbe]; exact hv⟩
    · refine (ok b u q).stay (fun c v hc r => k c v ?_ r) (fun c r => by rw [upd_ne (nown c b r)]; exact r) fun c xs r => by rw [upd_ne (ntup c xs r)]; exact r
      rcases hc with rfl | hc
      · exact hbe
      · rintro rfl
        rcases he with z | z
        · exact nown c b hc z
        · rw [hc] at z; cases z; exact hb rfl
end

/-! ### kept unless tracked; of the frames at fs (the callers') the slots may change (an exception that passes writes there); of the records at ex (iterators) nothing is said -/
structure Un (fs ex : List Addr) (H H' : Hp) (h h' : Heap) : Prop where
  keep : ∀ b o, h.get? b = some o → H b = none → b ∉ fs → b ∉ ex → h'.get? b = some o
  slot : ∀ b o, h.get? b = some o → H b = none → b ∈ fs → b ∉ ex → ∃ sl, h'.get? b = some { o with slots := sl }
  free : ∀ b o, h.get? b = some o → H b = none → b ∉ ex → H' b = none
  there : ∀ b o, h.get? b = some o → b ∉ ex → ∃ o', h'.get? b = some o'
  tups : ∀ b xs, H b = some (.tup xs) → H' b = some (.tup xs)
  frzs : ∀ b o u, H b = some (.frz o u) → H' b = some (.frz o u)
  tbls : ∀ b ps, H b = some (.tbl ps) → ∃ more, H' b = some (.tbl (ps ++ more))
section
variable {fs fs' ex ex' : List Addr} {H H1 H2 : Hp} {h h1 h2 h' : Heap} {a x e : Addr} {o : HO}
theorem Un.any (u : Un fs ex H H1 h h1) {b : Addr} {ob : Obj} (q : h.get? b = some ob) (n : H b = none) (hx : b ∉ ex) : ∃ sl, h1.get? b = some { ob with slots := sl } := by
  by_cases hb : b ∈ fs
  · exact u.slot b ob q n hb hx
  · exact ⟨ob.slots, u.keep b ob q n hb hx⟩
theorem Un.trans (a : Un fs ex H H1 h h1) (b : Un fs ex H1 H2 h1 h2) : Un fs ex H H2 h h2 where
  keep := fun c ob q n hc hx => b.keep c ob (a.keep c ob q n hc hx) (a.free c ob q n hx) hc hx
  slot := fun c ob q n hc hx => by
    obtain ⟨sl, e1⟩ := a.slot c ob q n hc hx
    obtain ⟨sl', e2⟩ := b.slot c _ e1 (a.free c ob q n hx) hc hx
    exact ⟨sl', e2⟩
  free := fun c ob q n hx => by
    obtain ⟨o', e1⟩ := a.there c ob q hx
    exact b.free c o' e1 (a.free c ob q n hx) hx
  there := fun c ob q hx => by
    obtain ⟨o', e1⟩ := a.there c ob q hx
    exact b.there c o' e1 hx
  tups := fun c xs q => b.tups c xs (a.tups c xs q)
  frzs := fun c ob xs q => b.frzs c ob xs (a.frzs c ob xs q)
  tbls := fun c ps q => by
    obtain ⟨m1, e1⟩ := a.tbls c ps q
    obtain ⟨m2, e2⟩ := b.tbls c _ e1
    exact ⟨m1 ++ m2, by rw [e2, Array.append_assoc]⟩
theorem Un.kept (k : ∀ b u, h.get? b = some u → h'.get? b = some u) : Un fs ex H H h h' :=
  ⟨fun b ob q _ _ _ => k b ob q, fun b ob q _ _ _ => ⟨ob.slots, k b ob q⟩, fun _ _ _ n _ => n, fun b ob q _ => ⟨ob, k b ob q⟩, fun _ _ q => q, fun _ _ _ q => q, fun _ ps q => ⟨#[], by rw [q]; simp⟩⟩
theorem Un.refl : Un fs ex H H h h := Un.kept fun _ _ q => q
theorem Un.laid (k : ∀ b u, h.get? b = some u → h'.get? b = some u) (hp : h.objs.size ≤ a) (hn : H a = none) : Un fs ex H (upd H a o) h h' where
  keep := fun b u q _ _ _ => k b u q
  slot := fun b u q _ _ _ => ⟨u.slots, k b u q⟩
  free := fun b u q n _ => by rw [upd_ne (Nat.ne_of_lt (Nat.lt_of_lt_of_le (Heap.lt_size q) hp))]; exact n
  there := fun b u q _ => ⟨u, k b u q⟩
  tups := fun b xs q => by rw [upd_ne (ne_of_none q hn)]; exact q
  frzs := fun b u xs q => by rw [upd_ne (ne_of_none q hn)]; exact q
  tbls := fun b ps q => ⟨#[], by rw [upd_ne (ne_of_none q hn), q]; simp⟩
theorem Un.write (mu : Mut (H x)) (he : e = x ∨ H e = some (.own x)) (k : ∀ b u, b ≠ e → h.get? b = some u → h'.get? b = some u) (heo : ∃ u, h'.get? e = some u) : Un fs ex H (upd H x o) h h' := by
  have hx : ∀ b, H b = none → b ≠ x := fun b n z => by subst z; rw [n] at mu; exact mu
  have hb : ∀ b, H b = none → b ≠ e := fun b n z => by
    subst z
    rcases he with r | r
    · exact hx b n r
    · rw [n] at r; cases r
  have hm : ∀ b u, H b = some u → ¬ Mut (some u) → b ≠ x := fun b u q nm z => by subst z; rw [q] at mu; exact nm mu
  refine ⟨fun b u q n _ _ => k b u (hb b n) q, fun b u q n _ _ => ⟨u.slots, k b u (hb b n) q⟩, fun b u q n _ => by rw [upd_ne (hx b n)]; exact n, fun b u q _ => ?_,
    fun b xs q => by rw [upd_ne (hm b _ q fun z => z)]; exact q, fun b u xs q => by rw [upd_ne (hm b _ q fun z => z)]; exact q, fun b ps q => ⟨#[], by rw [upd_ne (hm b _ q fun z => z), q]; simp⟩⟩
  by_cases hbe : b = e
  · subst hbe; exact heo
  · exact ⟨u, k b u hbe q⟩
theorem Un.mono (u : Un fs ex H H1 h h1) (hs : ∀ b ∈ fs, b ∈ fs') (hx : ∀ b ∈ ex, b ∈ ex') : Un fs' ex' H H1 h h1 :=
  ⟨fun b ob q n hb he => u.keep b ob q n (fun z => hb (hs b z)) fun z => he (hx b z), fun _ _ q n _ he => u.any q n fun z => he (hx _ z), fun b ob q n he => u.free b ob q n fun z => he (hx b z), fun b ob q he => u.there b ob q fun z => he (hx b z), u.tups, u.frzs, u.tbls⟩
end

/-! ### the heap without what is tracked -/
def trk (h : Heap) (H : Hp) : List Addr := (List.range h.objs.size).filter fun a => (H a).isSome
def hidT (h : Heap) (H : Hp) : Heap := PySem.W.hideAll h (trk h H)
theorem hidT_size (h : Heap) (H : Hp) : (hidT h H).objs.size = h.objs.size := PySem.W.hideAll_size _ _
theorem hidT_get {h : Heap} {H : Hp} {b : Addr} {o : Obj} (e : h.get? b = some o) (n : H b = none) : (hidT h H).get? b = some o :=
  PySem.W.hideAll_get _ e fun hm => by
    have q : (H b).isSome = true := (List.mem_filter.mp hm).2
    rw [n] at q; simp at q
theorem of_hidT {h : Heap} {H : Hp} {b : Addr} {o : Obj} (e : (hidT h H).get? b = some o) : h.get? b = some o ∧ H b = none := by
  have e' : h.get? b = some o := PySem.W.of_hideAll (trk h H) e
  refine ⟨e', ?_⟩
  cases q : H b with
  | none => rfl
  | some x =>
    have hm : b ∈ trk h H := List.mem_filter.mpr ⟨List.mem_range.mpr (Heap.lt_size e'), by simp [q]⟩
    have z : (hidT h H).get? b = none := PySem.W.hideAll_none (trk h H) hm
    rw [z] at e; cases e

/-! ### OpenK's ledger, filled with every new object but one -/
def allNews (g h : Heap) (L : Addr) : List (Addr × Obj) := (List.range h.objs.size).filterMap fun a => if a = L ∨ (g.get? a).isSome = true then none else (h.get? a).map fun o => (a, o)
theorem mem_allNews {g h : Heap} {L a : Addr} {o : Obj} (h1 : a ≠ L) (h2 : g.get? a = none) (h3 : h.get? a = some o) : (a, o) ∈ allNews g h L :=
  List.mem_filterMap.mpr ⟨a, List.mem_range.mpr (Heap.lt_size h3), by simp [h1, h2, h3]⟩
theorem of_mem_allNews {g h : Heap} {L : Addr} {p : Addr × Obj} (hp : p ∈ allNews g h L) : p.1 ≠ L ∧ g.get? p.1 = none ∧ h.get? p.1 = some p.2 := by
  obtain ⟨b, _, e⟩ := List.mem_filterMap.mp hp
  split at e
  · cases e
  · rename_i hn
    cases q : h.get? b with
    | none => rw [q] at e; simp at e
    | some u =>
      rw [q] at e
      simp only [Option.map_some, Option.some.injEq] at e
      subst e
      refine ⟨fun z => hn (.inl z), ?_, q⟩
      show g.get? b = none
      cases r : g.get? b with
      | none => rfl
      | some v => exact (hn (.inr (by simp [r]))).elim
def rest (g h : Heap) (L d : Addr) : List (Addr × Obj) := (allNews g h L).filter fun p => decide (p.1 ≠ d)
theorem rest_ne {g h : Heap} {L d : Addr} : ∀ p ∈ rest g h L d, p.1 ≠ d := fun p hp => of_decide_eq_true (List.mem_filter.mp hp).2
theorem mem_rest {g h : Heap} {L d a : Addr} {o : Obj} (h1 : a ≠ L) (h2 : g.get? a = none) (h3 : h.get? a = some o) (h4 : a ≠ d) : (a, o) ∈ rest g h L d :=
  List.mem_filter.mpr ⟨mem_allNews h1 h2 h3, decide_eq_true h4⟩
theorem news_all {g h : Heap} {L : Addr} : News g L h (allNews g h L) := fun p hp => let ⟨a, b, c⟩ := of_mem_allNews hp; ⟨c, a, b⟩
theorem news_at {g h : Heap} {L d : Addr} {o : Obj} (h1 : d ≠ L) (h2 : g.get? d = none) (h3 : h.get? d = some o) : News g L h ((d, o) :: rest g h L d) := fun p hp => by
  rcases List.mem_cons.mp hp with rfl | hp
  · exact ⟨h3, h1, h2⟩
  · exact news_all p (List.mem_filter.mp hp).1
/-- behind a rule that changed d alone: all else but the frame is kept -/
theorem kept_of_news {g h h' : Heap} {L d : Addr} {m : Str → Option Value} (k : ∀ b o, g.get? b = some o → h.get? b = some o) (F : Fr g L h' m) (N : News g L h' (rest g h L d)) :
    ∀ b o, b ≠ L → b ≠ d → h.get? b = some o → h'.get? b = some o := fun b o h1 h2 e => by
  cases q : g.get? b with
  | some u =>
    have := k b u q
    rw [e] at this; cases this
    exact F.keep b _ q
  | none => exact (N (b, o) (mem_rest h1 q e h2)).1
end L2

namespace L2
open PySem PySem.Spec PyProof.Rows

/-- the module's facts, over the base: the heap at the law's entry without what is tracked there -/
structure Mod (K : PySem.W.Frag) (mg : Str → Option Value) (base : Heap) : Prop where
  kin : K.In base
  glob : base.Ns mainGlobals mg
  blt : ∃ mb, base.Ns builtinsNs mb ∧ ∀ x : Str, x ≠ "__name__" → mb x = bootBuiltins x
  nolimit : base.NoLimit

/-- the context: a def's body (or a comprehension's block) running. base: fixed through the whole law; s₀, H₀: the entry; outer: the frames whose slots others may change (a def's callers); stack: all frames that run;
   ex: iterators that were made ahead of the entry and are walked here (a comprehension's); fn: the names whose cells were made at the entry (a def: all; a comprehension's block: its own); calm: not within an except suite; pn: pins that every state bears; xe: what is wanted of an exception that leaves the code -/
structure Cx where
  prog : Program
  w : World
  K : PySem.W.Frag
  mg : Str → Option Value
  base : Heap
  A : Around
  N : List Str
  s₀ : Shared
  H₀ : Hp
  env : Env
  outer : List Env
  stack : List Env
  ex : List Addr
  fn : Str → Bool
  calm : Bool
  pn : List (Addr × Obj)
  xe : Value → Shared → Prop
/-- the callers' frames -/
def frs (l : List Env) : List Addr := l.filterMap (·.frame)
abbrev Cx.fs (X : Cx) : List Addr := frs X.outer

def Vis (sc : Scope) (x : Str) : Prop := sc.names.lookup x = some .local ∨ sc.names.lookup x = some .cell ∨ sc.names.lookup x = some .free
def Loc (sc : Scope) (x : Str) : Prop := sc.names.lookup x = some .local ∨ sc.names.lookup x = some .cell
def Look (env : Env) (h : Heap) (m : Str → Option Value) (x : Str) (u : Value) : Prop :=
  (env.kindOf x = some .local ∧ m x = some u) ∨ ((env.kindOf x = some .cell ∨ env.kindOf x = some .free) ∧ ∃ c, env.cells.lookup x = some c ∧ h.IsCell c (some u))

structure Cx.Ok (X : Cx) : Prop where
  mod : Mod X.K X.mg X.base
  kind : X.env.scope.kind = .function
  glob : X.env.globals = mainGlobals
  blt : X.env.builtins = builtinsNs
  above : X.s₀.heap.objs.size ≤ X.env.locals
  inj : ∀ x y c, X.env.cells.lookup x = some c → X.env.cells.lookup y = some c → x = y
  has : ∀ x, (X.env.kindOf x = some .cell ∨ X.env.kindOf x = some .free) → ∃ c, X.env.cells.lookup x = some c
  cab : ∀ x c, X.fn x = true → X.env.cells.lookup x = some c → X.s₀.heap.objs.size ≤ c
  hd : X.calm = true → X.A.handled = none
  frames : X.A.frames = some X.stack
  stk : X.stack = X.outer ∨ (X.stack = X.env :: X.outer ∧ X.env.frame = some X.env.locals)
  exf : ∀ b ∈ X.ex, b ≠ X.env.locals ∧ ∀ x c, X.env.cells.lookup x = some c → c ≠ b
  bs : ∀ b o, X.base.get? b = some o → X.s₀.heap.get? b = some o ∧ X.H₀ b = none
  bsz : X.base.objs.size ≤ X.s₀.heap.objs.size
  noex : ∀ b o, X.base.get? b = some o → b ∉ X.ex
  exfs : ∀ b ∈ X.ex, b ∉ X.fs
  funs : X.s₀.heap.FunFrames X.base X.outer
  frf : ∀ b ∈ X.fs, X.H₀ b = none

structure Inv (X : Cx) (pins : List (Addr × Obj)) (σ : List (Option V)) (H : Hp) (s : Shared) : Prop where
  ok : X.Ok
  os : s.os = X.s₀.os
  bare : AllBare s.gens
  base : Un X.fs X.ex X.H₀ H X.s₀.heap s.heap
  loc : ∃ m, s.heap.Ns X.env.locals m ∧ ∀ (i : Nat) (x : Str) (v : V), X.N[i]? = some x → σ[i]? = some (some v) → Vis X.env.scope x → ∃ u, RelV v u ∧ Look X.env s.heap m x u
  cell : ∀ x c, X.env.cells.lookup x = some c → ∃ v, s.heap.IsCell c v
  free : H X.env.locals = none
  freeC : ∀ x c, X.env.cells.lookup x = some c → H c = none
  pin : ∀ p ∈ X.pn ++ pins, s.heap.get? p.1 = some p.2 ∧ H p.1 = none ∧ p.1 ≠ X.env.locals ∧ p.1 ∉ X.fs ∧ ∀ v, p.2.data ≠ .cell v
  hok : HOk X.prog X.w H s.heap
  len : σ.length = X.N.length

section
variable {X : Cx} {pins : List (Addr × Obj)} {σ : List (Option V)} {H H' : Hp} {s : Shared} {h' : Heap}

theorem Cx.Ok.nofr (ok : X.Ok) {b : Addr} {o : Obj} (e : X.base.get? b = some o) : b ∉ X.fs := fun hb => by
  have := (ok.funs.mem hb).1
  rw [e] at this; cases this
theorem Inv.bs (I : Inv X pins σ H s) : ∀ b o, X.base.get? b = some o → s.heap.get? b = some o ∧ H b = none := fun b o e =>
  ⟨I.base.keep b o (I.ok.bs b o e).1 (I.ok.bs b o e).2 (I.ok.nofr e) (I.ok.noex b o e), I.base.free b o (I.ok.bs b o e).1 (I.ok.bs b o e).2 (I.ok.noex b o e)⟩
theorem Inv.bk (I : Inv X pins σ H s) : ∀ b o, X.base.get? b = some o → s.heap.get? b = some o := fun b o e => (I.bs b o e).1
theorem Inv.mod (I : Inv X pins σ H s) : Mod X.K X.mg X.base := I.ok.mod
theorem Inv.kIn (I : Inv X pins σ H s) : X.K.In s.heap := I.ok.mod.kin.keeps I.bk
theorem Inv.nolimit (I : Inv X pins σ H s) : s.heap.NoLimit := I.ok.mod.nolimit.keeps I.bk
/-- the frame over the base: for OpenK's rules (K.In X.base is I.mod.kin) -/
theorem Inv.fr (I : Inv X pins σ H s) : ∃ m, Fr X.base X.env.locals s.heap m :=
  let ⟨m, hn, _⟩ := I.loc
  ⟨m, hn, I.bk, Nat.le_trans I.ok.bsz I.ok.above⟩
theorem Inv.lt (I : Inv X pins σ H s) : X.env.locals < s.heap.objs.size := let ⟨_, hn, _⟩ := I.loc; hn.lt
theorem Inv.sz (I : Inv X pins σ H s) : X.s₀.heap.objs.size ≤ s.heap.objs.size := Nat.le_trans I.ok.above (Nat.le_of_lt I.lt)
theorem Inv.nofs (I : Inv X pins σ H s) {a : Addr} (h : s.heap.objs.size ≤ a) : a ∉ X.fs := fun hb => by
  obtain ⟨_, o, ho, _⟩ := I.ok.funs.mem hb
  exact absurd (Nat.lt_of_lt_of_le (Heap.lt_size ho) (Nat.le_trans I.sz h)) (Nat.lt_irrefl _)
theorem Inv.cne (I : Inv X pins σ H s) : ∀ x c, X.env.cells.lookup x = some c → c ≠ X.env.locals := fun x c e z => by
  obtain ⟨v, o, ho, hd⟩ := I.cell x c e
  obtain ⟨m, ⟨o', es, ep, ho', hd', _⟩, _⟩ := I.loc
  rw [z, ho'] at ho; cases ho; rw [hd'] at hd; cases hd
theorem Inv.funs (I : Inv X pins σ H s) : s.heap.FunFrames X.base X.outer := by
  have all : ∀ (l : List Env), (∀ b ∈ frs l, b ∈ X.fs) → X.s₀.heap.FunFrames X.base l → s.heap.FunFrames X.base l := by
    intro l
    induction l with
    | nil => intro _ _; trivial
    | cons env r ih =>
      intro hs hl
      obtain ⟨hk, ⟨L, o, hf, hn, ho, hd⟩, hr⟩ := hl
      have hL : L ∈ X.fs := hs L (by unfold frs; rw [List.filterMap_cons, hf]; exact List.mem_cons_self)
      obtain ⟨sl, e⟩ := I.base.slot L o ho (I.ok.frf L hL) hL fun z => I.ok.exfs L z hL
      exact ⟨hk, ⟨L, _, hf, hn, e, hd⟩, ih (fun b hb => hs b (by unfold frs; rw [List.filterMap_cons, hf]; exact List.mem_cons_of_mem _ hb)) hr⟩
  exact all X.outer (fun _ hb => hb) I.ok.funs

/-- the frames that run, for a call -/
theorem Inv.stack (I : Inv X pins σ H s) : s.heap.FunFrames X.base X.stack := by
  rcases I.ok.stk with e | ⟨e, hf⟩
  · rw [e]; exact I.funs
  · rw [e]
    obtain ⟨m, hn, _⟩ := I.loc
    refine .cons (by rw [I.ok.kind]; decide) hf hn ?_ I.funs
    exact Heap.get?_none_of_le (Nat.le_trans I.ok.bsz I.ok.above)
theorem Inv.stkSub (I : Inv X pins σ H s) : ∀ b ∈ frs X.stack, b ∈ X.env.locals :: X.fs := fun b hb => by
  rcases I.ok.stk with e | ⟨e, hf⟩
  · rw [e] at hb; exact List.mem_cons_of_mem _ hb
  · rw [e] at hb
    unfold frs at hb
    rw [List.filterMap_cons, hf] at hb
    exact hb
theorem Inv.stkFree (I : Inv X pins σ H s) : ∀ b ∈ frs X.stack, H b = none := fun b hb => by
  rcases List.mem_cons.mp (I.stkSub b hb) with e | hb
  · rw [e]; exact I.free
  · obtain ⟨_, o, ho, _⟩ := I.ok.funs.mem hb
    exact I.base.free b o ho (I.ok.frf b hb) fun z => I.ok.exfs b z hb

/-- THE STEP: the untracked objects but the frame and the records at ch are kept (the callers' frames up to slots), the frame's map is kept, the new abstract heap is held -/
theorem Inv.step {g' : Array GenState} {t' : Nat} {d' : Drawn} {ch : List Addr} (I : Inv X pins σ H s)
    (hch : ∀ b ∈ ch, (b ∈ X.ex ∨ X.s₀.heap.objs.size ≤ b) ∧ b ≠ X.env.locals ∧ (∀ x c, X.env.cells.lookup x = some c → c ≠ b) ∧ ∀ p ∈ X.pn ++ pins, p.1 ≠ b)
    (keep : ∀ b o, b ≠ X.env.locals → b ∉ X.fs → b ∉ ch → s.heap.get? b = some o → H b = none → h'.get? b = some o)
    (slot : ∀ b o, b ≠ X.env.locals → b ∈ X.fs → b ∉ ch → s.heap.get? b = some o → H b = none → ∃ sl, h'.get? b = some { o with slots := sl }) (free : ∀ b o, b ∉ ch → s.heap.get? b = some o → H b = none → H' b = none)
    (there : ∀ b o, b ∉ ch → s.heap.get? b = some o → ∃ o', h'.get? b = some o')
    (tups : ∀ b xs, H b = some (.tup xs) → H' b = some (.tup xs)) (frzs : ∀ b o u, H b = some (.frz o u) → H' b = some (.frz o u)) (tbls : ∀ b ps, H b = some (.tbl ps) → ∃ more, H' b = some (.tbl (ps ++ more)))
    (ns : ∀ m, s.heap.Ns X.env.locals m → h'.Ns X.env.locals m) (hok : HOk X.prog X.w H' h') (hg : AllBare g') :
    Inv X pins σ H' { s with heap := h', gens := g', drawn := d', toks := t' } := by
  have neL : ∀ b o, X.s₀.heap.get? b = some o → b ≠ X.env.locals := fun b o e => Nat.ne_of_lt (Nat.lt_of_lt_of_le (Heap.lt_size e) I.ok.above)
  have neC : ∀ b o, X.s₀.heap.get? b = some o → b ∉ X.ex → b ∉ ch := fun b o e hx hb => by
    rcases (hch b hb).1 with z | z
    · exact hx z
    · exact absurd (Nat.lt_of_lt_of_le (Heap.lt_size e) z) (Nat.lt_irrefl _)
  have cellK : ∀ x c, X.env.cells.lookup x = some c → ∀ v, s.heap.IsCell c v → h'.IsCell c v := fun x c e v ⟨o, ho, hd⟩ => by
    have nch : c ∉ ch := fun z => (hch c z).2.2.1 x c e rfl
    by_cases hc : c ∈ X.fs
    · obtain ⟨sl, q⟩ := slot c o (I.cne x c e) hc nch ho (I.freeC x c e)
      exact ⟨_, q, hd⟩
    · exact ⟨o, keep c o (I.cne x c e) hc nch ho (I.freeC x c e), hd⟩
  refine ⟨I.ok, I.os, hg, ⟨fun b o e n hb hx => ?_, fun b o e n hb hx => ?_, fun b o e n hx => ?_, fun b o e hx => ?_, fun b xs e => tups b xs (I.base.tups b xs e), fun b o xs e => frzs b o xs (I.base.frzs b o xs e), fun b ps e => ?_⟩, ?_, fun x c e => ?_, ?_, fun x c e => ?_, fun p hp => ?_, hok, I.len⟩
  · exact keep b o (neL b o e) hb (neC b o e hx) (I.base.keep b o e n hb hx) (I.base.free b o e n hx)
  · obtain ⟨sl, e1⟩ := I.base.slot b o e n hb hx
    obtain ⟨sl', e2⟩ := slot b _ (neL b o e) hb (neC b o e hx) e1 (I.base.free b o e n hx)
    exact ⟨sl', e2⟩
  · obtain ⟨o', e1⟩ := I.base.there b o e hx
    exact free b o' (neC b o e hx) e1 (I.base.free b o e n hx)
  · obtain ⟨o', e1⟩ := I.base.there b o e hx
    exact there b o' (neC b o e hx) e1
  · obtain ⟨m1, e1⟩ := I.base.tbls b ps e
    obtain ⟨m2, e2⟩ := tbls b _ e1
    exact ⟨m1 ++ m2, by rw [e2, Array.append_assoc]⟩
  · obtain ⟨m, hn, hl⟩ := I.loc
    refine ⟨m, ns m hn, fun i x v e1 e2 e3 => ?_⟩
    obtain ⟨u, r, l⟩ := hl i x v e1 e2 e3
    refine ⟨u, r, ?_⟩
    rcases l with l | ⟨k, c, e, z⟩
    · exact .inl l
    · exact .inr ⟨k, c, e, cellK x c e _ z⟩
  · obtain ⟨v, z⟩ := I.cell x c e
    exact ⟨v, cellK x c e v z⟩
  · obtain ⟨m, ⟨o, _, _, ho, _⟩, _⟩ := I.loc
    exact free _ o (fun z => (hch _ z).2.1 rfl) ho I.free
  · obtain ⟨v, o, ho, hd⟩ := I.cell x c e
    exact free c o (fun z => (hch c z).2.2.1 x c e rfl) ho (I.freeC x c e)
  · obtain ⟨e, n, ne, nf, d⟩ := I.pin p hp
    have nch : p.1 ∉ ch := fun z => (hch p.1 z).2.2.2 p hp rfl
    exact ⟨keep p.1 p.2 ne nf nch e n, free p.1 p.2 nch e n, ne, nf, d⟩
/-- .. where the frame's own object is kept too -/
theorem Inv.un {t' : Nat} (I : Inv X pins σ H s) (u : Un X.fs [] H H' s.heap h') (hok : HOk X.prog X.w H' h') : Inv X pins σ H' { s with heap := h', toks := t' } := by
  obtain ⟨m, ⟨o, es, ep, ho, r⟩, _⟩ := id I.loc
  obtain ⟨sl, hL⟩ := u.any ho I.free (by simp)
  exact I.step (g' := s.gens) (d' := s.drawn) (ch := []) (fun _ z => nomatch z) (fun b o _ hb _ e n => u.keep b o e n hb (by simp)) (fun b o _ hb _ e n => u.slot b o e n hb (by simp)) (fun b o _ e n => u.free b o e n (by simp)) (fun b o _ e => u.there b o e (by simp)) u.tups u.frzs u.tbls (fun m' hm => by
    obtain ⟨o', es', ep', ho', r'⟩ := hm
    rw [ho] at ho'; cases ho'
    exact ⟨_, es', ep', hL, r'⟩) hok I.bare
/-- behind a call (or a comprehension's block): the slots of this frame may have changed too, the records at ch may have turned -/
theorem Inv.call {g' : Array GenState} {t' : Nat} {d' : Drawn} {ch : List Addr} (I : Inv X pins σ H s) (u : Un (frs X.stack) ch H H' s.heap h') (hok : HOk X.prog X.w H' h') (hg : AllBare g')
    (hch : ∀ b ∈ ch, (b ∈ X.ex ∨ X.s₀.heap.objs.size ≤ b) ∧ b ≠ X.env.locals ∧ (∀ x c, X.env.cells.lookup x = some c → c ≠ b) ∧ ∀ p ∈ X.pn ++ pins, p.1 ≠ b) :
    Inv X pins σ H' { s with heap := h', gens := g', drawn := d', toks := t' } := by
  obtain ⟨m, ⟨o, es, ep, ho, r⟩, _⟩ := id I.loc
  obtain ⟨sl, hL⟩ := u.any ho I.free fun z => (hch _ z).2.1 rfl
  exact I.step (ch := ch) hch (fun b o hL hb hc e n => u.keep b o e n (fun z => (List.mem_cons.mp (I.stkSub b z)).elim hL hb) hc) (fun b o _ _ hc e n => u.any e n hc) (fun b o hc e n => u.free b o e n hc) (fun b o hc e => u.there b o e hc) u.tups u.frzs u.tbls (fun m' hm => by
    obtain ⟨o', es', ep', ho', r'⟩ := hm
    rw [ho] at ho'; cases ho'
    exact ⟨_, es', ep', hL, r'⟩) hok hg
/-- an untracked record of ours (an iterator) has turned -/
theorem Inv.turned {t' : Nat} {it : Addr} (I : Inv X pins σ H s) (k : ∀ b o, b ≠ it → s.heap.get? b = some o → h'.get? b = some o) (hn : H it = none) (hL : it ≠ X.env.locals)
    (h1 : it ∈ X.ex ∨ X.s₀.heap.objs.size ≤ it) (h2 : ∀ x c, X.env.cells.lookup x = some c → c ≠ it) (h3 : ∀ p ∈ X.pn ++ pins, p.1 ≠ it) : Inv X pins σ H { s with heap := h', toks := t' } := by
  have nit : ∀ b u, H b = some u → b ≠ it := fun b u e z => by rw [z, hn] at e; cases e
  refine I.step (g' := s.gens) (d' := s.drawn) (ch := [it]) (fun b hb => ?_) (fun b o _ _ hc e _ => k b o (fun z => hc (by simp [z])) e) (fun b o _ _ hc e _ => ⟨o.slots, k b o (fun z => hc (by simp [z])) e⟩) (fun _ _ _ _ n => n)
    (fun b o hc e => ⟨o, k b o (fun z => hc (by simp [z])) e⟩) (fun _ _ e => e) (fun _ _ _ e => e) (fun b ps e => ⟨#[], by rw [e]; simp⟩) (fun m hm => ?_) (fun b u e => ?_) I.bare
  · have e : b = it := by simpa using hb
    subst e
    exact ⟨h1, hL, h2, h3⟩
  · obtain ⟨o, es, ep, ho, r⟩ := hm
    exact ⟨o, es, ep, k _ o (Ne.symm hL) ho, r⟩
  · refine (I.hok b u e).stay (fun c v hc q => k c v ?_ q) (fun _ q => q) fun _ _ q => q
    rcases hc with z | z
    · rw [z]; exact nit b u e
    · exact nit c _ z
theorem Inv.tok (I : Inv X pins σ H s) (t : Nat) : Inv X pins σ H { s with toks := t } := I.un (h' := s.heap) (t' := t) Un.refl I.hok
/-- all objects kept -/
theorem Inv.kept {t' : Nat} (I : Inv X pins σ H s) (k : ∀ b u, s.heap.get? b = some u → h'.get? b = some u) : Inv X pins σ H { s with heap := h', toks := t' } := I.un (Un.kept k) (I.hok.kept k)
/-- a new object laid and tracked -/
theorem Inv.laid {a : Addr} {o : HO} {t' : Nat} (I : Inv X pins σ H s) (k : ∀ b u, s.heap.get? b = some u → h'.get? b = some u) (hp : s.heap.objs.size ≤ a) (new : ObjOk X.prog X.w (upd H a o) h' a o) :
    Inv X pins σ (upd H a o) { s with heap := h', toks := t' } := I.un (Un.laid k hp (I.hok.fresh hp)) (I.hok.laid k hp new)
/-- an object written -/
theorem Inv.write {x e : Addr} {o : HO} {t' : Nat} (I : Inv X pins σ H s) (mu : Mut (H x)) (he : e = x ∨ H e = some (.own x)) (k : ∀ b u, b ≠ e → s.heap.get? b = some u → h'.get? b = some u) (heo : ∃ u, h'.get? e = some u)
    (new : ObjOk X.prog X.w (upd H x o) h' x o) : Inv X pins σ (upd H x o) { s with heap := h', toks := t' } := I.un (Un.write mu he k heo) (I.hok.write mu he k heo new)
/-- forgetting slots, pins -/
theorem Inv.weak {σ' : List (Option V)} (I : Inv X pins σ H s) (hl : σ'.length = σ.length) (w : ∀ (i : Nat) v, σ'[i]? = some (some v) → σ[i]? = some (some v)) : Inv X pins σ' H s :=
  ⟨I.ok, I.os, I.bare, I.base, let ⟨m, hn, hl'⟩ := I.loc; ⟨m, hn, fun i x v e1 e2 e3 => hl' i x v e1 (w i v e2) e3⟩, I.cell, I.free, I.freeC, I.pin, I.hok, hl.trans I.len⟩
theorem Inv.pins_of {pins' : List (Addr × Obj)} (I : Inv X pins σ H s) (h : ∀ p ∈ pins', s.heap.get? p.1 = some p.2 ∧ H p.1 = none ∧ p.1 ≠ X.env.locals ∧ p.1 ∉ X.fs ∧ ∀ v, p.2.data ≠ .cell v) : Inv X pins' σ H s :=
  ⟨I.ok, I.os, I.bare, I.base, I.loc, I.cell, I.free, I.freeC, fun p hp => (List.mem_append.mp hp).elim (fun z => I.pin p (List.mem_append_left _ z)) (h p), I.hok, I.len⟩

theorem nodup_ix {N : List Str} (hN : N.Nodup) {i j : Nat} {x : Str} (a : N[i]? = some x) (b : N[j]? = some x) : i = j := by
  obtain ⟨h1, e1⟩ := List.getElem?_eq_some_iff.mp a
  obtain ⟨h2, e2⟩ := List.getElem?_eq_some_iff.mp b
  exact (List.getElem_inj hN).mp (e1.trans e2.symm)

/-- a name is stored; what changed -/
theorem store_ok2 {M : Model} {A : Around} {E : Value → Shared → Prop} {i : Nat} {x : Str} {v : V} {u : Value} {Q : Unit → Shared → Prop} (I : Inv X pins σ H s) (hN : X.N.Nodup) (hi : X.N[i]? = some x) (hx : Loc X.env.scope x) (r : RelV v u)
    (h : ∀ s', Inv X pins (σ.set i (some v)) H s' → (∃ a, Heap.SameBut a s.heap s'.heap ∧ (a = X.env.locals ∨ X.env.cells.lookup x = some a)) → Q () s') (hf : X.fn x = true ∨ X.env.scope.names.lookup x = some .local := by first | exact .inl rfl | exact .inr rfl | assumption) : wpAny M A (storeName X.env x u) Q E s := by
  obtain ⟨m, hn, hl⟩ := id I.loc
  have hcls : (X.env.scope.kind == .class || (X.env.scope.kind == .module && X.env.locals != X.env.globals)) = false := by rw [I.ok.kind]; rfl
  have hiσ : i < σ.length := by rw [I.len]; exact (List.getElem?_eq_some_iff.mp hi).1
  have cne := I.cne
  have tracked : ∀ {a : Addr} {h' : Heap}, (∃ o, s.heap.get? a = some o ∧ H a = none) → Heap.SameBut a s.heap h' → HOk X.prog X.w H h' := fun {a h'} ha hs b ob e => by
    obtain ⟨_, _, hfree⟩ := ha
    refine (I.hok b ob e).stay (fun c w' hc q => (hs.2 c ?_).trans q) (fun _ q => q) fun _ _ q => q
    rintro rfl
    rcases hc with rfl | hc
    · rw [hfree] at e; cases e
    · rw [hfree] at hc; cases hc
  rcases hx with hk | hk
  · refine wpAny_storeName_local hk hn (fun h' hn' hs => ?_) hcls
    obtain ⟨oL, _, _, hoL, _⟩ := id hn
    refine h _ ⟨I.ok, I.os, I.bare, ⟨fun b o e n hb hx => ?_, fun b o e n hb hx => ?_, I.base.free, fun b o e hx => ?_, I.base.tups, I.base.frzs, I.base.tbls⟩, ⟨_, hn', fun j y v' e1 e2 e3 => ?_⟩, fun y c e => ?_, I.free, I.freeC, fun p hp => ?_, tracked ⟨oL, hoL, I.free⟩ hs, by simpa using I.len⟩ ⟨_, hs, .inl rfl⟩
    · exact (hs.2 b (Nat.ne_of_lt (Nat.lt_of_lt_of_le (Heap.lt_size e) I.ok.above))).trans (I.base.keep b o e n hb hx)
    · obtain ⟨sl, e1⟩ := I.base.slot b o e n hb hx
      exact ⟨sl, (hs.2 b (Nat.ne_of_lt (Nat.lt_of_lt_of_le (Heap.lt_size e) I.ok.above))).trans e1⟩
    · obtain ⟨o', e1⟩ := I.base.there b o e hx
      exact ⟨o', (hs.2 b (Nat.ne_of_lt (Nat.lt_of_lt_of_le (Heap.lt_size e) I.ok.above))).trans e1⟩
    · by_cases hj : j = i
      · subst hj
        rw [hi] at e1; cases e1
        rw [List.getElem?_set_self hiσ] at e2
        cases e2
        exact ⟨u, r, .inl ⟨hk, by simp⟩⟩
      · rw [List.getElem?_set_ne (Ne.symm hj)] at e2
        obtain ⟨u', r', q⟩ := hl j y v' e1 e2 e3
        refine ⟨u', r', ?_⟩
        rcases q with ⟨k, e⟩ | ⟨k, c, e, z⟩
        · refine .inl ⟨k, ?_⟩
          have : y ≠ x := fun e => hj (nodup_ix hN e1 (e ▸ hi))
          simp [this, e]
        · exact .inr ⟨k, c, e, z.sameBut hs (cne y c e)⟩
    · obtain ⟨w', z⟩ := I.cell y c e
      exact ⟨w', z.sameBut hs (cne y c e)⟩
    · obtain ⟨e, n, ne, nf, d⟩ := I.pin p hp
      exact ⟨(hs.2 p.1 ne).trans e, n, ne, nf, d⟩
  · have hfn : X.fn x = true := by
      rcases hf with z | z
      · exact z
      · rw [z] at hk; cases hk
    obtain ⟨c, hc⟩ := I.ok.has x (.inl hk)
    obtain ⟨w', z⟩ := I.cell x c hc
    refine wpAny_storeName_cell I.ok.kind hk hc z (fun h' hc' hs => ?_)
    obtain ⟨oc, hoc, hocd⟩ := id z
    refine h { s with heap := h' } ⟨I.ok, I.os, I.bare, ⟨fun b o e n hb hx => ?_, fun b o e n hb hx => ?_, I.base.free, fun b o e hx => ?_, I.base.tups, I.base.frzs, I.base.tbls⟩, ⟨m, hn.sameBut hs (Ne.symm (cne x c hc)), fun j y v' e1 e2 e3 => ?_⟩, fun y c' e => ?_, I.free, I.freeC, fun p hp => ?_, tracked ⟨oc, hoc, I.freeC x c hc⟩ hs, by simpa using I.len⟩ ⟨c, hs, .inr hc⟩
    · exact (hs.2 b (Nat.ne_of_lt (Nat.lt_of_lt_of_le (Heap.lt_size e) (I.ok.cab x c hfn hc)))).trans (I.base.keep b o e n hb hx)
    · obtain ⟨sl, e1⟩ := I.base.slot b o e n hb hx
      exact ⟨sl, (hs.2 b (Nat.ne_of_lt (Nat.lt_of_lt_of_le (Heap.lt_size e) (I.ok.cab x c hfn hc)))).trans e1⟩
    · obtain ⟨o', e1⟩ := I.base.there b o e hx
      exact ⟨o', (hs.2 b (Nat.ne_of_lt (Nat.lt_of_lt_of_le (Heap.lt_size e) (I.ok.cab x c hfn hc)))).trans e1⟩
    · by_cases hj : j = i
      · subst hj
        rw [hi] at e1; cases e1
        rw [List.getElem?_set_self hiσ] at e2
        cases e2
        exact ⟨u, r, .inr ⟨.inl hk, c, hc, hc'⟩⟩
      · rw [List.getElem?_set_ne (Ne.symm hj)] at e2
        obtain ⟨u', r', q⟩ := hl j y v' e1 e2 e3
        refine ⟨u', r', ?_⟩
        rcases q with q | ⟨k, c', e, z'⟩
        · exact .inl q
        · refine .inr ⟨k, c', e, z'.sameBut hs ?_⟩
          rintro rfl
          exact hj (nodup_ix hN e1 (I.ok.inj _ _ _ e hc ▸ hi))
    · by_cases hcc : c' = c
      · subst hcc; exact ⟨_, hc'⟩
      · obtain ⟨w2, z2⟩ := I.cell y c' e
        exact ⟨w2, z2.sameBut hs hcc⟩
    · obtain ⟨e, n, ne, nf, d⟩ := I.pin p hp
      refine ⟨(hs.2 p.1 ?_).trans e, n, ne, nf, d⟩
      intro q
      rw [q, hoc] at e
      have q' : oc = p.2 := Option.some.inj e
      exact d w' (by rw [← q']; exact hocd)
theorem store_ok {M : Model} {A : Around} {E : Value → Shared → Prop} {i : Nat} {x : Str} {v : V} {u : Value} {Q : Unit → Shared → Prop} (I : Inv X pins σ H s) (hN : X.N.Nodup) (hi : X.N[i]? = some x) (hx : Loc X.env.scope x) (r : RelV v u)
    (h : ∀ s', Inv X pins (σ.set i (some v)) H s' → Q () s') (hf : X.fn x = true ∨ X.env.scope.names.lookup x = some .local := by first | exact .inl rfl | exact .inr rfl | assumption) : wpAny M A (storeName X.env x u) Q E s :=
  store_ok2 I hN hi hx r (fun s' I' _ => h s' I') hf
/-- behind a call or a block, the state as it is -/
theorem Inv.call' {s' : Shared} {ch : List Addr} (I : Inv X pins σ H s) (ho : s'.os = s.os) (u : Un (frs X.stack) ch H H' s.heap s'.heap) (hok : HOk X.prog X.w H' s'.heap) (hg : AllBare s'.gens)
    (hch : ∀ b ∈ ch, (b ∈ X.ex ∨ X.s₀.heap.objs.size ≤ b) ∧ b ≠ X.env.locals ∧ (∀ x c, X.env.cells.lookup x = some c → c ≠ b) ∧ ∀ p ∈ X.pn ++ pins, p.1 ≠ b) : Inv X pins σ H' s' := by
  obtain ⟨h', g', d', t', o'⟩ := s'
  have e : o' = s.os := ho
  subst e
  exact I.call (g' := g') (t' := t') (d' := d') u hok hg hch
end

/-! ### the judgements -/
/-- an exception: its class, its own dict's address (where it has one), the abstract heap behind it -/
abbrev XK := Value → Option Addr → Hp → Prop
abbrev St := List (Option V)
abbrev VK := V → Hp → Prop
/-- an expression's reading; a test's; an argument list's -/
abbrev TE := St → Hp → VK → Prop
abbrev TT := St → Hp → (Bool → Hp → Prop) → Prop
abbrev TA := St → Hp → (List V → Hp → Prop) → Prop
/-- what is wanted behind a statement -/
structure Ends where
  nx : St → Hp → Prop
  rt : VK
  bk : St → Hp → Prop := fun _ _ => False
  ct : St → Hp → Prop := fun _ _ => False
abbrev TS := Ends → St → Hp → Prop

def EP (X : Cx) (pins : List (Addr × Obj)) (σ : St) (Q : VK) (u : Value) (s' : Shared) : Prop := ∃ v H', Inv X pins σ H' s' ∧ RelV v u ∧ Q v H'
def TP (X : Cx) (pins : List (Addr × Obj)) (σ : St) (Q : Bool → Hp → Prop) (b : Bool) (s' : Shared) : Prop := ∃ H', Inv X pins σ H' s' ∧ Q b H'
def AP (X : Cx) (pins : List (Addr × Obj)) (σ : St) (Q : List V → Hp → Prop) (us : List Value) (s' : Shared) : Prop := ∃ vs H', Inv X pins σ H' s' ∧ Vals vs us ∧ Q vs H'
def SP (X : Cx) (pins : List (Addr × Obj)) (D : Ends) (f : Flow) (s' : Shared) : Prop :=
  match f with
  | .next => ∃ σ' H', Inv X pins σ' H' s' ∧ D.nx σ' H'
  | .brk => ∃ σ' H', Inv X pins σ' H' s' ∧ D.bk σ' H'
  | .cont => ∃ σ' H', Inv X pins σ' H' s' ∧ D.ct σ' H'
  | .ret u => ∃ v σ' H', Inv X pins σ' H' s' ∧ RelV v u ∧ D.rt v H'

def PE (X : Cx) (e : Expr) (t : TE) : Prop :=
  ∀ (pins : List (Addr × Obj)) (s : Shared) (σ : St) (H : Hp) (Q : VK), Inv X pins σ H s → t σ H Q → wpAny (model X.prog X.w) X.A (eval e X.env) (EP X pins σ Q) X.xe s
def PT (X : Cx) (e : Expr) (t : TT) : Prop :=
  ∀ (pins : List (Addr × Obj)) (s : Shared) (σ : St) (H : Hp) (Q : Bool → Hp → Prop), Inv X pins σ H s → t σ H Q → wpAny (model X.prog X.w) X.A (isTrue e X.env (eval e X.env)) (TP X pins σ Q) X.xe s
/-- a test whatever its 'whole' is (and, or) -/
def PW (X : Cx) (e : Expr) (t : TT) : Prop :=
  ∀ (whole : Sem Value) (pins : List (Addr × Obj)) (s : Shared) (σ : St) (H : Hp) (Q : Bool → Hp → Prop), Inv X pins σ H s → t σ H Q → wpAny (model X.prog X.w) X.A (isTrue e X.env whole) (TP X pins σ Q) X.xe s
theorem PW.pt {X : Cx} {e : Expr} {t : TT} (h : PW X e t) : PT X e t := h _
/-- an argument list (no star), from the left -/
def PA (X : Cx) (es : List Expr) (t : TA) : Prop :=
  ∀ (pos : Pos) (pins : List (Addr × Obj)) (s : Shared) (σ : St) (H : Hp) (Q : List V → Hp → Prop), Inv X pins σ H s → t σ H Q → wpAny (model X.prog X.w) X.A (spliced (backTo pos (starEach es X.env))) (AP X pins σ Q) X.xe s
def PS (X : Cx) (st : Stmt) (t : TS) : Prop :=
  ∀ (pins : List (Addr × Obj)) (s : Shared) (σ : St) (H : Hp) (D : Ends), Inv X pins σ H s → t D σ H → wpAny (model X.prog X.w) X.A (exec st X.env) (SP X pins D) X.xe s
def PSs (X : Cx) (st : List Stmt) (t : TS) : Prop :=
  ∀ (pins : List (Addr × Obj)) (s : Shared) (σ : St) (H : Hp) (D : Ends), Inv X pins σ H s → t D σ H → wpAny (model X.prog X.w) X.A (execs st X.env) (SP X pins D) X.xe s
/-- weaken the end -/
theorem thn {α : Type} {t : Sem α} {Q Q' : α → Shared → Prop} {M : Model} {A : Around} {E : Value → Shared → Prop} {s : Shared} (h : wpAny M A t Q E s) (hQ : ∀ a s, Q a s → Q' a s) : wpAny M A t Q' E s := wpAny_mono h hQ fun _ _ x => x
end L2

namespace L2
open PySem PySem.Spec PyProof.Rows
section
variable {X : Cx}

/-- two expressions in a row -/
theorem bin {a b : Expr} {ta tb : TE} (ha : PE X a ta) (hb : PE X b tb) {pins : List (Addr × Obj)} {s : Shared} {σ : St} {H : Hp} {R : V → V → Hp → Prop} (I : Inv X pins σ H s) (h : ta σ H fun x H1 => tb σ H1 fun y H2 => R x y H2)
    {α : Type} {Q : α → Shared → Prop} {f : Value → Value → Sem α}
    (hf : ∀ v u s2 x y H2, Inv X pins σ H2 s2 → RelV x v → RelV y u → R x y H2 → wpAny (model X.prog X.w) X.A (f v u) Q X.xe s2) :
    wpAny (model X.prog X.w) X.A (eval a X.env) (fun v s₁ => wpAny (model X.prog X.w) X.A (eval b X.env) (fun u s₂ => wpAny (model X.prog X.w) X.A (f v u) Q X.xe s₂) X.xe s₁) X.xe s := by
  refine thn (ha pins s σ H _ I h) fun v s1 ⟨x, H1, I1, r1, q1⟩ => ?_
  refine thn (hb pins s1 σ H1 _ I1 q1) fun u s2 ⟨y, H2, I2, r2, q2⟩ => ?_
  exact hf v u s2 x y H2 I2 r1 r2 q2

/-! ### names and constants -/
def tVar (i : Nat) : TE := fun σ H Q => ∃ v, σ[i]? = some (some v) ∧ Q v H
def tC (v : V) : TE := fun _ H Q => Q v H
theorem pe_var {i : Nat} {x : Str} {pos : Pos} (hN : X.N[i]? = some x) (hv : Vis X.env.scope x) (hd : (x == ("__debug__" : Str)) = false := by decide) (hcd : (x == ("__classdict__" : Str)) = false := by decide) : PE X (.Name x pos) (tVar i) := by
  intro pins s σ H Q I h
  obtain ⟨v, e, h⟩ := h
  obtain ⟨m, hn, hl⟩ := I.loc
  obtain ⟨u, r, l⟩ := hl i x v hN e hv
  have fin : EP X pins σ Q u s := ⟨v, H, I, r, h⟩
  rcases l with ⟨hk, hm⟩ | ⟨hk, c, hc, hcell⟩
  · exact wpAny_Name (wpAny_loadName_local I.ok.kind hk hn hm fin) hd
  · rcases hk with hk | hk
    · exact wpAny_Name (wpAny_loadName_cell I.ok.kind hk hc hcell fin) hd
    · exact wpAny_Name (wpAny_loadName_free I.ok.kind hk hc hcell fin hcd) hd
theorem pe_int {i j pos} : PE X (.Constant (.int i) j pos) (tC (.int i)) := fun _ _ _ H _ I h => wpAny_Constant_int ⟨.int i, H, I.tok _, ⟨_, rfl⟩, h⟩
theorem pe_bl {b j pos} : PE X (.Constant (.bool b) j pos) (tC (.bl b)) := fun _ _ _ H _ I h => Constant_bool ⟨.bl b, H, I, rfl, h⟩
theorem pe_non {j pos} : PE X (.Constant .none j pos) (tC .non) := fun _ _ _ H _ I h => Constant_none ⟨.non, H, I, rfl, h⟩
theorem pe_str {x j pos} : PE X (.Constant (.str x) j pos) (tC (.str x)) := fun _ _ _ H _ I h => Calls.Constant_str ⟨.str x, H, I.tok _, ⟨_, rfl⟩, h⟩

/-- a global name of the def -/
def Gl (X : Cx) (x : Str) : Prop := X.env.kindOf x = some .globalImplicit
theorem ld_glob {E : Value → Shared → Prop} {pins : List (Addr × Obj)} {s : Shared} {σ : St} {H : Hp} {x : Str} {u : Value} {pos : Pos} {Q : Value → Shared → Prop} (I : Inv X pins σ H s) (hg : Gl X x) (hm : X.mg x = some u) (h : Q u s)
    (hd : (x == ("__debug__" : Str)) = false := by decide) : wpAny (model X.prog X.w) X.A (eval (.Name x pos) X.env) Q E s :=
  Calls.Name_function_global I.ok.kind hg (Calls.loadGlobal_global (by rw [I.ok.glob]; exact I.mod.glob.keeps I.bk) hm h) hd
theorem ld_blt {E : Value → Shared → Prop} {pins : List (Addr × Obj)} {s : Shared} {σ : St} {H : Hp} {x : Str} {u : Value} {pos : Pos} {Q : Value → Shared → Prop} (I : Inv X pins σ H s) (hg : Gl X x) (hm : X.mg x = none) (hv : bootBuiltins x = some u) (h : Q u s)
    (hn : x ≠ "__name__" := by decide) (hd : (x == ("__debug__" : Str)) = false := by decide) : wpAny (model X.prog X.w) X.A (eval (.Name x pos) X.env) Q E s := by
  obtain ⟨mb, h1, h2⟩ := I.mod.blt
  exact Calls.Name_function_global I.ok.kind hg (Calls.loadGlobal_builtin (by rw [I.ok.glob]; exact I.mod.glob.keeps I.bk) hm (by rw [I.ok.blt]; exact h1.keeps I.bk) ((h2 x hn).trans hv) h) hd
/-- a module's constant, a class, a function, as a value -/
theorem pe_glob {x : Str} {v : V} {u : Value} {pos : Pos} (hg : Gl X x) (hm : X.mg x = some u) (r : RelV v u) (hd : (x == ("__debug__" : Str)) = false := by decide) : PE X (.Name x pos) (tC v) :=
  fun _ _ _ H _ I h => ld_glob I hg hm ⟨v, H, I, r, h⟩ hd
theorem pe_bltn {x : Str} {v : V} {u : Value} {pos : Pos} (hg : Gl X x) (hm : X.mg x = none) (hv : bootBuiltins x = some u) (r : RelV v u) (hn : x ≠ "__name__" := by decide) (hd : (x == ("__debug__" : Str)) = false := by decide) : PE X (.Name x pos) (tC v) :=
  fun _ _ _ H _ I h => ld_blt I hg hm hv ⟨v, H, I, r, h⟩ hn hd

/-! ### arithmetic -/
/-- two ints -/
def t2I (ta tb : TE) (k : Int → Int → Hp → Prop) : St → Hp → Prop := fun σ H => ta σ H fun x H1 => tb σ H1 fun y H2 => ∃ i j, x = .int i ∧ y = .int j ∧ k i j H2
def tAdd (ta tb : TE) : TE := fun σ H Q => t2I ta tb (fun i j H2 => Q (.int (i + j)) H2) σ H
def tSub (ta tb : TE) : TE := fun σ H Q => t2I ta tb (fun i j H2 => Q (.int (i - j)) H2) σ H
/-- the left factor below 2^64 -/
def tMul (ta tb : TE) : TE := fun σ H Q => t2I ta tb (fun i j H2 => (-(2 ^ 64) < i ∧ i < 2 ^ 64) ∧ Q (.int (i * j)) H2) σ H
variable {a b : Expr} {ta tb : TE} {pos : Pos}
theorem pe_add (ha : PE X a ta) (hb : PE X b tb) : PE X (.BinOp a .Add b pos) (tAdd ta tb) := by
  intro pins s σ H Q I h
  refine wpAny_BinOp (bin ha hb I h fun v u s2 x y H2 I2 rx ry q => ?_)
  obtain ⟨i, j, rfl, rfl, q⟩ := q
  obtain ⟨t, rfl⟩ := rx
  obtain ⟨t', rfl⟩ := ry
  exact add_int ⟨.int _, H2, I2.tok _, ⟨_, rfl⟩, q⟩
theorem pe_sub (ha : PE X a ta) (hb : PE X b tb) : PE X (.BinOp a .Sub b pos) (tSub ta tb) := by
  intro pins s σ H Q I h
  refine wpAny_BinOp (bin ha hb I h fun v u s2 x y H2 I2 rx ry q => ?_)
  obtain ⟨i, j, rfl, rfl, q⟩ := q
  obtain ⟨t, rfl⟩ := rx
  obtain ⟨t', rfl⟩ := ry
  exact sub_int ⟨.int _, H2, I2.tok _, ⟨_, rfl⟩, q⟩
theorem pe_mul (ha : PE X a ta) (hb : PE X b tb) : PE X (.BinOp a .Mult b pos) (tMul ta tb) := by
  intro pins s σ H Q I h
  refine wpAny_BinOp (bin ha hb I h fun v u s2 x y H2 I2 rx ry q => ?_)
  obtain ⟨i, j, rfl, rfl, ⟨q1, q2⟩, q⟩ := q
  obtain ⟨t, rfl⟩ := rx
  obtain ⟨t', rfl⟩ := ry
  exact mul_int ⟨.int _, H2, I2.tok _, ⟨_, rfl⟩, q⟩ (.of_left (intBits_le_64 q1 q2))

/-! ### comparisons -/
def PC (X : Cx) (op : CmpOp) (a b : Expr) (t : TE) : Prop :=
  ∀ (pins : List (Addr × Obj)) (s : Shared) (σ : St) (H : Hp) (Q : VK), Inv X pins σ H s → t σ H Q →
    wpAny (model X.prog X.w) X.A (eval a X.env) (fun v s₁ => wpAny (model X.prog X.w) X.A (eval b X.env) (fun u s₂ => wpAny (model X.prog X.w) X.A (compareOp op v u) (EP X pins σ Q) X.xe s₂) X.xe s₁) X.xe s
theorem nobehind (b : Expr) {op : CmpOp} (h : op ≠ .In) (h2 : op ≠ .NotIn) : behindInMarks op b = false := by
  have e1 : (op == CmpOp.In) = false := by cases op <;> first | rfl | exact absurd rfl h
  have e2 : (op == CmpOp.NotIn) = false := by cases op <;> first | rfl | exact absurd rfl h2
  cases b <;> simp [behindInMarks, e1, e2]
def tCmp (p : Int → Int → Bool) (ta tb : TE) : TE := fun σ H Q => t2I ta tb (fun i j H2 => Q (.bl (p i j)) H2) σ H
abbrev tLt : TE → TE → TE := tCmp fun i j => decide (i < j)
abbrev tLe : TE → TE → TE := tCmp fun i j => decide (i ≤ j)
abbrev tGt : TE → TE → TE := tCmp fun i j => decide (j < i)
abbrev tGe : TE → TE → TE := tCmp fun i j => decide (j ≤ i)
abbrev tEqI : TE → TE → TE := tCmp fun i j => decide (i = j)
abbrev tNeI : TE → TE → TE := tCmp fun i j => !decide (i = j)
/-- a comparison of two ints, by its rule -/
theorem pc_int {op : CmpOp} {p : Int → Int → Bool} (ha : PE X a ta) (hb : PE X b tb)
    (rule : ∀ (i j : Int) (t u : Tok) (Q : Value → Shared → Prop) (s : Shared), Q (.bool (p i j)) s → wpAny (model X.prog X.w) X.A (compareOp op (.int i t) (.int j u)) Q X.xe s) : PC X op a b (tCmp p ta tb) := by
  intro pins s σ H Q I h
  refine bin ha hb I h fun v u s2 x y H2 I2 rx ry q => ?_
  obtain ⟨i, j, rfl, rfl, q⟩ := q
  obtain ⟨t, rfl⟩ := rx
  obtain ⟨t', rfl⟩ := ry
  exact rule i j t t' _ s2 ⟨.bl _, H2, I2, rfl, q⟩
theorem pc_lt (ha : PE X a ta) (hb : PE X b tb) : PC X .Lt a b (tLt ta tb) := pc_int ha hb fun _ _ _ _ _ _ h => lt_int h
theorem pc_le (ha : PE X a ta) (hb : PE X b tb) : PC X .LtE a b (tLe ta tb) := pc_int ha hb fun _ _ _ _ _ _ h => le_int h
theorem pc_gt (ha : PE X a ta) (hb : PE X b tb) : PC X .Gt a b (tGt ta tb) := pc_int ha hb fun _ _ _ _ _ _ h => gt_int h
theorem pc_ge (ha : PE X a ta) (hb : PE X b tb) : PC X .GtE a b (tGe ta tb) := pc_int ha hb fun _ _ _ _ _ _ h => ge_int h
theorem pc_eqI (ha : PE X a ta) (hb : PE X b tb) : PC X .Eq a b (tEqI ta tb) := pc_int ha hb fun _ _ _ _ _ _ h => eq_int (by rw [Bool.beq_eq_decide_eq]; exact h)
theorem pc_neI (ha : PE X a ta) (hb : PE X b tb) : PC X .NotEq a b (tNeI ta tb) := pc_int ha hb fun _ _ _ _ _ _ h => ne_int (by rw [bne, Bool.beq_eq_decide_eq]; exact h)
/-- is None -/
def tIsN (ta : TE) : TE := fun σ H Q => ta σ H fun x H1 => Q (.bl (decide (x = .non))) H1
def tNotN (ta : TE) : TE := fun σ H Q => ta σ H fun x H1 => Q (.bl (!decide (x = .non))) H1
theorem RelV.none_iff {x : V} {v : Value} (r : RelV x v) : (v == Value.none) = decide (x = .non) := by
  cases x with
  | non => cases r; rfl
  | bl _ => cases r; rfl
  | int _ => obtain ⟨t, rfl⟩ := r; rfl
  | str _ => obtain ⟨t, rfl⟩ := r; rfl
  | byt _ => obtain ⟨t, rfl⟩ := r; rfl
  | flt _ => obtain ⟨t, rfl⟩ := r; rfl
  | ref _ => cases r; rfl
  | ty _ => cases r; rfl
theorem pc_isN {j pos'} (ha : PE X a ta) : PC X .Is a (.Constant .none j pos') (tIsN ta) := by
  intro pins s σ H Q I h
  refine thn (ha pins s σ H _ I h) fun v s1 ⟨x, H1, I1, r1, q1⟩ => ?_
  exact Constant_none (is_none_gen ⟨.bl _, H1, I1, by rw [r1.none_iff]; rfl, q1⟩)
theorem pc_notN {j pos'} (ha : PE X a ta) : PC X .IsNot a (.Constant .none j pos') (tNotN ta) := by
  intro pins s σ H Q I h
  refine thn (ha pins s σ H _ I h) fun v s1 ⟨x, H1, I1, r1, q1⟩ => ?_
  exact Constant_none (isnot_none_gen ⟨.bl _, H1, I1, by rw [r1.none_iff]; rfl, q1⟩)
/-- a comparison as a value, as a test -/
def tB (t : TE) : TT := fun σ H Q => t σ H fun x H1 => ∃ c, x = .bl c ∧ Q c H1
theorem pe_cmp {op : CmpOp} {t : TE} (h : PC X op a b t) (h1 : behindInMarks op b = false := by first | exact nobehind _ (by decide) (by decide) | rfl) : PE X (.Compare a [op] [b] pos) t := fun pins s σ H Q I hw => wpAny_Compare1 (h pins s σ H Q I hw) h1
theorem pt_cmp {op : CmpOp} {t : TE} (h : PC X op a b t) (h1 : behindInMarks op b = false := by first | exact nobehind _ (by decide) (by decide) | rfl) : PT X (.Compare a [op] [b] pos) (tB t) := by
  intro pins s σ H Q I hw
  refine wpAny_isTrue_Compare1 (thn (h pins s σ H _ I hw) fun v s1 h1 => thn h1 fun u s2 h2 => thn h2 fun c s3 ⟨x, H1, I1, r1, q1⟩ => ?_) h1
  obtain ⟨d, rfl, q⟩ := q1
  cases r1
  exact wpAny_truthy_bool ⟨H1, I1, q⟩
/-- an expression whose value is a bool, as a test -/
theorem pt_val {e : Expr} {t : TE} (h : PE X e t) (he : ∀ whole, isTrue e X.env whole = (do let v ← whole; standAt e.pos; holding [v] (truthy v)) := by intro _; rfl) : PT X e (tB t) := by
  intro pins s σ H Q I hw
  refine isTrue_plain (thn (h pins s σ H _ I hw) fun v s1 ⟨x, H1, I1, r1, q1⟩ => ?_) (he _)
  obtain ⟨d, rfl, q⟩ := q1
  cases r1
  exact wpAny_truthy_bool ⟨H1, I1, q⟩

/-! ### and, or, not -/
variable {tA tB' : TT} {rest : List Expr}
def tAnd (t u : TT) : TT := fun σ H Q => t σ H fun c H1 => if c = true then u σ H1 Q else Q false H1
def tOr (t u : TT) : TT := fun σ H Q => t σ H fun c H1 => if c = true then Q true H1 else u σ H1 Q
def tNot (t : TT) : TT := fun σ H Q => t σ H fun c H1 => Q (!c) H1
theorem pw_and1 (ha : PT X a tA) : PW X (.BoolOp .And [a] pos) tA := by
  intro wh pins s σ H Q I h
  refine isTrue_and (thn (ha pins s σ H Q I h) fun c s1 e => ?_)
  cases c with
  | true => exact isTrue_and_nil e
  | false => exact e
theorem pw_or1 (ha : PT X a tA) : PW X (.BoolOp .Or [a] pos) tA := by
  intro wh pins s σ H Q I h
  refine isTrue_or (thn (ha pins s σ H Q I h) fun c s1 e => ?_)
  cases c with
  | false => exact isTrue_or_nil e
  | true => exact e
theorem pw_and (ha : PT X a tA) (hb : PW X (.BoolOp .And (b :: rest) pos) tB') : PW X (.BoolOp .And (a :: b :: rest) pos) (tAnd tA tB') := by
  intro wh pins s σ H Q I h
  refine isTrue_and (thn (ha pins s σ H _ I h) fun c s1 ⟨H1, I1, q1⟩ => ?_)
  cases c with
  | true => exact hb wh pins s1 σ H1 Q I1 q1
  | false => exact ⟨H1, I1, q1⟩
theorem pw_or (ha : PT X a tA) (hb : PW X (.BoolOp .Or (b :: rest) pos) tB') : PW X (.BoolOp .Or (a :: b :: rest) pos) (tOr tA tB') := by
  intro wh pins s σ H Q I h
  refine isTrue_or (thn (ha pins s σ H _ I h) fun c s1 ⟨H1, I1, q1⟩ => ?_)
  cases c with
  | true => exact ⟨H1, I1, q1⟩
  | false => exact hb wh pins s1 σ H1 Q I1 q1
theorem pt_not (ha : PT X a tA) : PT X (.UnaryOp .Not a pos) (tNot tA) := by
  intro pins s σ H Q I h
  exact isTrue_not (ha pins s σ H (fun c H1 => Q (!c) H1) I h)
/-- .. as values (bools) -/
def tAndV (ta tb : TE) : TE := fun σ H Q => ta σ H fun x H1 => ∃ c, x = .bl c ∧ if c = true then tb σ H1 Q else Q (.bl false) H1
def tOrV (ta tb : TE) : TE := fun σ H Q => ta σ H fun x H1 => ∃ c, x = .bl c ∧ if c = true then Q (.bl true) H1 else tb σ H1 Q
def tNotV (ta : TE) : TE := fun σ H Q => ta σ H fun x H1 => ∃ c, x = .bl c ∧ Q (.bl (!c)) H1
theorem pe_one {op} {t : TE} (h : PE X a t) : PE X (.BoolOp op [a] pos) t := fun pins s σ H Q I hw => BoolOp_one (h pins s σ H Q I hw)
theorem pe_and (ha : PE X a ta) (hb : PE X (.BoolOp .And (b :: rest) pos) tb) : PE X (.BoolOp .And (a :: b :: rest) pos) (tAndV ta tb) := by
  intro pins s σ H Q I h
  refine BoolOp_and (thn (ha pins s σ H _ I h) fun v s1 ⟨x, H1, I1, r1, q1⟩ => ?_)
  obtain ⟨c, rfl, q1⟩ := q1
  cases r1
  refine wpAny_truthy_bool ?_
  cases c with
  | true => exact hb pins s1 σ H1 Q I1 q1
  | false => exact ⟨.bl false, H1, I1, rfl, q1⟩
theorem pe_or (ha : PE X a ta) (hb : PE X (.BoolOp .Or (b :: rest) pos) tb) : PE X (.BoolOp .Or (a :: b :: rest) pos) (tOrV ta tb) := by
  intro pins s σ H Q I h
  refine BoolOp_or (thn (ha pins s σ H _ I h) fun v s1 ⟨x, H1, I1, r1, q1⟩ => ?_)
  obtain ⟨c, rfl, q1⟩ := q1
  cases r1
  refine wpAny_truthy_bool ?_
  cases c with
  | false => exact hb pins s1 σ H1 Q I1 q1
  | true => exact ⟨.bl true, H1, I1, rfl, q1⟩
theorem pe_not (ha : PE X a ta) : PE X (.UnaryOp .Not a pos) (tNotV ta) := by
  intro pins s σ H Q I h
  refine UnaryOp_ (thn (ha pins s σ H _ I h) fun v s1 ⟨x, H1, I1, r1, q1⟩ => ?_)
  obtain ⟨c, rfl, q1⟩ := q1
  cases r1
  exact not_of (wpAny_truthy_bool ⟨.bl (!c), H1, I1, rfl, q1⟩)
/-- a if t else b -/
def tIf (t : TT) (ta tb : TE) : TE := fun σ H Q => t σ H fun c H1 => if c = true then ta σ H1 Q else tb σ H1 Q
theorem pe_ifExp {c : Expr} (hc : PT X c tA) (ha : PE X a ta) (hb : PE X b tb) : PE X (.IfExp c a b pos) (tIf tA ta tb) := by
  intro pins s σ H Q I h
  refine wpAny_IfExp (thn (hc pins s σ H _ I h) fun d s1 ⟨H1, I1, q1⟩ => ?_)
  cases d with
  | true => exact ha pins s1 σ H1 Q I1 q1
  | false => exact hb pins s1 σ H1 Q I1 q1
end
end L2

namespace L2
open PySem PySem.Spec PyProof.Rows

/-! ### a list, a tuple that is read: tracked, frozen, or an object of the module -/
def SqL (K : PySem.W.Frag) (H : Hp) (a : Addr) (xs : List V) : Prop :=
  Rd H a (.lst xs) ∨
    ∃ (o : Obj) (its : Array Value) (n : Nat), K.lookup a = some o ∧ o.cls = .type "list" ∧ o.dict = none ∧ o.data = .seq its n ∧ its.size ≤ sizeLine ∧ Vals xs its.toList
def SqT (K : PySem.W.Frag) (H : Hp) (a : Addr) (xs : List V) : Prop :=
  Rd H a (.tup xs) ∨
    ∃ (o : Obj) (its : Array Value) (n : Nat), K.lookup a = some o ∧ o.cls = .type "tuple" ∧ o.data = .seq its n ∧ its.size ≤ sizeLine ∧ Vals xs its.toList
def absV : Value → Option V
  | .none => some .non
  | .bool b => some (.bl b)
  | .int i _ => some (.int i)
  | .str x _ => some (.str x)
  | .bytes b _ => some (.byt b)
  | .float b _ => some (.flt b)
  | .ref a => some (.ref a)
  | .type n => some (.ty n)
  | _ => none
theorem RelV.abs {x : V} {u : Value} (r : RelV x u) : absV u = some x := by
  cases x with
  | non => cases r; rfl
  | bl _ => cases r; rfl
  | int _ => obtain ⟨t, rfl⟩ := r; rfl
  | str _ => obtain ⟨t, rfl⟩ := r; rfl
  | byt _ => obtain ⟨t, rfl⟩ := r; rfl
  | flt _ => obtain ⟨t, rfl⟩ := r; rfl
  | ref _ => cases r; rfl
  | ty _ => cases r; rfl
theorem RelV.inj {x y : V} {u : Value} (r : RelV x u) (q : RelV y u) : x = y := Option.some.inj (r.abs.symm.trans q.abs)
theorem Vals.inj : ∀ {xs ys : List V} {us : List Value}, Vals xs us → Vals ys us → xs = ys
  | _, _, _, .nil, .nil => rfl
  | _, _, _, .cons r t, .cons r' t' => by rw [r.inj r', Vals.inj t t']
section
variable {X : Cx} {pins : List (Addr × Obj)} {σ : St} {H : Hp} {s : Shared} {a : Addr} {xs ys : List V}
theorem SqL.of {K : PySem.W.Frag} (h : H a = some (.lst xs)) : SqL K H a xs := .inl (.inl h)
theorem SqT.of {K : PySem.W.Frag} (h : H a = some (.tup xs)) : SqT K H a xs := .inl (.inl h)
theorem Inv.list (I : Inv X pins σ H s) (h : SqL X.K H a xs) : ∃ its : List Value, Vals xs its ∧ PlainL s.heap a its.toArray ∧ xs.length ≤ sizeLine := by
  rcases h with h | ⟨o, its, n, hk, hc, hd, hs, hz, r⟩
  · obtain ⟨z, its, n, r, e⟩ := h.ok I.hok
    exact ⟨its, r, ⟨_, n, e, rfl, rfl, rfl⟩, z⟩
  · refine ⟨its.toList, r, ⟨o, n, I.kIn a o hk, hc, hd, by simpa using hs⟩, ?_⟩
    have e := r.length
    simp only [Array.length_toList] at e
    omega
theorem Inv.tuple (I : Inv X pins σ H s) (h : SqT X.K H a xs) : ∃ its : List Value, Vals xs its ∧ IsTup s.heap a its.toArray ∧ xs.length ≤ sizeLine := by
  rcases h with h | ⟨o, its, n, hk, hc, hs, hz, r⟩
  · obtain ⟨z, its, r, p⟩ := h.ok I.hok
    exact ⟨its, r, p, z⟩
  · refine ⟨its.toList, r, ⟨o, I.kIn a o hk, hc, n, by simpa using hs⟩, ?_⟩
    have e := r.length
    simp only [Array.length_toList] at e
    omega
theorem Inv.list_inj (I : Inv X pins σ H s) (h : SqL X.K H a xs) (h' : SqL X.K H a ys) : xs = ys := by
  obtain ⟨its, r, ⟨o, n, e, _, _, d⟩, _⟩ := I.list h
  obtain ⟨its', r', ⟨o', n', e', _, _, d'⟩, _⟩ := I.list h'
  rw [e] at e'; cases e'
  rw [d] at d'
  injection d' with d1 _
  have : its = its' := by simpa using congrArg Array.toList d1
  subst this
  exact r.inj r'
theorem Inv.tuple_inj (I : Inv X pins σ H s) (h : SqT X.K H a xs) (h' : SqT X.K H a ys) : xs = ys := by
  obtain ⟨its, r, ⟨o, e, _, n, d⟩, _⟩ := I.tuple h
  obtain ⟨its', r', ⟨o', e', _, n', d'⟩, _⟩ := I.tuple h'
  rw [e] at e'; cases e'
  rw [d] at d'
  injection d' with d1 _
  have : its = its' := by simpa using congrArg Array.toList d1
  subst this
  exact r.inj r'
end

/-! ### another wish about exceptions -/
abbrev Cx.wish (X : Cx) (E : Value → Shared → Prop) : Cx := { X with xe := E }
/-- no exception leaves -/
abbrev Cx.nox (X : Cx) : Cx := X.wish fun _ _ => False
theorem Cx.Ok.wish {X : Cx} (ok : X.Ok) (E : Value → Shared → Prop) : (X.wish E).Ok :=
  ⟨ok.mod, ok.kind, ok.glob, ok.blt, ok.above, ok.inj, ok.has, ok.cab, ok.hd, ok.frames, ok.stk, ok.exf, ok.bs, ok.bsz, ok.noex, ok.exfs, ok.funs, ok.frf⟩
theorem Cx.Ok.unwish {X : Cx} {E : Value → Shared → Prop} (ok : (X.wish E).Ok) : X.Ok :=
  ⟨ok.mod, ok.kind, ok.glob, ok.blt, ok.above, ok.inj, ok.has, ok.cab, ok.hd, ok.frames, ok.stk, ok.exf, ok.bs, ok.bsz, ok.noex, ok.exfs, ok.funs, ok.frf⟩
section
variable {X : Cx} {pins : List (Addr × Obj)} {σ : St} {H : Hp} {s : Shared} {E : Value → Shared → Prop}
theorem Inv.wish (I : Inv X pins σ H s) (E : Value → Shared → Prop) : Inv (X.wish E) pins σ H s := ⟨I.ok.wish E, I.os, I.bare, I.base, I.loc, I.cell, I.free, I.freeC, I.pin, I.hok, I.len⟩
theorem Inv.unwish (I : Inv (X.wish E) pins σ H s) : Inv X pins σ H s := ⟨I.ok.unwish, I.os, I.bare, I.base, I.loc, I.cell, I.free, I.freeC, I.pin, I.hok, I.len⟩
theorem SP.unwish {D : Ends} {f : Flow} {s' : Shared} (h : SP (X.wish E) pins D f s') : SP X pins D f s' := by
  cases f with
  | next => obtain ⟨σ', H', I, q⟩ := h; exact ⟨σ', H', I.unwish, q⟩
  | brk => obtain ⟨σ', H', I, q⟩ := h; exact ⟨σ', H', I.unwish, q⟩
  | cont => obtain ⟨σ', H', I, q⟩ := h; exact ⟨σ', H', I.unwish, q⟩
  | ret u => obtain ⟨v, σ', H', I, r, q⟩ := h; exact ⟨v, σ', H', I.unwish, r, q⟩
theorem PE.nox {e : Expr} {t : TE} (h : PE X.nox e t) : PE X e t := fun pins s σ H Q I hw =>
  wpAny_mono (h pins s σ H Q (I.wish _) hw) (fun _ _ ⟨v, H', I', r, q⟩ => ⟨v, H', I'.unwish, r, q⟩) fun _ _ z => False.elim z
theorem PT.nox {e : Expr} {t : TT} (h : PT X.nox e t) : PT X e t := fun pins s σ H Q I hw =>
  wpAny_mono (h pins s σ H Q (I.wish _) hw) (fun _ _ ⟨H', I', q⟩ => ⟨H', I'.unwish, q⟩) fun _ _ z => False.elim z
theorem PSs.nox {st : List Stmt} {t : TS} (h : PSs X.nox st t) : PSs X st t := fun pins s σ H D I hw =>
  wpAny_mono (h pins s σ H D (I.wish _) hw) (fun _ _ q => q.unwish) fun _ _ z => False.elim z
end

/-! ### blocks and small statements -/
section
variable {X : Cx} {st : Stmt} {rest : List Stmt} {t u : TS} {e : Expr} {te : TE} {pos : Pos}
def tNext : TS := fun D σ H => D.nx σ H
def tSeq (t u : TS) : TS := fun D σ H => t { D with nx := u D } σ H
theorem pss_nil : PSs X [] tNext := fun _ _ σ H _ I h => wpAny_execs_nil ⟨σ, H, I, h⟩
theorem pss_cons (h1 : PS X st t) (h2 : PSs X rest u) : PSs X (st :: rest) (tSeq t u) := by
  intro pins s σ H D I h
  refine wpAny_execs_cons (thn (h1 pins s σ H { D with nx := u D } I h) fun f s1 q => ?_)
  cases f with
  | next =>
    obtain ⟨σ', H', I', q⟩ := q
    exact h2 pins s1 σ' H' D I' q
  | ret v => exact q
  | brk => exact q
  | cont => exact q
theorem pss_one (h1 : PS X st t) : PSs X [st] t := by
  intro pins s σ H D I h
  refine wpAny_execs_cons (thn (h1 pins s σ H D I h) fun f s1 q => ?_)
  cases f with
  | next => exact wpAny_execs_nil q
  | ret v => exact q
  | brk => exact q
  | cont => exact q
def tBreak : TS := fun D σ H => D.bk σ H
def tCont : TS := fun D σ H => D.ct σ H
theorem ps_pass : PS X (.Pass pos) tNext := fun _ _ σ H _ I h => wpAny_Pass ⟨σ, H, I, h⟩
theorem ps_break : PS X (.Break pos) tBreak := fun _ _ σ H _ I h => wpAny_Break ⟨σ, H, I, h⟩
theorem ps_continue : PS X (.Continue pos) tCont := fun _ _ σ H _ I h => wpAny_Continue ⟨σ, H, I, h⟩
/-- in a def's body nothing is shown -/
theorem Inv.quiet {pins : List (Addr × Obj)} {σ : St} {H : Hp} {s : Shared} (I : Inv X pins σ H s) : interactive X.env = false := by simp [interactive, I.ok.kind]
/-- a docstring -/
theorem ps_doc {x j pos pos'} : PS X (.Expr (.Constant (.str x) j pos) pos') tNext := fun _ s σ H _ I h => wpAny_Expr (Calls.Constant_str (show SP X _ _ .next { s with toks := s.toks + 1 } from ⟨σ, H, I.tok _, h⟩)) I.quiet
/-- an expression whose value is dropped -/
def tDrop (te : TE) : TS := fun D σ H => te σ H fun _ H1 => D.nx σ H1
theorem ps_expr (he : PE X e te) (hs : swapsWith e none pos.line X.env = pure false := by rfl) : PS X (.Expr e pos) (tDrop te) := by
  intro pins s σ H D I h
  exact wpAny_Expr_any (thn (he pins s σ H _ I h) fun v s1 ⟨x, H1, I1, r1, q1⟩ => ⟨σ, H1, I1, q1⟩) I.quiet hs
def tRet (te : TE) : TS := fun D σ H => te σ H D.rt
theorem ps_ret (he : PE X e te) : PS X (.Return (some e) pos) (tRet te) := by
  intro pins s σ H D I h
  exact wpAny_Return_some (thn (he pins s σ H _ I h) fun v s1 ⟨x, H1, I1, r1, q1⟩ => ⟨x, σ, H1, I1, r1, q1⟩)
def tRetN : TS := fun D _ H => D.rt .non H
theorem ps_retN : PS X (.Return none pos) tRetN := fun _ _ σ H _ I h => wpAny_Return_none ⟨.non, σ, H, I, rfl, h⟩
def tIfS (c : TT) (t u : TS) : TS := fun D σ H => c σ H fun b H1 => if b = true then t D σ H1 else u D σ H1
theorem ps_if {c : Expr} {a b : List Stmt} {tc : TT} (hc : PT X c tc) (ha : PSs X a t) (hb : PSs X b u) : PS X (.If c a b pos) (tIfS tc t u) := by
  intro pins s σ H D I h
  refine wpAny_If (thn (hc pins s σ H _ I h) fun d s1 ⟨H1, I1, q1⟩ => ?_)
  cases d with
  | true => exact ha pins s1 σ H1 D I1 q1
  | false => exact hb pins s1 σ H1 D I1 q1
/-- code that the proof never comes to -/
def tNever : TS := fun _ _ _ => False
theorem ps_never : PS X st tNever := fun _ _ _ _ _ _ h => h.elim
theorem pss_never {sts : List Stmt} : PSs X sts tNever := fun _ _ _ _ _ _ h => h.elim
end

/-! ### targets -/
abbrev TG := V → St → Hp → (St → Hp → Prop) → Prop
abbrev TGs := List V → St → Hp → (St → Hp → Prop) → Prop
def PG (X : Cx) (target : Expr) (t : TG) : Prop :=
  ∀ (pins : List (Addr × Obj)) (s : Shared) (σ : St) (H : Hp) (v : V) (u : Value) (Q : St → Hp → Prop), Inv X pins σ H s → RelV v u → t v σ H Q →
    wpAny (model X.prog X.w) X.A (assign target X.env u) (fun _ s' => ∃ σ' H', Inv X pins σ' H' s' ∧ Q σ' H') X.xe s
/-- several targets, one after another -/
def PGs (X : Cx) (ts : List Expr) (t : TGs) : Prop :=
  ∀ (pins : List (Addr × Obj)) (s : Shared) (σ : St) (H : Hp) (vs : List V) (us : List Value) (Q : St → Hp → Prop), Inv X pins σ H s → Vals vs us → t vs σ H Q →
    wpAny (model X.prog X.w) X.A (assignInOrder ((assignEach ts X.env).map (·.2)) us) (fun _ s' => ∃ σ' H', Inv X pins σ' H' s' ∧ Q σ' H') X.xe s
/-- o[i] = v, by values -/
abbrev TSet := V → V → V → Hp → (Hp → Prop) → Prop
def PSet (X : Cx) (t : TSet) : Prop :=
  ∀ (pins : List (Addr × Obj)) (s : Shared) (σ : St) (H : Hp) (o i v : V) (ov iv u : Value) (Q : Hp → Prop), Inv X pins σ H s → RelV o ov → RelV i iv → RelV v u → t o i v H Q →
    wpAny (model X.prog X.w) X.A (setItem ov iv u) (fun _ s' => ∃ H', Inv X pins σ H' s' ∧ Q H') X.xe s
/-- a op= b, by values -/
abbrev TIp := V → V → Hp → VK → Prop
def PIp (X : Cx) (op : Operator) (t : TIp) : Prop :=
  ∀ (pins : List (Addr × Obj)) (s : Shared) (σ : St) (H : Hp) (x y : V) (v u : Value) (Q : VK), Inv X pins σ H s → RelV x v → RelV y u → t x y H Q →
    wpAny (model X.prog X.w) X.A (inplaceOp op v u) (EP X pins σ Q) X.xe s
section
variable {X : Cx} {pos : Pos}
def gName (i : Nat) : TG := fun v σ H Q => Q (σ.set i (some v)) H
theorem pg_name {i : Nat} {x : Str} (hN : X.N.Nodup) (hi : X.N[i]? = some x) (hx : Loc X.env.scope x) (hf : X.fn x = true ∨ X.env.scope.names.lookup x = some .local := by first | exact .inl rfl | exact .inr rfl | assumption) : PG X (.Name x pos) (gName i) := by
  intro pins s σ H v u Q I r h
  exact wpAny_assign_Name (store_ok I hN hi hx r (fun s' I' => ⟨_, H, I', h⟩) hf)
def gNil : TGs := fun vs σ H Q => vs = [] ∧ Q σ H
def gCons (t : TG) (u : TGs) : TGs := fun vs σ H Q => ∃ v r, vs = v :: r ∧ t v σ H fun σ' H' => u r σ' H' Q
theorem pgs_nil : PGs X [] gNil := by
  intro pins s σ H vs us Q I r h
  obtain ⟨e, h⟩ := h
  subst e
  cases r
  exact assignInOrder_nil ⟨σ, H, I, h⟩
theorem pgs_cons {e : Expr} {es : List Expr} {t : TG} {u : TGs} (h1 : PG X e t) (h2 : PGs X es u)
    (hs : (assignEach (e :: es) X.env).map (·.2) = assign e X.env :: (assignEach es X.env).map (·.2) := by rfl) : PGs X (e :: es) (gCons t u) := by
  intro pins s σ H vs us Q I r h
  obtain ⟨v, vr, e1, h⟩ := h
  subst e1
  cases r with
  | cons r rr =>
    rw [hs]
    refine assignInOrder_cons (thn (h1 pins s σ H _ _ _ I r h) fun _ s1 ⟨σ1, H1, I1, q1⟩ => ?_)
    exact h2 pins s1 σ1 H1 _ _ Q I1 rr q1
/-- (a, b, ..) = a tuple of that length -/
def gTup (K : PySem.W.Frag) (n : Nat) (t : TGs) : TG := fun v σ H Q => ∃ a xs, v = .ref a ∧ SqT K H a xs ∧ xs.length = n ∧ t xs σ H Q
theorem pg_tup {es : List Expr} {k : Nat} {t : TGs} {n : Nat} (hc : X.calm = true) (h : PGs X es t)
    (hn : (assignEach es X.env).length = n := by rfl) (hst : (assignEach es X.env).findIdx? (·.1) = none := by rfl) : PG X (.Tuple es k pos) (gTup X.K n t) := by
  intro pins s σ H v u Q I r hw
  obtain ⟨a, xs, e1, hq, hl, hw⟩ := hw
  subst e1
  cases r
  obtain ⟨its, rv, ht, hz⟩ := I.tuple hq
  refine assign_Tuple_tuple (I.ok.hd hc) ht (by simp [hn, ← hl, rv.length]) hst fun h' hx => ?_
  have I1 : Inv X pins σ H { s with heap := h' } := I.kept (t' := s.toks) fun b o e => hx b o (Nat.ne_of_lt (Heap.lt_size e)) e
  exact h pins _ σ H xs _ Q I1 (by simpa using rv) hw
/-- o[i] = .. -/
def gSub (to ti : TE) (t : TSet) : TG := fun v σ H Q => to σ H fun o H1 => ti σ H1 fun i H2 => t o i v H2 fun H3 => Q σ H3
theorem pg_sub {o i : Expr} {to ti : TE} {t : TSet} (ho : PE X o to) (hi : PE X i ti) (hs : PSet X t)
    (ha : ∀ v, assign (.Subscript o i pos) X.env v = (do
      let ov ← holding [v] (eval o X.env)
      let iv ← holding [v, ov] (eval i X.env)
      standAt pos
      holding [v, ov, iv] (setItem ov iv v)
      release [v, ov, iv] []) := by intro _; rfl) : PG X (.Subscript o i pos) (gSub to ti t) := by
  intro pins s σ H v u Q I r h
  rw [ha]
  refine wpAny_bind (wpAny_holding (thn (ho pins s σ H _ I h) fun ov s1 ⟨x, H1, I1, r1, q1⟩ => ?_))
  refine wpAny_bind (wpAny_holding (thn (hi pins s1 σ H1 _ I1 q1) fun iv s2 ⟨y, H2, I2, r2, q2⟩ => ?_))
  refine wpAny_bind (wpAny_standAt (wpAny_bind (wpAny_holding (thn (hs pins s2 σ H2 x y v ov iv u _ I2 r1 r2 r q2) fun _ s3 ⟨H3, I3, q3⟩ => ?_))))
  exact wpAny_release ⟨σ, H3, I3, q3⟩
/-- target = value -/
def tAsg (te : TE) (g : TG) : TS := fun D σ H => te σ H fun x H1 => g x σ H1 D.nx
theorem ps_asg {tg e : Expr} {te : TE} {g : TG} (he : PE X e te) (hg : PG X tg g) (hs : swapsWithSole [tg] e pos.line X.env = pure false := by rfl) (hw : swappedStores [tg] e X.env = pure none := by rfl)
    (h1 : (assignEach [tg] X.env).map (·.2) = [assign tg X.env] := by rfl) : PS X (.Assign [tg] e pos) (tAsg te g) := by
  intro pins s σ H D I h
  refine wpAny_Assign_stores (thn (he pins s σ H _ I h) fun v s1 ⟨x, H1, I1, r1, q1⟩ => ?_) hs hw
  rw [h1]
  exact thn (hg pins s1 σ H1 x v _ I1 r1 q1) fun _ s2 q => q
/-- name = value -/
theorem ps_set {i : Nat} {x : Str} {e : Expr} {te : TE} {pos' : Pos} (hN : X.N.Nodup) (hi : X.N[i]? = some x) (hx : Loc X.env.scope x) (he : PE X e te) (hs : swapsWith e (some (.Name x pos')) pos.line X.env = pure false := by rfl) (hf : X.fn x = true ∨ X.env.scope.names.lookup x = some .local := by first | exact .inl rfl | exact .inr rfl | assumption) :
    PS X (.Assign [.Name x pos'] e pos) (tAsg te (gName i)) := by
  intro pins s σ H D I h
  refine wpAny_Assign_Name (thn (he pins s σ H _ I h) fun v s1 ⟨y, H1, I1, r1, q1⟩ => ?_) hs
  exact store_ok I1 hN hi hx r1 (fun s2 I2 => ⟨_, H1, I2, q1⟩) hf
/-- a, b = x, y with plain local names: stored from the right; the pair itself is not tracked (the opening rows as in PyProof/Rows/TupAssign.lean:23) -/
def tPar (i j : Nat) (ta : TA) : TS := fun D σ H => ta σ H fun vs H1 => ∃ v w, vs = [v, w] ∧ D.nx ((σ.set i (some v)).set j (some w)) H1
theorem ps_par {i j : Nat} {x y : Str} {a b : Expr} {ta : TA} {px py pt : Pos} {kt k2 pt2} (hc : X.calm = true) (hN : X.N.Nodup) (hi : X.N[i]? = some x) (hj : X.N[j]? = some y) (hij : i ≠ j)
    (hx : X.env.scope.names.lookup x = some .local) (hy : X.env.scope.names.lookup y = some .local) (ha : PA X [a, b] ta)
    (hw : swappedStores [.Tuple [.Name x px, .Name y py] kt pt] (.Tuple [a, b] k2 pt2) X.env = pure (some [x, y]))
    (hs : swapsWithSole [.Tuple [.Name x px, .Name y py] kt pt] (.Tuple [a, b] k2 pt2) pos.line X.env = pure false := by rfl) :
    PS X (.Assign [.Tuple [.Name x px, .Name y py] kt pt] (.Tuple [a, b] k2 pt2) pos) (tPar i j ta) := by
  intro pins s σ H D I h
  rw [exec_Assign_arm]
  refine wpAny_bind (wpAny_standAt ?_)
  rw [hs]
  refine wpAny_bind (wpAny_pure ?_)
  rw [if_neg (by decide)]
  refine wpAny_bind (Tuple_ (thn (ha _ pins s σ H _ I h) fun us s1 ⟨vs, H1, I1, r1, q1⟩ => ?_))
  obtain ⟨v, w, e1, q1⟩ := q1
  subst e1
  obtain ⟨u1, u2, rfl, rv, rw'⟩ : ∃ u1 u2, us = [u1, u2] ∧ RelV v u1 ∧ RelV w u2 := by
    cases r1 with
    | cons p q =>
      cases q with
      | cons p' q' =>
        cases q'
        exact ⟨_, _, rfl, p, p'⟩
  refine wpAny_newObj_type ?_ (by show 2 ≤ sizeLine; decide)
  have I2 : Inv X pins σ H1 { s1 with heap := s1.heap.push { cls := .type "tuple", data := .seq [u1, u2].toArray } } := I1.kept (t' := s1.toks) fun b o e => Heap.get?_push_of_some _ e
  rw [hw]
  refine wpAny_bind (wpAny_pure ?_)
  show wpAny (model X.prog X.w) X.A (do rule "assign.swapped-stores"; let items ← unpackItems (.ref s1.heap.objs.size) 2 none; assignInOrder [fun v => bindName X.env y v, fun v => bindName X.env x v] items.reverse; pure Flow.next) _ _ _
  refine wpAny_bind (wpAny_rule (wpAny_bind (unpackItems_tuple (items := #[u1, u2]) (I.ok.hd hc) (IsTup.new s1.heap _) fun h' hx' => ?_)))
  have I3 := I2.kept (h' := h') (t' := s1.toks) fun b o e => hx' b o (Nat.ne_of_lt (Heap.lt_size e)) e
  show wpAny _ _ (assignInOrder [fun v => bindName X.env y v, fun v => bindName X.env x v] [u2, u1] >>= fun _ => pure Flow.next) _ _ _
  refine wpAny_bind (assignInOrder_cons (wpAny_bindName (store_ok I3 hN hj (.inl hy) rw' (fun s2 I4 => ?_) (.inr hy))))
  refine assignInOrder_cons (wpAny_bindName (store_ok I4 hN hi (.inl hx) rv (fun s3 I5 => assignInOrder_nil (wpAny_pure ?_)) (.inr hx)))
  rw [List.set_comm _ _ (Ne.symm hij)] at I5
  exact ⟨_, H1, I5, q1⟩
/-- name op= e -/
def tAug (i : Nat) (te : TE) (ti : TIp) : TS := fun D σ H => ∃ x, σ[i]? = some (some x) ∧ te σ H fun y H1 => ti x y H1 fun z H2 => D.nx (σ.set i (some z)) H2
theorem ps_aug {i : Nat} {x : Str} {e : Expr} {te : TE} {op : Operator} {ti : TIp} {pos' : Pos} (hN : X.N.Nodup) (hi : X.N[i]? = some x) (hx : Loc X.env.scope x) (he : PE X e te) (ho : PIp X op ti) (hf : X.fn x = true ∨ X.env.scope.names.lookup x = some .local := by first | exact .inl rfl | exact .inr rfl | assumption) :
    PS X (.AugAssign (.Name x pos') op e pos) (tAug i te ti) := by
  intro pins s σ H D I h
  obtain ⟨v, e1, h⟩ := h
  obtain ⟨m, hn, hl⟩ := I.loc
  have vis : Vis X.env.scope x := by rcases hx with k | k; exact .inl k; exact .inr (.inl k)
  obtain ⟨u, r, l⟩ := hl i x v hi e1 vis
  refine wpAny_AugAssign_Name ?_
  have go : wpAny (model X.prog X.w) X.A (eval e X.env) (fun w s₂ => wpAny (model X.prog X.w) X.A (inplaceOp op u w) (fun r s₃ => wpAny (model X.prog X.w) X.A (storeName X.env x r) (fun _ => SP X pins D .next) X.xe s₃) X.xe s₂) X.xe s := by
    refine thn (he pins s σ H _ I h) fun w s1 ⟨y, H1, I1, r1, q1⟩ => ?_
    refine thn (ho pins s1 σ H1 v y u w _ I1 r r1 q1) fun z s2 ⟨zv, H2, I2, r2, q2⟩ => ?_
    exact store_ok I2 hN hi hx r2 (fun s3 I3 => ⟨_, H2, I3, q2⟩) hf
  rcases l with ⟨hk, hm⟩ | ⟨hk, c, hc, hcell⟩
  · exact wpAny_loadName_local I.ok.kind hk hn hm go
  · rcases hk with hk | hk
    · exact wpAny_loadName_cell I.ok.kind hk hc hcell go
    · rcases hx with k | k
      · have : X.env.scope.names.lookup x = some .free := hk
        rw [k] at this; cases this
      · have : X.env.scope.names.lookup x = some .free := hk
        rw [k] at this; cases this
/-- o[i] op= e -/
def tAugS (to ti te : TE) (tget : V → V → Hp → VK → Prop) (tip : TIp) (tset : TSet) : TS := fun D σ H => to σ H fun o H1 => ti σ H1 fun i H2 => tget o i H2 fun x H3 => te σ H3 fun y H4 => tip x y H4 fun z H5 => tset o i z H5 fun H6 => D.nx σ H6
/-- o[i], by values -/
def PGet (X : Cx) (t : V → V → Hp → VK → Prop) : Prop :=
  ∀ (pins : List (Addr × Obj)) (s : Shared) (σ : St) (H : Hp) (o i : V) (ov iv : Value) (Q : VK), Inv X pins σ H s → RelV o ov → RelV i iv → t o i H Q →
    wpAny (model X.prog X.w) X.A (getItem ov iv) (EP X pins σ Q) X.xe s
theorem ps_augS {o i e : Expr} {to ti te : TE} {tget : V → V → Hp → VK → Prop} {tip : TIp} {tset : TSet} {op : Operator} {tpos : Pos} (ho : PE X o to) (hi : PE X i ti) (hg : PGet X tget) (he : PE X e te) (hp : PIp X op tip) (hs : PSet X tset)
    (ha : ∀ ov iv new, augStore i ov iv new = (do holding [new, ov, iv] (setItem ov iv new); release [new, ov, iv] []; pure .next) := by intros; rfl) : PS X (.AugAssign (.Subscript o i tpos) op e pos) (tAugS to ti te tget tip tset) := by
  intro pins s σ H D I h
  refine wpAny_AugAssign_SubscriptAny (thn (ho pins s σ H _ I h) fun ov s1 ⟨x1, H1, I1, r1, q1⟩ => ?_) ha
  refine thn (hi pins s1 σ H1 _ I1 q1) fun iv s2 ⟨x2, H2, I2, r2, q2⟩ => ?_
  refine thn (hg pins s2 σ H2 x1 x2 ov iv _ I2 r1 r2 q2) fun old s3 ⟨x3, H3, I3, r3, q3⟩ => ?_
  refine thn (he pins s3 σ H3 _ I3 q3) fun v s4 ⟨x4, H4, I4, r4, q4⟩ => ?_
  refine thn (hp pins s4 σ H4 x3 x4 old v _ I4 r3 r4 q4) fun new s5 ⟨x5, H5, I5, r5, q5⟩ => ?_
  exact thn (hs pins s5 σ H5 x1 x2 x5 ov iv new _ I5 r1 r2 r5 q5) fun _ s6 ⟨H6, I6, q6⟩ => ⟨σ, H6, I6, q6⟩
/-- ints -/
def ipI (f : Int → Int → Int) : TIp := fun x y H Q => ∃ i j, x = .int i ∧ y = .int j ∧ Q (.int (f i j)) H
theorem ip_add : PIp X .Add (ipI fun i j => i + j) := by
  intro pins s σ H x y v u Q I r1 r2 h
  obtain ⟨i, j, e1, e2, q⟩ := h
  subst e1; subst e2
  obtain ⟨t, rfl⟩ := r1
  obtain ⟨t', rfl⟩ := r2
  exact iadd_int ⟨.int _, H, I.tok _, ⟨_, rfl⟩, q⟩
theorem ip_sub : PIp X .Sub (ipI fun i j => i - j) := by
  intro pins s σ H x y v u Q I r1 r2 h
  obtain ⟨i, j, e1, e2, q⟩ := h
  subst e1; subst e2
  obtain ⟨t, rfl⟩ := r1
  obtain ⟨t', rfl⟩ := r2
  exact isub_int ⟨.int _, H, I.tok _, ⟨_, rfl⟩, q⟩
end

/-! ### while -/
section
variable {X : Cx} {pos : Pos}
/-- the invariant W with its measure -/
def tWhile (c : TT) (tb : TS) : TS := fun D σ H => ∃ W : Nat → St → Hp → Prop, (∃ m, W m σ H) ∧ ∀ m σ H, W m σ H →
  c σ H fun b H1 => if b = true then ∃ N : St → Hp → Prop, (∀ σ' H', N σ' H' → ∃ m', m' < m ∧ W m' σ' H') ∧ tb { D with nx := N, ct := N, bk := D.nx } σ H1 else D.nx σ H1
theorem ps_while {c : Expr} {body : List Stmt} {tc : TT} {tb : TS} (hp : PassesOwn (model X.prog X.w) X.A X.env X.xe) (hc : PT X c tc) (hb : PSs X body tb) : PS X (.While c body [] pos) (tWhile tc tb) := by
  intro pins s σ H D I h
  obtain ⟨W, ⟨m0, w0⟩, turn⟩ := h
  refine wpAny_While (codeAny_whileLoop (fun n s' => ∃ σ' H', Inv X pins σ' H' s' ∧ W n σ' H') ?_ m0 ⟨σ, H, I, w0⟩)
  rintro n s1 ⟨σ1, H1, I1, w1⟩
  refine wpAny_passesOwn hp (thn (hc pins s1 σ1 H1 _ I1 (turn n σ1 H1 w1)) fun b s2 ⟨H2, I2, q2⟩ => ?_)
  cases b with
  | true =>
    obtain ⟨N, hN, q2⟩ := q2
    rw [if_pos rfl]
    refine wpAny_passesOwn hp (thn (hb pins s2 σ1 H2 _ I2 q2) fun f s3 q3 => ?_)
    cases f with
    | next =>
      obtain ⟨σ3, H3, I3, n3⟩ := q3
      obtain ⟨m', hm, w3⟩ := hN σ3 H3 n3
      exact ⟨m', hm, σ3, H3, I3, w3⟩
    | cont =>
      obtain ⟨σ3, H3, I3, n3⟩ := q3
      obtain ⟨m', hm, w3⟩ := hN σ3 H3 n3
      exact ⟨m', hm, σ3, H3, I3, w3⟩
    | brk => exact q3
    | ret v => exact q3
  | false =>
    rw [if_neg Bool.false_ne_true]
    exact wpAny_execs_nil ⟨σ1, H2, I2, q2⟩
end

/-! ### what a loop or a comprehension walks -/
/-- at turn i: it yields x (the heap may grow), or it stops -/
structure It where
  go : Nat → Hp → Prop
  yld : Nat → Hp → V → Hp → Prop
  stop : Nat → Hp → Prop
/-- the iterator's own objects may turn: they are not the frame's, not pinned, younger than the entry (or a comprehension's own) -/
def FpOk (X : Cx) (pins : List (Addr × Obj)) (H : Hp) (b : Addr) : Prop :=
  H b = none ∧ b ≠ X.env.locals ∧ b ∉ X.fs ∧ (b ∈ X.ex ∨ X.s₀.heap.objs.size ≤ b) ∧ (∀ x c, X.env.cells.lookup x = some c → c ≠ b) ∧ ∀ p ∈ X.pn ++ pins, p.1 ≠ b
theorem Inv.fpOk {X : Cx} {pins : List (Addr × Obj)} {σ : St} {H H' : Hp} {s : Shared} {b : Addr} (I : Inv X pins σ H s) (hb : s.heap.objs.size ≤ b) (hn : H' b = none) : FpOk X pins H' b := by
  refine ⟨hn, Nat.ne_of_gt (Nat.lt_of_lt_of_le I.lt hb), I.nofs hb, .inr (Nat.le_trans I.sz hb), fun x c e z => ?_, fun p hp z => ?_⟩
  · obtain ⟨v, q⟩ := I.cell x c e
    exact absurd (Nat.lt_of_lt_of_le q.lt (by rw [z]; exact hb)) (Nat.lt_irrefl _)
  · exact absurd (Nat.lt_of_lt_of_le (Heap.lt_size (I.pin p hp).1) (by rw [z]; exact hb)) (Nat.lt_irrefl _)
structure Turn (P : Program) (w : World) (K : PySem.W.Frag) (tg : Expr) (J : It) (fp : List Addr) (it : Addr) (tn : Nat → Heap → Prop) : Prop where
  mem : it ∈ fp
  obj : ∀ i h, tn i h → ∀ b ∈ fp, ∃ o, h.get? b = some o ∧ ∀ v, o.data ≠ .cell v
  keep : ∀ i h h', tn i h → (∀ b ∈ fp, ∀ o, h.get? b = some o → h'.get? b = some o) → tn i h'
  item : ∀ (X : Cx), X.prog = P → X.w = w → X.K = K → X.calm = true → ∀ (i : Nat) (pins : List (Addr × Obj)) (s : Shared) (σ : St) (H : Hp) (E : Value → Shared → Prop), Inv X pins σ H s → (∀ b ∈ fp, FpOk X pins H b) → tn i s.heap → J.go i H →
    wpAny (model P w) X.A (pyNext (.ref it)) (fun r s1 => ∃ u, r = some u ∧
      wpAny (model P w) X.A (letOwnedTupleGo tg (.ref it) u) (fun _ s2 => ∃ x H', Inv X pins σ H' s2 ∧ RelV x u ∧ J.yld i H x H' ∧ tn (i + 1) s2.heap ∧ ∀ b ∈ fp, H' b = none) E s1) E s
  done : ∀ (X : Cx), X.prog = P → X.w = w → X.K = K → X.calm = true → ∀ (i : Nat) (pins : List (Addr × Obj)) (s : Shared) (σ : St) (H : Hp) (E : Value → Shared → Prop), Inv X pins σ H s → (∀ b ∈ fp, FpOk X pins H b) → tn i s.heap → J.stop i H →
    wpAny (model P w) X.A (pyNext (.ref it)) (fun r s1 => r = none ∧ Inv X pins σ H s1) E s
  self : ∀ (A : Around) (i : Nat) (s : Shared) (Q : Value → Shared → Prop) (E : Value → Shared → Prop), tn i s.heap → Q (.ref it) s → wpAny (model P w) A (pyIter (.ref it)) Q E s
abbrev TI := St → Hp → (It → Hp → Prop) → Prop
/-- an iterator has come -/
def PIE (X : Cx) (pins : List (Addr × Obj)) (σ : St) (tg : Expr) (R : It → Hp → Prop) (itv : Value) (s2 : Shared) : Prop :=
  ∃ (it : Addr) (fp : List Addr) (tn : Nat → Heap → Prop) (J : It) (H' : Hp), itv = .ref it ∧ Inv X pins σ H' s2 ∧ Turn X.prog X.w X.K tg J fp it tn ∧ tn 0 s2.heap ∧ (∀ b ∈ fp, FpOk X pins H' b) ∧ R J H'
def PI (X : Cx) (tg iter : Expr) (wi : TI) : Prop :=
  ∀ (pins : List (Addr × Obj)) (s : Shared) (σ : St) (H : Hp) (R : It → Hp → Prop), Inv X pins σ H s → wi σ H R →
    wpAny (model X.prog X.w) X.A (eval iter X.env) (fun v s1 => wpAny (model X.prog X.w) X.A (pyIter v) (PIE X pins σ tg R) X.xe s1) X.xe s

/-- the step ahead of the store is nothing for an iterator that keeps no tuple -/
theorem go_of {M : Model} {A : Around} {E : Value → Shared → Prop} {s : Shared} {tg : Expr} {it : Addr} {u : Value} {o : Obj} {n : String} {vs : Array Value} {Q : Unit → Shared → Prop} (ho : s.heap.get? it = some o) (hc : o.cls = .type n) (hd : o.data = .fields vs)
    (hn : ["enumerate", "zip", "dict_itemiterator", "dict_reverseitemiterator", "odict_iterator", "itertools.zip_longest", "itertools.pairwise"].contains n = false) (hQ : Q () s) : wpAny M A (letOwnedTupleGo tg (.ref it) u) Q E s := by
  unfold letOwnedTupleGo
  cases tg <;> first
    | exact wpAny_pure hQ
    | (cases u <;> first
        | exact wpAny_pure hQ
        | (refine wpAny_bind (wpAny_load ho ?_)
           rw [hc, hd]
           show wpAny M A (if (["enumerate", "zip", "dict_itemiterator", "dict_reverseitemiterator", "odict_iterator", "itertools.zip_longest", "itertools.pairwise"].contains n && vs[0]? == some (rawInt _)) = true then _ else _) Q E s
           rw [if_neg (by intro h; rw [hn, Bool.false_and] at h; cases h)]
           exact wpAny_pure hQ))

/-- the list at a, as it stands at each turn (a loop may append to it) -/
def Itl (K : PySem.W.Frag) (a : Addr) : It :=
  ⟨fun i H => ∃ xs x, SqL K H a xs ∧ xs[i]? = some x, fun i H x H' => H' = H ∧ ∀ xs, SqL K H a xs → xs[i]? = some x, fun i H => ∃ xs, SqL K H a xs ∧ xs.length ≤ i⟩
def Itt (K : PySem.W.Frag) (a : Addr) : It :=
  ⟨fun i H => ∃ xs x, SqT K H a xs ∧ xs[i]? = some x, fun i H x H' => H' = H ∧ ∀ xs, SqT K H a xs → xs[i]? = some x, fun i H => ∃ xs, SqT K H a xs ∧ xs.length ≤ i⟩
/-- lo, lo + 1, .. (n of them) -/
def Itr (lo : Int) (n : Nat) : It := ⟨fun i _ => i < n, fun i H x H' => H' = H ∧ x = .int (lo + i), fun i _ => n ≤ i⟩
theorem turn_list {P : Program} {w : World} {K : PySem.W.Frag} {tg : Expr} (a it : Addr) : Turn P w K tg (Itl K a) [it] it (fun i h => h.IsListIter it a i) where
  mem := by simp
  obj := fun i h st b hb => by
    have e : b = it := by simpa using hb
    subst e
    obtain ⟨o, e, c, d⟩ := st
    exact ⟨o, e, fun v z => by rw [d] at z; cases z⟩
  keep := fun i h h' st k => st.at fun o e => k it (by simp) o e
  item := by
    intro X hP hw hK hc i pins s σ H E I hf st hg
    subst hP hw hK
    obtain ⟨xs, x, hq, hx⟩ := hg
    obtain ⟨its, rv, p, hz⟩ := I.list hq
    obtain ⟨u, hu, ru⟩ := rv.get hx
    obtain ⟨f0, f1, f2, f3, f4, f5⟩ := hf it (by simp)
    refine wpAny_pyNext_list_item st p.isList (x := u) (by simpa using hu) fun h' st' sb => ?_
    have I1 : Inv X pins σ H { s with heap := h' } := I.turned (t' := s.toks) (fun b o hb e => (sb.2 b hb).trans e) f0 f1 f3 f4 f5
    obtain ⟨o, e, c, d⟩ := id st'
    exact ⟨u, rfl, go_of (s := { s with heap := h' }) e c d (by decide) ⟨x, H, I1, ru, ⟨rfl, fun ys hy => by rw [I.list_inj hy hq]; exact hx⟩, st', fun b hb => (hf b hb).1⟩⟩
  done := by
    intro X hP hw hK hc i pins s σ H E I hf st hg
    subst hP hw hK
    obtain ⟨xs, hq, hx⟩ := hg
    obtain ⟨its, rv, p, hz⟩ := I.list hq
    obtain ⟨f0, f1, f2, f3, f4, f5⟩ := hf it (by simp)
    have hl := rv.length
    exact wpAny_pyNext_list_end (I.ok.hd hc) st p.isList (by simp; omega) fun h' eb => ⟨rfl, I.turned (t' := s.toks) (fun b o hb e => eb b o hb e) f0 f1 f3 f4 f5⟩
  self := fun _ _ _ _ _ st h => wpAny_pyIter_listiter st h
theorem turn_tuple {P : Program} {w : World} {K : PySem.W.Frag} {tg : Expr} (a it : Addr) : Turn P w K tg (Itt K a) [it] it (fun i h => h.IsTupleIter it a i) where
  mem := by simp
  obj := fun i h st b hb => by
    have e : b = it := by simpa using hb
    subst e
    obtain ⟨o, e, c, d⟩ := st
    exact ⟨o, e, fun v z => by rw [d] at z; cases z⟩
  keep := fun i h h' st k => st.at fun o e => k it (by simp) o e
  item := by
    intro X hP hw hK hc i pins s σ H E I hf st hg
    subst hP hw hK
    obtain ⟨xs, x, hq, hx⟩ := hg
    obtain ⟨its, rv, p, hz⟩ := I.tuple hq
    obtain ⟨u, hu, ru⟩ := rv.get hx
    obtain ⟨f0, f1, f2, f3, f4, f5⟩ := hf it (by simp)
    refine wpAny_pyNext_tuple_item st (show s.heap.IsTuple a its.toArray from p) (x := u) (by simpa using hu) fun h' st' sb => ?_
    have I1 : Inv X pins σ H { s with heap := h' } := I.turned (t' := s.toks) (fun b o hb e => (sb.2 b hb).trans e) f0 f1 f3 f4 f5
    obtain ⟨o, e, c, d⟩ := id st'
    exact ⟨u, rfl, go_of (s := { s with heap := h' }) e c d (by decide) ⟨x, H, I1, ru, ⟨rfl, fun ys hy => by rw [I.tuple_inj hy hq]; exact hx⟩, st', fun b hb => (hf b hb).1⟩⟩
  done := by
    intro X hP hw hK hc i pins s σ H E I hf st hg
    subst hP hw hK
    obtain ⟨xs, hq, hx⟩ := hg
    obtain ⟨its, rv, p, hz⟩ := I.tuple hq
    obtain ⟨f0, f1, f2, f3, f4, f5⟩ := hf it (by simp)
    have hl := rv.length
    exact wpAny_pyNext_tuple_end (I.ok.hd hc) st (show s.heap.IsTuple a its.toArray from p) (by simp; omega) fun h' eb => ⟨rfl, I.turned (t' := s.toks) (fun b o hb e => eb b o hb e) f0 f1 f3 f4 f5⟩
  self := fun _ _ _ _ _ st h => wpAny_pyIter_tupleiter st h
theorem turn_range {P : Program} {w : World} {K : PySem.W.Frag} {tg : Expr} (it : Addr) (lo : Int) (n : Nat) : Turn P w K tg (Itr lo n) [it] it (fun i h => IsRangeIter h it (lo + (i : Nat) * 1) ((n : Int) - (i : Nat)) 1) where
  mem := by simp
  obj := fun i h st b hb => by
    have e : b = it := by simpa using hb
    subst e
    exact ⟨_, st, fun v z => by
      have z' : Data.fields _ = Data.cell v := z
      cases z'⟩
  keep := fun i h h' st k => k it (by simp) _ st
  item := by
    intro X hP hw hK hc i pins s σ H E I hf st hg
    subst hP hw hK
    obtain ⟨f0, f1, f2, f3, f4, f5⟩ := hf it (by simp)
    have W := Walks.range (prog := X.prog) (w := X.w) (I.ok.hd hc) it lo 1 n
    refine W.item i s _ _ hg st fun v h' tk hv st' kk => ?_
    obtain ⟨t, rfl⟩ := hv
    have I1 : Inv X pins σ H { s with heap := h', toks := tk } := I.turned (fun b o hb e => kk b o (by simpa using hb) e) f0 f1 f3 f4 f5
    refine ⟨_, rfl, go_of (s := { s with heap := h', toks := tk }) (n := "range_iterator") st' rfl rfl (by decide) ⟨.int (lo + i), H, I1, ⟨t, ?_⟩, ⟨rfl, rfl⟩, st', fun b hb => (hf b hb).1⟩⟩
    rw [Int.mul_one]
  done := by
    intro X hP hw hK hc i pins s σ H E I hf st hg
    subst hP hw hK
    obtain ⟨f0, f1, f2, f3, f4, f5⟩ := hf it (by simp)
    exact wpAny_pyNext_range_end (I.ok.hd hc) st (by have : n ≤ i := hg; omega) fun h' eb => ⟨rfl, I.turned (t' := s.toks) (fun b o hb e => eb b o hb e) f0 f1 f3 f4 f5⟩
  self := fun _ _ _ _ _ st h => wpAny_pyIter_rangeiter st h
end L2

namespace L2
open PySem PySem.Spec PyProof.Rows
section
variable {X : Cx} {tg : Expr}
def iList (K : PySem.W.Frag) (tl : TE) : TI := fun σ H R => tl σ H fun x H1 => ∃ a, x = .ref a ∧ (∃ xs, SqL K H1 a xs) ∧ R (Itl K a) H1
def iTup (K : PySem.W.Frag) (tl : TE) : TI := fun σ H R => tl σ H fun x H1 => ∃ a, x = .ref a ∧ (∃ xs, SqT K H1 a xs) ∧ R (Itt K a) H1
theorem pi_list {l : Expr} {tl : TE} (hl : PE X l tl) : PI X tg l (iList X.K tl) := by
  intro pins s σ H R I h
  refine thn (hl pins s σ H _ I h) fun v s1 ⟨x, H1, I1, r1, q1⟩ => ?_
  obtain ⟨a, e, ⟨xs, hq⟩, q⟩ := q1
  subst e
  cases r1
  obtain ⟨its, rv, p, hz⟩ := I1.list hq
  refine wpAny_pyIter_list p.isList ?_
  refine ⟨s1.heap.objs.size, [s1.heap.objs.size], _, _, H1, rfl, I1.kept (t' := s1.toks) fun b o e => Heap.get?_push_of_some _ e, turn_list a _, ⟨_, Heap.get?_push_size _ rfl, rfl, rfl⟩, fun b hb => ?_, q⟩
  have e : b = s1.heap.objs.size := by simpa using hb
  subst e
  exact I1.fpOk (Nat.le_refl _) (I1.hok.fresh (Nat.le_refl _))
theorem pi_tup {l : Expr} {tl : TE} (hl : PE X l tl) : PI X tg l (iTup X.K tl) := by
  intro pins s σ H R I h
  refine thn (hl pins s σ H _ I h) fun v s1 ⟨x, H1, I1, r1, q1⟩ => ?_
  obtain ⟨a, e, ⟨xs, hq⟩, q⟩ := q1
  subst e
  cases r1
  obtain ⟨its, rv, p, hz⟩ := I1.tuple hq
  refine wpAny_pyIter_tuple (show s1.heap.IsTuple a its.toArray from p) ?_
  refine ⟨s1.heap.objs.size, [s1.heap.objs.size], _, _, H1, rfl, I1.kept (t' := s1.toks) fun b o e => Heap.get?_push_of_some _ e, turn_tuple a _, ⟨_, Heap.get?_push_size _ rfl, rfl, rfl⟩, fun b hb => ?_, q⟩
  have e : b = s1.heap.objs.size := by simpa using hb
  subst e
  exact I1.fpOk (Nat.le_refl _) (I1.hok.fresh (Nat.le_refl _))
/-- a range object just made, walked -/
theorem range_it {pins : List (Addr × Obj)} {σ : St} {H : Hp} {s : Shared} {R : It → Hp → Prop} {E : Value → Shared → Prop} {lo hi : Int} {t u v : Tok} {tk : Nat} (I : Inv X pins σ H s) (h1 : -(2 ^ 62) ≤ lo) (h2 : lo < 2 ^ 62) (h3 : -(2 ^ 62) ≤ hi) (h4 : hi < 2 ^ 62)
    (q : R (Itr lo (hi - lo).toNat) H) : wpAny (model X.prog X.w) X.A (pyIter (.ref s.heap.objs.size)) (PIE X pins σ tg R) E { s with heap := s.heap.push { cls := .type "range", data := .fields #[.int lo t, .int hi u, .int 1 v] }, toks := tk } := by
  refine wpAny_pyIter_range (IsRange.new ..) (small_one h1 h2 h3 h4) ?_
  have I1 : Inv X pins σ H { s with heap := s.heap.push { cls := .type "range", data := .fields #[.int lo t, .int hi u, .int 1 v] }, toks := tk } := I.kept fun b o e => Heap.get?_push_of_some _ e
  refine ⟨(s.heap.push { cls := .type "range", data := .fields #[.int lo t, .int hi u, .int 1 v] }).objs.size, [(s.heap.push { cls := .type "range", data := .fields #[.int lo t, .int hi u, .int 1 v] }).objs.size], _, _, H, rfl,
    I1.kept (t' := tk) fun b o e => Heap.get?_push_of_some _ e, turn_range _ lo (hi - lo).toNat, ?_, fun b hb => ?_, q⟩
  · have e1 : lo + ((0 : Nat) : Int) * 1 = lo := by simp
    have e2 : (((hi - lo).toNat : Nat) : Int) - ((0 : Nat) : Int) = Builtin.Range.rangeSize lo hi 1 := by rw [rangeSize_one]; split <;> omega
    show IsRangeIter _ _ (lo + ((0 : Nat) : Int) * 1) ((((hi - lo).toNat : Nat) : Int) - ((0 : Nat) : Int)) 1
    rw [e1, e2]
    exact Heap.get?_push_size _ rfl
  · have e : b = (s.heap.push { cls := .type "range", data := .fields #[.int lo t, .int hi u, .int 1 v] }).objs.size := by simpa using hb
    subst e
    exact I1.fpOk (Nat.le_refl _) (I1.hok.fresh (Nat.le_refl _))
def iRng1 (ta : TA) : TI := fun σ H R => ta σ H fun vs H1 => ∃ j : Int, vs = [.int j] ∧ -(2 ^ 62) ≤ j ∧ j < 2 ^ 62 ∧ R (Itr 0 j.toNat) H1
def iRng2 (ta : TA) : TI := fun σ H R => ta σ H fun vs H1 => ∃ i j : Int, vs = [.int i, .int j] ∧ (-(2 ^ 62) ≤ i ∧ i < 2 ^ 62 ∧ -(2 ^ 62) ≤ j ∧ j < 2 ^ 62) ∧ R (Itr i (j - i).toNat) H1
theorem pi_range1 {a : Expr} {ta : TA} {p pos : Pos} (hg : Gl X "range") (hm : X.mg "range" = none) (ha : PA X [a] ta) (hs : starEach [a] X.env = [(false, eval a X.env)] := by rfl) : PI X tg (.Call (.Name "range" p) [a] [] pos) (iRng1 ta) := by
  intro pins s σ H R I h
  refine Call_ (ld_blt I hg hm boot_range (PyProof.Rows.callWith_type1 (thn (ha pos pins s σ H _ I h) fun us s1 ⟨vs, H1, I1, r1, q1⟩ => ?_) hs rfl))
  obtain ⟨j, e, q1, q2, q⟩ := q1
  subst e
  cases r1 with
  | cons r rr =>
    cases rr
    obtain ⟨t, rfl⟩ := r
    exact call_range_1 (range_it I1 (by omega) (by omega) q1 q2 (by simpa using q))
theorem pi_range2 {a b : Expr} {ta : TA} {p pos : Pos} (hg : Gl X "range") (hm : X.mg "range" = none) (ha : PA X [a, b] ta) (hs : starEach [a, b] X.env = [(false, eval a X.env), (false, eval b X.env)] := by rfl) (hs2 : starEach [b] X.env = [(false, eval b X.env)] := by rfl) :
    PI X tg (.Call (.Name "range" p) [a, b] [] pos) (iRng2 ta) := by
  intro pins s σ H R I h
  refine Call_ (ld_blt I hg hm boot_range (PyProof.Rows.callWith_type1 (thn (ha pos pins s σ H _ I h) fun us s1 ⟨vs, H1, I1, r1, q1⟩ => ?_) (by rw [hs, hs2]) (by rw [hs2]; rfl)))
  obtain ⟨i, j, e, ⟨q1, q2, q3, q4⟩, q⟩ := q1
  subst e
  cases r1 with
  | cons r rr =>
    cases rr with
    | cons r' rr =>
      cases rr
      obtain ⟨t, rfl⟩ := r
      obtain ⟨t', rfl⟩ := r'
      exact call_range_2 (range_it I1 q1 q2 q3 q4 q)

/-! ### for -/
/-- W: the invariant by the turn and a measure; N: what the body is to reach -/
def tFor (wi : TI) (g : TG) (tb : TS) : TS := fun D σ H => wi σ H fun J H1 => ∃ W : Nat → Nat → St → Hp → Prop, (∃ m, W 0 m σ H1) ∧ ∀ i m σ H, W i m σ H →
  (J.stop i H ∧ D.nx σ H) ∨ (J.go i H ∧ ∃ N : St → Hp → Prop, (∀ σ' H', N σ' H' → ∃ m', m' < m ∧ W (i + 1) m' σ' H') ∧ ∀ x H', J.yld i H x H' → g x σ H' fun σ2 H2 => tb { D with nx := N, ct := N, bk := D.nx } σ2 H2)
/-- the records at fp as they stand -/
def pinsAt (fp : List Addr) (h : Heap) : List (Addr × Obj) := fp.filterMap fun b => (h.get? b).map fun o => (b, o)
theorem mem_pinsAt {fp : List Addr} {h : Heap} {b : Addr} {o : Obj} (hb : b ∈ fp) (e : h.get? b = some o) : (b, o) ∈ pinsAt fp h := List.mem_filterMap.mpr ⟨b, hb, by rw [e]; rfl⟩
theorem of_pinsAt {fp : List Addr} {h : Heap} {p : Addr × Obj} (hp : p ∈ pinsAt fp h) : p.1 ∈ fp ∧ h.get? p.1 = some p.2 := by
  obtain ⟨b, hb, e⟩ := List.mem_filterMap.mp hp
  cases q : h.get? b with
  | none => rw [q] at e; cases e
  | some o =>
    rw [q] at e
    have e' : (b, o) = p := Option.some.inj e
    subst e'
    exact ⟨hb, q⟩
theorem Inv.pinned {pins : List (Addr × Obj)} {σ : St} {H : Hp} {s : Shared} {fp : List Addr} (I : Inv X pins σ H s) (hf : ∀ b ∈ fp, FpOk X pins H b) (ho : ∀ b ∈ fp, ∃ o, s.heap.get? b = some o ∧ ∀ v, o.data ≠ .cell v) : Inv X (pins ++ pinsAt fp s.heap) σ H s :=
  I.pins_of fun p hp => (List.mem_append.mp hp).elim (fun z => I.pin p (List.mem_append_right _ z)) fun z => by
    obtain ⟨hb, e⟩ := of_pinsAt z
    obtain ⟨f0, f1, f2, _⟩ := hf p.1 hb
    obtain ⟨o, e', d⟩ := ho p.1 hb
    rw [e] at e'; cases e'
    exact ⟨e, f0, f1, f2, d⟩
theorem Inv.unpinned {pins pl : List (Addr × Obj)} {σ : St} {H : Hp} {s : Shared} (I : Inv X (pins ++ pl) σ H s) : Inv X pins σ H s := I.pins_of fun p hp => I.pin p (List.mem_append_right _ (List.mem_append_left _ hp))
theorem ps_for {iter : Expr} {body : List Stmt} {wi : TI} {g : TG} {tb : TS} {pos : Pos} (hp : PassesOwn (model X.prog X.w) X.A X.env X.xe) (hc : X.calm = true) (hi : PI X tg iter wi) (hg : PG X tg g) (hb : PSs X body tb)
    (hs : ∀ x, foldedSetIterable iter X.env x = pure x := by intro _; rfl) : PS X (.For tg iter body [] pos) (tFor wi g tb) := by
  intro pins s σ H D I h
  refine wpAny_For (thn (hi pins s σ H _ I h) fun v s1 h1 => thn h1 fun itv s2 h2 => ?_) hs
  obtain ⟨it, fp, tn, J, H2, e, I2, T, st2, f2, W, ⟨m0, w0⟩, turn⟩ := h2
  subst e
  -- what stays true of the iterator's objects through the loop
  have stat : ∀ {H' : Hp}, (∀ b ∈ fp, H' b = none) → ∀ b ∈ fp, FpOk X pins H' b := fun hn b hb => ⟨hn b hb, (f2 b hb).2⟩
  refine codeAny_forLoop_any (fun n s' => ∃ i σ' H', Inv X pins σ' H' s' ∧ tn i s'.heap ∧ (∀ b ∈ fp, H' b = none) ∧ W i n σ' H') ?_ m0 ⟨0, σ, H2, I2, st2, fun b hb => (f2 b hb).1, w0⟩
  rintro n s3 ⟨i, σ3, H3, I3, st3, fr3, w3⟩
  rcases turn i n σ3 H3 w3 with ⟨stop, qn⟩ | ⟨go, N, hN, step⟩
  · refine wpAny_passesOwn hp (thn (T.done X rfl rfl rfl hc i pins s3 σ3 H3 X.xe I3 (stat fr3) st3 stop) fun r s4 ⟨hr, I4⟩ => ?_)
    subst hr
    exact wpAny_execs_nil ⟨σ3, H3, I4, qn⟩
  · refine wpAny_passesOwn hp (thn (T.item X rfl rfl rfl hc i pins s3 σ3 H3 X.xe I3 (stat fr3) st3 go) fun r s4 ⟨u, hr, h4⟩ => ?_)
    subst hr
    refine wpAny_passesOwn hp (thn h4 fun _ s5 ⟨x, H5, I5, r5, y5, st5, fr5⟩ => ?_)
    have I5' := I5.pinned (stat fr5) (T.obj _ _ st5)
    refine wpAny_passesOwn hp (thn (hg _ s5 σ3 H5 x u _ I5' r5 (step x H5 y5)) fun _ s6 ⟨σ6, H6, I6, q6⟩ => ?_)
    refine wpAny_passesOwn hp (thn (hb _ s6 σ6 H6 _ I6 q6) fun f s7 q7 => ?_)
    have again : ∀ {σ7 : St} {H7 : Hp}, Inv X (pins ++ pinsAt fp s5.heap) σ7 H7 s7 → N σ7 H7 → ∃ m, m < n ∧ ∃ i σ' H', Inv X pins σ' H' s7 ∧ tn i s7.heap ∧ (∀ b ∈ fp, H' b = none) ∧ W i m σ' H' := fun {σ7 H7} I7 n7 => by
      obtain ⟨m', hm, w7⟩ := hN σ7 H7 n7
      refine ⟨m', hm, i + 1, σ7, H7, I7.unpinned, T.keep _ _ _ st5 fun b hb o e => (I7.pin (b, o) (List.mem_append_right _ (List.mem_append_right _ (mem_pinsAt hb e)))).1, fun b hb => ?_, w7⟩
      obtain ⟨o, e, d⟩ := T.obj _ _ st5 b hb
      exact (I7.pin (b, o) (List.mem_append_right _ (List.mem_append_right _ (mem_pinsAt hb e)))).2.1
    cases f with
    | next => obtain ⟨σ7, H7, I7, n7⟩ := q7; exact again I7 n7
    | cont => obtain ⟨σ7, H7, I7, n7⟩ := q7; exact again I7 n7
    | brk => obtain ⟨σ7, H7, I7, q7⟩ := q7; exact ⟨σ7, H7, I7.unpinned, q7⟩
    | ret v => obtain ⟨x7, σ7, H7, I7, r7, q7⟩ := q7; exact ⟨x7, σ7, H7, I7.unpinned, r7, q7⟩
end

/-! ### the forms one uses -/
/-- over a list that the body leaves as it is -/
theorem for_list {K : PySem.W.Frag} {a : Addr} {xs : List V} {g : TG} {tb : TS} {D : Ends} {σ : St} {H : Hp} (Pv : Nat → St → Hp → Prop) (h0 : Pv 0 σ H) (hl : ∀ i σ H, i ≤ xs.length → Pv i σ H → SqL K H a xs)
    (hs : ∀ i x σ H, xs[i]? = some x → Pv i σ H → g x σ H fun σ2 H2 => tb { D with nx := Pv (i + 1), ct := Pv (i + 1), bk := D.nx } σ2 H2) (hd : ∀ σ H, Pv xs.length σ H → D.nx σ H) :
    ∃ W : Nat → Nat → St → Hp → Prop, (∃ m, W 0 m σ H) ∧ ∀ i m σ H, W i m σ H →
      ((Itl K a).stop i H ∧ D.nx σ H) ∨ ((Itl K a).go i H ∧ ∃ N : St → Hp → Prop, (∀ σ' H', N σ' H' → ∃ m', m' < m ∧ W (i + 1) m' σ' H') ∧ ∀ x H', (Itl K a).yld i H x H' → g x σ H' fun σ2 H2 => tb { D with nx := N, ct := N, bk := D.nx } σ2 H2) := by
  refine ⟨fun i m σ H => m = xs.length - i ∧ i ≤ xs.length ∧ Pv i σ H, ⟨xs.length, by simp, Nat.zero_le _, h0⟩, ?_⟩
  rintro i m σ H ⟨rfl, hi, p⟩
  have q := hl i σ H hi p
  by_cases hlt : i < xs.length
  · refine .inr ⟨⟨xs, xs[i], q, by simp [hlt]⟩, Pv (i + 1), fun σ' H' p' => ⟨xs.length - (i + 1), by omega, rfl, hlt, p'⟩, fun x H' y => ?_⟩
    obtain ⟨e, y⟩ := y
    subst e
    exact hs i x σ _ (y xs q) p
  · have e : i = xs.length := by omega
    subst e
    exact .inl ⟨⟨xs, q, Nat.le_refl _⟩, hd σ H p⟩
theorem for_tup {K : PySem.W.Frag} {a : Addr} {xs : List V} {g : TG} {tb : TS} {D : Ends} {σ : St} {H : Hp} (Pv : Nat → St → Hp → Prop) (h0 : Pv 0 σ H) (hl : ∀ i σ H, i ≤ xs.length → Pv i σ H → SqT K H a xs)
    (hs : ∀ i x σ H, xs[i]? = some x → Pv i σ H → g x σ H fun σ2 H2 => tb { D with nx := Pv (i + 1), ct := Pv (i + 1), bk := D.nx } σ2 H2) (hd : ∀ σ H, Pv xs.length σ H → D.nx σ H) :
    ∃ W : Nat → Nat → St → Hp → Prop, (∃ m, W 0 m σ H) ∧ ∀ i m σ H, W i m σ H →
      ((Itt K a).stop i H ∧ D.nx σ H) ∨ ((Itt K a).go i H ∧ ∃ N : St → Hp → Prop, (∀ σ' H', N σ' H' → ∃ m', m' < m ∧ W (i + 1) m' σ' H') ∧ ∀ x H', (Itt K a).yld i H x H' → g x σ H' fun σ2 H2 => tb { D with nx := N, ct := N, bk := D.nx } σ2 H2) := by
  refine ⟨fun i m σ H => m = xs.length - i ∧ i ≤ xs.length ∧ Pv i σ H, ⟨xs.length, by simp, Nat.zero_le _, h0⟩, ?_⟩
  rintro i m σ H ⟨rfl, hi, p⟩
  have q := hl i σ H hi p
  by_cases hlt : i < xs.length
  · refine .inr ⟨⟨xs, xs[i], q, by simp [hlt]⟩, Pv (i + 1), fun σ' H' p' => ⟨xs.length - (i + 1), by omega, rfl, hlt, p'⟩, fun x H' y => ?_⟩
    obtain ⟨e, y⟩ := y
    subst e
    exact hs i x σ _ (y xs q) p
  · have e : i = xs.length := by omega
    subst e
    exact .inl ⟨⟨xs, q, Nat.le_refl _⟩, hd σ H p⟩
theorem for_range {lo : Int} {n : Nat} {g : TG} {tb : TS} {D : Ends} {σ : St} {H : Hp} (Pv : Nat → St → Hp → Prop) (h0 : Pv 0 σ H)
    (hs : ∀ i σ H, i < n → Pv i σ H → g (.int (lo + i)) σ H fun σ2 H2 => tb { D with nx := Pv (i + 1), ct := Pv (i + 1), bk := D.nx } σ2 H2) (hd : ∀ σ H, Pv n σ H → D.nx σ H) :
    ∃ W : Nat → Nat → St → Hp → Prop, (∃ m, W 0 m σ H) ∧ ∀ i m σ H, W i m σ H →
      ((Itr lo n).stop i H ∧ D.nx σ H) ∨ ((Itr lo n).go i H ∧ ∃ N : St → Hp → Prop, (∀ σ' H', N σ' H' → ∃ m', m' < m ∧ W (i + 1) m' σ' H') ∧ ∀ x H', (Itr lo n).yld i H x H' → g x σ H' fun σ2 H2 => tb { D with nx := N, ct := N, bk := D.nx } σ2 H2) := by
  refine ⟨fun i m σ H => m = n - i ∧ i ≤ n ∧ Pv i σ H, ⟨n, by simp, Nat.zero_le _, h0⟩, ?_⟩
  rintro i m σ H ⟨rfl, hi, p⟩
  by_cases hlt : i < n
  · refine .inr ⟨hlt, Pv (i + 1), fun σ' H' p' => ⟨n - (i + 1), by omega, rfl, hlt, p'⟩, fun x H' y => ?_⟩
    obtain ⟨e, y⟩ := y
    subst e y
    exact hs i σ _ hlt p
  · have e : i = n := by omega
    subst e
    exact .inl ⟨Nat.le_refl _, hd σ H p⟩
/-- while, by a word and a measure of the state -/
theorem while_by {c : TT} {tb : TS} {D : Ends} {σ : St} {H : Hp} (Pv : St → Hp → Prop) (μ : St → Hp → Nat) (h0 : Pv σ H)
    (hs : ∀ σ H, Pv σ H → c σ H fun b H1 => if b = true then tb { D with nx := fun σ' H' => Pv σ' H' ∧ μ σ' H' < μ σ H, ct := fun σ' H' => Pv σ' H' ∧ μ σ' H' < μ σ H, bk := D.nx } σ H1 else D.nx σ H1)
    (mono : ∀ σ H Q Q', (∀ b H1, Q b H1 → Q' b H1) → c σ H Q → c σ H Q') : tWhile c tb D σ H := by
  refine ⟨fun m σ H => m = μ σ H ∧ Pv σ H, ⟨_, rfl, h0⟩, ?_⟩
  rintro m σ H ⟨rfl, p⟩
  refine mono σ H _ _ (fun b H1 q => ?_) (hs σ H p)
  cases b with
  | true => exact ⟨_, fun σ' H' ⟨p', l⟩ => ⟨_, l, rfl, p'⟩, q⟩
  | false => exact q
end L2

namespace L2
open PySem PySem.Spec PyProof.Rows

abbrev R2 := V → V → Hp → VK → Prop
/-- a two-place operation on values: f is binaryOp op, inplaceOp op or compareOp op -/
def OpR (X : Cx) (f : Value → Value → Sem Value) (r : R2) : Prop :=
  ∀ (pins : List (Addr × Obj)) (s : Shared) (σ : St) (H : Hp) (x y : V) (v u : Value) (Q : VK), Inv X pins σ H s → RelV x v → RelV y u → r x y H Q →
    wpAny (model X.prog X.w) X.A (f v u) (EP X pins σ Q) X.xe s
/-- a one-place operation -/
def UnR (X : Cx) (f : Value → Sem Value) (r : V → Hp → VK → Prop) : Prop :=
  ∀ (pins : List (Addr × Obj)) (s : Shared) (σ : St) (H : Hp) (x : V) (v : Value) (Q : VK), Inv X pins σ H s → RelV x v → r x H Q →
    wpAny (model X.prog X.w) X.A (f v) (EP X pins σ Q) X.xe s
/-- a call of a value that is known (a builtin, a type) with values -/
def CallR (X : Cx) (f : Value) (r : List V → Hp → VK → Prop) : Prop :=
  ∀ (pins : List (Addr × Obj)) (s : Shared) (σ : St) (H : Hp) (xs : List V) (us : List Value) (Q : VK), Inv X pins σ H s → Vals xs us → r xs H Q →
    wpAny (model X.prog X.w) X.A (call f us) (EP X pins σ Q) X.xe s
/-- a value's truth -/
def TruR (X : Cx) (r : V → Hp → (Bool → Hp → Prop) → Prop) : Prop :=
  ∀ (pins : List (Addr × Obj)) (s : Shared) (σ : St) (H : Hp) (x : V) (v : Value) (Q : Bool → Hp → Prop), Inv X pins σ H s → RelV x v → r x H Q →
    wpAny (model X.prog X.w) X.A (truthy v) (TP X pins σ Q) X.xe s

def tOp (r : R2) (ta tb : TE) : TE := fun σ H Q => ta σ H fun x H1 => tb σ H1 fun y H2 => r x y H2 Q
def tUn (r : V → Hp → VK → Prop) (ta : TE) : TE := fun σ H Q => ta σ H fun x H1 => r x H1 Q
/-- ints in, under C, and a value out -/
def rI (C : Int → Int → Prop) (g : Int → Int → V) : R2 := fun x y H Q => ∃ i j, x = .int i ∧ y = .int j ∧ C i j ∧ Q (g i j) H
def rI0 (g : Int → Int → V) : R2 := fun x y H Q => ∃ i j, x = .int i ∧ y = .int j ∧ Q (g i j) H
def rU (g : Int → V) : V → Hp → VK → Prop := fun x H Q => ∃ i, x = .int i ∧ Q (g i) H

section
variable {X : Cx} {a b c : Expr} {ta tb tc : TE} {pos : Pos}

theorem binT (ha : PE X a ta) (hb : PE X b tb) {pins : List (Addr × Obj)} {s : Shared} {σ : St} {H : Hp} {R : V → V → Hp → Prop} (I : Inv X pins σ H s)
    (h : ta σ H fun x H1 => tb σ H1 fun y H2 => R x y H2) {Q : Value → Shared → Prop} {f : Value → Value → Sem Value}
    (hf : ∀ v u s2 x y H2, Inv X pins σ H2 s2 → RelV x v → RelV y u → R x y H2 → wpAny (model X.prog X.w) X.A (f v u) Q X.xe s2) :
    wpAny (model X.prog X.w) X.A (eval a X.env) (fun v s₁ => wpAny (model X.prog X.w) X.A (eval b X.env) (fun u s₂ => wpAny (model X.prog X.w) X.A (f v u) Q X.xe s₂) X.xe s₁) X.xe s := by
  refine thn (ha pins s σ H _ I h) fun v s1 ⟨x, H1, I1, r1, q1⟩ => ?_
  refine thn (hb pins s1 σ H1 _ I1 q1) fun u s2 ⟨y, H2, I2, r2, q2⟩ => ?_
  exact hf v u s2 x y H2 I2 r1 r2 q2

theorem pe_op {op : Operator} {r : R2} (ho : OpR X (binaryOp op) r) (ha : PE X a ta) (hb : PE X b tb) : PE X (.BinOp a op b pos) (tOp r ta tb) := by
  intro pins s σ H Q I h
  exact wpAny_BinOp (binT ha hb I h fun v u s2 x y H2 I2 rx ry q => ho pins s2 σ H2 x y v u Q I2 rx ry q)
theorem pe_un {op : UnaryOp} {r : V → Hp → VK → Prop} (ho : UnR X (unaryOp op) r) (ha : PE X a ta) : PE X (.UnaryOp op a pos) (tUn r ta) := by
  intro pins s σ H Q I h
  exact UnaryOp_ (thn (ha pins s σ H _ I h) fun v s1 ⟨x, H1, I1, r1, q1⟩ => ho pins s1 σ H1 x v Q I1 r1 q1)
/-- a op= e at a name: the name's slot i -/
theorem augR {op : Operator} {r : R2} (ho : OpR X (inplaceOp op) r) {pins : List (Addr × Obj)} {s : Shared} {σ : St} {H : Hp} {x y : V} {v u : Value} {Q : VK} (I : Inv X pins σ H s)
    (rx : RelV x v) (ry : RelV y u) (q : r x y H Q) : wpAny (model X.prog X.w) X.A (inplaceOp op v u) (EP X pins σ Q) X.xe s := ho pins s σ H x y v u Q I rx ry q

/-! ### ints -/
theorem opI {f : Value → Value → Sem Value} {C : Int → Int → Prop} {g : Int → Int → Int}
    (rule : ∀ (i j : Int) (t u : Tok) (s : Shared) (Q : Value → Shared → Prop) (E : Value → Shared → Prop), C i j → Q (.int (g i j) s.toks) { s with toks := s.toks + 1 } → wpAny (model X.prog X.w) X.A (f (.int i t) (.int j u)) Q E s) :
    OpR X f (rI C fun i j => .int (g i j)) := by
  intro pins s σ H x y v u Q I rx ry h
  obtain ⟨i, j, rfl, rfl, hc, q⟩ := h
  obtain ⟨t, rfl⟩ := rx
  obtain ⟨t', rfl⟩ := ry
  exact rule i j t t' s _ _ hc ⟨.int (g i j), H, I.tok _, ⟨_, rfl⟩, q⟩
theorem opI0 {f : Value → Value → Sem Value} {g : Int → Int → Int}
    (rule : ∀ (i j : Int) (t u : Tok) (s : Shared) (Q : Value → Shared → Prop) (E : Value → Shared → Prop), Q (.int (g i j) s.toks) { s with toks := s.toks + 1 } → wpAny (model X.prog X.w) X.A (f (.int i t) (.int j u)) Q E s) :
    OpR X f (rI0 fun i j => .int (g i j)) := by
  intro pins s σ H x y v u Q I rx ry h
  obtain ⟨i, j, rfl, rfl, q⟩ := h
  obtain ⟨t, rfl⟩ := rx
  obtain ⟨t', rfl⟩ := ry
  exact rule i j t t' s _ _ ⟨.int (g i j), H, I.tok _, ⟨_, rfl⟩, q⟩
theorem opB0 {f : Value → Value → Sem Value} {g : Int → Int → Bool}
    (rule : ∀ (i j : Int) (t u : Tok) (s : Shared) (Q : Value → Shared → Prop) (E : Value → Shared → Prop), Q (.bool (g i j)) s → wpAny (model X.prog X.w) X.A (f (.int i t) (.int j u)) Q E s) :
    OpR X f (rI0 fun i j => .bl (g i j)) := by
  intro pins s σ H x y v u Q I rx ry h
  obtain ⟨i, j, rfl, rfl, q⟩ := h
  obtain ⟨t, rfl⟩ := rx
  obtain ⟨t', rfl⟩ := ry
  exact rule i j t t' s _ _ ⟨.bl (g i j), H, I, rfl, q⟩

def CDiv (i j : Int) : Prop := 0 < j ∧ j < 1073741824
def CDivN (i j : Int) : Prop := j ≠ 0 ∧ j.natAbs < 1073741824
def CPow (i j : Int) : Prop := 0 ≤ j ∧ j ≤ 1000000 ∧ i.natAbs < 2 ^ 64
def CMul (i j : Int) : Prop := (-(2 ^ 64) < i ∧ i < 2 ^ 64) ∨ (-(2 ^ 64) < j ∧ j < 2 ^ 64)
theorem CMul.ok {i j : Int} (h : CMul i j) : IntMulOk i j := by
  rcases h with ⟨h1, h2⟩ | ⟨h1, h2⟩
  · exact .of_left (intBits_le_64 h1 h2)
  · exact .of_right (intBits_le_64 h1 h2)
theorem two_pow_nn (k : Nat) : (0 : Int) ≤ 2 ^ k := by
  rw [two_pow_cast]
  exact Int.natCast_nonneg _

theorem op_add : OpR X (binaryOp .Add) (rI0 fun i j => .int (i + j)) := opI0 fun _ _ _ _ _ _ _ q => add_int q
theorem op_sub : OpR X (binaryOp .Sub) (rI0 fun i j => .int (i - j)) := opI0 fun _ _ _ _ _ _ _ q => sub_int q
theorem op_mul : OpR X (binaryOp .Mult) (rI CMul fun i j => .int (i * j)) := opI fun _ _ _ _ _ _ _ hc q => mul_int q hc.ok
/-- // by a positive divisor -/
theorem op_fdiv : OpR X (binaryOp .FloorDiv) (rI CDiv fun i j => .int (i / j)) := opI fun i j _ _ _ _ _ hc q => by
  have h1 : (0 : Int) < j := hc.1
  have h2 : j < 1073741824 := hc.2
  exact floordiv_int (by omega) (by rw [Int.fdiv_eq_ediv_of_nonneg i (by omega)]; exact q) (.inl (PyProof.noPylong_small (by omega)))
theorem op_fdivN : OpR X (binaryOp .FloorDiv) (rI CDivN fun i j => .int (i.fdiv j)) := opI fun _ _ _ _ _ _ _ hc q => floordiv_int hc.1 q (.inl (PyProof.noPylong_small hc.2))
/-- % by a positive divisor of any size -/
theorem op_mod : OpR X (binaryOp .Mod) (rI (fun _ j => 0 < j) fun i j => .int (i % j)) := opI fun i j _ _ _ _ _ hc q => by
  have h1 : (0 : Int) < j := hc
  exact mod_int' (by omega) (by rw [Int.fmod_eq_emod_of_nonneg i (by omega)]; exact q)
theorem op_modN : OpR X (binaryOp .Mod) (rI (fun _ j => j ≠ 0) fun i j => .int (i.fmod j)) := opI fun _ _ _ _ _ _ _ hc q => mod_int' hc q
theorem op_pow : OpR X (binaryOp .Pow) (rI CPow fun i j => .int (i ^ j.toNat)) := opI fun _ _ _ _ _ _ _ hc q => pow_int_small hc.1 hc.2.1 hc.2.2 q
theorem op_shl : OpR X (binaryOp .LShift) (rI CPow fun i j => .int (i * 2 ^ j.toNat)) := opI fun _ _ _ _ _ _ _ hc q => lshift_int_small hc.1 hc.2.1 hc.2.2 q
theorem op_shr : OpR X (binaryOp .RShift) (rI (fun _ j => 0 ≤ j) fun i j => .int (i / 2 ^ j.toNat)) := opI fun i j _ _ _ _ _ hc q =>
  rshift_int hc (by rw [Int.fdiv_eq_ediv_of_nonneg i (two_pow_nn _)]; exact q)
theorem op_and : OpR X (binaryOp .BitAnd) (rI0 fun i j => .int (Builtin.bitAnd i j)) := opI0 fun _ _ _ _ _ _ _ q => and_int q
theorem op_or : OpR X (binaryOp .BitOr) (rI0 fun i j => .int (Builtin.bitOr i j)) := opI0 fun _ _ _ _ _ _ _ q => or_int q
theorem op_xor : OpR X (binaryOp .BitXor) (rI0 fun i j => .int (Builtin.bitXor i j)) := opI0 fun _ _ _ _ _ _ _ q => xor_int q

theorem iop_add : OpR X (inplaceOp .Add) (rI0 fun i j => .int (i + j)) := opI0 fun _ _ _ _ _ _ _ q => iadd_int q
theorem iop_sub : OpR X (inplaceOp .Sub) (rI0 fun i j => .int (i - j)) := opI0 fun _ _ _ _ _ _ _ q => isub_int q
theorem iop_mul : OpR X (inplaceOp .Mult) (rI CMul fun i j => .int (i * j)) := opI fun _ _ _ _ _ _ _ hc q => imul_int q hc.ok
theorem iop_fdiv : OpR X (inplaceOp .FloorDiv) (rI CDiv fun i j => .int (i / j)) := opI fun i j _ _ _ _ _ hc q => by
  have h1 : (0 : Int) < j := hc.1
  have h2 : j < 1073741824 := hc.2
  exact ifloordiv_int (by omega) (by rw [Int.fdiv_eq_ediv_of_nonneg i (by omega)]; exact q) (.inl (PyProof.noPylong_small (by omega)))
theorem iop_mod : OpR X (inplaceOp .Mod) (rI (fun _ j => 0 < j) fun i j => .int (i % j)) := opI fun i j _ _ _ _ _ hc q => by
  have h1 : (0 : Int) < j := hc
  exact imod_int (by omega) (by rw [Int.fmod_eq_emod_of_nonneg i (by omega)]; exact q)
theorem iop_shl : OpR X (inplaceOp .LShift) (rI CPow fun i j => .int (i * 2 ^ j.toNat)) := opI fun _ _ _ _ _ _ _ hc q => ilshift_int_small hc.1 hc.2.1 hc.2.2 q
theorem iop_shr : OpR X (inplaceOp .RShift) (rI (fun _ j => 0 ≤ j) fun i j => .int (i / 2 ^ j.toNat)) := opI fun i j _ _ _ _ _ hc q =>
  irshift_int hc (by rw [Int.fdiv_eq_ediv_of_nonneg i (two_pow_nn _)]; exact q)
theorem iop_and : OpR X (inplaceOp .BitAnd) (rI0 fun i j => .int (Builtin.bitAnd i j)) := opI0 fun _ _ _ _ _ _ _ q => iand_int q
theorem iop_or : OpR X (inplaceOp .BitOr) (rI0 fun i j => .int (Builtin.bitOr i j)) := opI0 fun _ _ _ _ _ _ _ q => ior_int q
theorem iop_xor : OpR X (inplaceOp .BitXor) (rI0 fun i j => .int (Builtin.bitXor i j)) := opI0 fun _ _ _ _ _ _ _ q => ixor_int q

theorem unI {f : Value → Sem Value} {g : Int → Int}
    (rule : ∀ (i : Int) (t : Tok) (s : Shared) (Q : Value → Shared → Prop) (E : Value → Shared → Prop), Q (.int (g i) s.toks) { s with toks := s.toks + 1 } → wpAny (model X.prog X.w) X.A (f (.int i t)) Q E s) :
    UnR X f (rU fun i => .int (g i)) := by
  intro pins s σ H x v Q I rx h
  obtain ⟨i, rfl, q⟩ := h
  obtain ⟨t, rfl⟩ := rx
  exact rule i t s _ _ ⟨.int (g i), H, I.tok _, ⟨_, rfl⟩, q⟩
theorem un_neg : UnR X (unaryOp .USub) (rU fun i => .int (-i)) := unI fun _ _ _ _ _ q => neg_int q
theorem un_inv : UnR X (unaryOp .Invert) (rU fun i => .int (Builtin.bitNot i)) := unI fun _ _ _ _ _ q => invert_int q

/-! ### bools among ints: n += (a < b) -/
theorem op_add_ib : OpR X (binaryOp .Add) (fun x y H Q => ∃ i k, x = .int i ∧ y = .bl k ∧ Q (.int (i + b2i k)) H) := by
  intro pins s σ H x y v u Q I rx ry h
  obtain ⟨i, k, rfl, rfl, q⟩ := h
  obtain ⟨t, rfl⟩ := rx
  cases ry
  exact add_int_bool ⟨.int (i + b2i k), H, I.tok _, ⟨_, rfl⟩, q⟩
end

/-! ### comparisons -/
/-- the scalars that == tells apart as data does -/
def scal : V → V → Bool
  | .non, .non => true | .non, .int _ => true | .int _, .non => true | .non, .bl _ => true | .bl _, .non => true | .non, .str _ => true | .str _, .non => true
  | .int _, .int _ => true | .bl _, .bl _ => true | .str _, .str _ => true | .byt _, .byt _ => true
  | .int _, .str _ => true | .str _, .int _ => true | .bl _, .str _ => true | .str _, .bl _ => true
  | _, _ => false
def rEq : R2 := fun x y H Q => scal x y = true ∧ Q (.bl (decide (x = y))) H
def rNe : R2 := fun x y H Q => scal x y = true ∧ Q (.bl (!decide (x = y))) H

theorem dec_int {i j : Int} : decide (V.int i = V.int j) = (i == j) := by
  rw [Bool.eq_iff_iff]
  simp
theorem dec_bl {i j : Bool} : decide (V.bl i = V.bl j) = (i == j) := by
  rw [Bool.eq_iff_iff]
  simp
theorem dec_str {i j : Str} : decide (V.str i = V.str j) = (i == j) := by
  rw [Bool.eq_iff_iff]
  simp
theorem dec_byt {i j : Array UInt8} : decide (V.byt i = V.byt j) = (i.toList == j.toList) := by
  rw [Bool.eq_iff_iff]
  cases i
  cases j
  simp

section
variable {X : Cx} {a b c : Expr} {ta tb tc : TE} {pos : Pos}
theorem fin_bl {pins : List (Addr × Obj)} {σ : St} {H : Hp} {s : Shared} {Q : VK} {k k' : Bool} (I : Inv X pins σ H s) (q : Q (.bl k) H) (e : k = k') : EP X pins σ Q (.bool k') s := by
  subst e
  exact ⟨.bl k, H, I, rfl, q⟩
theorem op_eq : OpR X (compareOp .Eq) rEq := by
  intro pins s σ H x y v u Q I rx ry h
  obtain ⟨hs, q⟩ := h
  cases x with
  | non =>
    cases rx
    cases y with
    | non => cases ry; exact PySem.EqNone.eq_none_none (fin_bl I q (by simp))
    | bl j => cases ry; exact PySem.EqNone.eq_none_bool (fin_bl I q (by simp))
    | int j => obtain ⟨t', rfl⟩ := ry; exact PySem.EqNone.eq_none_int (fin_bl I q (by simp))
    | str j => obtain ⟨t', rfl⟩ := ry; exact PySem.EqNone.eq_none_str (fin_bl I q (by simp))
    | _ => exact absurd (show false = true from hs) Bool.false_ne_true
  | bl i =>
    cases rx
    cases y with
    | non => cases ry; exact PySem.EqNone.eq_bool_none (fin_bl I q (by simp))
    | bl j => cases ry; exact eq_bool (fin_bl I q dec_bl)
    | str j => obtain ⟨t', rfl⟩ := ry; exact PySem.EqMixed.eq_bool_str (fin_bl I q (by simp))
    | _ => exact absurd (show false = true from hs) Bool.false_ne_true
  | int i =>
    obtain ⟨t, rfl⟩ := rx
    cases y with
    | non => cases ry; exact PySem.EqNone.eq_int_none (fin_bl I q (by simp))
    | int j => obtain ⟨t', rfl⟩ := ry; exact eq_int (fin_bl I q dec_int)
    | str j => obtain ⟨t', rfl⟩ := ry; exact PySem.EqMixed.eq_int_str (fin_bl I q (by simp))
    | _ => exact absurd (show false = true from hs) Bool.false_ne_true
  | str i =>
    obtain ⟨t, rfl⟩ := rx
    cases y with
    | non => cases ry; exact PySem.EqNone.eq_str_none (fin_bl I q (by simp))
    | bl j => cases ry; exact PySem.EqMixed.eq_str_bool (fin_bl I q (by simp))
    | int j => obtain ⟨t', rfl⟩ := ry; exact PySem.EqMixed.eq_str_int (fin_bl I q (by simp))
    | str j => obtain ⟨t', rfl⟩ := ry; exact eq_str (fin_bl I q dec_str)
    | _ => exact absurd (show false = true from hs) Bool.false_ne_true
  | byt i =>
    obtain ⟨t, rfl⟩ := rx
    cases y with
    | byt j => obtain ⟨t', rfl⟩ := ry; exact PySem.W.eq_bytes (fin_bl I q dec_byt)
    | _ => exact absurd (show false = true from hs) Bool.false_ne_true
  | _ => cases y <;> exact absurd (show false = true from hs) Bool.false_ne_true
theorem op_ne : OpR X (compareOp .NotEq) rNe := by
  intro pins s σ H x y v u Q I rx ry h
  obtain ⟨hs, q⟩ := h
  cases x with
  | non =>
    cases rx
    cases y with
    | non => cases ry; exact PySem.EqNone.ne_none_none (fin_bl I q (by simp))
    | bl j => cases ry; exact PySem.EqNone.ne_none_bool (fin_bl I q (by simp))
    | int j => obtain ⟨t', rfl⟩ := ry; exact PySem.EqNone.ne_none_int (fin_bl I q (by simp))
    | str j => obtain ⟨t', rfl⟩ := ry; exact PySem.EqNone.ne_none_str (fin_bl I q (by simp))
    | _ => exact absurd (show false = true from hs) Bool.false_ne_true
  | bl i =>
    cases rx
    cases y with
    | non => cases ry; exact PySem.EqNone.ne_bool_none (fin_bl I q (by simp))
    | bl j => cases ry; exact ne_bool (fin_bl I q (congrArg not dec_bl))
    | str j => obtain ⟨t', rfl⟩ := ry; exact PySem.EqMixed.ne_bool_str (fin_bl I q (by simp))
    | _ => exact absurd (show false = true from hs) Bool.false_ne_true
  | int i =>
    obtain ⟨t, rfl⟩ := rx
    cases y with
    | non => cases ry; exact PySem.EqNone.ne_int_none (fin_bl I q (by simp))
    | int j => obtain ⟨t', rfl⟩ := ry; exact ne_int (fin_bl I q (congrArg not dec_int))
    | str j => obtain ⟨t', rfl⟩ := ry; exact PySem.EqMixed.ne_int_str (fin_bl I q (by simp))
    | _ => exact absurd (show false = true from hs) Bool.false_ne_true
  | str i =>
    obtain ⟨t, rfl⟩ := rx
    cases y with
    | non => cases ry; exact PySem.EqNone.ne_str_none (fin_bl I q (by simp))
    | bl j => cases ry; exact PySem.EqMixed.ne_str_bool (fin_bl I q (by simp))
    | int j => obtain ⟨t', rfl⟩ := ry; exact PySem.EqMixed.ne_str_int (fin_bl I q (by simp))
    | str j => obtain ⟨t', rfl⟩ := ry; exact ne_str (fin_bl I q (congrArg not dec_str))
    | _ => exact absurd (show false = true from hs) Bool.false_ne_true
  | byt i =>
    obtain ⟨t, rfl⟩ := rx
    cases y with
    | byt j => obtain ⟨t', rfl⟩ := ry; exact PySem.W.ne_bytes (fin_bl I q (congrArg not dec_byt))
    | _ => exact absurd (show false = true from hs) Bool.false_ne_true
  | _ => cases y <;> exact absurd (show false = true from hs) Bool.false_ne_true

theorem op_lt : OpR X (compareOp .Lt) (rI0 fun i j => .bl (decide (i < j))) := opB0 fun _ _ _ _ _ _ _ q => lt_int q
theorem op_le : OpR X (compareOp .LtE) (rI0 fun i j => .bl (decide (i ≤ j))) := opB0 fun _ _ _ _ _ _ _ q => le_int q
theorem op_gt : OpR X (compareOp .Gt) (rI0 fun i j => .bl (decide (j < i))) := opB0 fun _ _ _ _ _ _ _ q => gt_int q
theorem op_ge : OpR X (compareOp .GtE) (rI0 fun i j => .bl (decide (j ≤ i))) := opB0 fun _ _ _ _ _ _ _ q => ge_int q
theorem op_lt_str : OpR X (compareOp .Lt) (fun x y H Q => ∃ i j, x = .str i ∧ y = .str j ∧ Q (.bl (decide (i.cps.toList < j.cps.toList))) H) := by
  intro pins s σ H x y v u Q I rx ry h
  obtain ⟨i, j, rfl, rfl, q⟩ := h
  obtain ⟨t, rfl⟩ := rx
  obtain ⟨t', rfl⟩ := ry
  exact lt_str (fin_bl I q rfl)
/-- the one string within the other -/
theorem op_in_str : OpR X (compareOp .In) (fun x y H Q => ∃ i j, x = .str i ∧ y = .str j ∧ Q (.bl (!(Builtin.Str.occurrences j i 0 j.length 1).isEmpty)) H) := by
  intro pins s σ H x y v u Q I rx ry h
  obtain ⟨i, j, rfl, rfl, q⟩ := h
  obtain ⟨t, rfl⟩ := rx
  obtain ⟨t', rfl⟩ := ry
  exact in_str (fin_bl I q rfl)

/-- is None, is not None: the right side a value none -/
theorem op_isN : OpR X (compareOp .Is) (fun x y H Q => y = .non ∧ Q (.bl (decide (x = .non))) H) := by
  intro pins s σ H x y v u Q I rx ry h
  obtain ⟨rfl, q⟩ := h
  cases ry
  refine is_none_gen (fin_bl I q ?_)
  cases x <;> first
    | (cases rx; rfl)
    | (obtain ⟨t, rfl⟩ := rx; rfl)
theorem op_notN : OpR X (compareOp .IsNot) (fun x y H Q => y = .non ∧ Q (.bl (!decide (x = .non))) H) := by
  intro pins s σ H x y v u Q I rx ry h
  obtain ⟨rfl, q⟩ := h
  cases ry
  refine isnot_none_gen (fin_bl I q ?_)
  cases x <;> first
    | (cases rx; rfl)
    | (obtain ⟨t, rfl⟩ := rx; rfl)

theorem op_notin_str : OpR X (compareOp .NotIn) (fun x y H Q => ∃ i j, x = .str i ∧ y = .str j ∧ Q (.bl (!(!(Builtin.Str.occurrences j i 0 j.length 1).isEmpty))) H) := by
  intro pins s σ H x y v u Q I rx ry h
  obtain ⟨i, j, rfl, rfl, q⟩ := h
  obtain ⟨t, rfl⟩ := rx
  obtain ⟨t', rfl⟩ := ry
  exact notIn_str (fin_bl I q rfl)
/-- is, is not of two objects that are tracked lists or instances -/
def isObj : HO → Bool
  | .lst _ => true
  | .ins _ _ _ => true
  | _ => false
theorem obj_there {pins : List (Addr × Obj)} {s : Shared} {σ : St} {H : Hp} {a : Addr} {o : HO} (I : Inv X pins σ H s) (h : H a = some o) (p : isObj o = true) : ∃ ob, s.heap.get? a = some ob ∧ ob.cls ≠ .type "tuple" := by
  cases o with
  | lst xs =>
    obtain ⟨_, its, n, _, e⟩ : xs.length ≤ sizeLine ∧ ∃ (its : List Value) (n : Nat), Vals xs its ∧ s.heap.get? a = some { cls := .type "list", data := .seq its.toArray n } := I.hok a _ h
    exact ⟨_, e, (by show Value.type "list" ≠ .type "tuple"; decide +kernel)⟩
  | ins C dx fs =>
    have x := I.hok a _ h
    obtain ⟨_, _, _, e, _⟩ := x
    exact ⟨_, e, (by show Value.ref C ≠ .type "tuple"; exact fun z => by cases z)⟩
  | _ => exact absurd (show false = true from p) Bool.false_ne_true
theorem op_is_ref : OpR X (compareOp .Is) (fun x y H Q => ∃ a b oa ob, x = .ref a ∧ y = .ref b ∧ H a = some oa ∧ isObj oa = true ∧ H b = some ob ∧ isObj ob = true ∧ Q (.bl (decide (a = b))) H) := by
  intro pins s σ H x y v u Q I rx ry h
  obtain ⟨a, b, oa, ob, rfl, rfl, ha, pa, hb, pb, q⟩ := h
  cases rx
  cases ry
  obtain ⟨o1, e1, n1⟩ := obj_there I ha pa
  obtain ⟨o2, e2, _⟩ := obj_there I hb pb
  by_cases z : a = b
  · subst z
    exact wpAny_is_ref_self (fin_bl I q (by simp))
  · exact wpAny_is_ref_other z e1 e2 n1 (fin_bl I q (by simp [z]))
theorem op_isnot_ref : OpR X (compareOp .IsNot) (fun x y H Q => ∃ a b oa ob, x = .ref a ∧ y = .ref b ∧ H a = some oa ∧ isObj oa = true ∧ H b = some ob ∧ isObj ob = true ∧ Q (.bl (!decide (a = b))) H) := by
  intro pins s σ H x y v u Q I rx ry h
  obtain ⟨a, b, oa, ob, rfl, rfl, ha, pa, hb, pb, q⟩ := h
  cases rx
  cases ry
  obtain ⟨o1, e1, n1⟩ := obj_there I ha pa
  obtain ⟨o2, e2, _⟩ := obj_there I hb pb
  by_cases z : a = b
  · subst z
    exact wpAny_isNot_ref_self (fin_bl I q (by simp))
  · exact wpAny_isNot_ref_other z e1 e2 n1 (fin_bl I q (by simp [z]))

/-- two rules for one operation: by cases -/
theorem OpR.or {f : Value → Value → Sem Value} {r r' : R2} (h : OpR X f r) (h' : OpR X f r') : OpR X f (fun x y H Q => r x y H Q ∨ r' x y H Q) := by
  intro pins s σ H x y v u Q I rx ry q
  rcases q with q | q
  · exact h pins s σ H x y v u Q I rx ry q
  · exact h' pins s σ H x y v u Q I rx ry q

theorem nomark (b : Expr) {op : CmpOp} (h : op ≠ .In := by decide) (h2 : op ≠ .NotIn := by decide) : behindInMarks op b = false := by
  have e1 : (op == CmpOp.In) = false := by cases op <;> first | rfl | exact absurd rfl h
  have e2 : (op == CmpOp.NotIn) = false := by cases op <;> first | rfl | exact absurd rfl h2
  cases b <;> simp [behindInMarks, e1, e2]
/-- a comparison as a value; hm: nomark b, or (for in, not in) by with_unfolding_all rfl -/
theorem pe_cmpR {op : CmpOp} {r : R2} (ho : OpR X (compareOp op) r) (ha : PE X a ta) (hb : PE X b tb) (hm : behindInMarks op b = false) : PE X (.Compare a [op] [b] pos) (tOp r ta tb) := by
  intro pins s σ H Q I h
  exact wpAny_Compare1 (binT ha hb I h fun v u s2 x y H2 I2 rx ry q => ho pins s2 σ H2 x y v u Q I2 rx ry q) hm
/-- a reading of a value as a test -/
def tTest (t : TE) : TT := fun σ H Q => t σ H fun x H' => ∃ k, x = .bl k ∧ Q k H'
theorem pt_cmpR {op : CmpOp} {r : R2} (ho : OpR X (compareOp op) r) (ha : PE X a ta) (hb : PE X b tb) (hm : behindInMarks op b = false) : PT X (.Compare a [op] [b] pos) (tTest (tOp r ta tb)) := by
  intro pins s σ H Q I h
  refine wpAny_isTrue_Compare1 (thn (ha pins s σ H _ I h) fun v s1 ⟨x, H1, I1, r1, q1⟩ => thn (hb pins s1 σ H1 _ I1 q1) fun u s2 ⟨y, H2, I2, r2, q2⟩ =>
    thn (ho pins s2 σ H2 x y v u _ I2 r1 r2 q2) fun c s3 ⟨z, H3, I3, r3, k, e, q3⟩ => ?_) hm
  subst e
  cases r3
  exact wpAny_truthy_bool ⟨H3, I3, q3⟩
/-- a op1 b op2 c -/
def tChain (r r' : R2) (ta tb tc : TE) : TE := fun σ H Q => ta σ H fun x H1 => tb σ H1 fun y H2 => r x y H2 fun z H3 => ∃ k, z = .bl k ∧
  (if k = true then tc σ H3 fun w' H4 => r' y w' H4 Q else Q (.bl false) H3)
theorem pe_chain {op op' : CmpOp} {r r' : R2} (ho : OpR X (compareOp op) r) (ho' : OpR X (compareOp op') r') (ha : PE X a ta) (hb : PE X b tb) (hc : PE X c tc)
    (hm : lastMarks [op, op'] [b, c] = false := by with_unfolding_all rfl) : PE X (.Compare a [op, op'] [b, c] pos) (tChain r r' ta tb tc) := by
  intro pins s σ H Q I h
  refine Compare_chain (thn (ha pins s σ H _ I h) fun v s1 ⟨x, H1, I1, r1, q1⟩ => chain_link (thn (hb pins s1 σ H1 _ I1 q1) fun u s2 ⟨y, H2, I2, r2, q2⟩ =>
    thn (ho pins s2 σ H2 x y v u _ I2 r1 r2 q2) fun d s3 ⟨z, H3, I3, r3, k, e, q3⟩ => ?_)) hm
  subst e
  cases r3
  refine wpAny_truthy_bool ?_
  cases k with
  | false => exact ite_ff ⟨.bl false, H3, I3, rfl, q3⟩
  | true => exact ite_tt (chain_last (thn (hc pins s3 σ H3 _ I3 q3) fun w' s4 ⟨z', H4, I4, r4, q4⟩ => ho' pins s4 σ H4 y z' u w' Q I4 r2 r4 q4))
theorem pt_chain {op op' : CmpOp} {r r' : R2} (ho : OpR X (compareOp op) r) (ho' : OpR X (compareOp op') r') (ha : PE X a ta) (hb : PE X b tb) (hc : PE X c tc)
    (hm : lastMarks [op, op'] [b, c] = false := by with_unfolding_all rfl) : PT X (.Compare a [op, op'] [b, c] pos) (tTest (tChain r r' ta tb tc)) := by
  intro pins s σ H Q I h
  refine isTrue_chain (thn (ha pins s σ H _ I h) fun v s1 ⟨x, H1, I1, r1, q1⟩ => test_link (thn (hb pins s1 σ H1 _ I1 q1) fun u s2 ⟨y, H2, I2, r2, q2⟩ =>
    thn (ho pins s2 σ H2 x y v u _ I2 r1 r2 q2) fun d s3 ⟨z, H3, I3, r3, k, e, q3⟩ => ?_)) hm
  subst e
  cases r3
  refine wpAny_truthy_bool ?_
  cases k with
  | false =>
    obtain ⟨k', e', q'⟩ := q3
    cases e'
    exact ite_ff ⟨H3, I3, q'⟩
  | true =>
    refine ite_tt (test_last (thn (hc pins s3 σ H3 _ I3 q3) fun w' s4 ⟨z', H4, I4, r4, q4⟩ => thn (ho' pins s4 σ H4 y z' u w' _ I4 r2 r4 q4) fun d' s5 ⟨z2, H5, I5, r5, k2, e2, q5⟩ => ?_))
    subst e2
    cases r5
    exact wpAny_truthy_bool ⟨H5, I5, q5⟩

/-! ### truth -/
/-- a value's truth by the abstract heap -/
def TruV (K : PySem.W.Frag) (x : V) (H : Hp) (k : Bool) : Prop :=
  match x with
  | .non => k = false
  | .bl b => k = b
  | .int i => k = (i != 0)
  | .str y => y.length ≤ sizeLine ∧ k = ((y.length : Int) != 0)
  | .byt y => y.size ≤ sizeLine ∧ k = ((y.size : Int) != 0)
  | .ref p => (∃ xs, SqL K H p xs ∧ k = !xs.isEmpty) ∨ (∃ xs, SqT K H p xs ∧ k = !xs.isEmpty) ∨ ∃ kvs, H p = some (.dK kvs) ∧ k = !kvs.isEmpty
  | _ => False
theorem isEmpty_kv {κ : Type} {kvs : List (κ × V)} {vs : List (κ × Value)} (r : KV kvs vs) : (!vs.isEmpty) = !kvs.isEmpty := by
  cases r <;> rfl
theorem isEmpty_of {xs : List V} {its : List Value} (r : Vals xs its) : (!its.toArray.isEmpty) = !xs.isEmpty := by
  cases r <;> simp
theorem line63 : (sizeLine : Nat) < 2 ^ 63 := by rw [sizeLine_eq]; decide
theorem tru_ok : TruR X (fun x H Q => ∃ k, TruV X.K x H k ∧ Q k H) := by
  intro pins s σ H x v Q I rx h
  obtain ⟨k, e, q⟩ := h
  have hl := line63
  have hs : sizeLine = 16777216 := sizeLine_eq
  cases x with
  | non =>
    cases rx
    have e' : k = false := e
    subst e'
    exact truthy_none ⟨H, I, q⟩
  | bl b =>
    cases rx
    have e' : k = b := e
    subst e'
    exact wpAny_truthy_bool ⟨H, I, q⟩
  | int i =>
    obtain ⟨t, rfl⟩ := rx
    have e' : k = (i != 0) := e
    subst e'
    exact PySem.P.truthy_int ⟨H, I, q⟩
  | str y =>
    obtain ⟨t, rfl⟩ := rx
    obtain ⟨hy, e'⟩ : y.length ≤ sizeLine ∧ k = ((y.length : Int) != 0) := e
    subst e'
    exact PySem.P.truthy_str (by omega) ⟨H, I.tok _, q⟩
  | byt y =>
    obtain ⟨t, rfl⟩ := rx
    obtain ⟨hy, e'⟩ : y.size ≤ sizeLine ∧ k = ((y.size : Int) != 0) := e
    subst e'
    exact PySem.W.truthy_bytes (by omega) ⟨H, I.tok _, q⟩
  | ref p =>
    cases rx
    have e' : (∃ xs, SqL X.K H p xs ∧ k = !xs.isEmpty) ∨ (∃ xs, SqT X.K H p xs ∧ k = !xs.isEmpty) ∨ ∃ kvs, H p = some (.dK kvs) ∧ k = !kvs.isEmpty := e
    rcases e' with ⟨xs, hx, e'⟩ | ⟨xs, hx, e'⟩ | ⟨kvs, hx, e'⟩
    · subst e'
      obtain ⟨its, r, pl, hz⟩ := I.list hx
      have hlen := r.length
      exact wpAny_truthy_list pl.isList (by simp only [List.size_toArray]; omega) ⟨H, I.tok _, by rw [isEmpty_of r]; exact q⟩
    · subst e'
      obtain ⟨its, r, pl, hz⟩ := I.tuple hx
      have hlen := r.length
      exact truthy_tuple pl (by simp only [List.size_toArray]; omega) ⟨H, I.tok _, by rw [isEmpty_of r]; exact q⟩
    · subst e'
      obtain ⟨hz, hS, vs, r, m⟩ : kvs.length ≤ sizeLine ∧ (p == sysModules) = false ∧ ∃ vs, KV kvs vs ∧ s.heap.DictOf (mixKind X.prog X.w) p vs := I.hok p _ hx
      have hlen : kvs.length = vs.length := Paired.length r
      exact wpAny_truthy_dict hS m (by omega) ⟨H, I.tok _, by rw [isEmpty_kv r]; exact q⟩
  | _ => exact (show False from e).elim
/-- any expression whose test is its value's truth (a name, a call, a subscript, a field ..: he by fun _ => rfl) -/
theorem pt_truth (ha : PE X a ta) (he : ∀ whole, isTrue a X.env whole = (do let v ← whole; standAt a.pos; holding [v] (truthy v))) :
    PT X a (fun σ H Q => ta σ H fun x H' => ∃ k, TruV X.K x H' k ∧ Q k H') := by
  intro pins s σ H Q I h
  exact isTrue_plain (thn (ha pins s σ H _ I h) fun v s1 ⟨x, H1, I1, r1, q1⟩ => tru_ok pins s1 σ H1 x v Q I1 r1 q1) (he _)

/-! ### strs and bytes -/
theorem pe_byt {x : List UInt8} {k : Nat} : PE X (.Constant (.bytes x) k pos) (fun _ H Q => Q (.byt x.toArray) H) := fun _ _ _ H _ I h => PySem.W.Constant_bytes ⟨.byt x.toArray, H, I.tok _, ⟨_, rfl⟩, h⟩
theorem op_add_str : OpR X (binaryOp .Add) (fun x y H Q => ∃ i j, x = .str i ∧ y = .str j ∧ i.length + j.length ≤ sizeLine ∧ Q (.str (i ++ j)) H) := by
  intro pins s σ H x y v u Q I rx ry h
  obtain ⟨i, j, rfl, rfl, hz, q⟩ := h
  obtain ⟨t, rfl⟩ := rx
  obtain ⟨t', rfl⟩ := ry
  exact add_str (fun t' tk => ⟨.str (i ++ j), H, I.tok _, ⟨_, rfl⟩, q⟩) hz
theorem iop_add_str : OpR X (inplaceOp .Add) (fun x y H Q => ∃ i j, x = .str i ∧ y = .str j ∧ i.length + j.length ≤ sizeLine ∧ Q (.str (i ++ j)) H) := by
  intro pins s σ H x y v u Q I rx ry h
  obtain ⟨i, j, rfl, rfl, hz, q⟩ := h
  obtain ⟨t, rfl⟩ := rx
  obtain ⟨t', rfl⟩ := ry
  exact iadd_str (fun t' tk => ⟨.str (i ++ j), H, I.tok _, ⟨_, rfl⟩, q⟩) hz
theorem op_add_byt : OpR X (binaryOp .Add) (fun x y H Q => ∃ i j, x = .byt i ∧ y = .byt j ∧ i.size + j.size ≤ 16777216 ∧ Q (.byt (i ++ j)) H) := by
  intro pins s σ H x y v u Q I rx ry h
  obtain ⟨i, j, rfl, rfl, hz, q⟩ := h
  obtain ⟨t, rfl⟩ := rx
  obtain ⟨t', rfl⟩ := ry
  exact PySem.W.KBy.add_bytes hz (fun t' tk => ⟨.byt (i ++ j), H, I.tok _, ⟨_, rfl⟩, q⟩)

def PlainIxT (b : Expr) : Prop := ∀ o i, subscripted b false o i = operate [o, i] (getItem o i)
/-- s[i], 0 ≤ i < len -/
theorem pe_item_str (ha : PE X a ta) (hb : PE X b tb) (hs : PlainIxT b) :
    PE X (.Subscript a b pos) (tOp (fun x y H Q => ∃ z i c, x = .str z ∧ y = .int i ∧ 0 ≤ i ∧ i < 2 ^ 63 ∧ i < z.length ∧ z.cps[i.toNat]? = some c ∧ Q (.str ⟨#[c]⟩) H) ta tb) := by
  intro pins s σ H Q I h
  refine Subscript_ (binT ha hb I h fun v u s2 x y H2 I2 rx ry q => ?_)
  obtain ⟨z, i, c, rfl, rfl, h0, h63, h1, hc, q⟩ := q
  obtain ⟨t, rfl⟩ := rx
  obtain ⟨t', rfl⟩ := ry
  have e : seqIndex? i z.length = some i.toNat := PySem.StrLaws.seqIndex_nonneg h0 h1
  exact tail_any (typeIs_str s2 z t) slot_str_getitem.lookup (getItem_str (c := c) (by
    have e1 : decide (i < -(2 ^ 63 : Int)) = false := decide_eq_false (by omega)
    have e2 : decide (i ≥ 2 ^ 63) = false := decide_eq_false (by omega)
    rw [e1, e2] <;> rfl) (by rw [e]; exact hc) ⟨.str ⟨#[c]⟩, H2, I2.tok _, ⟨_, rfl⟩, q⟩) (hs _ _)
/-- b[i], 0 ≤ i < len -/
theorem pe_item_byt (ha : PE X a ta) (hb : PE X b tb) (hs : PlainIxT b) :
    PE X (.Subscript a b pos) (tOp (fun x y H Q => ∃ (z : List UInt8) (i : Int), x = .byt z.toArray ∧ y = .int i ∧ z.length ≤ sizeLine ∧ 0 ≤ i ∧ i < z.length ∧ Q (.int ((z.getD i.toNat 0).toNat : Nat)) H) ta tb) := by
  intro pins s σ H Q I h
  refine Subscript_ (binT ha hb I h fun v u s2 x y H2 I2 rx ry q => ?_)
  obtain ⟨z, i, rfl, rfl, hz, h0, h1, q⟩ := q
  obtain ⟨t, rfl⟩ := rx
  obtain ⟨t', rfl⟩ := ry
  have hl : sizeLine = 16777216 := sizeLine_eq
  exact tail_any (PySem.W.typeIs_bytes s2 z.toArray t) PySem.W.FB.slot_bytes_getitem.lookup (PySem.W.getItem_bytes (by omega) h0 h1 ⟨.int ((z.getD i.toNat 0).toNat : Nat), H2, I2.tok _, ⟨_, rfl⟩, q⟩) (hs _ _)

/-! ### scalar builtins, by CallR -/
theorem vals1 {x : V} {us : List Value} (r : Vals [x] us) : ∃ u, us = [u] ∧ RelV x u := by
  cases r with
  | cons r1 r2 => cases r2; exact ⟨_, rfl, r1⟩
theorem vals2 {x y : V} {us : List Value} (r : Vals [x, y] us) : ∃ u w', us = [u, w'] ∧ RelV x u ∧ RelV y w' := by
  cases r with
  | cons r1 r2 =>
    cases r2 with
    | cons r3 r4 => cases r4; exact ⟨_, _, rfl, r1, r3⟩
theorem call_abs : CallR X (.builtin "abs") (fun xs H Q => ∃ i, xs = [.int i] ∧ Q (.int (if i < 0 then -i else i)) H) := by
  intro pins s σ H xs us Q I r h
  obtain ⟨i, rfl, q⟩ := h
  obtain ⟨u, rfl, t, rfl⟩ := vals1 r
  exact call_abs_int fun u tk => ⟨.int (if i < 0 then -i else i), H, I.tok _, ⟨_, rfl⟩, q⟩
theorem call_max2 (hc : X.calm = true) : CallR X (.builtin "max") (fun xs H Q => ∃ i j, xs = [.int i, .int j] ∧ Q (.int (if j > i then j else i)) H) := by
  intro pins s σ H xs us Q I r h
  obtain ⟨i, j, rfl, q⟩ := h
  obtain ⟨u, w', rfl, ⟨t, rfl⟩, ⟨t', rfl⟩⟩ := vals2 r
  refine max_two_ints (I.ok.hd hc) fun h' tk k => ⟨_, H, I.kept k, ?_, q⟩
  by_cases hj : j > i
  · rw [if_pos hj, if_pos hj]; exact ⟨_, rfl⟩
  · rw [if_neg hj, if_neg hj]; exact ⟨_, rfl⟩
theorem call_min2 (hc : X.calm = true) : CallR X (.builtin "min") (fun xs H Q => ∃ i j, xs = [.int i, .int j] ∧ Q (.int (if j < i then j else i)) H) := by
  intro pins s σ H xs us Q I r h
  obtain ⟨i, j, rfl, q⟩ := h
  obtain ⟨u, w', rfl, ⟨t, rfl⟩, ⟨t', rfl⟩⟩ := vals2 r
  refine min_two_ints (I.ok.hd hc) fun h' tk k => ⟨_, H, I.kept k, ?_, q⟩
  by_cases hj : j < i
  · rw [if_pos hj, if_pos hj]; exact ⟨_, rfl⟩
  · rw [if_neg hj, if_neg hj]; exact ⟨_, rfl⟩
theorem call_int1 : CallR X (.type "int") (fun xs H Q => (∃ i, xs = [.int i] ∧ Q (.int i) H) ∨ ∃ k, xs = [.bl k] ∧ Q (.int (if k then 1 else 0)) H) := by
  intro pins s σ H xs us Q I r h
  rcases h with ⟨i, rfl, q⟩ | ⟨k, rfl, q⟩
  · obtain ⟨u, rfl, t, rfl⟩ := vals1 r
    exact call_int_int ⟨.int i, H, I, ⟨_, rfl⟩, q⟩
  · obtain ⟨u, rfl, r1⟩ := vals1 r
    cases r1
    exact call_int_bool ⟨.int (if k then 1 else 0), H, I.tok _, ⟨_, rfl⟩, q⟩
theorem call_bool1 : CallR X (.type "bool") (fun xs H Q => (∃ i, xs = [.int i] ∧ Q (.bl (i != 0)) H) ∨ ∃ k, xs = [.bl k] ∧ Q (.bl k) H) := by
  intro pins s σ H xs us Q I r h
  rcases h with ⟨i, rfl, q⟩ | ⟨k, rfl, q⟩
  · obtain ⟨u, rfl, t, rfl⟩ := vals1 r
    exact call_bool_int ⟨.bl (i != 0), H, I, rfl, q⟩
  · obtain ⟨u, rfl, r1⟩ := vals1 r
    cases r1
    exact call_bool_bool ⟨.bl k, H, I, rfl, q⟩
theorem call_str_int : CallR X (.type "str") (fun xs H Q => ∃ i, xs = [.int i] ∧ i.natAbs.log2 < 1920 ∧ Q (.str (toString i)) H) := by
  intro pins s σ H xs us Q I r h
  obtain ⟨i, rfl, hz, q⟩ := h
  obtain ⟨u, rfl, t, rfl⟩ := vals1 r
  exact PySem.P.str_of_int hz ⟨.str _, H, I.tok _, ⟨_, rfl⟩, q⟩
theorem call_ord : CallR X (.builtin "ord") (fun xs H Q => ∃ x, xs = [.str x] ∧ x.length = 1 ∧ Q (.int (x.cps.getD 0 0 : Nat)) H) := by
  intro pins s σ H xs us Q I r h
  obtain ⟨x, rfl, hz, q⟩ := h
  obtain ⟨u, rfl, t, rfl⟩ := vals1 r
  exact ord_of_one hz ⟨.int _, H, I.tok _, ⟨_, rfl⟩, q⟩
theorem call_chr : CallR X (.builtin "chr") (fun xs H Q => ∃ i, xs = [.int i] ∧ 0 ≤ i ∧ i ≤ 1114111 ∧ Q (.str ⟨#[i.toNat]⟩) H) := by
  intro pins s σ H xs us Q I r h
  obtain ⟨i, rfl, h0, h1, q⟩ := h
  obtain ⟨u, rfl, t, rfl⟩ := vals1 r
  exact chr_of_range h0 h1 ⟨.str _, H, I.tok _, ⟨_, rfl⟩, q⟩
/-- len of a str, a bytes, a list, a tuple -/
def LenV (K : PySem.W.Frag) (x : V) (H : Hp) (n : Nat) : Prop :=
  match x with
  | .str y => y.length ≤ sizeLine ∧ n = y.length
  | .byt y => y.size ≤ sizeLine ∧ n = y.size
  | .ref p => (∃ xs, SqL K H p xs ∧ n = xs.length) ∨ ∃ xs, SqT K H p xs ∧ n = xs.length
  | _ => False
theorem call_len : CallR X (.builtin "len") (fun xs H Q => ∃ x n, xs = [x] ∧ LenV X.K x H n ∧ Q (.int n) H) := by
  intro pins s σ H xs us Q I r h
  obtain ⟨x, n, rfl, e, q⟩ := h
  obtain ⟨u, rfl, rx⟩ := vals1 r
  have hl := line63
  have hs : sizeLine = 16777216 := sizeLine_eq
  cases x with
  | str y =>
    obtain ⟨t, rfl⟩ := rx
    obtain ⟨hy, e'⟩ : y.length ≤ sizeLine ∧ n = y.length := e
    subst e'
    exact len_str (by omega) ⟨.int _, H, I.tok _, ⟨_, rfl⟩, q⟩
  | byt y =>
    obtain ⟨t, rfl⟩ := rx
    obtain ⟨hy, e'⟩ : y.size ≤ sizeLine ∧ n = y.size := e
    subst e'
    exact PySem.W.len_bytes (by omega) ⟨.int _, H, I.tok _, ⟨_, rfl⟩, q⟩
  | ref p =>
    cases rx
    have e' : (∃ xs, SqL X.K H p xs ∧ n = xs.length) ∨ ∃ xs, SqT X.K H p xs ∧ n = xs.length := e
    rcases e' with ⟨xs, hx, e'⟩ | ⟨xs, hx, e'⟩
    · subst e'
      obtain ⟨its, r', pl, hz⟩ := I.list hx
      have hlen := r'.length
      exact Calls.call_len_list pl.isList (by simp only [List.size_toArray]; omega) ⟨.int xs.length, H, I.tok _, ⟨_, by simp only [List.size_toArray]; rw [hlen]⟩, q⟩
    · subst e'
      obtain ⟨its, r', pl, hz⟩ := I.tuple hx
      have hlen := r'.length
      exact len_tuple pl (by simp only [List.size_toArray]; omega) ⟨.int xs.length, H, I.tok _, ⟨_, by simp only [List.size_toArray]; rw [hlen]⟩, q⟩
  | _ => exact (show False from e).elim
/-- divmod: a new tuple -/
theorem call_divmod : CallR X (.builtin "divmod") (fun xs H Q => ∃ i j, xs = [.int i, .int j] ∧ CDiv i j ∧ ∀ p, H p = none → Q (.ref p) (upd H p (.tup [.int (i / j), .int (i % j)]))) := by
  intro pins s σ H xs us Q I r h
  obtain ⟨i, j, rfl, ⟨h1, h2⟩, q⟩ := h
  obtain ⟨u, w', rfl, ⟨t, rfl⟩, ⟨t', rfl⟩⟩ := vals2 r
  refine divmod_int (by omega) ?_ (.inl (PyProof.noPylong_small (by omega)))
  rw [Int.fdiv_eq_ediv_of_nonneg i (by omega), Int.fmod_eq_emod_of_nonneg i (by omega)]
  have hn : H s.heap.objs.size = none := I.hok.fresh (Nat.le_refl _)
  refine ⟨.ref s.heap.objs.size, _, ?_, rfl, q _ hn⟩
  refine I.laid (fun b o e => Heap.get?_push_of_some _ e) (Nat.le_refl _) ⟨by simp only [List.length_cons, List.length_nil]; rw [sizeLine_eq]; decide, [.int (i / j) s.toks, .int (i % j) (s.toks + 1)], .cons ⟨_, rfl⟩ (.cons ⟨_, rfl⟩ .nil), ?_⟩
  exact ⟨_, Heap.get?_push_size s.heap rfl, rfl, 0, rfl⟩
end
end L2

namespace L2
open PySem PySem.Spec PyProof.Rows

/-! ### an instance, its attributes a map -/
structure ObjM (h : Heap) (x dx C : Addr) (mA : Str → Option Value) : Prop where
  obj : h.get? x = some (PySem.W.instObj C dx)
  ns : h.Ns1 dx mA
  ne : dx ≠ x

theorem lookIn_ns {h : Heap} {dx : Addr} {mA : Str → Option Value} (n : h.Ns1 dx mA) : ∃ od, h.get? dx = some od ∧ ∀ name, PySem.W.lookIn name od = some (mA name) := by
  obtain ⟨o, es, ep, ho, hd, hk, _, hm⟩ := n
  refine ⟨o, ho, fun name => ?_⟩
  have e := hm name
  unfold nsFind findBy at e
  rw [← Array.find?_toList] at e
  unfold PySem.W.lookIn
  rw [hd]
  dsimp only
  split
  · rename_i y q
    rw [q] at e
    exact congrArg some e
  · rename_i q
    rw [q] at e
    have a : es.toList.any (·.refKey) = false := by
      rw [List.any_eq_false]
      intro y hy
      obtain ⟨z, t, hkey⟩ := hk y (Array.mem_toList_iff.mp hy)
      simp [DictEntry.refKey, hkey]
    have a' : ¬ es.toList.any (·.refKey) = true := by rw [a]; exact Bool.false_ne_true
    rw [if_neg a']
    exact congrArg some e

theorem ObjM.look {h : Heap} {x dx C : Addr} {mA : Str → Option Value} (I : ObjM h x dx C mA) : ∃ od, PySem.W.InstAt h x (PySem.W.instObj C dx) C (some od) ∧ ∀ name, PySem.W.lookIn name od = some (mA name) :=
  let ⟨od, ho, hl⟩ := lookIn_ns I.ns
  ⟨od, ⟨I.obj, rfl, rfl, ho⟩, hl⟩

section
variable {prog : Program} {w : World} {A : Around} {E : Value → Shared → Prop} {s : Shared} {K : PySem.W.Frag} {x dx C f : Addr} {mA : Str → Option Value} {name : Str} {v : Value}

theorem get_map {expr : Bool} {Q : Value → Shared → Prop} (X : K.In s.heap) (I : ObjM s.heap x dx C mA) (hg : PySem.W.plainGet K C name = true) (hh : PySem.W.hasDictIn K C = true)
    (ha : PySem.W.findIn K (.ref C) name = some none) (hv : mA name = some v) (hv' : PySem.W.handedIn v = true) (h : Q v { s with toks := s.toks + 1 }) :
    wpAny (model prog w) A (getAttr (.ref x) name expr) Q E s := by
  obtain ⟨od, J, hl⟩ := I.look
  exact PySem.W.get_value X J (PySem.W.plainGet_of hg).1 (PySem.W.findObj_own hh ha rfl (by rw [hl, hv])) hv' h

theorem get_const {expr : Bool} {a : Value} {Q : Value → Shared → Prop} (X : K.In s.heap) (I : ObjM s.heap x dx C mA) (hg : PySem.W.plainGet K C name = true) (hh : PySem.W.hasDictIn K C = true)
    (ha : PySem.W.findIn K (.ref C) name = some (some a)) (hn : PySem.W.specialIn K a "__get__" = some none) (hc : PySem.W.copiedNames.contains name = false) (hv : mA name = none) (hv' : PySem.W.handedIn a = true)
    (h : Q a { s with toks := s.toks + 1 }) : wpAny (model prog w) A (getAttr (.ref x) name expr) Q E s := by
  obtain ⟨od, J, hl⟩ := I.look
  exact PySem.W.get_value X J (PySem.W.plainGet_of hg).1 (PySem.W.findObj_cls hh ha hn hv' hc (by rw [hl, hv])) hv' h

theorem get_meth {pl : Sem Bool} {Q : Value × List Value → Shared → Prop} (X : K.In s.heap) (I : ObjM s.heap x dx C mA) (hg : PySem.W.plainGet K C name = true)
    (hf : PySem.W.findIn K (.ref C) name = some (some (.ref f))) (ht : PySem.W.isFn K (.ref f) = true) (hv : mA name = none) (h : Q (.ref f, [.ref x]) s) :
    wpAny (model prog w) A (getMethod (.ref x) name pl) Q E s := by
  obtain ⟨od, J, hl⟩ := I.look
  exact PySem.W.method_fn X J (PySem.W.plainGet_of hg).1 (PySem.W.plainGet_of hg).2 hf (beq_iff_eq.mp ht) (by show (PySem.W.lookIn name od).map (·.isSome) = some false; rw [hl, hv]; rfl) h

theorem set_map {ns : List Str} {Q : Unit → Shared → Prop} (X : K.In s.heap) (I : ObjM s.heap x dx C mA)
    (hs : PySem.W.findIn K (.ref C) "__setattr__" = some (some (.builtin "object.__setattr__"))) (hp : PySem.W.plainOver K C = true) (ht : PySem.W.takerIn K C name = some none) (hh : PySem.W.hasDictIn K C = true)
    (hw : PySem.Within mA ns) (hsz : ns.length ≤ sizeLine)
    (h : ∀ h', ObjM h' x dx C (fun y => if y = name then some v else mA y) → Heap.SameBut dx s.heap h' → Q () { s with heap := h', toks := s.toks + 2 }) :
    wpAny (model prog w) A (setAttr (.ref x) name v) Q E s := by
  obtain ⟨od, J, hl⟩ := I.look
  refine PySem.W.set_plain X J hs (PySem.W.osa_open (s := { s with toks := s.toks + 1 }) (r := none) X J hp ht fun b => ?_)
  obtain ⟨cd, hc, hd'⟩ := PySem.W.any_some hh
  have hx : s.heap.get? x = some ⟨.ref C, some dx, .plain, #[]⟩ := I.obj
  refine wpAny_bind (wpAny_pure (wpAny_bind (wpAny_bind (wpAny_loadPart hx (wpAny_bind (PySem.W.Looks.here (s := { s with toks := s.toks + 1 }) (PySem.W.looks_clsIn X hc) ?_))))))
  rw [hd']
  refine wpAny_pure (a := some dx) (wpAny_bind (wpAny_pure (wpAny_bind ?_)))
  refine wpAny_nsSet1 (s := { s with toks := s.toks + 1 }) I.ns fun h' hn2 hs2 => ?_
  obtain ⟨oD, esD, epD, hoD, hdD, hcD⟩ := hn2.count (PySem.Within.cons name v hw)
  refine wpAny_bind (wpAny_lookBehind hoD (by rw [hdD]; exact pastItsLine_dict (Nat.le_trans hcD (by rw [List.length_cons]; omega))) ?_)
  exact wpAny_pure (h _ ⟨(hs2.2 _ (Ne.symm I.ne)).trans I.obj, hn2, I.ne⟩ hs2)

/-- C(..): the dict at the heap's end, the instance behind it; then its __init__ -/
theorem make_map {R : Result → Shared → Prop} {vs : List Value} {kw : List (Str × Value)} (X : K.In s.heap) (hm : PySem.W.makesIn K C = true)
    (hi : PySem.W.findIn K (.ref C) "__init__" = some (some (.ref f))) (hf : PySem.W.typeIn K (.ref f) = some (.type "function"))
    (h : codeAny (model prog w) (A.under (.builtin "type.__call__" ⟨.ref C :: vs, kw⟩)) (.call (.ref f) ⟨.ref (s.heap.objs.size + 1) :: vs, kw⟩) (PySem.W.InitBack (s.heap.objs.size + 1) R)
      { s with heap := (s.heap.push PySem.W.emptyDict).push (PySem.W.instObj C s.heap.objs.size) }) :
    codeAny (model prog w) A (.call (.ref C) ⟨vs, kw⟩) R s := by
  obtain ⟨hh, g, d, t, os⟩ := s
  exact PySem.W.make_core (PySem.W.makes_of X hm) (PySem.W.looks_findIn X hi) (fun self => PySem.W.bind_fn X self hf) (.inl rfl) h
/-- C() where there is no __init__ but object's -/
theorem make_map0 {R : Result → Shared → Prop} (X : K.In s.heap) (hm : PySem.W.makesIn K C = true)
    (hi : PySem.W.findIn K (.ref C) "__init__" = some (some (.builtin "object.__init__")))
    (hb : ∀ self, PySem.W.Looks (model prog w) s.heap (bindSpecial (.builtin "object.__init__") self) (.builtin "object.__init__", [self]))
    (h : codeAny (model prog w) (A.under (.builtin "type.__call__" ⟨[.ref C], []⟩)) (.call (.builtin "object.__init__") ⟨[.ref (s.heap.objs.size + 1)], []⟩) (PySem.W.InitBack (s.heap.objs.size + 1) R)
      { s with heap := (s.heap.push PySem.W.emptyDict).push (PySem.W.instObj C s.heap.objs.size) }) :
    codeAny (model prog w) A (.call (.ref C) ⟨[], []⟩) R s := by
  obtain ⟨hh, g, d, t, os⟩ := s
  exact PySem.W.make_core (PySem.W.makes_of X hm) (PySem.W.looks_findIn X hi) hb (.inr ⟨rfl, rfl⟩) h
end

/-! ### the attributes as a list of pairs -/
def putF (f : Str) (v : V) : List (Str × V) → List (Str × V)
  | [] => [(f, v)]
  | (g, x) :: r => if g = f then (g, v) :: r else (g, x) :: putF f v r
theorem lookup_putF (f g : Str) (v : V) : ∀ fs : List (Str × V), (putF f v fs).lookup g = if g = f then some v else fs.lookup g
  | [] => by
    show List.lookup g [(f, v)] = _
    by_cases h : g = f
    · have hb : (g == f) = true := beq_iff_eq.mpr h
      simp only [List.lookup, hb, if_pos h]
    · have hb : (g == f) = false := beq_eq_false_iff_ne.mpr h
      simp only [List.lookup, hb, if_neg h]
  | (k, x) :: r => by
    have ih := lookup_putF f g v r
    rw [show putF f v ((k, x) :: r) = (if k = f then (k, v) :: r else (k, x) :: putF f v r) from rfl]
    by_cases hk : k = f
    · rw [if_pos hk]
      by_cases h : g = k
      · have hb : (g == k) = true := beq_iff_eq.mpr h
        simp only [List.lookup, hb, if_pos (h.trans hk)]
      · have hb : (g == k) = false := beq_eq_false_iff_ne.mpr h
        simp only [List.lookup, hb, if_neg (fun e : g = f => h (e.trans hk.symm))]
    · rw [if_neg hk]
      by_cases h : g = k
      · have hb : (g == k) = true := beq_iff_eq.mpr h
        simp only [List.lookup, hb, if_neg (fun e : g = f => hk (h.symm.trans e))]
      · have hb : (g == k) = false := beq_eq_false_iff_ne.mpr h
        simp only [List.lookup, hb]
        exact ih
theorem keys_putF (f : Str) (v : V) : ∀ fs : List (Str × V), f ∈ (putF f v fs).map (·.1) ∧ ∀ g, g ∈ fs.map (·.1) → g ∈ (putF f v fs).map (·.1)
  | [] => ⟨by simp [putF], fun g h => by simp at h⟩
  | (k, x) :: r => by
    obtain ⟨i1, i2⟩ := keys_putF f v r
    rw [show putF f v ((k, x) :: r) = (if k = f then (k, v) :: r else (k, x) :: putF f v r) from rfl]
    by_cases hk : k = f
    · rw [if_pos hk]
      subst hk
      exact ⟨by simp, fun g h => by simpa using h⟩
    · rw [if_neg hk]
      refine ⟨?_, fun g h => ?_⟩
      · rw [List.map_cons]
        exact List.mem_cons_of_mem _ i1
      · rw [List.map_cons] at h ⊢
        rcases List.mem_cons.mp h with e | e
        · exact List.mem_cons.mpr (.inl e)
        · exact List.mem_cons_of_mem _ (i2 g e)
theorem length_putF (f : Str) (v : V) : ∀ fs : List (Str × V), (putF f v fs).length ≤ fs.length + 1
  | [] => by simp [putF]
  | (k, x) :: r => by
    have ih := length_putF f v r
    rw [show putF f v ((k, x) :: r) = (if k = f then (k, v) :: r else (k, x) :: putF f v r) from rfl]
    by_cases hk : k = f
    · rw [if_pos hk, List.length_cons, List.length_cons]; omega
    · rw [if_neg hk, List.length_cons, List.length_cons]; omega

theorem RelO.some_of {v : V} {o : Option Value} (r : RelO (some v) o) : ∃ u, o = some u ∧ RelV v u := by
  cases o with
  | none => exact (show False from r).elim
  | some u => exact ⟨u, rfl, r⟩
theorem RelO.none_of {o : Option Value} (r : RelO none o) : o = none := by
  cases o with
  | none => rfl
  | some u => exact (show False from r).elim
theorem handed_of {v : V} {u : Value} (r : RelV v u) : PySem.W.handedIn u = true := by
  cases v with
  | non => cases (show u = Value.none from r); rfl
  | bl b => cases (show u = Value.bool b from r); rfl
  | int i => obtain ⟨t, e⟩ := (show ∃ t, u = Value.int i t from r); cases e; rfl
  | str x => obtain ⟨t, e⟩ := (show ∃ t, u = Value.str x t from r); cases e; rfl
  | byt b => obtain ⟨t, e⟩ := (show ∃ t, u = Value.bytes b t from r); cases e; rfl
  | flt b => obtain ⟨t, e⟩ := (show ∃ t, u = Value.float b t from r); cases e; rfl
  | ref a => cases (show u = Value.ref a from r); rfl
  | ty n => cases (show u = Value.type n from r); rfl

section
variable {P : Program} {w : World} {H H' : Hp} {h h' : Heap} {a C dx : Addr} {fs fs' : List (Str × V)}
theorem ins_get (hok : HOk P w H h) (e : H a = some (.ins C dx fs)) : ∃ mA, ObjM h a dx C mA ∧ (∀ f, RelO (fs.lookup f) (mA f)) ∧ PySem.Within mA (fs.map (·.1)) ∧ fs.length ≤ 1000 ∧ H dx = some (.own a) := by
  obtain ⟨d, z, ne, ob, mA, n, r, q⟩ := (show ObjOk P w H h a (.ins C dx fs) from hok a _ e)
  exact ⟨mA, ⟨ob, n, ne⟩, r, q, z, d⟩
end

/-! ### what of the text a class must have -/
structure Cls (K : PySem.W.Frag) (C : Addr) : Prop where
  pg : PySem.W.plainGet K C Str.empty = true
  hd : PySem.W.hasDictIn K C = true
  po : PySem.W.plainOver K C = true
  sa : PySem.W.findIn K (.ref C) "__setattr__" = some (some (.builtin "object.__setattr__"))
theorem Cls.get {K : PySem.W.Frag} {C : Addr} (c : Cls K C) (f : Str) : PySem.W.plainGet K C f = true := c.pg
/-- no class of it has the name -/
def NoAttr (K : PySem.W.Frag) (C : Addr) (f : Str) : Prop := PySem.W.findIn K (.ref C) f = some none
theorem NoAttr.taker {K : PySem.W.Frag} {C : Addr} {f : Str} (n : NoAttr K C f) : PySem.W.takerIn K C f = some none := by
  unfold PySem.W.takerIn
  rw [show PySem.W.findIn K (.ref C) f = some none from n]
  rfl
/-- a constant of the class -/
structure Con (K : PySem.W.Frag) (C : Addr) (f : Str) (v : V) (u : Value) : Prop where
  at_ : PySem.W.findIn K (.ref C) f = some (some u)
  rel : RelV v u
  get : PySem.W.specialIn K u "__get__" = some none
  cp : PySem.W.copiedNames.contains f = false
/-- a method: a plain def of the class or of one above it -/
structure Meth (K : PySem.W.Frag) (C : Addr) (m : Str) (f : Addr) : Prop where
  at_ : PySem.W.findIn K (.ref C) m = some (some (.ref f))
  fn : PySem.W.isFn K (.ref f) = true
  kp : PySem.W.keepIn K (.ref f) = true

section
variable {X : Cx} {pins : List (Addr × Obj)} {σ : St} {H : Hp} {s : Shared} {a C dx : Addr} {fs : List (Str × V)} {f : Str} {v : V} {A : Around} {E : Value → Shared → Prop}

theorem getattr_ok {b : Bool} {Q : Value → Shared → Prop} (I : Inv X pins σ H s) (e : H a = some (.ins C dx fs)) (c : Cls X.K C) (n : NoAttr X.K C f) (l : fs.lookup f = some v)
    (h : ∀ u s', Inv X pins σ H s' → RelV v u → Q u s') : wpAny (model X.prog X.w) A (getAttr (.ref a) f b) Q E s := by
  obtain ⟨mA, O, r, _, _, _⟩ := ins_get I.hok e
  obtain ⟨u, hu, ru⟩ := RelO.some_of (v := v) (o := mA f) (by rw [← l]; exact r f)
  exact get_map I.kIn O (c.get f) c.hd n hu (handed_of ru) (h u _ (I.tok _) ru)

theorem getcon_ok {b : Bool} {u : Value} {Q : Value → Shared → Prop} (I : Inv X pins σ H s) (e : H a = some (.ins C dx fs)) (c : Cls X.K C) (k : Con X.K C f v u) (l : fs.lookup f = none)
    (h : ∀ s', Inv X pins σ H s' → Q u s') : wpAny (model X.prog X.w) A (getAttr (.ref a) f b) Q E s := by
  obtain ⟨mA, O, r, _, _, _⟩ := ins_get I.hok e
  have hn : mA f = none := RelO.none_of (by rw [← l]; exact r f)
  exact get_const I.kIn O (c.get f) c.hd k.at_ k.get k.cp hn (handed_of k.rel) (h _ (I.tok _))

theorem getmeth_ok {m : Str} {g : Addr} {pl : Sem Bool} {Q : Value × List Value → Shared → Prop} (I : Inv X pins σ H s) (e : H a = some (.ins C dx fs)) (c : Cls X.K C) (k : Meth X.K C m g) (l : fs.lookup m = none)
    (h : Q (.ref g, [.ref a]) s) : wpAny (model X.prog X.w) A (getMethod (.ref a) m pl) Q E s := by
  obtain ⟨mA, O, r, _, _, _⟩ := ins_get I.hok e
  have hn : mA m = none := RelO.none_of (by rw [← l]; exact r m)
  exact get_meth I.kIn O (c.get m) k.at_ k.fn hn h

theorem setattr_ok {y : V} {u : Value} {Q : Unit → Shared → Prop} (I : Inv X pins σ H s) (e : H a = some (.ins C dx fs)) (c : Cls X.K C) (n : NoAttr X.K C f) (hl : fs.length < 1000) (ry : RelV y u)
    (h : ∀ s', Inv X pins σ (upd H a (.ins C dx (putF f y fs))) s' → Q () s') : wpAny (model X.prog X.w) A (setAttr (.ref a) f u) Q E s := by
  obtain ⟨mA, O, r, wi, _, ho⟩ := ins_get I.hok e
  have hz : (fs.map (·.1)).length ≤ sizeLine := by rw [List.length_map, sizeLine_eq]; omega
  refine set_map I.kIn O c.sa c.po n.taker c.hd wi hz fun h' O' sb => h _ ?_
  have hd : ∃ o, h'.get? dx = some o := let ⟨o, _, _, e', _⟩ := O'.ns; ⟨o, e'⟩
  refine I.write (x := a) (e := dx) (by rw [e]; exact True.intro) (.inr ho) (fun b q hb z => (sb.2 b hb).trans z) hd ?_
  refine ⟨by rw [upd_ne O.ne]; exact ho, ?_, O.ne, O'.obj, _, O'.ns, fun g => ?_, fun g hg => ?_⟩
  · have := length_putF f y fs; omega
  · show RelO ((putF f y fs).lookup g) (if g = f then some u else mA g)
    rw [lookup_putF]
    by_cases q : g = f
    · rw [if_pos q, if_pos q]; exact ry
    · rw [if_neg q, if_neg q]; exact r g
  · by_cases q : g = f
    · rw [q]; exact (keys_putF f y fs).1
    · refine (keys_putF f y fs).2 g (wi g fun z => hg ?_)
      show (if g = f then some u else mA g) = none
      rw [if_neg q]; exact z

/-- a new instance, tracked, without attributes -/
theorem Inv.made (I : Inv X pins σ H s) : Inv X pins σ (upd (upd H s.heap.objs.size (.own (s.heap.objs.size + 1))) (s.heap.objs.size + 1) (.ins C s.heap.objs.size []))
    { s with heap := (s.heap.push PySem.W.emptyDict).push (PySem.W.instObj C s.heap.objs.size) } := by
  have e1 : (s.heap.push PySem.W.emptyDict).get? s.heap.objs.size = some PySem.W.emptyDict := Heap.get?_push_size s.heap rfl
  have e2 : ((s.heap.push PySem.W.emptyDict).push (PySem.W.instObj C s.heap.objs.size)).get? (s.heap.objs.size + 1) = some (PySem.W.instObj C s.heap.objs.size) := by
    have := Heap.get?_push_size (s.heap.push PySem.W.emptyDict) (o := PySem.W.instObj C s.heap.objs.size) rfl
    rwa [Heap.size_push] at this
  have e3 : (s.heap.push PySem.W.emptyDict).Ns s.heap.objs.size (fun _ => none) := ⟨PySem.W.emptyDict, #[], _, e1, rfl, (fun e he => absurd he (by simp)), fun _ => rfl⟩
  have I1 := I.laid (a := s.heap.objs.size) (o := .own (s.heap.objs.size + 1)) (h' := s.heap.push PySem.W.emptyDict) (t' := s.toks) (fun b u q => Heap.get?_push_of_some _ q) (Nat.le_refl _) ⟨_, e1⟩
  refine I1.laid (a := s.heap.objs.size + 1) (o := .ins C s.heap.objs.size []) (t' := s.toks) (fun b u q => Heap.get?_push_of_some _ q) (Nat.le_of_eq (Heap.size_push _ _)) ?_
  have ne : s.heap.objs.size ≠ s.heap.objs.size + 1 := Nat.ne_of_lt (Nat.lt_succ_self _)
  refine ⟨by rw [upd_ne ne, upd_same], Nat.zero_le _, ne, e2, fun _ => none, (Heap.Ns1.of_empty e3).at fun o q => Heap.get?_push_of_some _ q, fun _ => True.intro, fun y hy => absurd rfl hy⟩

/-- e.f where nothing but the object is asked: through attributeBase (super) and the last hold -/
theorem attr_of {prog : Program} {w : World} {env : Env} {e : Expr} {f : Str} {pos : Pos} {s : Shared} {Q : Value → Shared → Prop} (hb : attributeBase e f env (eval e env) = eval e env)
    (h : wpAny (model prog w) A (eval e env) (fun o s₁ => wpAny (model prog w) A (getAttr o f true) Q E s₁) E s) : wpAny (model prog w) A (eval (.Attribute e f pos) env) Q E s :=
  Attribute_any_ h (by rw [arm_eval_Attribute, hb])
end

/-! ### readings and rules -/
/-- e.f, an attribute of the instance -/
def tFld (K : PySem.W.Frag) (ta : TE) (f : Str) : TE := fun σ H Q => ta σ H fun x H1 => ∃ a C dx fs v, x = .ref a ∧ H1 a = some (.ins C dx fs) ∧ Cls K C ∧ NoAttr K C f ∧ fs.lookup f = some v ∧ Q v H1
/-- e.f, a constant of the class -/
def tCon (K : PySem.W.Frag) (ta : TE) (f : Str) : TE := fun σ H Q => ta σ H fun x H1 => ∃ a C dx fs v u, x = .ref a ∧ H1 a = some (.ins C dx fs) ∧ Cls K C ∧ Con K C f v u ∧ fs.lookup f = none ∧ Q v H1
/-- e.f = value -/
def sFld (K : PySem.W.Frag) (ta tv : TE) (f : Str) : TS := fun D σ H => tv σ H fun y H1 => ta σ H1 fun x H2 => ∃ a C dx fs, x = .ref a ∧ H2 a = some (.ins C dx fs) ∧ Cls K C ∧ NoAttr K C f ∧ fs.length < 1000 ∧
  D.nx σ (upd H2 a (.ins C dx (putF f y fs)))
/-- an augmented operator on two values -/
def InOp (X : Cx) (op : Operator) (rd : V → V → Hp → VK → Prop) : Prop :=
  ∀ (pins : List (Addr × Obj)) (s : Shared) (σ : St) (H : Hp) (x y : V) (u v : Value) (Q : VK), Inv X pins σ H s → RelV x u → RelV y v → rd x y H Q → wpAny (model X.prog X.w) X.A (inplaceOp op u v) (EP X pins σ Q) X.xe s
/-- e.f op= value -/
def sFldAug (K : PySem.W.Frag) (ta tv : TE) (rd : V → V → Hp → VK → Prop) (f : Str) : TS := fun D σ H => ta σ H fun x H1 => ∃ a C dx fs v, x = .ref a ∧ H1 a = some (.ins C dx fs) ∧ Cls K C ∧ NoAttr K C f ∧ fs.lookup f = some v ∧
  tv σ H1 fun y H2 => rd v y H2 fun z H3 => ∃ dx' fs', H3 a = some (.ins C dx' fs') ∧ fs'.length < 1000 ∧ D.nx σ (upd H3 a (.ins C dx' (putF f z fs')))

section
variable {X : Cx} {o e value : Expr} {f : Str} {pos pos' tpos : Pos} {ta tv : TE}
theorem pe_fld (he : PE X e ta) (hb : attributeBase e f X.env (eval e X.env) = eval e X.env) : PE X (.Attribute e f pos) (tFld X.K ta f) := by
  intro pins s σ H Q I h
  refine attr_of hb (thn (he pins s σ H _ I h) fun u s1 ⟨x, H1, I1, rx, a, C, dx, fs, v, ex, ea, c, n, l, q⟩ => ?_)
  subst ex
  obtain rfl : u = Value.ref a := rx
  exact getattr_ok I1 ea c n l fun u' s2 I2 ru => ⟨v, H1, I2, ru, q⟩
theorem pe_con (he : PE X e ta) (hb : attributeBase e f X.env (eval e X.env) = eval e X.env) : PE X (.Attribute e f pos) (tCon X.K ta f) := by
  intro pins s σ H Q I h
  refine attr_of hb (thn (he pins s σ H _ I h) fun u s1 ⟨x, H1, I1, rx, a, C, dx, fs, v, u0, ex, ea, c, k, l, q⟩ => ?_)
  subst ex
  obtain rfl : u = Value.ref a := rx
  exact getcon_ok I1 ea c k l fun s2 I2 => ⟨v, H1, I2, k.rel, q⟩
theorem ps_fld (ha : PE X o ta) (hv : PE X value tv) (hs : swapsWith value (some (.Attribute o f pos')) pos.line X.env = pure false) : PS X (.Assign [.Attribute o f pos'] value pos) (sFld X.K ta tv f) := by
  intro pins s σ H D I h
  refine plainObj_wpAny_Assign_Attribute (thn (hv pins s σ H _ I h) fun u s1 ⟨y, H1, I1, ry, q⟩ => thn (ha pins s1 σ H1 _ I1 q) fun ov s2 ⟨x, H2, I2, rx, a, C, dx, fs, ex, ea, c, n, l, q2⟩ => ?_) hs
  subst ex
  obtain rfl : ov = Value.ref a := rx
  exact setattr_ok I2 ea c n l ry fun s3 I3 => ⟨σ, _, I3, q2⟩
theorem ps_fldaug {op : Operator} {rd : V → V → Hp → VK → Prop} (ha : PE X o ta) (hv : PE X value tv) (hop : InOp X op rd) : PS X (.AugAssign (.Attribute o f tpos) op value pos) (sFldAug X.K ta tv rd f) := by
  intro pins s σ H D I h
  refine wpAny_AugAssign_AttributeAny (thn (ha pins s σ H _ I h) fun ov s1 ⟨x, H1, I1, rx, a, C, dx, fs, v, ex, ea, c, n, l, q⟩ => ?_)
  subst ex
  obtain rfl : ov = Value.ref a := rx
  refine getattr_ok I1 ea c n l fun u s2 I2 ru => thn (hv pins s2 σ H1 _ I2 q) fun w3 s3 ⟨y, H2, I3, ry, q3⟩ => thn (hop pins s3 σ H2 v y u w3 _ I3 ru ry q3) fun w4 s4 ⟨z, H3, I4, rz, dx', fs', ea', l', q4⟩ => ?_
  exact setattr_ok I4 ea' c n l' rz fun s5 I5 => ⟨σ, _, I5, q4⟩
def rAdd : V → V → Hp → VK → Prop := fun x y H Q => ∃ i j, x = .int i ∧ y = .int j ∧ Q (.int (i + j)) H
def rSub : V → V → Hp → VK → Prop := fun x y H Q => ∃ i j, x = .int i ∧ y = .int j ∧ Q (.int (i - j)) H
theorem in_add : InOp X .Add rAdd := by
  rintro pins s σ H x y u v Q I rx ry ⟨i, j, rfl, rfl, q⟩
  obtain ⟨t, rfl⟩ := (show ∃ t, u = Value.int i t from rx)
  obtain ⟨t', rfl⟩ := (show ∃ t', v = Value.int j t' from ry)
  exact PyProof.Rows.iadd_int ⟨.int (i + j), H, I.tok _, ⟨_, rfl⟩, q⟩
theorem in_sub : InOp X .Sub rSub := by
  rintro pins s σ H x y u v Q I rx ry ⟨i, j, rfl, rfl, q⟩
  obtain ⟨t, rfl⟩ := (show ∃ t, u = Value.int i t from rx)
  obtain ⟨t', rfl⟩ := (show ∃ t', v = Value.int j t' from ry)
  exact PyProof.Rows.isub_int ⟨.int (i - j), H, I.tok _, ⟨_, rfl⟩, q⟩

/-- what is between an instance and its method: the tree of a method call -/
theorem methcall_of {pl : Sem Bool} {m : Str} {apos : Pos} {args : List Expr} {pins : List (Addr × Obj)} {s : Shared} {σ : St} {H : Hp} {Q : Value → Shared → Prop} {te : TE} (he : PE X e te) (I : Inv X pins σ H s)
    (h : te σ H fun x H1 => ∃ a C dx fs g, x = .ref a ∧ H1 a = some (.ins C dx fs) ∧ Cls X.K C ∧ Meth X.K C m g ∧ fs.lookup m = none ∧
      ∀ s1, Inv X pins σ H1 s1 → wpAny (model X.prog X.w) X.A (callWith pos (.ref g) [.ref a] (backTo pos (starEach args X.env)) (backToKw pos (keywordEach [] X.env))) Q X.xe s1)
    (ht : eval (.Call (.Attribute e m apos) args [] pos) X.env = (do
      let ov ← eval e X.env
      standAt apos.atName
      let (f, first) ← holding [ov] (getMethod ov m pl)
      callWith pos f first (backTo pos (starEach args X.env)) (backToKw pos (keywordEach [] X.env)))) :
    wpAny (model X.prog X.w) X.A (eval (.Call (.Attribute e m apos) args [] pos) X.env) Q X.xe s := by
  refine PySem.W.methodCall_KW (pl := pl) (thn (he pins s σ H _ I h) fun u s1 ⟨x, H1, I1, rx, a, C, dx, fs, g, ex, ea, c, k, l, q⟩ => ?_) ht
  subst ex
  obtain rfl : u = Value.ref a := rx
  exact getmeth_ok I1 ea c k l (q s1 I1)
end

/-! ### isinstance -/
section
variable {X : Cx} {pins : List (Addr × Obj)} {σ : St} {H : Hp} {s : Shared} {A : Around} {E : Value → Shared → Prop} {Q : Value → Shared → Prop} {c : Value} {b : Bool}
/-- the type of a value, as the fragment's deciders take it; for an instance its class -/
inductive TyOf (K : PySem.W.Frag) (H : Hp) : V → Value → Prop where
  | non : TyOf K H .non (.type "NoneType")
  | bl (x : Bool) : TyOf K H (.bl x) (.type "bool")
  | int (i : Int) : TyOf K H (.int i) (.type "int")
  | str (x : Str) : TyOf K H (.str x) (.type "str")
  | flt (x : UInt64) : TyOf K H (.flt x) (.type "float")
  | lst {a : Addr} {xs : List V} (e : H a = some (.lst xs)) : TyOf K H (.ref a) (.type "list")
  | frz {a : Addr} {o : Obj} {xs : List V} (e : H a = some (.frz o (.lst xs))) : TyOf K H (.ref a) (.type "list")
  | tup {a : Addr} {xs : List V} (e : H a = some (.tup xs)) : TyOf K H (.ref a) (.type "tuple")
  | dK {a : Addr} {kvs : List (Key × V)} (e : H a = some (.dK kvs)) : TyOf K H (.ref a) (.type "dict")
  | dT {a : Addr} {kvs : List (List Key × V)} (e : H a = some (.dT kvs)) : TyOf K H (.ref a) (.type "dict")
  | ins {a C dx : Addr} {fs : List (Str × V)} (e : H a = some (.ins C dx fs)) (cl : Cls K C) (ha : PySem.W.findIn K (.ref C) "__class__" = some (some (.builtin "object.__class__")))
      (hn : PySem.W.specialIn K (.builtin "object.__class__") "__get__" = some (some (.builtin "getset_descriptor.__get__"))) (htk : PySem.W.takesIn K (.builtin "object.__class__") = some true)
      (hm : PySem.W.mroIn K C (.type "object") = some true) : TyOf K H (.ref a) (.ref C)
/-- isinstance(x, c) for one class c, a built-in or an own one: kitOne's answer -/
theorem isinst_ok {x : V} {u t : Value} (I : Inv X pins σ H s) (rx : RelV x u) (ty : TyOf X.K H x t) (e : PySem.W.kitOne X.K t c = some b) (h : ∀ tk, Q (.bool b) { s with toks := tk }) :
    wpAny (model X.prog X.w) A (call (.builtin "isinstance") [u, c]) Q E s := by
  cases ty with
  | non => cases (show u = Value.none from rx); exact PySem.W.kia_one PySem.W.kitx_none I.kIn True.intro e (fun z => nomatch z) h
  | bl y => cases (show u = Value.bool y from rx); exact PySem.W.kia_one PySem.W.kitx_bool I.kIn True.intro e (fun z => nomatch z) h
  | int i => obtain ⟨t, q⟩ := (show ∃ t, u = Value.int i t from rx); cases q; exact PySem.W.kia_one PySem.W.kitx_int I.kIn True.intro e (fun z => nomatch z) h
  | str y => obtain ⟨t, q⟩ := (show ∃ t, u = Value.str y t from rx); cases q; exact PySem.W.kia_one PySem.W.kitx_str I.kIn True.intro e (fun z => nomatch z) h
  | flt y => obtain ⟨t, q⟩ := (show ∃ t, u = Value.float y t from rx); cases q; exact PySem.W.kia_one PySem.W.kitx_float I.kIn True.intro e (fun z => nomatch z) h
  | @lst a xs ea =>
    cases (show u = Value.ref a from rx)
    obtain ⟨_, _, n, _, h1⟩ := (show ObjOk X.prog X.w H s.heap a (.lst xs) from I.hok a _ ea)
    exact PySem.W.kia_one PySem.W.kitx_list I.kIn ⟨_, h1, rfl⟩ e (fun z => nomatch z) h
  | @frz a ob xs ea =>
    cases (show u = Value.ref a from rx)
    obtain ⟨_, _, _, n, _, h1⟩ := (show ObjOk X.prog X.w H s.heap a (.frz ob (.lst xs)) from I.hok a _ ea)
    exact PySem.W.kia_one PySem.W.kitx_list I.kIn ⟨_, h1, rfl⟩ e (fun z => nomatch z) h
  | @tup a xs ea =>
    cases (show u = Value.ref a from rx)
    obtain ⟨_, _, _, p⟩ := (show ObjOk X.prog X.w H s.heap a (.tup xs) from I.hok a _ ea)
    obtain ⟨o, h1, h2, _⟩ := p
    exact PySem.W.kia_one PySem.W.kitx_tuple I.kIn ⟨o, h1, h2⟩ e (fun z => nomatch z) h
  | @dK a kvs ea =>
    cases (show u = Value.ref a from rx)
    obtain ⟨_, _, vs, _, p⟩ := (show ObjOk X.prog X.w H s.heap a (.dK kvs) from I.hok a _ ea)
    obtain ⟨o, es, ep, h1, h2, _⟩ := p
    exact PySem.W.kia_one PySem.W.kitx_dict I.kIn ⟨o, h1, h2.1⟩ e (fun z => nomatch z) h
  | @dT a kvs ea =>
    cases (show u = Value.ref a from rx)
    obtain ⟨_, _, xs, _, o, es, ep, h1, h2, _⟩ := (show ObjOk X.prog X.w H s.heap a (.dT kvs) from I.hok a _ ea)
    exact PySem.W.kia_one PySem.W.kitx_dict I.kIn ⟨o, h1, h2.1⟩ e (fun z => nomatch z) h
  | @ins a C dx fs ea cl ha hn htk hm =>
    cases (show u = Value.ref a from rx)
    obtain ⟨mA, O, _⟩ := ins_get I.hok ea
    obtain ⟨od, J, _⟩ := O.look
    exact PySem.W.kia_one (PySem.W.kitx_own (cl.get _) cl.hd ha hn htk hm) I.kIn J e (fun z => nomatch z) h
end
end L2

namespace L2
open PySem PySem.Spec PyProof.Rows

/-! ### room -/
structure Room (k : Nat) (A : Around) : Prop where
  hd : A.handled = none
  dp : A.depth + 3 * k + 5 < recursionLimit
  un : A.units + 16 * k + 200 < cLine
theorem Room.mono {j k : Nat} {A : Around} (r : Room k A) (h : j ≤ k) : Room j A := ⟨r.hd, by have := r.dp; omega, by have := r.un; omega⟩
theorem Room.deeper {k : Nat} {A : Around} (r : Room (k + 1) A) (env : Env) : Room k (A.deeper env) :=
  ⟨r.hd, by have := r.dp; show A.depth + 1 + 3 * k + 5 < _; omega, by have := r.un; show A.units + 3 + 16 * k + 200 < _; omega⟩
theorem Room.in1 {k : Nat} {A : Around} (r : Room (k + 1) A) : Room k A.in1 :=
  ⟨r.hd, by have := r.dp; show A.depth + 3 * k + 5 < _; omega, by have := r.un; show A.units + 1 + 16 * k + 200 < _; omega⟩
theorem make_depth {A : Around} {C : Addr} {us : List Value} {kw : List (Str × Value)} : (A.under (.builtin "type.__call__" ⟨.ref C :: us, kw⟩)).depth = A.depth + 1 := by
  first | rfl | simp [Around.under, Code.weight, Code.isCreation, Code.isGuard, Code.isCaller, Code.frames, Code.isFrame, guardIds]
theorem make_units {A : Around} {C : Addr} {us : List Value} {kw : List (Str × Value)} : (A.under (.builtin "type.__call__" ⟨.ref C :: us, kw⟩)).units = A.units + 1 := by
  first | rfl | simp [Around.under, Code.cUnits, Code.frames, Code.isFrame]
theorem Room.make {k : Nat} {A : Around} (r : Room (k + 1) A) (C : Addr) (us : List Value) (kw : List (Str × Value)) : Room k (A.under (.builtin "type.__call__" ⟨.ref C :: us, kw⟩)) :=
  ⟨r.hd, by have := r.dp; rw [make_depth]; omega, by have := r.un; rw [make_units]; omega⟩
theorem Room.depth {k : Nat} {A : Around} (r : Room k A) : A.depth < recursionLimit := by have := r.dp; omega
theorem Room.units {k : Nat} {A : Around} (r : Room k A) : A.units + 64 < cLine := by have := r.un; omega
theorem Room.units0 {k : Nat} {A : Around} (r : Room k A) : A.units < cLine := by have := r.un; omega

/-! ### argument lists and displays -/
def tNil : TA := fun _ H Q => Q [] H
def tCons (ta : TE) (tr : TA) : TA := fun σ H Q => ta σ H fun x H1 => tr σ H1 fun xs H2 => Q (x :: xs) H2
section
variable {X : Cx} {e : Expr} {es : List Expr} {te : TE} {t : TA} {pos : Pos}
theorem pa_nil : PA X [] tNil := fun _ _ _ _ H Q I h => Calls.spliced_nil ⟨[], H, I, .nil, h⟩
theorem pa_cons (ha : PE X e te) (hr : PA X es t) (hs : starEach (e :: es) X.env = (false, eval e X.env) :: starEach es X.env := by rfl) : PA X (e :: es) (tCons te t) := by
  intro pos pins s σ H Q I h
  rw [hs]
  show wpAny _ _ (spliced ((false, eval e X.env) :: backTo pos (starEach es X.env))) _ _ s
  refine Calls.spliced_cons (thn (ha pins s σ H _ I h) fun u s1 ⟨x, H1, I1, r1, q1⟩ => ?_)
  exact thn (hr pos pins s1 σ H1 _ I1 q1) fun us s2 ⟨xs, H2, I2, r2, q2⟩ => ⟨x :: xs, H2, I2, .cons r1 r2, q2⟩

/-- a tuple, a list of written items -/
def tTup (t : TA) : TE := fun σ H Q => t σ H fun xs H1 => xs.length ≤ sizeLine ∧ ∀ p, H1 p = none → Q (.ref p) (upd H1 p (.tup xs))
def tLst (t : TA) : TE := fun σ H Q => t σ H fun xs H1 => xs.length ≤ sizeLine ∧ ∀ p, H1 p = none → Q (.ref p) (upd H1 p (.lst xs))
theorem pe_tup {x1} (h : PA X es t) : PE X (.Tuple es x1 pos) (tTup t) := by
  intro pins s σ H Q I hq
  refine wpAny_Tuple_spliced (thn (h pos pins s σ H _ I hq) fun us s1 ⟨xs, H1, I1, r, z, q⟩ => ⟨by rw [← r.length]; exact z, ?_⟩)
  have hf : H1 s1.heap.objs.size = none := I1.hok.fresh (Nat.le_refl _)
  refine ⟨.ref s1.heap.objs.size, upd H1 s1.heap.objs.size (.tup xs), I1.laid (t' := s1.toks) (fun b u e => Heap.get?_push_of_some _ e) (Nat.le_refl _) ?_, rfl, q _ hf⟩
  exact ⟨z, us, r, ⟨_, Heap.get?_push_size _ rfl, rfl, _, rfl⟩⟩
theorem pe_lst (h : PA X es t) : PE X (.List es pos) (tLst t) := by
  intro pins s σ H Q I hq
  refine wpAny_List_spliced (thn (h pos pins s σ H _ I hq) fun us s1 ⟨xs, H1, I1, r, z, q⟩ => ⟨by rw [← r.length]; exact z, ?_⟩)
  have hf : H1 s1.heap.objs.size = none := I1.hok.fresh (Nat.le_refl _)
  refine ⟨.ref s1.heap.objs.size, upd H1 s1.heap.objs.size (.lst xs), I1.laid (t' := s1.toks) (fun b u e => Heap.get?_push_of_some _ e) (Nat.le_refl _) ?_, rfl, q _ hf⟩
  exact ⟨z, us, 0, r, Heap.get?_push_size _ rfl⟩
end

/-! ### what a def promises -/
/-- a def's promise: the bound arguments in the parameters' order, the heap, the wanted end, the wanted exception -/
abbrev Sp := List V → Hp → VK → XK → Prop
/-- how an exception lies behind a call (file 08 gives it): the callers' frames, abstract heap and state ahead of the call, the wish, the exception, the state -/
abbrev CXT := List Env → Hp → Shared → XK → Value → Shared → Prop

/-- the state at a call -/
structure Env0 (P : Program) (w : World) (K : PySem.W.Frag) (mg : Str → Option Value) (base : Heap) (A : Around) (outer : List Env) (s : Shared) (H : Hp) : Prop where
  frames : A.frames = some outer
  mod : Mod K mg base
  bs : ∀ b o, base.get? b = some o → s.heap.get? b = some o ∧ H b = none
  bsz : base.objs.size ≤ s.heap.objs.size
  funs : s.heap.FunFrames base outer
  frf : ∀ b ∈ frs outer, H b = none
  hok : HOk P w H s.heap
  bare : AllBare s.gens
/-- a call's end -/
def CE (outer : List Env) (P : Program) (w : World) (H : Hp) (s : Shared) (Q : VK) (u : Value) (s' : Shared) : Prop :=
  ∃ v H', s'.os = s.os ∧ AllBare s'.gens ∧ Un (frs outer) [] H H' s.heap s'.heap ∧ HOk P w H' s'.heap ∧ RelV v u ∧ Q v H'
def CR (CX : CXT) (outer : List Env) (P : Program) (w : World) (H : Hp) (s : Shared) (Q : VK) (E : XK) (r : Result) (s' : Shared) : Prop :=
  match r with
  | .ok (.ret u) => CE outer P w H s Q u s'
  | .ok _ => False
  | .error e => CX outer H s E e s'
structure FnOk (P : Program) (w : World) (K : PySem.W.Frag) (mg : Str → Option Value) (base : Heap) (CX : CXT) (k : Nat) (f : Addr) (fd : FuncData) (ps : List Str) (sp : Sp) : Prop where
  len : ∀ vs H Q E, sp vs H Q E → vs.length = ps.length
  run : ∀ (A : Around) (outer : List Env) (s : Shared) (H : Hp) (args : Args) (us : List Value) (vs : List V) (Q : VK) (E : XK), Room k A → Env0 P w K mg base A outer s H → BindsTo s fd args (ps.zip us) → Vals vs us → sp vs H Q E →
    codeAny (model P w) A (.call (.ref f) args) (CR CX outer P w H s Q E) s
theorem FnOk.mono {P : Program} {w : World} {K : PySem.W.Frag} {mg : Str → Option Value} {base : Heap} {CX : CXT} {j k : Nat} {f : Addr} {fd : FuncData} {ps : List Str} {sp : Sp} (F : FnOk P w K mg base CX j f fd ps sp) (h : j ≤ k) :
    FnOk P w K mg base CX k f fd ps sp := ⟨F.len, fun A outer s H args us vs Q E hr => F.run A outer s H args us vs Q E (hr.mono h)⟩
/-- a weaker promise -/
theorem FnOk.imp {P : Program} {w : World} {K : PySem.W.Frag} {mg : Str → Option Value} {base : Heap} {CX : CXT} {k : Nat} {f : Addr} {fd : FuncData} {ps : List Str} {sp sp' : Sp} (F : FnOk P w K mg base CX k f fd ps sp)
    (h : ∀ vs H Q E, sp' vs H Q E → sp vs H Q E) : FnOk P w K mg base CX k f fd ps sp' :=
  ⟨fun vs H Q E q => F.len vs H Q E (h _ _ _ _ q), fun A outer s H args us vs Q E hr he hb hv hs => F.run A outer s H args us vs Q E hr he hb hv (h _ _ _ _ hs)⟩

theorem Env0.make {P : Program} {w : World} {K : PySem.W.Frag} {mg : Str → Option Value} {base : Heap} {A : Around} {outer : List Env} {s : Shared} {H : Hp} (e : Env0 P w K mg base A outer s H) (C : Addr) (us : List Value) (kw : List (Str × Value)) :
    Env0 P w K mg base (A.under (.builtin "type.__call__" ⟨.ref C :: us, kw⟩)) outer s H := ⟨by first | exact e.frames | (simpa [Around.under, Code.envs, Code.isFrame, pushEnvs] using e.frames), e.mod, e.bs, e.bsz, e.funs, e.frf, e.hok, e.bare⟩
theorem Env0.in1 {P : Program} {w : World} {K : PySem.W.Frag} {mg : Str → Option Value} {base : Heap} {A : Around} {outer : List Env} {s : Shared} {H : Hp} (e : Env0 P w K mg base A outer s H) :
    Env0 P w K mg base A.in1 outer s H := ⟨e.frames, e.mod, e.bs, e.bsz, e.funs, e.frf, e.hok, e.bare⟩

section
variable {X : Cx} {pins : List (Addr × Obj)} {σ : St} {H : Hp} {s s' : Shared}
/-- from a body: what a callee wants -/
theorem Inv.env0 (I : Inv X pins σ H s) : Env0 X.prog X.w X.K X.mg X.base X.A X.stack s H :=
  ⟨I.ok.frames, I.ok.mod, I.bs, Nat.le_trans I.ok.bsz I.sz, I.stack, I.stkFree, I.hok, I.bare⟩
/-- behind a call -/
theorem Inv.after {Q : VK} {u : Value} (I : Inv X pins σ H s) (h : CE X.stack X.prog X.w H s Q u s') : EP X pins σ Q u s' := by
  obtain ⟨v, H', os, bare, un, hok, r, q⟩ := h
  obtain ⟨hh, g, d, t, os'⟩ := s'
  obtain rfl : os' = s.os := os
  exact ⟨v, H', I.call (h' := hh) (g' := g) (d' := d) (t' := t) (ch := []) un hok bare (fun b z => absurd z (by simp)), r, q⟩
end

/-! ### calls -/
/-- f(..): the written arguments, then the defaults dvs; E: what is wanted of an exception -/
def tCall (sp : Sp) (dvs : List V) (E : XK) (t : TA) : TE := fun σ H Q => t σ H fun vs H1 => sp (vs ++ dvs) H1 Q E
/-- o.m(..) of an instance of the class at C -/
def tMeth (C : Addr) (m : Str) (sp : Sp) (dvs : List V) (E : XK) (ta : TE) (t : TA) : TE := fun σ H Q => ta σ H fun x H1 => ∃ a dx fs, x = .ref a ∧ H1 a = some (.ins C dx fs) ∧ fs.lookup m = none ∧
  t σ H1 fun vs H2 => sp (x :: (vs ++ dvs)) H2 Q E
/-- C(..): a new instance and its dict, then __init__ -/
def tMake (C : Addr) (sp : Sp) (dvs : List V) (E : XK) (t : TA) : TE := fun σ H Q => t σ H fun vs H1 => ∀ x dx, H1 x = none → H1 dx = none → dx ≠ x →
  sp (.ref x :: (vs ++ dvs)) (upd (upd H1 dx (.own x)) x (.ins C dx [])) (fun v H2 => v = .non ∧ Q (.ref x) H2) E

/-- how the parameters are bound: us the positional arguments, kw the keywords' values by name, ds the defaults that fill up -/
def Binds (K : PySem.W.Frag) (fd : FuncData) (ps : List Str) (ds : List Value) : Prop :=
  ∀ (s : Shared) (us : List Value), K.In s.heap → (us ++ ds).length = ps.length → BindsTo s fd ⟨us, []⟩ (ps.zip (us ++ ds))
/-- every parameter is given -/
theorem Binds.all {K : PySem.W.Frag} {fd : FuncData} {ps : List Str} (h : ∀ us : List Value, us.length = ps.length → bindArgs fd ⟨us, []⟩ = pure (ps.zip us)) : Binds K fd ps [] := fun s us _ hl => by
  rw [List.append_nil] at hl ⊢
  exact .of_eq (h us hl)

/-- an exception of a callee reaches what this body wants of exceptions -/
def Passes (CX : CXT) (X : Cx) (E : XK) : Prop := ∀ (pins : List (Addr × Obj)) (σ : St) (H : Hp) (s : Shared) (e : Value) (s' : Shared), Inv X pins σ H s → CX X.stack H s E e s' → X.xe e s'

section
variable {X : Cx} {CX : CXT} {k : Nat} {f C : Addr} {fd : FuncData} {ps : List Str} {sp : Sp} {dvs : List V} {ds : List Value} {E : XK} {x m : Str} {p pos apos : Pos} {e o : Expr} {es : List Expr} {ta : TE} {t : TA}

/-- the callee runs -/
theorem run_fn {pins : List (Addr × Obj)} {σ : St} {H : Hp} {s : Shared} {Q : VK} {us : List Value} {vs : List V} (F : FnOk X.prog X.w X.K X.mg X.base CX k f fd ps sp) (hr : Room k X.A) (hb : Binds X.K fd ps ds) (hd : Vals dvs ds) (hx : Passes CX X E)
    (I : Inv X pins σ H s) (r : Vals vs us) (h : sp (vs ++ dvs) H Q E) : wpAny (model X.prog X.w) X.A (call (.ref f) us) (EP X pins σ Q) X.xe s := by
  have r2 : Vals (vs ++ dvs) (us ++ ds) := r.append hd
  have hl : (us ++ ds).length = ps.length := by rw [← r2.length]; exact F.len _ _ _ _ h
  refine wpAny_call (codeAny_mono (F.run X.A X.stack s H ⟨us, []⟩ (us ++ ds) (vs ++ dvs) Q E hr I.env0 (hb s us I.kIn hl) r2 h) fun r s' hq => ?_)
  cases r with
  | error e => exact hx pins σ H s e s' I hq
  | ok fl =>
    cases fl with
    | ret u => exact I.after hq
    | next => exact False.elim hq
    | brk => exact False.elim hq
    | cont => exact False.elim hq

theorem pe_call (F : FnOk X.prog X.w X.K X.mg X.base CX k f fd ps sp) (hr : Room k X.A) (hg : Gl X x) (hm : X.mg x = some (.ref f)) (hk : PySem.W.keepIn X.K (.ref f) = true) (hb : Binds X.K fd ps ds) (hd : Vals dvs ds) (hx : Passes CX X E)
    (ha : PA X (e :: es) t) (hdb : (x == ("__debug__" : Str)) = false := by decide) (he : starEach (e :: es) X.env = (false, eval e X.env) :: starEach es X.env := by rfl) (hpl : (backTo pos (starEach es X.env)).any (·.1) = false := by rfl) :
    PE X (.Call (.Name x p) (e :: es) [] pos) (tCall sp dvs E t) := by
  intro pins s σ H Q I h
  refine wpAny_Call_Name_kw (ld_glob I hg hm ?_ hdb)
  refine PySem.W.callWith_K (h₀ := X.base) I.ok.mod.kin hk (thn (ha pos pins s σ H _ I h) fun us s1 ⟨vs, H1, I1, r, q⟩ => ⟨I1.kIn, ?_⟩) he hpl
  exact run_fn F hr hb hd hx I1 r q
theorem pe_call0 (F : FnOk X.prog X.w X.K X.mg X.base CX k f fd ps sp) (hr : Room k X.A) (hg : Gl X x) (hm : X.mg x = some (.ref f)) (hk : PySem.W.keepIn X.K (.ref f) = true) (hb : Binds X.K fd ps ds) (hd : Vals dvs ds) (hx : Passes CX X E)
    (hdb : (x == ("__debug__" : Str)) = false := by decide) : PE X (.Call (.Name x p) [] [] pos) (tCall sp dvs E tNil) := by
  intro pins s σ H Q I h
  refine wpAny_Call_Name_kw (ld_glob I hg hm ?_ hdb)
  exact PySem.W.callWith_K0 I.kIn hk (run_fn (us := []) F hr hb hd hx I .nil h)

/-- o.m(e, ..) -/
theorem pe_meth {pl : Sem Bool} (he : PE X o ta) (c : Cls X.K C) (hm : Meth X.K C m f) (F : FnOk X.prog X.w X.K X.mg X.base CX k f fd ps sp) (hr : Room k X.A) (hb : Binds X.K fd ps ds) (hd : Vals dvs ds) (hx : Passes CX X E) (ha : PA X (e :: es) t)
    (hst : starEach (e :: es) X.env = (false, eval e X.env) :: starEach es X.env := by rfl) (hpl : (backTo pos (starEach es X.env)).any (·.1) = false := by rfl)
    (ht : eval (.Call (.Attribute o m apos) (e :: es) [] pos) X.env = (do
      let ov ← eval o X.env
      standAt apos.atName
      let (f, first) ← holding [ov] (getMethod ov m pl)
      callWith pos f first (backTo pos (starEach (e :: es) X.env)) (backToKw pos (keywordEach [] X.env))) := by rfl) :
    PE X (.Call (.Attribute o m apos) (e :: es) [] pos) (tMeth C m sp dvs E ta t) := by
  intro pins s σ H Q I h
  refine PySem.W.methodCall_KW (pl := pl) (thn (he pins s σ H _ I h) fun u s1 ⟨x, H1, I1, rx, a, dx, fs, ex, ea, l, q⟩ => ?_) ht
  subst ex
  obtain rfl : u = Value.ref a := rx
  refine getmeth_ok I1 ea c hm l ?_
  refine PySem.W.callWith_K (first := [.ref a]) (h₀ := X.base) I.ok.mod.kin hm.kp (thn (ha pos pins s1 σ H1 _ I1 q) fun us s2 ⟨vs, H2, I2, r, q2⟩ => ⟨I2.kIn, ?_⟩) hst hpl
  exact run_fn (us := .ref a :: us) (vs := .ref a :: vs) F hr hb hd hx I2 (.cons rfl r) q2
/-- o.m() -/
theorem pe_meth0 {pl : Sem Bool} (he : PE X o ta) (c : Cls X.K C) (hm : Meth X.K C m f) (F : FnOk X.prog X.w X.K X.mg X.base CX k f fd ps sp) (hr : Room k X.A) (hb : Binds X.K fd ps ds) (hd : Vals dvs ds) (hx : Passes CX X E)
    (ht : eval (.Call (.Attribute o m apos) [] [] pos) X.env = (do
      let ov ← eval o X.env
      standAt apos.atName
      let (f, first) ← holding [ov] (getMethod ov m pl)
      callWith pos f first (backTo pos (starEach [] X.env)) (backToKw pos (keywordEach [] X.env))) := by rfl) :
    PE X (.Call (.Attribute o m apos) [] [] pos) (tMeth C m sp dvs E ta tNil) := by
  intro pins s σ H Q I h
  refine PySem.W.methodCall_KW (pl := pl) (thn (he pins s σ H _ I h) fun u s1 ⟨x, H1, I1, rx, a, dx, fs, ex, ea, l, q⟩ => ?_) ht
  subst ex
  obtain rfl : u = Value.ref a := rx
  refine getmeth_ok I1 ea c hm l ?_
  exact PySem.W.callWith_K0 (first := [.ref a]) I1.kIn hm.kp (run_fn (us := [.ref a]) (vs := [.ref a]) F hr hb hd hx I1 (.cons rfl .nil) q)

/-- what a class must have to be made -/
structure Mk (K : PySem.W.Frag) (C f : Addr) : Prop where
  makes : PySem.W.makesIn K C = true
  init : PySem.W.findIn K (.ref C) "__init__" = some (some (.ref f))
  fn : PySem.W.isFn K (.ref f) = true
  kp : PySem.W.keepIn K (.ref C) = true

theorem run_make {pins : List (Addr × Obj)} {σ : St} {H : Hp} {s : Shared} {Q : VK} {us : List Value} {vs : List V} (M : Mk X.K C f) (F : FnOk X.prog X.w X.K X.mg X.base CX k f fd ps sp) (hr : Room (k + 1) X.A) (hb : Binds X.K fd ps ds) (hd : Vals dvs ds)
    (hx : Passes CX X E) (I : Inv X pins σ H s) (r : Vals vs us)
    (h : ∀ x dx, H x = none → H dx = none → dx ≠ x → sp (.ref x :: (vs ++ dvs)) (upd (upd H dx (.own x)) x (.ins C dx [])) (fun v H2 => v = .non ∧ Q (.ref x) H2) E) :
    wpAny (model X.prog X.w) X.A (call (.ref C) us) (EP X pins σ Q) X.xe s := by
  have hq := h (s.heap.objs.size + 1) s.heap.objs.size (I.hok.fresh (Nat.le_succ _)) (I.hok.fresh (Nat.le_refl _)) (Nat.ne_of_lt (Nat.lt_succ_self _))
  have I2 := Inv.made (C := C) I
  have r2 : Vals (V.ref (s.heap.objs.size + 1) :: (vs ++ dvs)) (Value.ref (s.heap.objs.size + 1) :: (us ++ ds)) := .cons rfl (r.append hd)
  have hl : (Value.ref (s.heap.objs.size + 1) :: us ++ ds).length = ps.length := by
    have e := r2.length
    rw [F.len _ _ _ _ hq] at e
    exact e.symm
  refine wpAny_call (make_map (f := f) I.kIn M.makes M.init (beq_iff_eq.mp M.fn) (codeAny_mono (F.run _ X.stack _ _ ⟨Value.ref (s.heap.objs.size + 1) :: us, []⟩ (Value.ref (s.heap.objs.size + 1) :: (us ++ ds)) _ _ E (hr.make C us [])
    (I2.env0.make C us []) (hb _ (Value.ref (s.heap.objs.size + 1) :: us) I2.kIn hl) r2 hq) fun r s' hq' => ?_))
  cases r with
  | error e => exact hx pins σ _ _ e s' I2 hq'
  | ok fl =>
    cases fl with
    | ret u =>
      obtain ⟨v, H', I3, rv, ev, q3⟩ := I2.after hq'
      subst ev
      exact ⟨rv, ⟨V.ref (s.heap.objs.size + 1), H', I3, rfl, q3⟩⟩
    | next => exact False.elim hq'
    | brk => exact False.elim hq'
    | cont => exact False.elim hq'
theorem pe_make (M : Mk X.K C f) (F : FnOk X.prog X.w X.K X.mg X.base CX k f fd ps sp) (hr : Room (k + 1) X.A) (hg : Gl X x) (hm : X.mg x = some (.ref C)) (hb : Binds X.K fd ps ds) (hd : Vals dvs ds) (hx : Passes CX X E)
    (ha : PA X (e :: es) t) (hdb : (x == ("__debug__" : Str)) = false := by decide) (he : starEach (e :: es) X.env = (false, eval e X.env) :: starEach es X.env := by rfl) (hpl : (backTo pos (starEach es X.env)).any (·.1) = false := by rfl) :
    PE X (.Call (.Name x p) (e :: es) [] pos) (tMake C sp dvs E t) := by
  intro pins s σ H Q I h
  refine wpAny_Call_Name_kw (ld_glob I hg hm ?_ hdb)
  refine PySem.W.callWith_K (h₀ := X.base) I.ok.mod.kin M.kp (thn (ha pos pins s σ H _ I h) fun us s1 ⟨vs, H1, I1, r, q⟩ => ⟨I1.kIn, ?_⟩) he hpl
  exact run_make M F hr hb hd hx I1 r q
theorem pe_make0 (M : Mk X.K C f) (F : FnOk X.prog X.w X.K X.mg X.base CX k f fd ps sp) (hr : Room (k + 1) X.A) (hg : Gl X x) (hm : X.mg x = some (.ref C)) (hb : Binds X.K fd ps ds) (hd : Vals dvs ds) (hx : Passes CX X E)
    (hdb : (x == ("__debug__" : Str)) = false := by decide) : PE X (.Call (.Name x p) [] [] pos) (tMake C sp dvs E tNil) := by
  intro pins s σ H Q I h
  refine wpAny_Call_Name_kw (ld_glob I hg hm ?_ hdb)
  exact PySem.W.callWith_K0 I.kIn M.kp (run_make (us := []) M F hr hb hd hx I .nil h)
end

/-! ### keywords -/
/-- the values of the keywords, from the left -/
def PK (X : Cx) (kws : List Keyword) (t : TA) : Prop :=
  ∀ (pos : Pos) (pins : List (Addr × Obj)) (s : Shared) (σ : St) (H : Hp) (Q : List V → Hp → Prop), Inv X pins σ H s → t σ H Q → wpAny (model X.prog X.w) X.A (evalAll ((backToKw pos (keywordEach kws X.env)).map (·.2))) (AP X pins σ Q) X.xe s
section
variable {X : Cx} {CX : CXT} {k : Nat} {f C : Addr} {fd : FuncData} {ps ks : List Str} {sp : Sp} {E : XK} {x m : Str} {p pos apos kpos : Pos} {e o : Expr} {es : List Expr} {kws : List Keyword} {te ta : TE} {t tk : TA} {nm : Option Str}
theorem pk_nil : PK X [] tNil := fun _ _ _ _ H Q I h => wpAny_evalAll_nil ⟨[], H, I, .nil, h⟩
theorem pk_cons (ha : PE X e te) (hr : PK X kws t) : PK X (⟨nm, e, kpos⟩ :: kws) (tCons te t) := by
  intro pos pins s σ H Q I h
  show wpAny _ _ (evalAll ((do let v ← eval e X.env; standAt pos; pure v) :: (backToKw pos (keywordEach kws X.env)).map (·.2))) _ _ s
  refine wpAny_evalAll_cons (wpAny_bind (thn (ha pins s σ H _ I h) fun u s1 ⟨x, H1, I1, r1, q1⟩ => wpAny_bind (wpAny_standAt (wpAny_pure ?_))))
  exact thn (hr pos pins s1 σ H1 _ I1 q1) fun us s2 ⟨xs, H2, I2, r2, q2⟩ => ⟨x :: xs, H2, I2, .cons r1 r2, q2⟩

/-- how a call with keywords binds: g puts the positional values us and the keywords' values ws (names ks) in the parameters' order, defaults among them -/
structure KBinds (K : PySem.W.Frag) (fd : FuncData) (ps ks : List Str) (g : List Value → List Value → List Value) (gV : List V → List V → List V) : Prop where
  to : ∀ (s : Shared) (us ws : List Value), K.In s.heap → (g us ws).length = ps.length → BindsTo s fd ⟨us, ks.zip ws⟩ (ps.zip (g us ws))
  rel : ∀ {vs : List V} {us : List Value} {zs : List V} {ws : List Value}, Vals vs us → Vals zs ws → Vals (gV vs zs) (g us ws)
def tCallK (sp : Sp) (gV : List V → List V → List V) (E : XK) (t tk : TA) : TE := fun σ H Q => t σ H fun vs H1 => tk σ H1 fun zs H2 => sp (gV vs zs) H2 Q E
variable {g : List Value → List Value → List Value} {gV : List V → List V → List V}
theorem run_fnk {pins : List (Addr × Obj)} {σ : St} {H : Hp} {s : Shared} {Q : VK} {us ws : List Value} {vs zs : List V} (F : FnOk X.prog X.w X.K X.mg X.base CX k f fd ps sp) (hr : Room k X.A) (hb : KBinds X.K fd ps ks g gV) (hx : Passes CX X E)
    (I : Inv X pins σ H s) (r : Vals vs us) (rz : Vals zs ws) (h : sp (gV vs zs) H Q E) : wpAny (model X.prog X.w) X.A (call (.ref f) us (ks.zip ws)) (EP X pins σ Q) X.xe s := by
  have r2 := hb.rel r rz
  have hl : (g us ws).length = ps.length := by rw [← r2.length]; exact F.len _ _ _ _ h
  refine wpAny_call (codeAny_mono (F.run X.A X.stack s H ⟨us, ks.zip ws⟩ (g us ws) (gV vs zs) Q E hr I.env0 (hb.to s us ws I.kIn hl) r2 h) fun r s' hq => ?_)
  cases r with
  | error e => exact hx pins σ H s e s' I hq
  | ok fl =>
    cases fl with
    | ret u => exact I.after hq
    | next => exact False.elim hq
    | brk => exact False.elim hq
    | cont => exact False.elim hq
/-- f(e, .., k = v, ..) -/
theorem pe_callK (F : FnOk X.prog X.w X.K X.mg X.base CX k f fd ps sp) (hr : Room k X.A) (hg : Gl X x) (hm : X.mg x = some (.ref f)) (hk : PySem.W.keepIn X.K (.ref f) = true) (hb : KBinds X.K fd ps ks g gV) (hx : Passes CX X E)
    (ha : PA X (e :: es) t) (hkw : PK X kws tk) (hall : (backToKw pos (keywordEach kws X.env)).all (·.1.isSome) = true := by rfl) (hks : (backToKw pos (keywordEach kws X.env)).filterMap (·.1) = ks := by rfl)
    (hdb : (x == ("__debug__" : Str)) = false := by decide) (he : starEach (e :: es) X.env = (false, eval e X.env) :: starEach es X.env := by rfl)
    (hpl : ((backTo pos (starEach (e :: es) X.env)).any (·.1) || (backToKw pos (keywordEach kws X.env)).any (·.1.isNone)) = false := by rfl) :
    PE X (.Call (.Name x p) (e :: es) kws pos) (tCallK sp gV E t tk) := by
  intro pins s σ H Q I h
  refine wpAny_Call_Name_kw (ld_glob I hg hm ?_ hdb)
  refine PySem.W.callWith_KW (h₀ := X.base) I.ok.mod.kin hk hall (thn (ha pos pins s σ H _ I h) fun us s1 ⟨vs, H1, I1, r, q⟩ => ?_) hpl he
  refine thn (hkw pos pins s1 σ H1 _ I1 q) fun ws s2 ⟨zs, H2, I2, rz, q2⟩ => ⟨I2.kIn, ?_⟩
  rw [hks]
  exact run_fnk F hr hb hx I2 r rz q2
end

/-! ### a def's body keeps its promise -/
/-- names: the parameters first -/
structure FnScope (N P : List Str) (sc : Scope) : Prop where
  kind : sc.kind = .function
  co : sc.isCoroutine = false
  gen : sc.isGenerator = false
  nd : N.Nodup
  pre : N.take P.length = P
  par : ∀ x ∈ P, sc.names.lookup x = some .local ∨ sc.names.lookup x = some .cell
  nofree : ∀ y ∈ sc.names, y.2 ≠ .free

theorem bindL_out {kindOf : Str → Option NameKind} {x : Str} : ∀ {binds : List (Str × Value)} {m : Str → Option Value}, (∀ v, (x, v) ∉ binds) → bindL kindOf binds m x = m x
  | [], _, _ => rfl
  | (n, v) :: r, m, h => by
    unfold bindL
    rw [bindL_out fun w hw => h w (List.mem_cons_of_mem _ hw)]
    split
    · have : x ≠ n := by rintro rfl; exact h v List.mem_cons_self
      simp [this]
    · rfl
theorem bindC_out {kindOf : Str → Option NameKind} {x : Str} : ∀ {binds : List (Str × Value)} {m : Str → Option Value}, (∀ v, (x, v) ∉ binds) → bindC kindOf binds m x = m x
  | [], _, _ => rfl
  | (n, v) :: r, m, h => by
    unfold bindC
    rw [bindC_out fun w hw => h w (List.mem_cons_of_mem _ hw)]
    split
    · rfl
    · have : x ≠ n := by rintro rfl; exact h v List.mem_cons_self
      simp [this]
theorem bindL_get {kindOf : Str → Option NameKind} {x : Str} {v : Value} : ∀ {P : List Str} {vs : List Value} {i : Nat} {m : Str → Option Value}, P.Nodup → P[i]? = some x → vs[i]? = some v → kindOf x = some .local →
    bindL kindOf (P.zip vs) m x = some v
  | [], _, _, _, _, h, _, _ => by simp at h
  | _ :: _, [], _, _, _, _, h, _ => by simp at h
  | p :: P, w :: vs, 0, m, nd, h1, h2, hk => by
    simp at h1 h2; subst h1; subst h2
    show bindL kindOf ((p, w) :: P.zip vs) m p = _
    unfold bindL
    rw [bindL_out fun v hv => (List.nodup_cons.mp nd).1 (List.of_mem_zip hv).1, if_pos hk]
    simp
  | p :: P, w :: vs, i + 1, m, nd, h1, h2, hk => by
    show bindL kindOf ((p, w) :: P.zip vs) m x = _
    unfold bindL
    exact bindL_get (i := i) (List.nodup_cons.mp nd).2 (by simpa using h1) (by simpa using h2) hk
theorem bindC_get {kindOf : Str → Option NameKind} {x : Str} {v : Value} : ∀ {P : List Str} {vs : List Value} {i : Nat} {m : Str → Option Value}, P.Nodup → P[i]? = some x → vs[i]? = some v → kindOf x ≠ some .local →
    bindC kindOf (P.zip vs) m x = some v
  | [], _, _, _, _, h, _, _ => by simp at h
  | _ :: _, [], _, _, _, _, h, _ => by simp at h
  | p :: P, w :: vs, 0, m, nd, h1, h2, hk => by
    simp at h1 h2; subst h1; subst h2
    show bindC kindOf ((p, w) :: P.zip vs) m p = _
    unfold bindC
    rw [bindC_out fun v hv => (List.nodup_cons.mp nd).1 (List.of_mem_zip hv).1, if_neg hk]
    simp
  | p :: P, w :: vs, i + 1, m, nd, h1, h2, hk => by
    show bindC kindOf ((p, w) :: P.zip vs) m x = _
    unfold bindC
    exact bindC_get (i := i) (List.nodup_cons.mp nd).2 (by simpa using h1) (by simpa using h2) hk

/-- the names' values at the entry -/
def start (N : List Str) (vs : List V) : St := vs.map some ++ List.replicate (N.length - vs.length) none

/-- the context of a def's body, at its entry; an exception leaves the frame, then lies as CX says -/
def cxOf (CX : CXT) (P : Program) (w : World) (K : PySem.W.Frag) (mg : Str → Option Value) (base : Heap) (N : List Str) (qual : Str) (scope : Scope) (f : Addr) (cd : Value) (A : Around) (outer : List Env) (s : Shared) (H : Hp) (E : XK) : Cx where
  prog := P
  w := w
  K := K
  mg := mg
  base := base
  A := A.deeper (envOfC qual scope s.heap.objs.size f cd)
  N := N
  s₀ := s
  H₀ := H
  env := envOfC qual scope s.heap.objs.size f cd
  outer := outer
  stack := envOfC qual scope s.heap.objs.size f cd :: outer
  ex := []
  calm := true
  fn := fun _ => true
  pn := []
  xe := fun e s' => wpAny (model P w) (A.deeper (envOfC qual scope s.heap.objs.size f cd)) (leaving (envOfC qual scope s.heap.objs.size f cd) e) (fun _ s'' => CX outer H s E e s'') (fun e' s'' => CX outer H s E e' s'') s'

theorem cell_has {sc : Scope} {n : Nat} {x : Str} (h : sc.names.lookup x = some .cell) : ∃ c, (cellsFrom n sc.names []).lookup x = some c := by
  have q := PySem.W.cellsFrom_some sc.names n [] (.inl h)
  exact Option.isSome_iff_exists.mp q

theorem inv_start {CX : CXT} {P : Program} {w : World} {K : PySem.W.Frag} {mg : Str → Option Value} {base : Heap} {N ps : List Str} {qual : Str} {scope : Scope} {f : Addr} {cd : Value} {A : Around} {outer : List Env} {s s1 : Shared} {H : Hp} {E : XK} {us : List Value} {vs : List V}
    (S : FnScope N ps scope) (hd : A.handled = none) (e0 : Env0 P w K mg base A outer s H) (hl : vs.length = ps.length) (r : Vals vs us)
    (x : InCallC s s.heap.objs.size (bindL (envOfC qual scope s.heap.objs.size f cd).kindOf (ps.zip us) fun _ => none) (cellsFrom (s.heap.objs.size + 1) scope.names []) (bindC (envOfC qual scope s.heap.objs.size f cd).kindOf (ps.zip us) fun _ => none) s1) :
    Inv (cxOf CX P w K mg base N qual scope f cd A outer s H E) [] (start N vs) H s1 := by
  have hpl : ps.length ≤ N.length := by have := congrArg List.length S.pre; rw [List.length_take] at this; omega
  obtain ⟨h1, tk, rfl, hk⟩ := x.done
  have noA : ∀ b : Addr, b ∉ (cxOf CX P w K mg base N qual scope f cd A outer s H E).ex := fun b z => absurd (show b ∈ ([] : List Addr) from z) (by simp)
  refine ⟨⟨e0.mod, S.kind, rfl, rfl, Nat.le_refl _, fun y z c h1 h2 => ?_, fun y hy => ?_, fun y c _ h => ?_, fun _ => hd, Around.frames_deeper e0.frames, .inr ⟨rfl, rfl⟩, fun b z => absurd z (noA b), e0.bs, e0.bsz, fun b _ _ => noA b, fun b z => absurd z (noA b), e0.funs, e0.frf⟩,
    rfl, e0.bare, Un.kept hk, ⟨_, x.toInCall.ns, fun i y v h1 h2 h3 => ?_⟩, fun y c h => ⟨_, x.cell y c h⟩, e0.hok.fresh (Nat.le_refl _), fun y c h => ?_, fun p hp => absurd (show p ∈ ([] : List (Addr × Obj)) from hp) (by simp), e0.hok.kept hk, ?_⟩
  · exact name_of_addr x.apart (PySem.mem_of_lookup h1) (PySem.mem_of_lookup h2)
  · have hy : scope.names.lookup y = some .cell ∨ scope.names.lookup y = some .free := hy
    rcases hy with hy | hy
    · exact cell_has hy
    · exact absurd rfl (S.nofree _ (PySem.mem_of_lookup hy))
  · exact Nat.le_of_lt (x.above y c (PySem.mem_of_lookup h))
  · have hi : i < vs.length := by
      unfold start at h2
      by_cases hi : i < vs.length
      · exact hi
      · rw [List.getElem?_append_right (by simpa using hi)] at h2
        rw [List.getElem?_replicate] at h2
        split at h2 <;> cases h2
    have ha : vs[i]? = some v := by
      unfold start at h2
      rw [List.getElem?_append_left (by simpa using hi), List.getElem?_map] at h2
      cases e : vs[i]? with
      | none => rw [e] at h2; cases h2
      | some a => rw [e] at h2; cases h2; rfl
    obtain ⟨u, hu, rv⟩ := r.get ha
    have hp : ps[i]? = some y := by
      rw [← S.pre, List.getElem?_take_of_lt (by omega)]; exact h1
    have ndP : ps.Nodup := by rw [← S.pre]; exact S.nd.sublist (List.take_sublist _ _)
    refine ⟨u, rv, ?_⟩
    rcases S.par y (List.mem_of_getElem? hp) with k | k
    · exact .inl ⟨k, bindL_get ndP hp hu k⟩
    · obtain ⟨c, e⟩ := cell_has (n := s.heap.objs.size + 1) k
      refine .inr ⟨.inl k, c, e, ?_⟩
      have q := x.cell y c e
      rw [bindC_get ndP hp hu (by show scope.names.lookup y ≠ _; rw [k]; decide)] at q
      exact q
  · exact e0.hok.fresh (Nat.le_of_lt (x.above y c (PySem.mem_of_lookup h)))
  · unfold start
    show _ = N.length
    rw [List.length_append, List.length_map, List.length_replicate]
    omega

/-- THE RULE: a def (or a method) of the text, by its body. The body's reading t is chosen for each entry; it is run at the parameters' values -/
theorem fn_of {CX : CXT} {P : Program} {w : World} {K : PySem.W.Frag} {mg : Str → Option Value} {base : Heap} {k : Nat} {f : Addr} {name qual : Str} {params : Arguments} {body : List Stmt} {scope : Scope} {dV kV doc pm cdv ct oc : Value} {an od : Option Addr}
    {osl : Array (Option Value)} {N ps : List Str} {sp : Sp} (lk : K.lookup f = some ⟨oc, od, .func (PySem.W.fnOf name qual params body scope dV kV doc pm an cdv ct), osl⟩) (hcd : PySem.W.codeIn K cdv qual = true) (S : FnScope N ps scope)
    (len : ∀ vs H Q E, sp vs H Q E → vs.length = ps.length)
    (hbody : ∀ (A : Around) (outer : List Env) (s : Shared) (H : Hp) (vs : List V) (Q : VK) (E : XK), Room k (A.deeper (envOfC qual scope s.heap.objs.size f cdv)) → sp vs H Q E →
      ∃ t, PSs (cxOf CX P w K mg base N qual scope f cdv A outer s H E) body t ∧ t { nx := fun _ H' => Q .non H', rt := Q } (start N vs) H) :
    FnOk P w K mg base CX (k + 1) f (PySem.W.fnOf name qual params body scope dV kV doc pm an cdv ct) ps sp := by
  refine ⟨len, fun A outer s H args us vs Q E hr e0 hb r hsp => ?_⟩
  have hl := len _ _ _ _ hsp
  have KX : K.In s.heap := e0.mod.kin.keeps fun b o e => (e0.bs b o e).1
  have lim : s.heap.NoLimit := e0.mod.nolimit.keeps fun b o e => (e0.bs b o e).1
  have hkind : ∀ y ∈ ps.zip us, scope.names.lookup y.1 = some .local ∨ (scope.names.lookup y.1 = some .cell ∧ ((cellsFrom (s.heap.objs.size + 1) scope.names []).lookup y.1).isSome = true) := fun ⟨n, v⟩ hy => by
    rcases S.par n (List.of_mem_zip hy).1 with q | q
    · exact .inl q
    · exact .inr ⟨q, PySem.W.cellsFrom_some _ _ _ (.inl q)⟩
  refine codeAny_call_function hr.depth (KX _ _ lk) rfl S.co S.gen rfl (PySem.W.codeRec_of KX hcd) (hb _ _ _ _ ?_)
  refine wpAny_newFunctionEnv_cells S.kind hkind fun env he s1 x => ?_
  subst he
  refine ⟨lim.keeps x.toInCall.keep, codeAny_func ?_⟩
  obtain ⟨t, ht, hq⟩ := hbody A outer s H vs Q E (hr.deeper _) hsp
  have I : Inv (cxOf CX P w K mg base N qual scope f cdv A outer s H E) [] (start N vs) H s1 := inv_start S hr.hd e0 hl r x
  refine wpAny_mono (ht [] s1 (start N vs) H _ I hq) (fun fl s' hs => ?_) fun e s' hs => hs
  have fin : ∀ {σ' : St} {H' : Hp} {v : V} {u : Value}, Inv (cxOf CX P w K mg base N qual scope f cdv A outer s H E) [] σ' H' s' → RelV v u → Q v H' → CE outer P w H s Q u s' :=
    fun {σ' H' v u} J rv q => ⟨v, H', J.os, J.bare, J.base, J.hok, rv, q⟩
  cases fl with
  | ret u =>
    obtain ⟨v, σ', H', J, rv, q⟩ := hs
    exact fin J rv q
  | next =>
    obtain ⟨σ', H', J, q⟩ := hs
    exact fin (v := V.non) (u := Value.none) J rfl q
  | brk =>
    obtain ⟨_, _, _, q⟩ := hs
    exact False.elim q
  | cont =>
    obtain ⟨_, _, _, q⟩ := hs
    exact False.elim q
end L2

namespace L2
open PySem PySem.Spec PyProof.Rows
section
variable {X : Cx} {x : Str} {p pos : Pos} {e : Expr} {es : List Expr} {t : TA} {id T : String} {r : List V → Hp → VK → Prop}

def tCB (r : List V → Hp → VK → Prop) (t : TA) : TE := fun σ H Q => t σ H fun vs H1 => r vs H1 Q
/-- f(e, ..), f a built-in function -/
theorem pe_callB (hc : CallR X (.builtin id) r) (hg : Gl X x) (hm : X.mg x = none) (hv : bootBuiltins x = some (.builtin id)) (ha : PA X (e :: es) t) (hn : x ≠ "__name__" := by decide) (hdb : (x == ("__debug__" : Str)) = false := by decide)
    (he : starEach (e :: es) X.env = (false, eval e X.env) :: starEach es X.env := by rfl) (hpl : (backTo pos (starEach es X.env)).any (·.1) = false := by rfl) : PE X (.Call (.Name x p) (e :: es) [] pos) (tCB r t) := by
  intro pins s σ H Q I h
  refine wpAny_Call_Name_kw (ld_blt I hg hm hv ?_ hn hdb)
  exact PyProof.Rows.callWith_builtin1 (thn (ha pos pins s σ H _ I h) fun us s1 ⟨vs, H1, I1, r1, q1⟩ => hc pins s1 σ H1 vs us Q I1 r1 q1) he hpl
/-- T(e, ..), T a built-in type -/
theorem pe_callTy (hc : CallR X (.type T) r) (hg : Gl X x) (hm : X.mg x = none) (hv : bootBuiltins x = some (.type T)) (ha : PA X (e :: es) t) (hn : x ≠ "__name__" := by decide) (hdb : (x == ("__debug__" : Str)) = false := by decide)
    (he : starEach (e :: es) X.env = (false, eval e X.env) :: starEach es X.env := by rfl) (hpl : (backTo pos (starEach es X.env)).any (·.1) = false := by rfl) : PE X (.Call (.Name x p) (e :: es) [] pos) (tCB r t) := by
  intro pins s σ H Q I h
  refine wpAny_Call_Name_kw (ld_blt I hg hm hv ?_ hn hdb)
  exact PyProof.Rows.callWith_type1 (thn (ha pos pins s σ H _ I h) fun us s1 ⟨vs, H1, I1, r1, q1⟩ => hc pins s1 σ H1 vs us Q I1 r1 q1) he hpl
/-- T() -/
theorem pe_callTy0 (hc : CallR X (.type T) r) (hg : Gl X x) (hm : X.mg x = none) (hv : bootBuiltins x = some (.type T)) (hn : x ≠ "__name__" := by decide) (hdb : (x == ("__debug__" : Str)) = false := by decide) :
    PE X (.Call (.Name x p) [] [] pos) (tCB r tNil) := by
  intro pins s σ H Q I h
  refine wpAny_Call_Name_kw (ld_blt I hg hm hv ?_ hn hdb)
  exact PyProof.Rows.callWith_type0 (hc pins s σ H [] [] Q I .nil h)
end
end L2

namespace HT
open PySem PyProof.Rows

/-- t < u of tuples of ints -/
def lexLt : List Int → List Int → Bool
  | [], [] => false
  | [], _ :: _ => true
  | _ :: _, [] => false
  | x :: xs, y :: ys => if x = y then lexLt xs ys else decide (x < y)
theorem lexLt_cons (x y : Int) (xs ys : List Int) : lexLt (x :: xs) (y :: ys) = if x = y then lexLt xs ys else decide (x < y) := rfl
theorem lexLt_nil_nil : lexLt [] [] = false := rfl
theorem lexLt_nil_cons (y : Int) (ys : List Int) : lexLt [] (y :: ys) = true := rfl
theorem lexLt_cons_nil (x : Int) (xs : List Int) : lexLt (x :: xs) [] = false := rfl

theorem eqAt_int (A : Around) (s : Shared) (a : Int) (t : Tok) (c : Int) (u : Tok) : ∃ e, SeqAt.EqAt A s (.int a t) (.int c u) e ∧ (e = true ↔ a = c) :=
  ⟨(a == c), SeqAt.EqAt.int_int a t c u, by simp⟩
theorem rcLt_int (A : Around) (s : Shared) (a : Int) (t : Tok) (c : Int) (u : Tok) (prog : Program) (w : World) (E : Value → Shared → Prop) (Q : Value → Shared → Prop) (h : Q (.bool (decide (a < c))) s) :
    wpAny (model prog w) A (richCompare .Lt (.int a t) (.int c u)) Q E s :=
  (PyProof.Rows.lt_int h : wpAny (model prog w) A (compareOp .Lt (.int a t) (.int c u)) Q E s)

section
open PySem.SeqAt
open PySem.AutoSeq1 (wpAny_loadPart')
open PySem.MeetsSeq PySem.MeetsSeq2 PySem.MeetsSeq3

theorem tuple_lt_ints (l b : Addr) (items items2 : Array Value) (n n2 : Nat) (dd dd2 : Option Addr) (sl sl2 : Array (Option Value)) (ns ms : List Int) (hi : IntsAre items.toList ns) (hj : IntsAre items2.toList ms) :
    Meets (Builtin.«tuple.__lt__» ⟨[.ref l, .ref b], []⟩)
      (fun _ R s => s.heap.get? l = some { cls := .type "tuple", dict := dd, data := .seq items n, slots := sl } ∧ s.heap.get? b = some { cls := .type "tuple", dict := dd2, data := .seq items2 n2, slots := sl2 } ∧
        R (.ok (.ret (.bool (lexLt ns ms)))) s) :=
  .of_wp fun prog w A R s h => by
    obtain ⟨hp, g, d, tk, os⟩ := s; obtain ⟨hl, hb, h⟩ := h
    have f2 := AutoSeq1.sub_tuple_tuple
    have z1 : items.size = ns.length := by rw [← hi.length]; simp
    have z2 : items2.size = ms.length := by rw [← hj.length]; simp
    wp_walk using wpAny_loadPart' hl, wpAny_loadPart' hb, wpAny_forIn_list _ (fun rest b s' => b.1 = none ∧ s' = ⟨hp, g, d, tk, os⟩ ∧ ∃ (vs ws : List Value) (ns' ms' : List Int), rest = vs.zip ws ∧
      IntsAre vs ns' ∧ IntsAre ws ms' ∧ ns'.length + items2.size = ms'.length + items.size ∧ R (.ok (.ret (.bool (lexLt ns' ms')))) ⟨hp, g, d, tk, os⟩) _
    case turn =>
      rintro ⟨y, x⟩ rest b s' ⟨hb', rfl, vs, ws, ns', ms', hz, hvi, hwi, hlen, hR⟩
      cases hvi with
      | nil => rw [List.zip_nil_left] at hz; cases hz
      | cons a t hvi' =>
        cases hwi with
        | nil => rw [List.zip_nil_right] at hz; cases hz
        | cons c u hwi' =>
          rw [List.zip_cons_cons] at hz
          injection hz with hyx hrest
          injection hyx with hy hx
          subst hy hx
          rw [lexLt_cons] at hR
          simp only [List.length_cons] at hlen
          obtain ⟨e, he, hiff⟩ := eqAt_int A.in1 ⟨hp, g, d, tk, os⟩ a t c u
          refine wpAny_bind (he prog w _ _ ?_)
          cases e with
          | true =>
            rw [if_pos (hiff.mp rfl)] at hR
            wp_walk
            exact ⟨rfl, rfl, _, _, _, _, hrest, hvi', hwi', by omega, hR⟩
          | false =>
            rw [if_neg (fun q => absurd (hiff.mpr q) Bool.false_ne_true)] at hR
            have hri := rcLt_int A.in1 ⟨hp, g, d, tk, os⟩ a t c u prog w
            wp_walk using hri
            exact ⟨_, rfl, by simpa using hR⟩
    case fin =>
      rintro ⟨b1, b2⟩ s' ⟨hb', rfl, vs, ws, ns', ms', hz, hvi, hwi, hlen, hR⟩
      simp only at hb'
      subst hb'
      have hv : lexLt ns' ms' = decide (items.size < items2.size) := by
        cases hvi with
        | nil =>
          cases hwi with
          | nil =>
            simp only [List.length_nil] at hlen
            rw [lexLt_nil_nil]
            exact (decide_eq_false (by omega)).symm
          | cons c u hw =>
            simp only [List.length_nil, List.length_cons] at hlen
            rw [lexLt_nil_cons]
            exact (decide_eq_true (by omega)).symm
        | cons a t hv =>
          cases hwi with
          | nil =>
            simp only [List.length_nil, List.length_cons] at hlen
            rw [lexLt_cons_nil]
            exact (decide_eq_false (by omega)).symm
          | cons c u hw =>
            rw [List.zip_cons_cons] at hz
            cases hz
      rw [hv] at hR
      wp_walk
      exact ⟨_, rfl, by simpa [Builtin.Tuple.tupleCompareSizes] using hR⟩
    case h =>
      exact ⟨rfl, rfl, items.toList, items2.toList, ns, ms, rfl, hi, hj, by omega, h⟩
end

section
variable {prog : Program} {w : World} {A : Around} {E : Value → Shared → Prop} {s : Shared}

theorem lt_tupInts {l b : Addr} {items items2 : Array Value} {ns ms : List Int} {Q : Value → Shared → Prop} (hl : IsTup s.heap l items) (hb : IsTup s.heap b items2) (hi : IntsAre items.toList ns) (hj : IntsAre items2.toList ms)
    (hu : A.units < cLine) (h : Q (.bool (lexLt ns ms)) s) : wpAny (model prog w) A (compareOp .Lt (.ref l) (.ref b)) Q E s := by
  obtain ⟨⟨cls, dd, data, sl⟩, ho, hc, n, hd⟩ := id hl
  obtain ⟨⟨cls2, dd2, data2, sl2⟩, ho2, hc2, n2, hd2⟩ := id hb
  simp only at hc hd hc2 hd2
  subst hc hd hc2 hd2
  exact richCompare_meets_room (op := .Lt) ⟨_, ho, rfl⟩ ⟨_, ho2, rfl⟩ PySem.F.slot_tuple_lt PySem.F.entry_tuple_lt (PySem.F.args_tuple_lt_2 _ _) (tuple_lt_ints l b items items2 n n2 dd dd2 sl sl2 ns ms hi hj)
    ⟨ho, ho2, show Value.bool (lexLt ns ms) ≠ Value.notImplemented ∧ Q (.bool (lexLt ns ms)) s from ⟨(fun x => nomatch x), h⟩⟩ hu

/-- t + u, t not empty -/
theorem cat_tup {t b : Addr} {vs ws : List Value} {Q : Value → Shared → Prop} (ht : IsTup s.heap t vs.toArray) (hb : IsTup s.heap b ws.toArray) (hv : vs ≠ [])
    (h1 : ws = [] → Q (.ref t) s) (h2 : ws ≠ [] → Q (.ref s.heap.objs.size) { s with heap := s.heap.push { cls := .type "tuple", data := .seq (vs ++ ws).toArray } })
    (hsz : vs.length + ws.length ≤ sizeLine) : wpAny (model prog w) A (binaryOp .Add (.ref t) (.ref b)) Q E s := by
  obtain ⟨⟨cls, dd, data, sl⟩, ho, hc, n, hd⟩ := id ht
  obtain ⟨⟨cls2, dd2, data2, sl2⟩, ho2, hc2, n2, hd2⟩ := id hb
  simp only at hc hd hc2 hd2
  subst hc hd hc2 hd2
  have e : vs.toArray ++ ws.toArray = (vs ++ ws).toArray := by simp
  by_cases hw : ws = []
  · exact concat_meets ⟨_, ho, rfl⟩ ⟨_, ho2, rfl⟩ noFill_tuple_add seq_tuple_add PySem.F.slot_tuple_add PySem.F.entry_tuple_add (PySem.F.args_tuple_add_2 _ _)
      (tuple_addW1 t b vs.toArray ws.toArray n n2 dd dd2 sl sl2 (by simpa using hv) (by simp [hw])) ⟨ho, ho2, h1 hw⟩
  · refine concat_meets ⟨_, ho, rfl⟩ ⟨_, ho2, rfl⟩ noFill_tuple_add seq_tuple_add PySem.F.slot_tuple_add PySem.F.entry_tuple_add (PySem.F.args_tuple_add_2 _ _)
      (tuple_addW2 t b vs.toArray ws.toArray n n2 dd dd2 sl sl2 (by simpa using hv) (by simpa using hw) (by rw [List.size_toArray, List.size_toArray]; exact hsz)) ⟨ho, ho2, ?_⟩
    rw [e]
    exact h2 hw

/-! ### t[a:b], not the whole -/
/-- a slice's bound as a place among n (d where it is left out) -/
def sIx (n d : Nat) : Option Int → Nat
  | none => d
  | some v => if v < 0 then (v + (n : Int)).toNat else min v.toNat n
theorem sIx_none (n d : Nat) : sIx n d none = d := rfl
theorem sIx_nat (n d k : Nat) : sIx n d (some (k : Int)) = min k n := by
  show (if (k : Int) < 0 then ((k : Int) + (n : Int)).toNat else min (k : Int).toNat n) = min k n
  rw [if_neg (by omega), Int.toNat_natCast]
theorem sIx_le (n d : Nat) (hd : d ≤ n) (o : Option Int) : sIx n d o ≤ n := by
  cases o with
  | none => exact hd
  | some v =>
    show (if v < 0 then (v + (n : Int)).toNat else min v.toNat n) ≤ n
    by_cases hv : v < 0
    · rw [if_pos hv]; omega
    · rw [if_neg hv]; exact Nat.min_le_right _ _
theorem clip_eq (v : Int) (n d : Nat) : (if v < 0 then max (v + (n : Int)) 0 else min v (n : Int)) = ((sIx n d (some v) : Nat) : Int) := by
  show (if v < 0 then max (v + (n : Int)) 0 else min v (n : Int)) = (((if v < 0 then (v + (n : Int)).toNat else min v.toNat n) : Nat) : Int)
  by_cases hv : v < 0
  · simp only [if_pos hv]; omega
  · simp only [if_neg hv]; omega
theorem adjust_gen (lo hi : Option Int) (n : Nat) : Builtin.Slice.sliceAdjust lo hi 1 (n : Int) = (((sIx n 0 lo : Nat) : Int), ((sIx n n hi : Nat) : Int)) := by
  have h1 : ¬ ((1 : Int) < 0) := by omega
  unfold Builtin.Slice.sliceAdjust
  simp only [h1, if_false]
  refine Prod.ext ?_ ?_
  · cases lo with
    | none => rfl
    | some v => exact clip_eq v n 0
  · cases hi with
    | none => rfl
    | some v => exact clip_eq v n n
theorem places_gen (i j : Nat) : Builtin.Slice.slicePlaces (i : Int) (j : Int) 1 = j - i := by
  unfold Builtin.Slice.slicePlaces
  have h1 : (1 : Int) > 0 := by omega
  simp only [h1, if_true, Int.ediv_one]
  split <;> omega
theorem slicePart_ {v : Value} {o : Option Int} {Q : Option Int → Shared → Prop} (p : IsPart v o) (h : Q o s) : wpAny (model prog w) A (Builtin.Slice.slicePartIndex v) Q E s := by
  cases p with
  | none => exact slicePart_none h
  | int i t => exact slicePart_int h
theorem sliceApplied_gen {sl : Addr} {vl vu : Value} {lo hi : Option Int} {n : Nat} {Q : Int × Int × Nat → Shared → Prop} (hs : s.heap.IsSliceOf sl vl vu .none) (pl : IsPart vl lo) (pu : IsPart vu hi)
    (h : Q (((sIx n 0 lo : Nat) : Int), 1, sIx n n hi - sIx n 0 lo) s) : wpAny (model prog w) A (Builtin.Slice.sliceApplied (.ref sl) (pure (n : Int))) Q E s := by
  obtain ⟨os, hos, hcs, hds⟩ := id hs
  unfold Builtin.Slice.sliceApplied Builtin.Slice.sliceFields
  refine wpAny_bind (wpAny_bind (wpAny_field hos hds (x := vl) rfl (wpAny_bind (wpAny_field hos hds (x := vu) rfl (wpAny_bind (wpAny_field hos hds (x := .none) rfl (wpAny_pure ?_)))))))
  refine wpAny_bind (slicePart_none ?_)
  show wpAny _ _ (if ((1 : Int) == 0) = true then _ else _) _ _ s
  rw [if_neg (by decide)]
  refine wpAny_bind (slicePart_ pl (wpAny_bind (slicePart_ pu (wpAny_bind (wpAny_pure ?_)))))
  show wpAny _ _ (match Builtin.Slice.sliceAdjust lo hi 1 (n : Int) with | (lo, hi) => pure (lo, (1 : Int), Builtin.Slice.slicePlaces lo hi 1)) _ _ s
  rw [adjust_gen lo hi n]
  show wpAny _ _ (pure (((sIx n 0 lo : Nat) : Int), (1 : Int), Builtin.Slice.slicePlaces ((sIx n 0 lo : Nat) : Int) ((sIx n n hi : Nat) : Int) 1)) _ _ s
  rw [places_gen]
  exact wpAny_pure h
theorem pick_gen (xs : Array Value) (i k : Nat) : ((List.range k).filterMap fun (m : Nat) => xs[((i : Int) + (m : Int) * 1).toNat]?).toArray = ((xs.toList.drop i).take k).toArray := by
  have e : (fun (m : Nat) => xs[((i : Int) + (m : Int) * 1).toNat]?) = fun m => xs[i + m]? := by
    funext m
    have : ((i : Int) + (m : Int) * 1).toNat = i + m := by omega
    rw [this]
  rw [e]
  have := pick_run xs i k
  rw [List.filterMap_map] at this
  have e2 : ((fun x => xs[x]?) ∘ fun x => i + x) = fun m => xs[i + m]? := rfl
  rw [e2] at this
  rw [this]

theorem getItem_tuple_cut {t sl : Addr} {items : Array Value} {vl vu : Value} {lo hi : Option Int} {Q : Value → Shared → Prop} (ht : IsTup s.heap t items) (hs : s.heap.IsSliceOf sl vl vu .none) (pl : IsPart vl lo) (pu : IsPart vu hi)
    (hw : ¬ (sIx items.size 0 lo = 0 ∧ sIx items.size items.size hi = items.size))
    (h : Q (.ref s.heap.objs.size) { s with heap := s.heap.push { cls := .type "tuple", data := .seq ((items.toList.drop (sIx items.size 0 lo)).take (sIx items.size items.size hi - sIx items.size 0 lo)).toArray } })
    (hsz : items.size ≤ sizeLine) : wpAny (model prog w) A (getItem (.ref t) (.ref sl)) Q E s := by
  have htake : sizeOk (.seq ((items.toList.drop (sIx items.size 0 lo)).take (sIx items.size items.size hi - sIx items.size 0 lo)).toArray) := by
    show ((items.toList.drop (sIx items.size 0 lo)).take (sIx items.size items.size hi - sIx items.size 0 lo)).toArray.size ≤ sizeLine
    rw [List.size_toArray, List.length_take, List.length_drop, Array.length_toList]
    omega
  have hj : sIx items.size items.size hi ≤ items.size := sIx_le _ _ (Nat.le_refl _) hi
  obtain ⟨os, hos, hcs, hds⟩ := id hs
  have hTs : s.TypeIs (.ref sl) "slice" := ⟨os, hos, hcs⟩
  unfold getItem
  try with_reducible refine wpAny_holding ?_
  first | refine wpAny_bind (wpAny_pure ?_) | skip
  refine wpAny_bind (wpAny_sequenceKey ht.typeIs (by decide) ?_)
  refine wpAny_bind (wpAny_callSpecial?_slot (name := Str.ofString "__getitem__") ht.typeIs PyProof.Rows.slot_tuple_getitem
    (wpAny_call_entry PyProof.Rows.slot_tuple_getitem ht.typeIs entry_tuple_getitem ?_ (args_tuple_getitem _ _)))
  show wpAny _ _ (Builtin.Tuple.tupleItemsOf (.ref t) >>= _) _ _ s
  refine wpAny_bind (tupleItemsOf_ ht ?_)
  refine wpAny_bind (wpAny_typeOf hTs ?_)
  rw [if_pos (by decide)]
  refine wpAny_bind (sliceApplied_gen hs pl pu ?_)
  have hno : ¬ ((((sIx items.size 0 lo : Nat) : Int) == 0 && (1 : Int) == 1 && (sIx items.size items.size hi - sIx items.size 0 lo) == items.size) = true) := by
    intro q
    rw [Bool.and_eq_true, Bool.and_eq_true] at q
    have q1 : ((sIx items.size 0 lo : Nat) : Int) = 0 := eq_of_beq q.1.1
    have q2 : sIx items.size items.size hi - sIx items.size 0 lo = items.size := eq_of_beq q.2
    exact hw ⟨by omega, by omega⟩
  show wpAny _ _ (if (((sIx items.size 0 lo : Nat) : Int) == 0 && (1 : Int) == 1 && (sIx items.size items.size hi - sIx items.size 0 lo) == items.size) = true then _ else _) _ _ s
  rw [if_neg hno, pick_gen]
  first
    | exact wpAny_bind (m := Builtin.Tuple.tupleExact _) (wpAny_newObj_type (wpAny_pure ⟨_, rfl, wpAny_pure h⟩) htake)
    | exact wpAny_bind (m := Builtin.Tuple.tupleExact _) (wpAny_newObj_type (wpAny_bind (wpAny_pure (wpAny_pure ⟨_, rfl, wpAny_pure h⟩))) htake)
    | exact wpAny_bind (wpAny_bind (m := Builtin.Tuple.tupleExact _) (wpAny_newObj_type (wpAny_pure (wpAny_pure ⟨_, rfl, wpAny_pure h⟩)) htake))
    | exact wpAny_bind (wpAny_bind (m := Builtin.Tuple.tupleExact _) (wpAny_newObj_type (wpAny_pure ⟨_, rfl, wpAny_pure h⟩) htake))
end
end HT

namespace L2
open PySem PySem.Spec PyProof.Rows

/-! ### the parts of a slice -/
abbrev TO := St → Hp → (Option Int → Hp → Prop) → Prop
/-- a slice's part (left out, or an int) -/
def PO (X : Cx) (e : Option Expr) (t : TO) : Prop :=
  ∀ (pins : List (Addr × Obj)) (s : Shared) (σ : St) (H : Hp) (Q : Option Int → Hp → Prop), Inv X pins σ H s → t σ H Q →
    wpAny (model X.prog X.w) X.A (evalPart e X.env) (fun u s' => ∃ o H', Inv X pins σ H' s' ∧ IsPart u o ∧ Q o H') X.xe s
def tNoPart : TO := fun _ H Q => Q none H
def tPart (t : TE) : TO := fun σ H Q => t σ H fun x H1 => ∃ i, x = .int i ∧ Q (some i) H1

theorem intsAre_of {ns : List Int} : ∀ {us : List Value}, Vals (ns.map V.int) us → IntsAre us ns := by
  induction ns with
  | nil => intro us r; rw [List.map_nil] at r; cases r; exact .nil
  | cons n ns ih =>
    intro us r
    rw [List.map_cons] at r
    cases r with
    | cons r1 r2 =>
      obtain ⟨t, e⟩ := r1
      subst e
      exact .cons n t (ih r2)

section
variable {X : Cx} {e : Expr} {te : TE} {lo hi : Option Expr} {tl th : TO} {pos p2 : Pos}

theorem po_none : PO X none tNoPart := by
  intro pins s σ H Q I h
  rw [evalPart_none]
  exact wpAny_pure ⟨none, H, I, .none, h⟩
theorem po_some (h : PE X e te) : PO X (some e) (tPart te) := by
  intro pins s σ H Q I hw
  rw [evalPart_some]
  refine thn (h pins s σ H _ I hw) fun u s1 ⟨x, H1, I1, r1, q1⟩ => ?_
  obtain ⟨i, rfl, q⟩ := q1
  obtain ⟨t, rfl⟩ := r1
  exact ⟨some i, H1, I1, .int i t, q⟩

/-- what a slice of a value is, by values: the slice object stands at sl -/
def SlR (X : Cx) (r : V → Option Int → Option Int → Hp → VK → Prop) : Prop :=
  ∀ (pins : List (Addr × Obj)) (s : Shared) (σ : St) (H : Hp) (x : V) (v vl vu : Value) (lo hi : Option Int) (sl : Addr) (Q : VK), Inv X pins σ H s → RelV x v → s.heap.IsSliceOf sl vl vu .none → IsPart vl lo → IsPart vu hi → r x lo hi H Q →
    ∃ T id, typeLookup (.type T) "__getitem__" = pure (some (.builtin id)) ∧ s.TypeIs v T ∧ wpAny (model X.prog X.w) X.A (getItem v (.ref sl)) (EP X pins σ Q) X.xe s
theorem SlR.or {r r' : V → Option Int → Option Int → Hp → VK → Prop} (h : SlR X r) (h' : SlR X r') : SlR X (fun x lo hi H Q => r x lo hi H Q ∨ r' x lo hi H Q) := by
  intro pins s σ H x v vl vu lo hi sl Q I rx hs pl pu q
  rcases q with q | q
  · exact h pins s σ H x v vl vu lo hi sl Q I rx hs pl pu q
  · exact h' pins s σ H x v vl vu lo hi sl Q I rx hs pl pu q
def tSl (r : V → Option Int → Option Int → Hp → VK → Prop) (te : TE) (tl th : TO) : TE := fun σ H Q => te σ H fun x H1 => tl σ H1 fun l H2 => th σ H2 fun u H3 => r x l u H3 Q
/-- a[lo:hi], any a -/
theorem pe_slice {r : V → Option Int → Option Int → Hp → VK → Prop} (hr : SlR X r) (he : PE X e te) (hl : PO X lo tl) (hu : PO X hi th) : PE X (.Subscript e (.Slice lo hi none p2) pos) (tSl r te tl th) := by
  intro pins s σ H Q I h
  refine Subscript_ (thn (he pins s σ H _ I h) fun v s1 ⟨x, H1, I1, r1, q1⟩ => ?_)
  refine wpAny_Slice (thn (hl pins s1 σ H1 _ I1 q1) fun vl s2 ⟨l, H2, I2, pl, q2⟩ => thn (hu pins s2 σ H2 _ I2 q2) fun vu s3 ⟨u, H3, I3, pu, q3⟩ => ?_)
  rw [evalPart_none]
  refine wpAny_pure ?_
  have I4 : Inv X pins σ H3 { s3 with heap := s3.heap.push { cls := .type "slice", data := .fields #[vl, vu, .none] } } := I3.kept (t' := s3.toks) fun b ob q => Heap.get?_push_of_some _ q
  obtain ⟨T, id, hT, ht, hg⟩ := hr pins { s3 with heap := s3.heap.push { cls := .type "slice", data := .fields #[vl, vu, .none] } } σ H3 x v vl vu l u s3.heap.objs.size Q I4 r1 (Heap.IsSliceOf.new ..) pl pu q3
  show wpAny (model X.prog X.w) X.A (subscriptTail e (.Slice lo hi none p2) v (.ref s3.heap.objs.size)) (EP X pins σ Q) X.xe { s3 with heap := s3.heap.push { cls := .type "slice", data := .fields #[vl, vu, .none] } }
  exact tail_any (ops := [.ref s3.heap.objs.size, v]) ht hT hg (by with_unfolding_all rfl)

/-- the items of xs[lo:hi] -/
def cutV (xs : List V) (lo hi : Option Int) : List V := (xs.drop (HT.sIx xs.length 0 lo)).take (HT.sIx xs.length xs.length hi - HT.sIx xs.length 0 lo)
theorem cutV_length (xs : List V) (lo hi : Option Int) : (cutV xs lo hi).length ≤ xs.length := by
  unfold cutV
  rw [List.length_take, List.length_drop]
  omega
/-- t[lo:hi], not the whole of it (the whole would be t itself) -/
def rSlT (K : PySem.W.Frag) : V → Option Int → Option Int → Hp → VK → Prop := fun x lo hi H Q => ∃ a xs, x = .ref a ∧ SqT K H a xs ∧
  ¬ (HT.sIx xs.length 0 lo = 0 ∧ HT.sIx xs.length xs.length hi = xs.length) ∧ ∀ p, H p = none → Q (.ref p) (upd H p (.tup (cutV xs lo hi)))
theorem sl_tup : SlR X (rSlT X.K) := by
  intro pins s σ H x v vl vu lo hi sl Q I rx hs pl pu h
  obtain ⟨a, xs, rfl, hx, hw, q⟩ := h
  cases rx
  obtain ⟨its, r, ht, hz⟩ := I.tuple hx
  have hlen : its.toArray.size = xs.length := by rw [List.size_toArray]; exact r.length.symm
  refine ⟨"tuple", _, PyProof.Rows.slot_tuple_getitem.lookup, ht.typeIs, ?_⟩
  refine HT.getItem_tuple_cut ht hs pl pu (by rw [hlen]; exact hw) ?_ (by rw [hlen]; exact hz)
  rw [hlen]
  refine ⟨.ref s.heap.objs.size, _, I.laid (t' := s.toks) (o := .tup (cutV xs lo hi)) (fun b ob q => Heap.get?_push_of_some _ q) (Nat.le_refl _) ?_, rfl, q _ (I.hok.fresh (Nat.le_refl _))⟩
  exact ⟨Nat.le_trans (cutV_length xs lo hi) hz, _, (r.drop (HT.sIx xs.length 0 lo)).take (HT.sIx xs.length xs.length hi - HT.sIx xs.length 0 lo), IsTup.new _ _⟩

/-! ### t < u, t + u -/
def rLtT (K : PySem.W.Frag) : R2 := fun x y H Q => ∃ a b ns ms, x = .ref a ∧ y = .ref b ∧ SqT K H a (ns.map V.int) ∧ SqT K H b (ms.map V.int) ∧ Q (.bl (HT.lexLt ns ms)) H
theorem op_ltT (hu : X.A.units < cLine) : OpR X (compareOp .Lt) (rLtT X.K) := by
  intro pins s σ H x y v u Q I rx ry h
  obtain ⟨a, b, ns, ms, rfl, rfl, ha, hb, q⟩ := h
  cases rx
  cases ry
  obtain ⟨its, r1, p1, _⟩ := I.tuple ha
  obtain ⟨its2, r2, p2, _⟩ := I.tuple hb
  have i1 : IntsAre its.toArray.toList ns := intsAre_of r1
  have i2 : IntsAre its2.toArray.toList ms := intsAre_of r2
  exact HT.lt_tupInts p1 p2 i1 i2 hu ⟨.bl (HT.lexLt ns ms), H, I, rfl, q⟩
/-- t + u, t not empty: u empty gives t itself -/
def rCatT (K : PySem.W.Frag) : R2 := fun x y H Q => ∃ a b xs ys, x = .ref a ∧ y = .ref b ∧ SqT K H a xs ∧ SqT K H b ys ∧ xs ≠ [] ∧ xs.length + ys.length ≤ sizeLine ∧
  (ys = [] → Q (.ref a) H) ∧ (ys ≠ [] → ∀ p, H p = none → Q (.ref p) (upd H p (.tup (xs ++ ys))))
theorem Vals.nil_iff {xs : List V} {us : List Value} (r : Vals xs us) : us = [] ↔ xs = [] := by
  cases r with
  | nil => simp
  | cons _ _ => simp
theorem op_catT : OpR X (binaryOp .Add) (rCatT X.K) := by
  intro pins s σ H x y v u Q I rx ry h
  obtain ⟨a, b, xs, ys, rfl, rfl, ha, hb, hx, hz, q1, q2⟩ := h
  cases rx
  cases ry
  obtain ⟨its, r1, p1, _⟩ := I.tuple ha
  obtain ⟨its2, r2, p2, _⟩ := I.tuple hb
  refine HT.cat_tup p1 p2 (fun z => hx (r1.nil_iff.mp z)) (fun z => ⟨.ref a, H, I, rfl, q1 (r2.nil_iff.mp z)⟩) (fun z => ?_) (by rw [← r1.length, ← r2.length]; exact hz)
  refine ⟨.ref s.heap.objs.size, _, I.laid (t' := s.toks) (o := .tup (xs ++ ys)) (fun b ob q => Heap.get?_push_of_some _ q) (Nat.le_refl _) ?_, rfl, q2 (fun w => z (r2.nil_iff.mpr w)) _ (I.hok.fresh (Nat.le_refl _))⟩
  exact ⟨by rw [List.length_append]; exact hz, _, r1.append r2, IsTup.new _ _⟩
/-- tuple(t) -/
theorem call_tupleT : CallR X (.type "tuple") (fun xs H Q => ∃ a ys, xs = [.ref a] ∧ SqT X.K H a ys ∧ Q (.ref a) H) := by
  intro pins s σ H xs us Q I r h
  obtain ⟨a, ys, rfl, ha, q⟩ := h
  obtain ⟨u, rfl, ru⟩ := vals1 r
  cases ru
  obtain ⟨its, _, p1, _⟩ := I.tuple ha
  exact call_tuple_same (items := its.toArray) p1 ⟨.ref a, H, I, rfl, q⟩
end
end L2

namespace L2
open PySem PySem.Spec PyProof.Rows

/-! ### places -/
/-- the place that an index of any sign means -/
def ixN (n : Nat) (i : Int) : Option Nat := if 0 ≤ i then (if i < n then some i.toNat else none) else if -(n : Int) ≤ i then some (i + n).toNat else none
def atI {α : Type} (xs : List α) (i : Int) : Option α := (ixN xs.length i).bind fun j => xs[j]?
theorem ixN_seq {n : Nat} {i : Int} {j : Nat} (h : ixN n i = some j) : seqIndex? i n = some j ∧ j < n ∧ -(n : Int) ≤ i ∧ i < n := by
  unfold ixN at h
  by_cases h0 : 0 ≤ i
  · rw [if_pos h0] at h
    by_cases h1 : i < n
    · rw [if_pos h1] at h
      have e : i.toNat = j := Option.some.inj h
      exact ⟨by rw [seqIndex_of h0 h1, e], by omega, by omega, h1⟩
    · rw [if_neg h1] at h; cases h
  · rw [if_neg h0] at h
    by_cases h1 : -(n : Int) ≤ i
    · rw [if_pos h1] at h
      have e : (i + n).toNat = j := Option.some.inj h
      exact ⟨by rw [seqIndex_neg (by omega) h1, e], by omega, h1, by omega⟩
    · rw [if_neg h1] at h; cases h
theorem atI_get {α : Type} {xs : List α} {i : Int} {v : α} (h : atI xs i = some v) : ∃ j, seqIndex? i xs.length = some j ∧ xs[j]? = some v ∧ j < xs.length ∧ -(xs.length : Int) ≤ i ∧ i < xs.length := by
  unfold atI at h
  cases e : ixN xs.length i with
  | none => rw [e] at h; cases h
  | some j =>
    rw [e] at h
    obtain ⟨h1, h2, h3, h4⟩ := ixN_seq e
    exact ⟨j, h1, h, h2, h3, h4⟩
theorem atI_nat {α : Type} {xs : List α} {j : Nat} {v : α} (h : xs[j]? = some v) : atI xs (j : Int) = some v := by
  have hj : j < xs.length := (List.getElem?_eq_some_iff.mp h).1
  have e : ixN xs.length (j : Int) = some j := by
    unfold ixN
    rw [if_pos (by omega), if_pos (by omega)]; simp
  unfold atI; rw [e]; exact h
theorem atI_last {α : Type} (xs : List α) (v : α) : atI (xs ++ [v]) (-1) = some v := by
  have hl : (xs ++ [v]).length = xs.length + 1 := by simp
  have e : ixN (xs ++ [v]).length (-1) = some xs.length := by
    unfold ixN
    rw [hl, if_neg (by decide), if_pos (by omega)]
    congr 1
    omega
  unfold atI
  rw [e]
  show (xs ++ [v])[xs.length]? = some v
  simp

/-! ### what may be subscripted -/
/-- what stands as an index of a plain subscript -/
def PlainIx (b : Expr) : Prop := ∀ o i, subscripted b false o i = operate [o, i] (getItem o i)
/-- a subscript by values -/
def IxR (X : Cx) (r : R2) : Prop :=
  ∀ (value slice : Expr) (pins : List (Addr × Obj)) (s : Shared) (σ : St) (H : Hp) (x y : V) (v u : Value) (Q : VK), Inv X pins σ H s → RelV x v → RelV y u → r x y H Q →
    subscripted slice false v u = operate [v, u] (getItem v u) → wpAny (model X.prog X.w) X.A (subscriptTail value slice v u) (EP X pins σ Q) X.xe s
/-- a call of a builtin's method by values: the receiver, the arguments -/
def MtR (X : Cx) (id : String) (r : V → List V → Hp → VK → Prop) : Prop :=
  ∀ (pins : List (Addr × Obj)) (s : Shared) (σ : St) (H : Hp) (x : V) (xs : List V) (v : Value) (us : List Value) (Q : VK), Inv X pins σ H s → RelV x v → Vals xs us → r x xs H Q →
    wpAny (model X.prog X.w) X.A (call (.builtin id) (v :: us)) (EP X pins σ Q) X.xe s
section
variable {X : Cx} {a b : Expr} {ta tb : TE} {pos : Pos}
theorem IxR.or {r r' : R2} (h : IxR X r) (h' : IxR X r') : IxR X (fun x y H Q => r x y H Q ∨ r' x y H Q) := by
  intro value slice pins s σ H x y v u Q I rx ry q hs
  rcases q with q | q
  · exact h value slice pins s σ H x y v u Q I rx ry q hs
  · exact h' value slice pins s σ H x y v u Q I rx ry q hs
theorem MtR.or {id : String} {r r' : V → List V → Hp → VK → Prop} (h : MtR X id r) (h' : MtR X id r') : MtR X id (fun x xs H Q => r x xs H Q ∨ r' x xs H Q) := by
  intro pins s σ H x xs v us Q I rx rs q
  rcases q with q | q
  · exact h pins s σ H x xs v us Q I rx rs q
  · exact h' pins s σ H x xs v us Q I rx rs q
/-- a[b] -/
theorem pe_ix {r : R2} (hr : IxR X r) (ha : PE X a ta) (hb : PE X b tb) (hs : PlainIx b) : PE X (.Subscript a b pos) (tOp r ta tb) := by
  intro pins s σ H Q I h
  exact Subscript_ (binT ha hb I h fun v u s2 x y H2 I2 rx ry q => hr a b pins s2 σ H2 x y v u Q I2 rx ry q (hs _ _))

def rIxL (K : PySem.W.Frag) : R2 := fun x y H Q => ∃ p xs i v, x = .ref p ∧ y = .int i ∧ SqL K H p xs ∧ atI xs i = some v ∧ Q v H
def rIxT (K : PySem.W.Frag) : R2 := fun x y H Q => ∃ p xs i v, x = .ref p ∧ y = .int i ∧ SqT K H p xs ∧ atI xs i = some v ∧ Q v H
def rIxS : R2 := fun x y H Q => ∃ z i c, x = .str z ∧ y = .int i ∧ z.length ≤ sizeLine ∧ atI z.cps.toList i = some c ∧ Q (.str ⟨#[c]⟩) H
theorem ix_list : IxR X (rIxL X.K) := by
  intro value slice pins s σ H x y v u Q I rx ry h hs
  obtain ⟨p, xs, i, z, rfl, rfl, hq, he, q⟩ := h
  cases rx
  obtain ⟨t, rfl⟩ := ry
  obtain ⟨its, r, pl, hz⟩ := I.list hq
  obtain ⟨j, h1, h2, h3, h4, h5⟩ := atI_get he
  obtain ⟨w, ew, rw'⟩ := r.get h2
  have hl := r.length
  have hn := line63
  have fin : EP X pins σ Q w s := ⟨z, H, I, rw', q⟩
  by_cases h0 : 0 ≤ i
  · have hj : i.toNat = j := by
      rw [seqIndex_of h0 h5] at h1
      exact Option.some.inj h1
    exact item_listR pl.isList h0 (by omega) (by rw [hj]; simpa using ew) fin hs
  · have hj : (i + (its.toArray.size : Int)).toNat = j := by
      rw [seqIndex_neg (by omega) h4] at h1
      rw [List.size_toArray, ← hl]
      exact Option.some.inj h1
    exact subscriptTail_builtinR (x := w) pl.isList.typeIs slot_list_getitem.lookup
      (wpAny_getItem_list_neg (Q := fun r s' => r = w ∧ EP X pins σ Q r s') pl.isList (by omega) (by rw [List.size_toArray] <;> omega) (by omega) (by rw [hj]; simpa using ew) ⟨rfl, fin⟩) hs
theorem ix_tup : IxR X (rIxT X.K) := by
  intro value slice pins s σ H x y v u Q I rx ry h hs
  obtain ⟨p, xs, i, z, rfl, rfl, hq, he, q⟩ := h
  cases rx
  obtain ⟨t, rfl⟩ := ry
  obtain ⟨its, r, pl, hz⟩ := I.tuple hq
  obtain ⟨j, h1, h2, h3, h4, h5⟩ := atI_get he
  obtain ⟨w, ew, rw'⟩ := r.get h2
  have hl := r.length
  have hn := line63
  have fin : EP X pins σ Q w s := ⟨z, H, I, rw', q⟩
  exact subscriptTail_builtinR (x := w) pl.typeIs slot_tuple_getitem.lookup
    (getItem_tuple (j := j) (Q := fun r s' => r = w ∧ EP X pins σ Q r s') pl (by omega) (by omega) (by rw [List.size_toArray, ← hl]; exact h1) (by simpa using ew) ⟨rfl, fin⟩) hs
theorem ix_str : IxR X rIxS := by
  intro value slice pins s σ H x y v u Q I rx ry h hs
  obtain ⟨z, i, c, rfl, rfl, hz, he, q⟩ := h
  obtain ⟨t, rfl⟩ := rx
  obtain ⟨t', rfl⟩ := ry
  obtain ⟨j, h1, h2, h3, h4, h5⟩ := atI_get he
  have hl : z.cps.toList.length = z.length := by simp [Str.length]
  rw [hl] at h1 h4 h5
  have hn := line63
  exact tail_any (typeIs_str s z t) slot_str_getitem.lookup (getItem_str (c := c) (by
    have e1 : decide (i < -(2 ^ 63 : Int)) = false := decide_eq_false (by omega)
    have e2 : decide (i ≥ 2 ^ 63) = false := decide_eq_false (by omega)
    rw [e1, e2, Bool.or_false]) (by rw [h1]; simpa using h2) ⟨.str ⟨#[c]⟩, H, I.tok _, ⟨_, rfl⟩, q⟩) hs
/-- list, tuple or str -/
def rIx (K : PySem.W.Frag) : R2 := fun x y H Q => rIxL K x y H Q ∨ rIxT K x y H Q ∨ rIxS x y H Q
theorem ix_seq : IxR X (rIx X.K) := ix_list.or (ix_tup.or ix_str)

/-! ### xs[i] = v, any sign -/
/-- the list's object behind a store -/
theorem mapSeq_set (its : List Value) (n j : Nat) (u : Value) : Obj.mapSeq (·.setIfInBounds j u) { cls := .type "list", data := .seq its.toArray n } = { cls := .type "list", data := .seq (its.set j u).toArray n } := by
  simp [Obj.mapSeq]
theorem Inv.lst {pins : List (Addr × Obj)} {σ : St} {H : Hp} {s : Shared} {p : Addr} {xs : List V} (I : Inv X pins σ H s) (h : H p = some (.lst xs)) :
    ∃ (its : List Value) (n : Nat), Vals xs its ∧ s.heap.get? p = some { cls := .type "list", data := .seq its.toArray n } ∧ xs.length ≤ sizeLine := by
  obtain ⟨z, its, n, r, e⟩ := I.hok p _ h
  exact ⟨its, n, r, e, z⟩
/-- the list at p is written by an update of its object -/
theorem Inv.lstUpd {pins : List (Addr × Obj)} {σ : St} {H : Hp} {s : Shared} {p : Addr} {xs ys : List V} {its its' : List Value} {n n' : Nat} {f : Obj → Obj} (I : Inv X pins σ H s) (h : H p = some (.lst xs))
    (ho : s.heap.get? p = some { cls := .type "list", data := .seq its.toArray n }) (hf : f { cls := .type "list", data := .seq its.toArray n } = { cls := .type "list", data := .seq its'.toArray n' }) (r : Vals ys its') (hz : ys.length ≤ sizeLine) (t : Nat) :
    Inv X pins σ (upd H p (.lst ys)) { s with heap := s.heap.update p f, toks := t } := by
  have e : (s.heap.update p f).get? p = some { cls := .type "list", data := .seq its'.toArray n' } := by
    rw [Heap.get?_update_self f ho (by rw [hf] <;> rfl), hf]
  refine I.write (x := p) (e := p) (by rw [h]; trivial) (.inl rfl) (fun b u hb q => (Heap.get?_update_other _ _ (Ne.symm hb)).trans q) ⟨_, e⟩ ?_
  exact ⟨hz, its', n', r, e⟩
def rSetL : V → V → V → Hp → (Hp → Prop) → Prop := fun o i v H Q => ∃ p xs k j, o = .ref p ∧ i = .int k ∧ H p = some (.lst xs) ∧ ixN xs.length k = some j ∧ Q (upd H p (.lst (xs.set j v)))
theorem set_list : PSet X rSetL := by
  intro pins s σ H o i v ov iv u Q I ro ri rv h
  obtain ⟨p, xs, k, j, rfl, rfl, hp, hj, q⟩ := h
  cases ro
  obtain ⟨t, rfl⟩ := ri
  obtain ⟨its, n, r, ho, hz⟩ := I.lst hp
  obtain ⟨h1, h2, h3, h4⟩ := ixN_seq hj
  have hl := r.length
  have hn := line63
  have I' : Inv X pins σ (upd H p (.lst (xs.set j v))) { s with heap := s.heap.update p (Obj.mapSeq (·.setIfInBounds j u)) } :=
    I.lstUpd hp ho (mapSeq_set its n j u) (r.set rv j) (by rw [List.length_set]; exact hz) s.toks
  by_cases h0 : 0 ≤ k
  · have hk : k.toNat = j := by
      rw [seqIndex_of h0 h4] at h1
      exact Option.some.inj h1
    exact PySem.W.ki_setAt ho h0 (by omega) (by rw [List.size_toArray, ← hl]; exact h4) (by rw [hk]; exact ⟨_, I', q⟩)
  · have hk : (k + (its.toArray.size : Int)).toNat = j := by
      rw [seqIndex_neg (by omega) h3] at h1
      rw [List.size_toArray, ← hl]
      exact Option.some.inj h1
    exact PySem.W.ki_setBack ho (by omega) (by rw [List.size_toArray, ← hl]; exact h3) (by omega) (by rw [hk]; exact ⟨_, I', q⟩)

/-! ### slices -/
theorem slice_bounds (lo hi : Option Int) (n : Nat) : (sliceBounds lo hi none n).1 = ((HT.sIx n 0 lo : Nat) : Int) ∧ (sliceBounds lo hi none n).2.1 = ((HT.sIx n n hi : Nat) : Int) ∧ (sliceBounds lo hi none n).2.2 = 1 := by
  refine ⟨?_, ?_, rfl⟩
  · cases lo with
    | none => simp [sliceBounds, HT.sIx]
    | some i =>
      simp only [sliceBounds, HT.sIx, Option.getD_none, show (1 : Int) > 0 by decide, if_true]
      by_cases h : i < 0
      · simp only [h, if_true] <;> omega
      · simp only [h, if_false] <;> omega
  · cases hi with
    | none => simp [sliceBounds, HT.sIx]
    | some i =>
      simp only [sliceBounds, HT.sIx, Option.getD_none, show (1 : Int) > 0 by decide, if_true]
      by_cases h : i < 0
      · simp only [h, if_true] <;> omega
      · simp only [h, if_false] <;> omega
theorem slicePick_cut (its : List Value) (lo hi : Option Int) : slicePick its.toArray lo hi none = ((its.drop (HT.sIx its.length 0 lo)).take (HT.sIx its.length its.length hi - HT.sIx its.length 0 lo)).toArray := by
  obtain ⟨h1, h2, h3⟩ := slice_bounds lo hi its.toArray.size
  unfold slicePick
  rw [h1, h2, h3]
  simp only [sliceRange_one, pick_run, List.size_toArray] <;> rfl
/-- xs[lo:hi] of a list: a new list -/
def rSlL (K : PySem.W.Frag) : V → Option Int → Option Int → Hp → VK → Prop := fun x lo hi H Q => ∃ a xs, x = .ref a ∧ SqL K H a xs ∧ ∀ p, H p = none → Q (.ref p) (upd H p (.lst (cutV xs lo hi)))
theorem sl_list : SlR X (rSlL X.K) := by
  intro pins s σ H x v vl vu lo hi sl Q I rx hs pl pu h
  obtain ⟨a, xs, rfl, hx, q⟩ := h
  cases rx
  obtain ⟨its, r, ht, hz⟩ := I.list hx
  have hlen := r.length
  refine ⟨"list", _, slot_list_getitem.lookup, ht.isList.typeIs, ?_⟩
  refine wpAny_getItem_list_slice ht.isList hs pl pu .none (by simp) ?_ (by rw [List.size_toArray] <;> omega)
  rw [slicePick_cut, ← hlen]
  refine ⟨.ref s.heap.objs.size, _, I.laid (t' := s.toks) (o := .lst (cutV xs lo hi)) (fun b ob q => Heap.get?_push_of_some _ q) (Nat.le_refl _) ?_, rfl, q _ (I.hok.fresh (Nat.le_refl _))⟩
  exact ⟨Nat.le_trans (cutV_length xs lo hi) hz, _, 0, (r.drop (HT.sIx xs.length 0 lo)).take (HT.sIx xs.length xs.length hi - HT.sIx xs.length 0 lo), Heap.get?_push_size _ rfl⟩

/-! ### in, not in: flat items -/
def flatV : V → Bool
  | .non => true
  | .bl _ => true
  | .int _ => true
  | .str _ => true
  | _ => false
/-- == of flat values -/
def eqV : V → V → Bool
  | .non, .non => true
  | .bl a, .bl b => a == b
  | .bl a, .int b => (if a then 1 else 0) == b
  | .int a, .bl b => a == (if b then 1 else 0)
  | .int a, .int b => a == b
  | .str a, .str b => a == b
  | _, _ => false
theorem eqAt_V {A : Around} {s : Shared} {y x : V} {u v : Value} (ry : RelV y u) (rx : RelV x v) (fy : flatV y = true) (fx : flatV x = true) : SeqAt.EqAt A s u v (eqV y x) := by
  cases y with
  | non =>
    cases ry
    cases x with
    | non => cases rx; exact SeqAt.EqAt.same _
    | bl b => cases rx; exact SeqAt.EqAt.none_bool b
    | int b => obtain ⟨t, rfl⟩ := rx; exact SeqAt.EqAt.none_int b t
    | str b => obtain ⟨t, rfl⟩ := rx; exact SeqAt.EqAt.none_str b t
    | _ => exact absurd (show false = true from fx) Bool.false_ne_true
  | bl a =>
    cases ry
    cases x with
    | non => cases rx; exact SeqAt.EqAt.bool_none a
    | bl b => cases rx; exact SeqAt.EqAt.bool_bool a b
    | int b => obtain ⟨t, rfl⟩ := rx; exact SeqAt.EqAt.bool_int a b t
    | str b => obtain ⟨t, rfl⟩ := rx; exact SeqAt.EqAt.bool_str a b t
    | _ => exact absurd (show false = true from fx) Bool.false_ne_true
  | int a =>
    obtain ⟨t', rfl⟩ := ry
    cases x with
    | non => cases rx; exact SeqAt.EqAt.int_none a t'
    | bl b => cases rx; exact SeqAt.EqAt.int_bool a t' b
    | int b => obtain ⟨t, rfl⟩ := rx; exact SeqAt.EqAt.int_int a t' b t
    | str b => obtain ⟨t, rfl⟩ := rx; exact SeqAt.EqAt.int_str a t' b t
    | _ => exact absurd (show false = true from fx) Bool.false_ne_true
  | str a =>
    obtain ⟨t', rfl⟩ := ry
    cases x with
    | non => cases rx; exact SeqAt.EqAt.str_none a t'
    | bl b => cases rx; exact SeqAt.EqAt.str_bool a t' b
    | int b => obtain ⟨t, rfl⟩ := rx; exact SeqAt.EqAt.str_int a t' b t
    | str b => obtain ⟨t, rfl⟩ := rx; exact SeqAt.EqAt.str_str a t' b t
    | _ => exact absurd (show false = true from fx) Bool.false_ne_true
  | _ => exact absurd (show false = true from fy) Bool.false_ne_true
/-- the items' answers, read off the values (a value's own answer does not lean on its token) -/
def eqU (x : V) (u : Value) : Bool := match u with
  | .none => eqV .non x
  | .bool b => eqV (.bl b) x
  | .int i _ => eqV (.int i) x
  | .str z _ => eqV (.str z) x
  | _ => false
theorem eqU_of {x y : V} {u : Value} (r : RelV y u) (f : flatV y = true) : eqU x u = eqV y x := by
  cases y with
  | non => cases r; rfl
  | bl b => cases r; rfl
  | int i => obtain ⟨t, rfl⟩ := r; rfl
  | str z => obtain ⟨t, rfl⟩ := r; rfl
  | _ => exact absurd (show false = true from f) Bool.false_ne_true
theorem any_eqU {x : V} : ∀ {xs : List V} {us : List Value}, Vals xs us → xs.all flatV = true → us.any (eqU x) = xs.any fun y => eqV y x
  | _, _, .nil, _ => rfl
  | y :: xs, u :: us, .cons r t, f => by
    rw [List.all_cons, Bool.and_eq_true] at f
    rw [List.any_cons, List.any_cons, eqU_of r f.1, any_eqU t f.2]
theorem mem_eqAt {A : Around} {s : Shared} {x : V} {v : Value} (rx : RelV x v) (fx : flatV x = true) : ∀ {xs : List V} {us : List Value}, Vals xs us → xs.all flatV = true → ∀ u ∈ us, SeqAt.EqAt A s u v (eqU x u)
  | _, _, .nil, _ => fun u hu => by cases hu
  | y :: xs, u :: us, .cons r t, f => fun u' hu => by
    rw [List.all_cons, Bool.and_eq_true] at f
    rcases List.mem_cons.mp hu with rfl | hu
    · rw [eqU_of r f.1]; exact eqAt_V r rx f.1 fx
    · exact mem_eqAt rx fx t f.2 u' hu
def inV (x : V) (xs : List V) : Bool := xs.any fun y => eqV y x
/-- x in a list or tuple of flat items -/
def rIn (K : PySem.W.Frag) (neg : Bool) : R2 := fun x y H Q => ∃ p xs, y = .ref p ∧ (SqL K H p xs ∨ SqT K H p xs) ∧ flatV x = true ∧ xs.all flatV = true ∧ Q (.bl (if neg then !inV x xs else inV x xs)) H
theorem op_in_seq : OpR X (compareOp .In) (rIn X.K false) := by
  intro pins s σ H x y v u Q I rx ry h
  obtain ⟨p, xs, rfl, hq, fx, fs, q⟩ := h
  cases ry
  rcases hq with hq | hq
  · obtain ⟨its, r, pl, hz⟩ := I.list hq
    refine SeqAt.in_listAt (eqU x) pl.isList (fun w hw => mem_eqAt rx fx r fs w (by simpa using hw)) ⟨.bl _, H, I, rfl, ?_⟩
    rw [show its.toArray.any (eqU x) = its.any (eqU x) by simp, any_eqU r fs]
    exact q
  · obtain ⟨its, r, pl, hz⟩ := I.tuple hq
    refine SeqAt.in_tupleAt (eqU x) pl (fun w hw => mem_eqAt rx fx r fs w (by simpa using hw)) ⟨.bl _, H, I, rfl, ?_⟩
    rw [show its.toArray.any (eqU x) = its.any (eqU x) by simp, any_eqU r fs]
    exact q
theorem op_notIn_seq : OpR X (compareOp .NotIn) (rIn X.K true) := by
  intro pins s σ H x y v u Q I rx ry h
  obtain ⟨p, xs, rfl, hq, fx, fs, q⟩ := h
  cases ry
  rcases hq with hq | hq
  · obtain ⟨its, r, pl, hz⟩ := I.list hq
    refine SeqAt.notIn_listAt (eqU x) pl.isList (fun w hw => mem_eqAt rx fx r fs w (by simpa using hw)) ⟨.bl _, H, I, rfl, ?_⟩
    rw [show its.toArray.any (eqU x) = its.any (eqU x) by simp, any_eqU r fs]
    exact q
  · obtain ⟨its, r, pl, hz⟩ := I.tuple hq
    refine SeqAt.notIn_tupleAt (eqU x) pl (fun w hw => mem_eqAt rx fx r fs w (by simpa using hw)) ⟨.bl _, H, I, rfl, ?_⟩
    rw [show its.toArray.any (eqU x) = its.any (eqU x) by simp, any_eqU r fs]
    exact q
theorem op_notIn_str : OpR X (compareOp .NotIn) (fun x y H Q => ∃ i j, x = .str i ∧ y = .str j ∧ Q (.bl (!(!(Builtin.Str.occurrences j i 0 j.length 1).isEmpty))) H) := by
  intro pins s σ H x y v u Q I rx ry h
  obtain ⟨i, j, rfl, rfl, q⟩ := h
  obtain ⟨t, rfl⟩ := rx
  obtain ⟨t', rfl⟩ := ry
  exact notIn_str ⟨.bl _, H, I, rfl, q⟩

/-! ### len, list(x), tuple(x) of any list or tuple that is read -/
theorem call_len_seq : CallR X (.builtin "len") (fun xs H Q => ∃ p ys, xs = [.ref p] ∧ (SqL X.K H p ys ∨ SqT X.K H p ys) ∧ Q (.int ys.length) H) := by
  intro pins s σ H xs us Q I r h
  obtain ⟨p, ys, rfl, hq, q⟩ := h
  obtain ⟨u, rfl, rx⟩ := vals1 r
  cases rx
  have hn := line63
  rcases hq with hq | hq
  · obtain ⟨its, r', pl, hz⟩ := I.list hq
    have hlen := r'.length
    exact Calls.call_len_list pl.isList (by simp only [List.size_toArray] <;> omega) ⟨.int ys.length, H, I.tok _, ⟨s.toks + 1, by rw [List.size_toArray, hlen]⟩, q⟩
  · obtain ⟨its, r', pl, hz⟩ := I.tuple hq
    have hlen := r'.length
    exact len_tuple pl (by simp only [List.size_toArray] <;> omega) ⟨.int ys.length, H, I.tok _, ⟨s.toks + 1, by rw [List.size_toArray, hlen]⟩, q⟩
theorem call_len_str : CallR X (.builtin "len") (fun xs H Q => ∃ z, xs = [.str z] ∧ z.length ≤ sizeLine ∧ Q (.int z.length) H) := by
  intro pins s σ H xs us Q I r h
  obtain ⟨z, rfl, hz, q⟩ := h
  obtain ⟨u, rfl, t, rfl⟩ := vals1 r
  have hn := line63
  exact len_str (by omega) ⟨.int z.length, H, I.tok _, ⟨_, rfl⟩, q⟩
theorem CallR.or {f : Value} {r r' : List V → Hp → VK → Prop} (h : CallR X f r) (h' : CallR X f r') : CallR X f (fun xs H Q => r xs H Q ∨ r' xs H Q) := by
  intro pins s σ H xs us Q I rs q
  rcases q with q | q
  · exact h pins s σ H xs us Q I rs q
  · exact h' pins s σ H xs us Q I rs q
theorem call_list_of : CallR X (.type "list") (fun xs H Q => ∃ p ys, xs = [.ref p] ∧ (SqL X.K H p ys ∨ SqT X.K H p ys) ∧ ∀ l, H l = none → Q (.ref l) (upd H l (.lst ys))) := by
  intro pins s σ H xs us Q I r h
  obtain ⟨p, ys, rfl, hq, q⟩ := h
  obtain ⟨u, rfl, rx⟩ := vals1 r
  cases rx
  have fin : ∀ (its : List Value), Vals ys its → ys.length ≤ sizeLine → ∀ (h' : Heap) (c' : Nat), (∀ b o', s.heap.get? b = some o' → h'.get? b = some o') →
      h'.get? s.heap.objs.size = some { cls := .type "list", dict := none, data := .seq its.toArray c', slots := #[] } → EP X pins σ Q (.ref s.heap.objs.size) { s with heap := h' } := fun its r' hz h' c' kp e =>
    ⟨.ref s.heap.objs.size, _, I.laid (t' := s.toks) kp (Nat.le_refl _) (show ObjOk X.prog X.w _ h' _ (.lst ys) from ⟨hz, its, c', r', e⟩), rfl, q _ (I.hok.fresh (Nat.le_refl _))⟩
  rcases hq with hq | hq
  · obtain ⟨its, r', pl, hz⟩ := I.list hq
    have hlen := r'.length
    obtain ⟨o, ho, hc, n, hd⟩ := pl.isList
    exact call_list_seq p (.inl rfl) ho hc hd (fun h' c' kp e => fin its r' hz h' c' kp e) (by simp only [List.size_toArray] <;> omega)
  · obtain ⟨its, r', pl, hz⟩ := I.tuple hq
    have hlen := r'.length
    obtain ⟨o, ho, hc, n, hd⟩ := pl
    exact call_list_seq p (.inr rfl) ho hc hd (fun h' c' kp e => fin its r' hz h' c' kp e) (by simp only [List.size_toArray] <;> omega)
theorem call_tuple_of : CallR X (.type "tuple") (fun xs H Q => ∃ p ys, xs = [.ref p] ∧ ((SqL X.K H p ys ∧ ∀ l, H l = none → Q (.ref l) (upd H l (.tup ys))) ∨ (SqT X.K H p ys ∧ Q (.ref p) H))) := by
  intro pins s σ H xs us Q I r h
  obtain ⟨p, ys, rfl, h⟩ := h
  obtain ⟨u, rfl, rx⟩ := vals1 r
  cases rx
  rcases h with ⟨hq, q⟩ | ⟨hq, q⟩
  · obtain ⟨its, r', pl, hz⟩ := I.list hq
    have hlen := r'.length
    refine call_tuple_list pl.isList (fun h' kp => ?_) (by simp only [List.size_toArray] <;> omega)
    have I1 : Inv X pins σ H { s with heap := h' } := I.kept (t' := s.toks) kp
    have I2 : Inv X pins σ (upd H h'.objs.size (.tup ys)) { s with heap := h'.push { cls := .type "tuple", data := .seq its.toArray } } :=
      I1.laid (t' := s.toks) (fun b o e => Heap.get?_push_of_some _ e) (Nat.le_refl _) (show ObjOk X.prog X.w _ _ _ (.tup ys) from ⟨hz, its, r', IsTup.new _ _⟩)
    exact ⟨.ref h'.objs.size, _, I2, rfl, q _ (I1.hok.fresh (Nat.le_refl _))⟩
  · obtain ⟨its, r', pl, hz⟩ := I.tuple hq
    exact call_tuple_same pl ⟨.ref p, H, I, rfl, q⟩

/-! ### the call of a builtin's method: o.m(..) -/
/-- the value is of that builtin type -/
def tyV (K : PySem.W.Frag) (T : String) (x : V) (H : Hp) : Prop := match x with
  | .str _ => T = "str"
  | .int _ => T = "int"
  | .ref p => (T = "list" ∧ ∃ xs, SqL K H p xs) ∨ (T = "tuple" ∧ ∃ o, K.lookup p = some o ∧ o.cls = .type "tuple" ∧ o.dict = none) ∨
      (T = "dict" ∧ ((∃ kvs, H p = some (.dK kvs)) ∨ ∃ kvs, H p = some (.dT kvs))) ∨ (T = "set" ∧ ∃ S n, H p = some (.set S n))
  | _ => False
theorem tyV_is {pins : List (Addr × Obj)} {σ : St} {H : Hp} {s : Shared} {T : String} {x : V} {v : Value} (I : Inv X pins σ H s) (r : RelV x v) (ty : tyV X.K T x H) :
    s.TypeIs v T ∧ ∀ a, v = .ref a → ∃ ob, s.heap.get? a = some ob ∧ ob.dict = none := by
  cases x with
  | str z =>
    obtain ⟨t, rfl⟩ := r
    cases (show T = "str" from ty)
    exact ⟨typeIs_str s z t, fun _ e => nomatch e⟩
  | int i =>
    obtain ⟨t, rfl⟩ := r
    cases (show T = "int" from ty)
    exact ⟨typeIs_int s i t, fun _ e => nomatch e⟩
  | ref p =>
    cases r
    rcases ty with ⟨rfl, xs, hq⟩ | ⟨rfl, o, hk, hc, hd⟩ | ⟨rfl, hk⟩ | ⟨rfl, S, n, hk⟩
    · obtain ⟨its, _, pl, _⟩ := I.list hq
      refine ⟨pl.isList.typeIs, fun a e => ?_⟩
      cases e
      obtain ⟨o, n, e, c, hd, _⟩ := pl
      exact ⟨o, e, hd⟩
    · refine ⟨⟨o, I.kIn p o hk, hc⟩, fun a e => ?_⟩
      cases e
      exact ⟨o, I.kIn _ o hk, hd⟩
    · have z : ∃ o, s.heap.get? p = some o ∧ o.ExactDict := by
        rcases hk with ⟨kvs, hk⟩ | ⟨kvs, hk⟩
        · obtain ⟨_, _, _, _, o, _, _, e, ex, _⟩ := I.hok p _ hk
          exact ⟨o, e, ex⟩
        · obtain ⟨_, _, _, _, o, _, _, e, ex, _⟩ := I.hok p _ hk
          exact ⟨o, e, ex⟩
      obtain ⟨o, e, ex⟩ := z
      refine ⟨⟨o, e, ex.1⟩, fun a e2 => ?_⟩
      cases e2
      exact ⟨o, e, ex.2.1⟩
    · obtain ⟨o, _, _, _, e, ex, _⟩ := I.hok p _ hk
      refine ⟨⟨o, e, ex.1⟩, fun a e2 => ?_⟩
      cases e2
      exact ⟨o, e, ex.2.1⟩
  | _ => exact False.elim ty
def tBM0 (K : PySem.W.Frag) (T : String) (r : V → List V → Hp → VK → Prop) (to : TE) : TE := fun σ H Q => to σ H fun x H1 => tyV K T x H1 ∧ r x [] H1 Q
def tBM (K : PySem.W.Frag) (T : String) (r : V → List V → Hp → VK → Prop) (to : TE) (t : TA) : TE := fun σ H Q => to σ H fun x H1 => tyV K T x H1 ∧ t σ H1 fun xs H2 => r x xs H2 Q
variable {o e : Expr} {es : List Expr} {to : TE} {t : TA} {name : Str} {apos cpos : Pos} {T id : String} {r : V → List V → Hp → VK → Prop}
theorem pe_bm0 (pa : PlainAttrs T) (slot : Slot T name id) (hty : typeOf (.builtin id) = pure (.type "method_descriptor")) (hm : MtR X id r) (ho : PE X o to)
    (hbase : attributeBase o name X.env (eval o X.env) = eval o X.env := by rfl) (hline : (apos.endLine == cpos.line) = true := by rfl) : PE X (.Call (.Attribute o name apos) [] [] cpos) (tBM0 X.K T r to) := by
  intro pins s σ H Q I h
  refine wpAny_Call_method0_late hbase hline (thn (ho pins s σ H _ I h) fun v s1 ⟨x, H1, I1, r1, ty, q1⟩ => ?_)
  obtain ⟨h1, h2⟩ := tyV_is I1 r1 ty
  exact ⟨T, id, pa, slot, hty, h1, h2, Calls.callWith_builtin rfl (PySem.evalArgs_none (hm pins s1 σ H1 x [] v [] Q I1 r1 .nil q1))⟩
theorem pe_bm (pa : PlainAttrs T) (slot : Slot T name id) (hty : typeOf (.builtin id) = pure (.type "method_descriptor")) (hm : MtR X id r) (ho : PE X o to) (ha : PA X (e :: es) t)
    (hbase : attributeBase o name X.env (eval o X.env) = eval o X.env := by rfl)
    (hfew : ((backTo cpos (starEach (e :: es) X.env)).all (fun x => !x.1) && (backToKw cpos (keywordEach [] X.env)).all (fun x => x.1.isSome)
      && decide ((e :: es).length + ([] : List Keyword).length + (if ([] : List Keyword).isEmpty then 0 else 1) < 30)) = true := by rfl)
    (hline : (apos.endLine == cpos.line) = true := by rfl) (hs : starEach (e :: es) X.env = (false, eval e X.env) :: starEach es X.env := by rfl) (hplain : (backTo cpos (starEach es X.env)).any (·.1) = false := by rfl) :
    PE X (.Call (.Attribute o name apos) (e :: es) [] cpos) (tBM X.K T r to t) := by
  intro pins s σ H Q I h
  refine wpAny_Call_method_late hbase hfew hline rfl (thn (ho pins s σ H _ I h) fun v s1 ⟨x, H1, I1, r1, ty, q1⟩ => ?_)
  obtain ⟨h1, h2⟩ := tyV_is I1 r1 ty
  refine ⟨T, id, pa, slot, hty, h1, h2, ?_⟩
  have hA := ha cpos pins s1 σ H1 _ I1 q1
  rw [hs] at hA ⊢
  refine Calls.callWith_builtin (by show (false || (backTo cpos (starEach es X.env)).any (·.1)) = false; rw [hplain] <;> rfl) (Calls.evalArgs_plain ?_)
  exact thn hA fun us s2 ⟨vs, H2, I2, r2, q2⟩ => hm pins s2 σ H2 x vs v us Q I2 r1 r2 q2
/- xs.append(e), list.index on a module's tuple .. are MtR facts of 06m -/
end
end L2

namespace L2
open PySem PySem.Spec PyProof.Rows

def MtM (X : Cx) (id : String) (r : V → List V → Hp → VK → Prop) : Prop :=
  ∀ (pins : List (Addr × Obj)) (s : Shared) (σ : St) (H : Hp) (x : V) (xs : List V) (v : Value) (us : List Value) (Q : VK), Inv X pins σ H s → RelV x v → Vals xs us → r x xs H Q →
    wpAny (model X.prog X.w) X.A (call (.builtin id) (v :: us)) (EP X pins σ Q) X.xe s

/-! ### lists of values -/
theorem Vals.one : ∀ {x : V} {us : List Value}, Vals [x] us → ∃ u, us = [u] ∧ RelV x u
  | _, _, .cons r .nil => ⟨_, rfl, r⟩
theorem Vals.two : ∀ {x y : V} {us : List Value}, Vals [x, y] us → ∃ u v, us = [u, v] ∧ RelV x u ∧ RelV y v
  | _, _, _, .cons r (.cons q .nil) => ⟨_, _, rfl, r, q⟩
theorem Vals.zero : ∀ {us : List Value}, Vals [] us → us = []
  | _, .nil => rfl
theorem Vals.dropLast {xs : List V} {us : List Value} (h : Vals xs us) : Vals xs.dropLast us.dropLast := by
  induction h with
  | nil => exact .nil
  | cons r t ih =>
    cases t with
    | nil => exact .nil
    | cons q t' => exact .cons r ih
theorem Vals.eraseIdx : ∀ {xs : List V} {us : List Value} (i : Nat), Vals xs us → Vals (xs.eraseIdx i) (us.eraseIdx i)
  | _, _, _, .nil => .nil
  | _, _, 0, .cons _ t => t
  | _, _, i + 1, .cons r t => .cons r (Vals.eraseIdx i t)
theorem Vals.reverse {xs : List V} {us : List Value} (h : Vals xs us) : Vals xs.reverse us.reverse := by
  induction h with
  | nil => exact .nil
  | cons r t ih => rw [List.reverse_cons, List.reverse_cons]; exact Vals.append ih (.cons r .nil)
theorem Vals.rep {xs : List V} {us : List Value} (h : Vals xs us) : ∀ k : Nat, Vals (List.replicate k xs).flatten (List.replicate k us).flatten
  | 0 => .nil
  | k + 1 => by
    rw [List.replicate_succ, List.replicate_succ, List.flatten_cons, List.flatten_cons]
    exact Vals.append h (Vals.rep h k)
theorem erase_last {α : Type} (l : List α) : l.eraseIdx (l.length - 1) = l.dropLast := by
  induction l with
  | nil => rfl
  | cons a r ih =>
    cases r with
    | nil => rfl
    | cons b r =>
      have e : (a :: b :: r).length - 1 = ((b :: r).length - 1) + 1 := by
        have h1 : (a :: b :: r).length = r.length + 2 := rfl
        have h2 : (b :: r).length = r.length + 1 := rfl
        omega
      rw [e, List.eraseIdx_cons_succ, ih]
      all_goals rfl
theorem len_erase {α : Type} : ∀ (l : List α) (i : Nat), (l.eraseIdx i).length ≤ l.length
  | [], _ => Nat.le_refl _
  | _ :: _, 0 => Nat.le_succ _
  | _ :: r, i + 1 => Nat.succ_le_succ (len_erase r i)
theorem foldl_rep (its : List Value) : ∀ (k : Nat) (acc : List Value),
    List.foldl (fun x1 x2 => x1 ++ x2) acc.toArray (List.replicate k its.toArray) = (acc ++ (List.replicate k its).flatten).toArray
  | 0, acc => by simp
  | k + 1, acc => by
    have e : acc.toArray ++ its.toArray = (acc ++ its).toArray := by simp
    have e2 : (acc ++ its) ++ (List.replicate k its).flatten = acc ++ (List.replicate (k + 1) its).flatten := by
      rw [List.replicate_succ, List.flatten_cons, List.append_assoc]
    rw [← e2, ← foldl_rep its k (acc ++ its), ← e, List.replicate_succ, List.foldl_cons]

section
variable {X : Cx} {pins : List (Addr × Obj)} {σ : St} {H : Hp} {s : Shared} {l b : Addr} {xs ys zs : List V}

/-! ### the two steps: a tracked list is rewritten, a new list is laid -/
theorem Inv.lset {its its' : List Value} {n : Nat} {f : Array Value → Array Value} {t' : Nat} (I : Inv X pins σ H s) (hH : H l = some (.lst xs))
    (e : s.heap.get? l = some { cls := .type "list", data := .seq its.toArray n }) (hf : f its.toArray = its'.toArray) (hv : Vals ys its') (hz : ys.length ≤ sizeLine) :
    Inv X pins σ (upd H l (.lst ys)) { s with heap := s.heap.update l (Obj.mapSeq f), toks := t' } := by
  have q := PySem.IsL.update e f
  rw [hf] at q
  refine I.write (x := l) (e := l) (by rw [hH]; exact trivial) (.inl rfl) (fun b' u hb hu => (Heap.get?_update_other s.heap (Obj.mapSeq f) (Ne.symm hb)).trans hu) ⟨_, q⟩ ?_
  exact ⟨hz, its', _, hv, q⟩
theorem Inv.lnew {its : List Value} {t' : Nat} (I : Inv X pins σ H s) (hv : Vals ys its) (hz : ys.length ≤ sizeLine) :
    Inv X pins σ (upd H s.heap.objs.size (.lst ys)) { s with heap := s.heap.push { cls := .type "list", data := .seq its.toArray }, toks := t' } :=
  I.laid (fun _ _ q => Heap.get?_push_of_some _ q) (Nat.le_refl _) ⟨hz, its, 0, hv, Heap.get?_push_size _ rfl⟩
theorem Inv.fresh (I : Inv X pins σ H s) : H s.heap.objs.size = none := I.hok.fresh (Nat.le_refl _)
theorem Inv.lstM (I : Inv X pins σ H s) (hH : H l = some (.lst xs)) : xs.length ≤ sizeLine ∧ ∃ (its : List Value) (n : Nat), Vals xs its ∧ xs.length = its.length ∧ s.heap.get? l = some { cls := .type "list", data := .seq its.toArray n } := by
  obtain ⟨z, its, n, r, e⟩ := I.hok l _ hH
  exact ⟨z, its, n, r, r.length, e⟩

theorem notLongL {n : Nat} (h : n ≤ sizeLine) : Builtin.List.listTooLong n = false := by
  unfold Builtin.List.listTooLong
  exact decide_eq_false (by omega)
end

section
variable {X : Cx}

/-! ### methods -/
def rAppend : V → List V → Hp → VK → Prop := fun x vs H Q => ∃ l xs y, x = .ref l ∧ vs = [y] ∧ H l = some (.lst xs) ∧ xs.length < sizeLine ∧ Q .non (upd H l (.lst (xs ++ [y])))
theorem mt_append : MtM X "list.append" rAppend := by
  intro pins s σ H x vs v us Q I rx rv h
  obtain ⟨l, xs, y, rfl, rfl, hH, hz, q⟩ := h
  cases rx
  obtain ⟨u, rfl, ru⟩ := rv.one
  obtain ⟨z, its, n, r, hl, e⟩ := I.lstM hH
  refine call_meets F.slot_list_append ⟨_, e, rfl⟩ F.entry_list_append (F.args_list_append_2 _ _) (PySem.list_append l its.toArray n u (by rw [List.size_toArray]; omega)) ⟨e, ?_⟩
  refine ⟨.non, _, I.lset (its' := its ++ [u]) hH e (by simp) (r.append (.cons ru .nil)) ?_, rfl, q⟩
  rw [List.length_append, List.length_singleton]
  omega

def rExtend : V → List V → Hp → VK → Prop := fun x vs H Q => ∃ l b xs zs, x = .ref l ∧ vs = [.ref b] ∧ H l = some (.lst xs) ∧ H b = some (.lst zs) ∧ xs.length + zs.length ≤ sizeLine ∧ Q .non (upd H l (.lst (xs ++ zs)))
theorem mt_extend : MtM X "list.extend" rExtend := by
  intro pins s σ H x vs v us Q I rx rv h
  obtain ⟨l, b, xs, zs, rfl, rfl, hH, hB, hz, q⟩ := h
  cases rx
  obtain ⟨u, rfl, ru⟩ := rv.one
  cases ru
  obtain ⟨z, its, n, r, hl, e⟩ := I.lstM hH
  obtain ⟨z2, its2, n2, r2, hl2, e2⟩ := I.lstM hB
  have hsz : its.toArray.size + its2.toArray.size ≤ sizeLine := by rw [List.size_toArray, List.size_toArray]; omega
  have hlong : ¬ (!its.toArray.isEmpty && Builtin.List.listTooLong (its.toArray.size + its2.toArray.size)) = true := by
    rw [notLongL hsz, Bool.and_false]
    exact Bool.false_ne_true
  refine call_meets F.slot_list_extend ⟨_, e, rfl⟩ F.entry_list_extend (F.args_list_extend_2 _ _)
    (AutoSeq1.list_extend_list_list_0 l its.toArray n b its2.toArray n2 hlong (by rw [List.size_toArray]; omega) (by omega)) ⟨e, e2, ?_⟩
  refine ⟨.non, _, I.lset (its' := its ++ its2) hH e (by simp) (r.append r2) ?_, rfl, q⟩
  rw [List.length_append]
  omega

def rPop : V → List V → Hp → VK → Prop := fun x vs H Q => ∃ l xs y, x = .ref l ∧ vs = [] ∧ H l = some (.lst xs) ∧ xs[xs.length - 1]? = some y ∧ Q y (upd H l (.lst xs.dropLast))
theorem mt_pop : MtM X "list.pop" rPop := by
  intro pins s σ H x vs v us Q I rx rv h
  obtain ⟨l, xs, y, rfl, rfl, hH, hy, q⟩ := h
  cases rx
  have hus := rv.zero
  subst hus
  obtain ⟨z, its, n, r, hl, e⟩ := I.lstM hH
  obtain ⟨u, hu, ru⟩ := r.get hy
  have hy' : its.toArray[its.toArray.size - 1]? = some u := by
    show its.toArray[its.length - 1]? = some u
    rw [← Array.getElem?_toList, ← hl]
    exact hu
  refine call_meets F.slot_list_pop ⟨_, e, rfl⟩ F.entry_list_pop (F.args_list_pop_1 _) (MeetsSeq.list_pop_last l its.toArray n u hy' (by rw [List.size_toArray]; omega)) ⟨e, ?_⟩
  refine ⟨y, _, I.lset (its' := its.dropLast) hH e ?_ r.dropLast ?_, ru, q⟩
  · show its.toArray.eraseIdxIfInBounds (its.toArray.size - 1) = its.dropLast.toArray
    rw [List.size_toArray, List.eraseIdxIfInBounds_toArray, erase_last]
  · rw [List.length_dropLast]
    omega

def rPopAt : V → List V → Hp → VK → Prop := fun x vs H Q => ∃ l xs i k y, x = .ref l ∧ vs = [.int i] ∧ H l = some (.lst xs) ∧ -(2 ^ 63) ≤ i ∧ i < 2 ^ 63 ∧ seqIndex? i xs.length = some k ∧ xs[k]? = some y ∧ Q y (upd H l (.lst (xs.eraseIdx k)))
theorem mt_popAt : MtM X "list.pop" rPopAt := by
  intro pins s σ H x vs v us Q I rx rv h
  obtain ⟨l, xs, i, k, y, rfl, rfl, hH, h1, h2, hk, hy, q⟩ := h
  cases rx
  obtain ⟨u, rfl, ru⟩ := rv.one
  obtain ⟨t, rfl⟩ := ru
  obtain ⟨z, its, n, r, hl, e⟩ := I.lstM hH
  obtain ⟨w, hw, rw'⟩ := r.get hy
  refine call_meets F.slot_list_pop ⟨_, e, rfl⟩ F.entry_list_pop (F.args_list_pop_2 _ _)
    (MeetsSeq.list_pop_at l its.toArray n i t k w (fitsIndex_both h1 h2) (by rw [List.size_toArray, ← hl]; exact hk) (by rw [← Array.getElem?_toList]; exact hw) (by rw [List.size_toArray]; omega)) ⟨e, ?_⟩
  refine ⟨y, _, I.lset (its' := its.eraseIdx k) hH e ?_ (r.eraseIdx k) ?_, rw', q⟩
  · show its.toArray.eraseIdxIfInBounds k = (its.eraseIdx k).toArray
    rw [List.eraseIdxIfInBounds_toArray]
  · have := len_erase xs k
    omega

def rReverse : V → List V → Hp → VK → Prop := fun x vs H Q => ∃ l xs, x = .ref l ∧ vs = [] ∧ H l = some (.lst xs) ∧ Q .non (upd H l (.lst xs.reverse))
theorem mt_reverse : MtM X "list.reverse" rReverse := by
  intro pins s σ H x vs v us Q I rx rv h
  obtain ⟨l, xs, rfl, rfl, hH, q⟩ := h
  cases rx
  have hus := rv.zero
  subst hus
  obtain ⟨z, its, n, r, hl, e⟩ := I.lstM hH
  refine call_meets F.slot_list_reverse ⟨_, e, rfl⟩ F.entry_list_reverse (F.args_list_reverse_1 _) (AutoSeq1.list_reverse_list_0 l its.toArray n (by rw [List.size_toArray]; omega)) ⟨e, ?_⟩
  refine ⟨.non, _, I.lset (its' := its.reverse) hH e (by simp) r.reverse ?_, rfl, q⟩
  rw [List.length_reverse]
  omega

def rClear : V → List V → Hp → VK → Prop := fun x vs H Q => ∃ l xs, x = .ref l ∧ vs = [] ∧ H l = some (.lst xs) ∧ Q .non (upd H l (.lst []))
theorem mt_clear : MtM X "list.clear" rClear := by
  intro pins s σ H x vs v us Q I rx rv h
  obtain ⟨l, xs, rfl, rfl, hH, q⟩ := h
  cases rx
  have hus := rv.zero
  subst hus
  obtain ⟨z, its, n, r, hl, e⟩ := I.lstM hH
  refine call_meets F.slot_list_clear ⟨_, e, rfl⟩ F.entry_list_clear (F.args_list_clear_1 _) (AutoSeq1.list_clear_list_0 l its.toArray n (by rw [List.size_toArray]; omega)) ⟨e, ?_⟩
  exact ⟨.non, _, I.lset (its' := []) (ys := []) hH e rfl .nil (Nat.zero_le _), rfl, q⟩

/-! ### list + list, list += list, list * int -/
def rCat : R2 := fun x y H Q => ∃ l b xs zs, x = .ref l ∧ y = .ref b ∧ H l = some (.lst xs) ∧ H b = some (.lst zs) ∧ xs.length + zs.length ≤ sizeLine ∧ ∀ p, H p = none → Q (.ref p) (upd H p (.lst (xs ++ zs)))
theorem op_cat : OpR X (binaryOp .Add) rCat := by
  intro pins s σ H x y v u Q I rx ry h
  obtain ⟨l, b, xs, zs, rfl, rfl, hH, hB, hz, q⟩ := h
  cases rx
  cases ry
  obtain ⟨z, its, n, r, hl, e⟩ := I.lstM hH
  obtain ⟨z2, its2, n2, r2, hl2, e2⟩ := I.lstM hB
  refine PySem.P.add_list e e2 ?_ (by rw [List.size_toArray, List.size_toArray]; omega)
  have ea : its.toArray ++ its2.toArray = (its ++ its2).toArray := by simp
  rw [ea]
  exact ⟨.ref _, _, I.lnew (t' := s.toks) (r.append r2) (by rw [List.length_append]; omega), rfl, q _ I.fresh⟩
/-- a list times an int (a negative one is nothing) -/
def rRep : R2 := fun x y H Q => ∃ l k xs, x = .ref l ∧ y = .int k ∧ H l = some (.lst xs) ∧ -(2 ^ 63) ≤ k ∧ k < 2 ^ 63 ∧ xs.length * k.toNat ≤ sizeLine ∧
  ∀ p, H p = none → Q (.ref p) (upd H p (.lst (List.replicate k.toNat xs).flatten))
theorem len_rep {α : Type} (xs : List α) (k : Nat) : (List.replicate k xs).flatten.length = k * xs.length := by
  induction k with
  | zero => simp
  | succ k ih => rw [List.replicate_succ, List.flatten_cons, List.length_append, ih, Nat.succ_mul, Nat.add_comm]
theorem op_rep : OpR X (binaryOp .Mult) rRep := by
  intro pins s σ H x y v u Q I rx ry h
  obtain ⟨l, k, xs, rfl, rfl, hH, h1, h2, hz, q⟩ := h
  cases rx
  obtain ⟨t, rfl⟩ := ry
  obtain ⟨z, its, n, r, hl, e⟩ := I.lstM hH
  have hlen : its.toArray.size * k.toNat ≤ sizeLine := by rw [List.size_toArray, ← hl]; exact hz
  have hcap : ¬ its.toArray.size * k.toNat > (2 ^ 63 - 1) / 8 := by
    have : (sizeLine : Nat) ≤ (2 ^ 63 - 1) / 8 := by decide
    omega
  have hfit : ¬ (!Builtin.List.listFitsIndex k) = true := by
    rw [fitsIndex_both h1 h2]
    exact Bool.false_ne_true
  have hlong : ¬ Builtin.List.listTooLong (its.toArray.size * k.toNat) = true := by
    rw [notLongL hlen]
    exact Bool.false_ne_true
  have hnew : List.foldl (fun x1 x2 => x1 ++ x2) #[] (List.replicate (if its.toArray.isEmpty = true then 0 else k.toNat) its.toArray) = (List.replicate k.toNat its).flatten.toArray := by
    have f0 : ∀ m : Nat, List.foldl (fun x1 x2 => x1 ++ x2) #[] (List.replicate m its.toArray) = (List.replicate m its).flatten.toArray := fun m => by
      have := foldl_rep its m []
      rw [List.nil_append] at this
      exact this
    rw [f0]
    cases its with
    | nil => simp
    | cons a r' => rw [if_neg (by simp)]
  refine wpAny_binaryOp_repeat_ref (T := "list") (U := "int") (by decide) ⟨_, e, rfl⟩ (fun s' => typeIs_int s' k t) noFill_list_mul F.fills_int_mul F.slot_int_rmul repeat_list F.slot_int_index.lookup
    (call_meets F.slot_int_rmul (typeIs_int s k t) F.entry_int_rmul (F.args_int_rmul_2 _ _) (int___rmul___int_list k t l its.toArray n)
      ⟨e, rfl, ⟨_, e, rfl⟩, call_meets F.slot_list_mul ⟨_, e, rfl⟩ F.entry_list_mul (F.args_list_mul_2 _ _) (AutoListH.list___mul___list_int_3 l its.toArray n k t hfit hcap hlong) ⟨e, ?_⟩⟩)
  rw [hnew]
  exact ⟨.ref _, _, I.lnew (t' := s.toks) (r.rep k.toNat) (by rw [len_rep, Nat.mul_comm]; exact hz), rfl, q _ I.fresh⟩

/-! ### del xs[i] -/
theorem del_list {pins : List (Addr × Obj)} {s : Shared} {σ : St} {H : Hp} {l : Addr} {xs : List V} {i : Int} {t : Tok} {k : Nat} {Q : Unit → Shared → Prop} (I : Inv X pins σ H s) (hH : H l = some (.lst xs))
    (h1 : -(2 ^ 63) ≤ i) (h2 : i < 2 ^ 63) (hk : seqIndex? i xs.length = some k) (h : ∀ s', Inv X pins σ (upd H l (.lst (xs.eraseIdx k))) s' → Q () s') :
    wpAny (model X.prog X.w) X.A (delItem (.ref l) (.int i t)) Q X.xe s := by
  obtain ⟨z, its, n, r, hl, e⟩ := I.lstM hH
  refine PySem.P.delItem_list (k := k) e (fitsIndex_both h1 h2) (by rw [List.size_toArray, ← hl]; exact hk) (h _ ?_) (by rw [List.size_toArray]; omega)
  refine I.lset (its' := its.eraseIdx k) (t' := s.toks) hH e ?_ (r.eraseIdx k) ?_
  · show its.toArray.eraseIdxIfInBounds k = (its.eraseIdx k).toArray
    rw [List.eraseIdxIfInBounds_toArray]
  · have := len_erase xs k
    omega
end

/-! ### xs[a:b] = ys -/
section
variable {prog : Program} {w : World} {A : Around} {E : Value → Shared → Prop} {s : Shared}
theorem splice_eq (its its2 : List Value) (a c : Nat) : its.toArray.extract 0 a ++ its2.toArray ++ its.toArray.extract c its.toArray.size = (its.take a ++ its2 ++ its.drop c).toArray := by
  apply Array.toList_inj.mp
  first
    | (simp
       exact List.take_of_length_le (by simp))
    | simp [List.take_of_length_le]
    | simp
theorem bounds_run {a c n : Nat} (hac : a ≤ c) (hc : c ≤ n) : sliceBounds (some (a : Int)) (some (c : Int)) none n = ((a : Int), (c : Int), 1) := by
  simp only [sliceBounds, Option.getD_none]
  have h1 : ¬ ((a : Int) < 0) := by omega
  have h2 : ¬ ((c : Int) < 0) := by omega
  simp only [h1, h2, if_false, show (1 : Int) > 0 by decide, if_true]
  congr 1
  · omega
  · congr 1; omega
set_option maxRecDepth 100000 in
/-- list.__setitem__ with a slice of step one and another list -/
theorem setItem_slice {l b sl : Addr} {items new : Array Value} {n n2 : Nat} {vl vu : Value} {a c : Nat} {Q : Unit → Shared → Prop}
    (e : s.heap.get? l = some { cls := .type "list", data := .seq items n }) (e2 : s.heap.get? b = some { cls := .type "list", data := .seq new n2 }) (hne : l ≠ b)
    (hs : s.heap.IsSliceOf sl vl vu .none) (pl : IsPart vl (some (a : Int))) (pu : IsPart vu (some (c : Int))) (hac : a ≤ c) (hc : c ≤ items.size)
    (hsz : items.size + new.size ≤ sizeLine) (h : Q () { s with heap := s.heap.update l (Obj.mapSeq fun xs => xs.extract 0 a ++ new ++ xs.extract c xs.size) }) :
    wpAny (model prog w) A (setItem (.ref l) (.ref sl) (.ref b)) Q E s := by
  have hl : s.heap.IsList l items := PySem.IsL.isList e
  have hb : s.heap.IsList b new := PySem.IsL.isList e2
  obtain ⟨os, hos, hcs, hds⟩ := id hs
  have hTs : s.TypeIs (.ref sl) "slice" := ⟨os, hos, hcs⟩
  have hstep : ¬ ((rawPart none == rawInt 0) = true) := Bool.false_ne_true
  have hsame : Builtin.List.listSameRef (.ref l) (.ref b) = false := by
    unfold Builtin.List.listSameRef
    exact beq_eq_false_iff_ne.mpr hne
  have hmax : (max (a : Int) (c : Int)).toNat = c := by omega
  have hz' : ((fun xs : Array Value => xs.extract 0 a ++ new ++ xs.extract c xs.size) items).size ≤ sizeLine + 1 := by
    simp only [Array.size_append, Array.size_extract]
    omega
  unfold setItem
  try with_reducible refine wpAny_holding ?_
  first | refine wpAny_bind (wpAny_pure ?_) | skip
  refine wpAny_bind (wpAny_sequenceKey hl.typeIs (by decide) ?_)
  refine wpAny_bind (wpAny_callSpecial?_slot (name := Str.ofString "__setitem__") hl.typeIs slot_list_setitem
    (wpAny_call_entry slot_list_setitem hl.typeIs entry_list_setitem ?_ (args_list_setitem _ _ _)))
  show wpAny _ _ (Builtin.List.listSubscript? (.ref sl) >>= _) _ _ s
  refine wpAny_bind ?_
  unfold Builtin.List.listSubscript?
  refine wpAny_bind (wpAny_specialOf hTs slice_no_index ?_)
  simp only [Option.isNone_none, if_true]
  refine wpAny_pure ?_
  show wpAny _ _ (typeOf (.ref sl) >>= _) _ _ s
  refine wpAny_bind (wpAny_typeOf hTs ?_)
  first
    | rw [if_neg (by decide)]
    | refine PySem.W.KFB.if_not (by decide) ?_
  rw [listSliceParts_eq]
  refine wpAny_bind (wpAny_bind (wpAny_field hos hds (x := .none) rfl (wpAny_bind (wpAny_listPart .none ?_))))
  rw [if_neg hstep]
  refine wpAny_bind (wpAny_field hos hds (x := vl) rfl (wpAny_bind (wpAny_listPart pl ?_)))
  refine wpAny_bind (wpAny_field hos hds (x := vu) rfl (wpAny_bind (wpAny_listPart pu (wpAny_pure ?_))))
  first
    | simp only [hsame, Bool.false_eq_true, if_false]
    | refine PySem.W.KFB.if_not hsame ?_
    | (dsimp only
       rw [if_neg (by rw [hsame]; exact Bool.false_ne_true)])
  refine wpAny_bind (m := Builtin.List.listAllItems (.ref b) "must assign iterable to extended slice") ?_
  unfold Builtin.List.listAllItems
  refine wpAny_bind (wpAny_typeOf hb.typeIs ?_)
  first
    | refine PySem.W.KFB.if_so (by decide) ?_
    | rw [if_pos (by decide)]
    | simp only [beq_self_eq_true, Bool.true_or, if_true]
  unfold Builtin.List.listItems
  refine wpAny_bind (wpAny_seqItems e2 rfl (wpAny_pure ?_))
  refine wpAny_bind (wpAny_bind (wpAny_seqItems e rfl (wpAny_pure ?_)))
  refine wpAny_bind (wpAny_of_eq ((sliceIndices_raw (some (a : Int)) (some (c : Int)) none items.size (by simp)).trans (congrArg (pure : Int × Int × Int → Sem (Int × Int × Int)) (bounds_run hac hc))) ?_)
  show wpAny _ _ (if ((1 : Int) == 1) = true then _ else _) _ _ s
  rw [if_pos (by decide)]
  refine wpAny_bind (wpAny_rule ?_)
  first
    | simp only [notLongL hsz, Bool.false_eq_true, if_false]
    | refine PySem.W.KFB.if_not (notLongL hsz) ?_
  first | refine wpAny_bind (wpAny_pure ?_) | skip
  show wpAny _ _ (updateSeq l (fun xs => xs.extract 0 ((a : Int)).toNat ++ new ++ xs.extract (max (a : Int) (c : Int)).toNat xs.size) >>= _) _ _ s
  rw [hmax, Int.toNat_natCast]
  refine wpAny_bind (wpAny_updateSeq (hz := Nat.le_trans (Nat.le_add_right _ _) hsz) (_hz' := hz') e rfl ?_)
  refine wpAny_bind (wpAny_letGo ?_)
  first
    | exact wpAny_bind (wpAny_pure (wpAny_pure ⟨.none, rfl, wpAny_pure h⟩))
    | exact wpAny_pure ⟨.none, rfl, wpAny_pure h⟩
end

section
variable {X : Cx}
/-- xs[a:c] = ys of another list, at the value level: sl is the slice object that was just made -/
theorem set_slice {pins : List (Addr × Obj)} {s : Shared} {σ : St} {H : Hp} {l b sl : Addr} {xs ys : List V} {a c : Int} {vl vu : Value} {Q : Unit → Shared → Prop} (I : Inv X pins σ H s)
    (hH : H l = some (.lst xs)) (hB : H b = some (.lst ys)) (hne : l ≠ b) (hs : s.heap.IsSliceOf sl vl vu .none) (ra : RelV (.int a) vl) (rc : RelV (.int c) vu) (h0 : 0 ≤ a) (hac : a ≤ c) (hc : c ≤ xs.length)
    (hz : xs.length + ys.length ≤ sizeLine) (h : ∀ s', Inv X pins σ (upd H l (.lst (xs.take a.toNat ++ ys ++ xs.drop c.toNat))) s' → Q () s') :
    wpAny (model X.prog X.w) X.A (setItem (.ref l) (.ref sl) (.ref b)) Q X.xe s := by
  obtain ⟨ta, rfl⟩ := ra
  obtain ⟨tc, rfl⟩ := rc
  obtain ⟨z, its, n, r, hl, e⟩ := I.lstM hH
  obtain ⟨z2, its2, n2, r2, hl2, e2⟩ := I.lstM hB
  obtain ⟨a', rfl⟩ := Int.eq_ofNat_of_zero_le h0
  obtain ⟨c', rfl⟩ := Int.eq_ofNat_of_zero_le (Int.le_trans h0 hac)
  simp only [Int.toNat_natCast] at h
  refine setItem_slice (a := a') (c := c') e e2 hne hs (.int _ _) (.int _ _) (by omega) (by rw [List.size_toArray]; omega) (by rw [List.size_toArray, List.size_toArray]; omega) (h _ ?_)
  refine I.lset (its' := its.take a' ++ its2 ++ its.drop c') (t' := s.toks) hH e ?_ (Vals.append (Vals.append (r.take _) r2) (r.drop _)) ?_
  · exact splice_eq its its2 a' c'
  · rw [List.length_append, List.length_append, List.length_take, List.length_drop]
    omega
end
end L2

namespace L2
open PySem PySem.Spec PyProof.Rows

/-! ### lists of pairs as tables -/
section
variable {κ : Type} [DecidableEq κ]
def valV (kvs : List (κ × V)) (k : κ) : Option V := (kvs.find? fun kv => decide (kv.1 = k)).map (·.2)
/-- in its place, or at the end -/
def putK (kvs : List (κ × V)) (k : κ) (v : V) : List (κ × V) :=
  if (kvs.any fun kv => decide (kv.1 = k)) = true then kvs.map (fun kv => if kv.1 = k then (kv.1, v) else kv) else kvs ++ [(k, v)]
def dropK (kvs : List (κ × V)) (k : κ) : List (κ × V) := kvs.filter fun kv => decide (kv.1 ≠ k)

theorem valV_nil {k : κ} : valV ([] : List (κ × V)) k = none := rfl
theorem valV_pos {p : κ × V} {r : List (κ × V)} {k : κ} (e : p.1 = k) : valV (p :: r) k = some p.2 := by simp [valV, List.find?_cons, e]
theorem valV_neg {p : κ × V} {r : List (κ × V)} {k : κ} (e : ¬ p.1 = k) : valV (p :: r) k = valV r k := by simp [valV, List.find?_cons, e]
theorem valV_any (k : κ) : ∀ kvs : List (κ × V), (kvs.any fun kv => decide (kv.1 = k)) = (valV kvs k).isSome
  | [] => rfl
  | p :: r => by
    rw [List.any_cons]
    by_cases e : p.1 = k
    · simp only [valV_pos e, decide_eq_true e, Bool.true_or, Option.isSome_some]
    · rw [valV_neg e, decide_eq_false e, Bool.false_or]; exact valV_any k r
theorem valV_map (k j : κ) (y : V) : ∀ kvs : List (κ × V), valV (kvs.map fun kv => if kv.1 = k then (kv.1, y) else kv) j = (valV kvs j).map fun x => if j = k then y else x
  | [] => rfl
  | p :: r => by
    have ih := valV_map k j y r
    rw [List.map_cons]
    by_cases h : p.1 = k
    · rw [if_pos h]
      by_cases e : p.1 = j
      · rw [valV_pos (p := (p.1, y)) e, valV_pos e, Option.map_some, if_pos (e.symm.trans h)]
      · rw [valV_neg (p := (p.1, y)) e, valV_neg e, ih]
    · rw [if_neg h]
      by_cases e : p.1 = j
      · rw [valV_pos (p := p) e, valV_pos e, Option.map_some, if_neg (fun z => h (e.trans z))]
      · rw [valV_neg (p := p) e, valV_neg e, ih]
theorem valV_snoc (k j : κ) (y : V) : ∀ kvs : List (κ × V), valV kvs k = none → valV (kvs ++ [(k, y)]) j = if j = k then some y else valV kvs j
  | [], _ => by
    by_cases e : k = j
    · rw [if_pos e.symm]; exact valV_pos (p := (k, y)) e
    · rw [if_neg (fun z => e z.symm)]; exact valV_neg (p := (k, y)) e
  | p :: r, hn => by
    rw [List.cons_append]
    have hk : ¬ p.1 = k := fun z => by rw [valV_pos z] at hn; cases hn
    rw [valV_neg hk] at hn
    have ih := valV_snoc k j y r hn
    by_cases e : p.1 = j
    · rw [valV_pos e, valV_pos e, if_neg (fun z => hk (e.trans z))]
    · rw [valV_neg e, valV_neg e, ih]
theorem valV_put (kvs : List (κ × V)) (k j : κ) (y : V) : valV (putK kvs k y) j = if j = k then some y else valV kvs j := by
  unfold putK
  by_cases a : (kvs.any fun kv => decide (kv.1 = k)) = true
  · rw [if_pos a, valV_map]
    rw [valV_any] at a
    by_cases e : j = k
    · obtain ⟨x, hx⟩ := Option.isSome_iff_exists.mp a
      rw [if_pos e, e, hx, Option.map_some, if_pos rfl]
    · rw [if_neg e]
      cases valV kvs j with
      | none => rfl
      | some x => rw [Option.map_some, if_neg e]
  · rw [if_neg a]
    refine valV_snoc k j y kvs ?_
    rw [valV_any] at a
    cases q : valV kvs k with
    | none => rfl
    | some x => rw [q] at a; exact (a rfl).elim
theorem length_putK (kvs : List (κ × V)) (k : κ) (v : V) : (putK kvs k v).length ≤ kvs.length + 1 := by
  unfold putK
  split
  · rw [List.length_map]; omega
  · rw [List.length_append, List.length_cons, List.length_nil]; omega
theorem putK_new {kvs : List (κ × V)} {k : κ} (v : V) (h : valV kvs k = none) : putK kvs k v = kvs ++ [(k, v)] := by
  unfold putK
  rw [valV_any, h]
  exact if_neg (by decide)

theorem RelO.isSome_eq {o : Option V} {u : Option Value} (r : RelO o u) : o.isSome = u.isSome := by
  cases o with
  | none => cases u with
    | none => rfl
    | some _ => exact (show False from r).elim
  | some _ => cases u with
    | none => exact (show False from r).elim
    | some _ => rfl
theorem RelO.getD {o : Option V} {u : Option Value} {d : V} {d' : Value} (r : RelO o u) (rd : RelV d d') : RelV (o.getD d) (u.getD d') := by
  cases o with
  | none => cases u with
    | none => exact rd
    | some _ => exact (show False from r).elim
  | some _ => cases u with
    | none => exact (show False from r).elim
    | some _ => exact r

/-- raw tables of the same keys -/
theorem KV.val {kvs : List (κ × V)} {vs : List (κ × Value)} (r : KV kvs vs) (k : κ) : RelO (valV kvs k) (valueAt vs k) := by
  unfold KV at r
  induction r with
  | nil => exact True.intro
  | @cons p q ps qs h t ih =>
    obtain ⟨h1, h2⟩ := h
    by_cases e : p.1 = k
    · have e' : q.1 = k := h1.symm.trans e
      have b : valueAt (q :: qs) k = some q.2 := by simp [valueAt, List.find?_cons, e']
      rw [valV_pos e, b]; exact h2
    · have e' : ¬ q.1 = k := fun z => e (h1.trans z)
      have b : valueAt (q :: qs) k = valueAt qs k := by simp [valueAt, List.find?_cons, e']
      rw [valV_neg e, b]; exact ih
theorem KV.any {kvs : List (κ × V)} {vs : List (κ × Value)} (r : KV kvs vs) (k : κ) : (kvs.any fun kv => decide (kv.1 = k)) = vs.any fun kv => decide (kv.1 = k) := by
  unfold KV at r
  induction r with
  | nil => rfl
  | cons h t ih => rw [List.any_cons, List.any_cons, ih, h.1]
theorem KV.repl {kvs : List (κ × V)} {vs : List (κ × Value)} (r : KV kvs vs) (k : κ) {y : V} {u : Value} (ry : RelV y u) :
    KV (kvs.map fun kv => if kv.1 = k then (kv.1, y) else kv) (vs.map fun kv => if kv.1 = k then (kv.1, u) else kv) := by
  unfold KV at r ⊢
  induction r with
  | nil => exact .nil
  | @cons p q ps qs h t ih =>
    rw [List.map_cons, List.map_cons]
    refine .cons ?_ ih
    obtain ⟨h1, h2⟩ := h
    by_cases e : p.1 = k
    · rw [if_pos e, if_pos (h1.symm.trans e)]; exact ⟨h1, ry⟩
    · rw [if_neg e, if_neg (fun z => e (h1.trans z))]; exact ⟨h1, h2⟩
theorem KV.put {kvs : List (κ × V)} {vs : List (κ × Value)} (r : KV kvs vs) (k : κ) {y : V} {u : Value} (ry : RelV y u) : KV (putK kvs k y) (stored vs k u) := by
  unfold putK stored
  rw [r.any k]
  by_cases e : (vs.any fun kv => decide (kv.1 = k)) = true
  · rw [if_pos e, if_pos e]; exact r.repl k ry
  · rw [if_neg e, if_neg e]; exact Paired.snoc r ⟨rfl, ry⟩
theorem KV.drop {kvs : List (κ × V)} {vs : List (κ × Value)} (r : KV kvs vs) (k : κ) : KV (dropK kvs k) (without vs k) := by
  unfold KV at r ⊢
  unfold dropK without
  induction r with
  | nil => exact .nil
  | @cons p q ps qs h t ih =>
    obtain ⟨h1, h2⟩ := h
    rw [List.filter_cons, List.filter_cons]
    by_cases e : p.1 = k
    · have a : ¬ decide (p.1 ≠ k) = true := by simp [e]
      have b : ¬ decide (q.1 ≠ k) = true := by simp [h1.symm.trans e]
      rw [if_neg a, if_neg b]; exact ih
    · have e' : ¬ q.1 = k := fun z => e (h1.trans z)
      have a : decide (p.1 ≠ k) = true := by simp [e]
      have b : decide (q.1 ≠ k) = true := by simp [e']
      rw [if_pos a, if_pos b]; exact .cons ⟨h1, h2⟩ ih
theorem KV.keys {kvs : List (κ × V)} {vs : List (κ × Value)} (r : KV kvs vs) : kvs.map (·.1) = vs.map (·.1) := by
  unfold KV at r
  induction r with
  | nil => rfl
  | cons h t ih => rw [List.map_cons, List.map_cons, ih, h.1]
theorem KV.length {kvs : List (κ × V)} {vs : List (κ × Value)} (r : KV kvs vs) : kvs.length = vs.length := Paired.length r
theorem dropK_le (kvs : List (κ × V)) (k : κ) : (dropK kvs k).length ≤ kvs.length := List.length_filter_le _ _
end

/-! ### a tracked dict, its keys ints and texts or tuples of these -/
theorem kV_is {P : Program} {w : World} {k : Key} {u : Value} (r : RelV (kV k) u) : (mixKind P w).is k u = true := by
  cases k with
  | inl i => obtain ⟨t, e⟩ := (show ∃ t, u = Value.int i t from r); subst e; exact mixKind_int P w i t
  | inr x => obtain ⟨t, e⟩ := (show ∃ t, u = Value.str x t from r); subst e; exact mixKind_str P w x t
theorem kV_inj {a b : Key} (e : kV a = kV b) : a = b := by
  cases a with
  | inl i => cases b with
    | inl j => have e' : V.int i = V.int j := e; injection e' with e'; rw [e']
    | inr y => exact nomatch (show V.int i = V.str y from e)
  | inr x => cases b with
    | inl j => exact nomatch (show V.str x = V.int j from e)
    | inr y => have e' : V.str x = V.str y := e; injection e' with e'; rw [e']
theorem kVs_inj : ∀ {a b : List Key}, a.map kV = b.map kV → a = b
  | [], [], _ => rfl
  | [], _ :: _, e => by simp at e
  | _ :: _, [], e => by simp at e
  | x :: xs, y :: ys, e => by
    rw [List.map_cons, List.map_cons] at e
    injection e with e1 e2
    rw [kV_inj e1, kVs_inj e2]
theorem items_are {P : Program} {w : World} : ∀ {ks : List Key} {us : List Value}, Vals (ks.map kV) us → ItemsAre (mixKind P w) ks us
  | [], _, r => by rw [List.map_nil] at r; cases r; exact .nil
  | k :: ks, _, r => by
    rw [List.map_cons] at r
    cases r with
    | cons h t => exact .cons (kV_is h) (items_are t)

/-- raw entries of a dict with tuple keys -/
abbrev KT (H : Hp) : List (List Key × V) → List (List Key × Addr × Value) → Prop := Paired fun p q => p.1 = q.1 ∧ H q.2.1 = some (.tup (p.1.map kV)) ∧ RelV p.2 q.2.2
theorem KT.val {H : Hp} {kvs : List (List Key × V)} {xs : List (List Key × Addr × Value)} (r : KT H kvs xs) (k : List Key) : RelO (valV kvs k) ((atKey xs k).map (·.2)) := by
  induction r with
  | nil => exact True.intro
  | @cons p q ps qs h t ih =>
    obtain ⟨h1, _, h2⟩ := h
    by_cases e : p.1 = k
    · have e' : q.1 = k := h1.symm.trans e
      have b : atKey (q :: qs) k = some q.2 := by simp [atKey, List.find?_cons, e']
      rw [valV_pos e, b]; exact h2
    · have e' : ¬ q.1 = k := fun z => e (h1.trans z)
      have b : atKey (q :: qs) k = atKey qs k := by simp [atKey, List.find?_cons, e']
      rw [valV_neg e, b]; exact ih
theorem KT.repl {H : Hp} {kvs : List (List Key × V)} {xs : List (List Key × Addr × Value)} (r : KT H kvs xs) (k : List Key) {y : V} {u : Value} (ry : RelV y u) :
    KT H (kvs.map fun kv => if kv.1 = k then (kv.1, y) else kv) (xs.map (putAt k u)) := by
  induction r with
  | nil => exact .nil
  | @cons p q ps qs h t ih =>
    rw [List.map_cons, List.map_cons]
    refine .cons ?_ ih
    obtain ⟨h1, h2, h3⟩ := h
    unfold putAt
    by_cases e : p.1 = k
    · rw [if_pos e, if_pos (h1.symm.trans e)]; exact ⟨h1, h2, ry⟩
    · rw [if_neg e, if_neg (fun z => e (h1.trans z))]; exact ⟨h1, h2, h3⟩
theorem KT.put {H : Hp} {kvs : List (List Key × V)} {xs : List (List Key × Addr × Value)} (r : KT H kvs xs) (k : List Key) {b : Addr} {y : V} {u : Value} (hb : H b = some (.tup (k.map kV))) (ry : RelV y u) :
    KT H (putK kvs k y) (storedH xs k b u) := by
  have e : (kvs.any fun kv => decide (kv.1 = k)) = (atKey xs k).isSome := by
    rw [valV_any, (r.val k).isSome_eq, Option.isSome_map]
  unfold putK storedH
  rw [e]
  by_cases q : (atKey xs k).isSome = true
  · rw [if_pos q, if_pos q]; exact r.repl k ry
  · rw [if_neg q, if_neg q]; exact Paired.snoc r ⟨rfl, hb, ry⟩
theorem KT.keeps {H H' : Hp} {kvs : List (List Key × V)} {xs : List (List Key × Addr × Value)} (r : KT H kvs xs) (ht : ∀ b ys, H b = some (.tup ys) → H' b = some (.tup ys)) : KT H' kvs xs :=
  Paired.mapP r fun _ _ z => ⟨z.1, ht _ _ z.2.1, z.2.2⟩

section
variable {P : Program} {w : World} {H : Hp} {h : Heap} {a : Addr}
theorem rd_of {u : HO} (ok : HOk P w H h) (e : Rd H a u) : ObjOk P w H h a u := e.ok ok
theorem dk_rd {kvs : List (Key × V)} (ok : HOk P w H h) (e : Rd H a (.dK kvs)) : kvs.length ≤ sizeLine ∧ (a == sysModules) = false ∧ ∃ vs, KV kvs vs ∧ h.DictOf (mixKind P w) a vs :=
  show ObjOk P w H h a (.dK kvs) from rd_of ok e
theorem dk_of {kvs : List (Key × V)} (ok : HOk P w H h) (e : H a = some (.dK kvs)) : kvs.length ≤ sizeLine ∧ (a == sysModules) = false ∧ ∃ vs, KV kvs vs ∧ h.DictOf (mixKind P w) a vs := dk_rd ok (.inl e)
/-- a tracked tuple of ints and texts is a key -/
theorem key_of {ks : List Key} (ok : HOk P w H h) (e : H a = some (.tup (ks.map kV))) : (tupleKind (mixKind P w)).is h ks a := by
  obtain ⟨_, its, r, o, h1, h2, n, h3⟩ := (show ObjOk P w H h a (.tup (ks.map kV)) from ok a _ e)
  exact ⟨o, its.toArray, n, h1, h2, h3, by simpa using items_are r⟩
theorem dt_rd {kvs : List (List Key × V)} (ok : HOk P w H h) (e : Rd H a (.dT kvs)) : kvs.length ≤ sizeLine ∧ (a == sysModules) = false ∧
    ∃ xs, KT H kvs xs ∧ h.DictOfH (tupleKind (mixKind P w)) a xs := by
  obtain ⟨z, y, xs, r, o, es, ep, h1, h2, h3, h4, h5⟩ := (show ObjOk P w H h a (.dT kvs) from rd_of ok e)
  refine ⟨z, y, xs, r, o, es, ep, h1, h2, h3, h4, fun x hx => ?_, h5⟩
  have all : ∀ {l : List (List Key × V)} {m : List (List Key × Addr × Value)}, KT H l m → ∀ x ∈ m, (tupleKind (mixKind P w)).is h x.1 x.2.1 := by
    intro l m q
    induction q with
    | nil => intro x hx; exact nomatch hx
    | @cons p q ps qs hq t ih =>
      intro x hx
      rcases List.mem_cons.mp hx with e | hx
      · subst e
        exact key_of ok (by rw [← hq.1]; exact hq.2.1)
      · exact ih x hx
  exact all r x hx
theorem dt_of {kvs : List (List Key × V)} (ok : HOk P w H h) (e : H a = some (.dT kvs)) : kvs.length ≤ sizeLine ∧ (a == sysModules) = false ∧
    ∃ xs, KT H kvs xs ∧ h.DictOfH (tupleKind (mixKind P w)) a xs := dt_rd ok (.inl e)
end

/-- what the dict at a holds at the key y -/
def DGet (H : Hp) (a : Addr) (y : V) (r : Option V) : Prop :=
  (∃ kvs k, Rd H a (.dK kvs) ∧ y = kV k ∧ r = valV kvs k) ∨ ∃ kvs k b, Rd H a (.dT kvs) ∧ y = .ref b ∧ H b = some (.tup (k.map kV)) ∧ r = valV kvs k
/-- the heap behind a[y] = v -/
def DPut (H : Hp) (a : Addr) (y v : V) (H' : Hp) : Prop :=
  (∃ kvs k, H a = some (.dK kvs) ∧ y = kV k ∧ kvs.length < sizeLine ∧ H' = upd H a (.dK (putK kvs k v))) ∨
  ∃ kvs k b, H a = some (.dT kvs) ∧ y = .ref b ∧ H b = some (.tup (k.map kV)) ∧ kvs.length < sizeLine ∧ H' = upd H a (.dT (putK kvs k v))
theorem DGet.k {H : Hp} {a : Addr} {kvs : List (Key × V)} {k : Key} (e : H a = some (.dK kvs)) : DGet H a (kV k) (valV kvs k) := .inl ⟨kvs, k, .inl e, rfl, rfl⟩
theorem DGet.t {H : Hp} {a b : Addr} {kvs : List (List Key × V)} {k : List Key} (e : H a = some (.dT kvs)) (eb : H b = some (.tup (k.map kV))) : DGet H a (.ref b) (valV kvs k) := .inr ⟨kvs, k, b, .inl e, rfl, eb, rfl⟩
theorem DPut.k {H : Hp} {a : Addr} {kvs : List (Key × V)} {k : Key} {v : V} (e : H a = some (.dK kvs)) (hl : kvs.length < sizeLine) : DPut H a (kV k) v (upd H a (.dK (putK kvs k v))) := .inl ⟨kvs, k, e, rfl, hl, rfl⟩
theorem DPut.t {H : Hp} {a b : Addr} {kvs : List (List Key × V)} {k : List Key} {v : V} (e : H a = some (.dT kvs)) (eb : H b = some (.tup (k.map kV))) (hl : kvs.length < sizeLine) :
    DPut H a (.ref b) v (upd H a (.dT (putK kvs k v))) := .inr ⟨kvs, k, b, e, rfl, eb, hl, rfl⟩

section
variable {X : Cx} {pins : List (Addr × Obj)} {σ : St} {H : Hp} {s : Shared} {a : Addr} {y v : V} {u r : Value} {o : Option V} {A : Around} {E : Value → Shared → Prop}

theorem Inv.big (I : Inv X pins σ H s) : sysModules < s.heap.objs.size := by
  have h : mainGlobals < s.heap.objs.size := (I.mod.glob.keeps I.bk).lt
  exact Nat.lt_trans (by decide) h

/-- d[y], there -/
theorem d_getItem {Q : Value → Shared → Prop} (hu : A.units + 1 < cLine) (I : Inv X pins σ H s) (g : DGet H a y (some v)) (ry : RelV y u) (h : ∀ w' s', Inv X pins σ H s' → RelV v w' → Q w' s') :
    wpAny (model X.prog X.w) A (getItem (.ref a) u) Q E s := by
  rcases g with ⟨kvs, k, e, ey, l⟩ | ⟨kvs, k, b, e, ey, eb, l⟩
  · subst ey
    obtain ⟨z, hd, vs, rel, dd⟩ := dk_rd I.hok e
    obtain ⟨w', hw, rw'⟩ := RelO.some_of (v := v) (o := valueAt vs k) (by rw [l]; exact rel.val k)
    exact wpAny_getItem_of (kV_is ry) dd.mapOf hw (h w' _ (I.tok _) rw')
  · subst ey
    cases (show u = Value.ref b from ry)
    obtain ⟨z, hd, xs, rel, dd⟩ := dt_rd I.hok e
    obtain ⟨w', hw, rw'⟩ := RelO.some_of (v := v) (o := (atKey xs k).map (·.2)) (by rw [l]; exact rel.val k)
    obtain ⟨p, hp, hp2⟩ := Option.map_eq_some_iff.mp hw
    refine wpAny_getItem_heap (tupleKind_room_in1 hu) (key_of I.hok eb) dd hp ?_
    rw [hp2]
    exact h w' _ (I.tok _) rw'
/-- y in d -/
theorem d_in {Q : Value → Shared → Prop} (hu : A.units + 1 < cLine) (I : Inv X pins σ H s) (g : DGet H a y o) (ry : RelV y u) (h : ∀ s', Inv X pins σ H s' → Q (.bool o.isSome) s') :
    wpAny (model X.prog X.w) A (compareOp .In u (.ref a)) Q E s := by
  rcases g with ⟨kvs, k, e, ey, l⟩ | ⟨kvs, k, b, e, ey, eb, l⟩
  · subst ey
    obtain ⟨z, hd, vs, rel, dd⟩ := dk_rd I.hok e
    refine wpAny_in_of (kV_is ry) hd dd.mapOf ?_
    rw [← (rel.val k).isSome_eq, ← l]
    exact h _ (I.tok _)
  · subst ey
    cases (show u = Value.ref b from ry)
    obtain ⟨z, hd, xs, rel, dd⟩ := dt_rd I.hok e
    refine wpAny_in_heap (tupleKind_room_in1 hu) (key_of I.hok eb) hd dd ?_
    have q := (rel.val k).isSome_eq
    rw [Option.isSome_map] at q
    rw [← q, ← l]
    exact h _ (I.tok _)
theorem d_notIn {Q : Value → Shared → Prop} (hu : A.units + 1 < cLine) (I : Inv X pins σ H s) (g : DGet H a y o) (ry : RelV y u) (h : ∀ s', Inv X pins σ H s' → Q (.bool (!o.isSome)) s') :
    wpAny (model X.prog X.w) A (compareOp .NotIn u (.ref a)) Q E s := by
  rcases g with ⟨kvs, k, e, ey, l⟩ | ⟨kvs, k, b, e, ey, eb, l⟩
  · subst ey
    obtain ⟨z, hd, vs, rel, dd⟩ := dk_rd I.hok e
    refine wpAny_notIn_of (kV_is ry) hd dd.mapOf ?_
    rw [← (rel.val k).isSome_eq, ← l]
    exact h _ (I.tok _)
  · subst ey
    cases (show u = Value.ref b from ry)
    obtain ⟨z, hd, xs, rel, dd⟩ := dt_rd I.hok e
    refine wpAny_notIn_heap (tupleKind_room_in1 hu) (key_of I.hok eb) hd dd ?_
    have q := (rel.val k).isSome_eq
    rw [Option.isSome_map] at q
    rw [← q, ← l]
    exact h _ (I.tok _)
/-- a dict's object is replaced -/
theorem d_write {h' : Heap} {t' : Nat} {ob : HO} (I : Inv X pins σ H s) (mu : Mut (H a)) (hs : Heap.SameBut a s.heap h') (he : ∃ q, h'.get? a = some q) (new : ObjOk X.prog X.w (upd H a ob) h' a ob) :
    Inv X pins σ (upd H a ob) { s with heap := h', toks := t' } :=
  I.write (x := a) (e := a) mu (.inl rfl) (fun b q hb z => (hs.2 b hb).trans z) he new
theorem dk_new {P : Program} {w : World} {H' : Hp} {h' : Heap} {kvs : List (Key × V)} {vs : List (Key × Value)} (z : kvs.length ≤ sizeLine) (hd : (a == sysModules) = false) (rel : KV kvs vs) (dd : h'.DictOf (mixKind P w) a vs) :
    ObjOk P w H' h' a (.dK kvs) := ⟨z, hd, vs, rel, dd⟩
/-- d[y] = v -/
theorem d_setItem {H' : Hp} {Q : Unit → Shared → Prop} (hu : A.units + 1 < cLine) (I : Inv X pins σ H s) (g : DPut H a y v H') (ry : RelV y u) (rv : RelV v r) (h : ∀ s', Inv X pins σ H' s' → Q () s') :
    wpAny (model X.prog X.w) A (setItem (.ref a) u r) Q E s := by
  rcases g with ⟨kvs, k, e, ey, l, eH⟩ | ⟨kvs, k, b, e, ey, eb, l, eH⟩
  · subst ey eH
    obtain ⟨z, hd, vs, rel, dd⟩ := dk_of I.hok e
    have hz : vs.length ≤ sizeLine := by rw [← rel.length]; exact z
    have hl : (putK kvs k v).length ≤ sizeLine := by have := length_putK kvs k v; omega
    refine wpAny_setItem_pairs (hsz := hz) (kV_is ry) dd fun h' dd' hs => h _ ?_
    have he : ∃ q, h'.get? a = some q := let ⟨q, _, _, hq, _⟩ := dd'; ⟨q, hq⟩
    exact d_write I (by rw [e]; exact True.intro) hs he (dk_new hl hd (rel.put k rv) dd')
  · subst ey eH
    cases (show u = Value.ref b from ry)
    obtain ⟨z, hd, xs, rel, dd⟩ := dt_of I.hok e
    have hz : xs.length ≤ sizeLine := by rw [← Paired.length rel]; exact z
    have hl : (putK kvs k v).length ≤ sizeLine := by have := length_putK kvs k v; omega
    refine wpAny_setItem_heap (hsz := hz) (tupleKind_room_in1 hu) (key_of I.hok eb) dd fun h' dd' hs => h _ ?_
    obtain ⟨q, es, ep, hq, h2, h3, h4, _, h5⟩ := dd'
    refine d_write I (by rw [e]; exact True.intro) hs ⟨q, hq⟩ ⟨hl, hd, _, (rel.put k eb rv).keeps fun c ys ec => ?_, q, es, ep, hq, h2, h3, h4, h5⟩
    rw [upd_ne (ne_of ec e (fun z => nomatch z))]
    exact ec
end

section
variable {X : Cx} {pins : List (Addr × Obj)} {σ : St} {H : Hp} {s : Shared} {a : Addr} {kvs : List (Key × V)} {k : Key} {u : Value} {A : Around} {E : Value → Shared → Prop}
/-- del d[k] -/
theorem d_delItem {Q : Unit → Shared → Prop} (I : Inv X pins σ H s) (e : H a = some (.dK kvs)) (ry : RelV (kV k) u) (l : (valV kvs k).isSome = true) (h : ∀ s', Inv X pins σ (upd H a (.dK (dropK kvs k))) s' → Q () s') :
    wpAny (model X.prog X.w) A (delItem (.ref a) u) Q E s := by
  obtain ⟨z, hd, vs, rel, dd⟩ := dk_of I.hok e
  refine wpAny_delItem_slot dd.typeIs (by decide) PySem.F.slot_dict_delitem
    (call_meetsIn PySem.F.slot_dict_delitem dd.typeIs PySem.F.entry_dict_delitem (PySem.F.args_dict_delitem_2 _ _) (meets_dict_delitem_pairs (mixKind X.prog X.w) a (kV_is ry)) ⟨vs, dd, by rw [← rel.length]; exact z, by rw [← (rel.val k).isSome_eq]; exact l, fun h' dd' hs => h _ ?_⟩)
  have he : ∃ q, h'.get? a = some q := let ⟨q, _, _, hq, _⟩ := dd'; ⟨q, hq⟩
  exact d_write I (by rw [e]; exact True.intro) hs he (dk_new (Nat.le_trans (dropK_le kvs k) z) hd (rel.drop k) dd')
/-- d.pop(k[, x]), there -/
theorem d_pop {v : V} {more : List Value} {Q : Value → Shared → Prop} (I : Inv X pins σ H s) (e : H a = some (.dK kvs)) (ry : RelV (kV k) u) (l : valV kvs k = some v) (hm : more = [] ∨ ∃ x, more = [x])
    (h : ∀ w' s', Inv X pins σ (upd H a (.dK (dropK kvs k))) s' → RelV v w' → Q w' s') : wpAny (model X.prog X.w) A (call (.builtin "dict.pop") (.ref a :: u :: more)) Q E s := by
  obtain ⟨z, hd, vs, rel, dd⟩ := dk_of I.hok e
  obtain ⟨w', hw, rw'⟩ := RelO.some_of (v := v) (o := valueAt vs k) (by rw [← l]; exact rel.val k)
  have hp : (keyPart u).isSome = true := by
    cases k with
    | inl i => obtain ⟨t, q⟩ := (show ∃ t, u = Value.int i t from ry); subst q; rfl
    | inr x => obtain ⟨t, q⟩ := (show ∃ t, u = Value.str x t from ry); subst q; rfl
  have ha : argsOk "dict.pop" ⟨.ref a :: u :: more, []⟩ := by
    rcases hm with q | ⟨x, q⟩
    · subst q; exact PySem.F.args_dict_pop_2 _ _
    · subst q; exact PySem.F.args_dict_pop_3 _ _ _
  refine call_meetsIn PySem.F.slot_dict_pop dd.typeIs PySem.F.entry_dict_pop ha (meets_dict_pop_there (mixKind X.prog X.w) a (kV_is ry) more hm hp)
    ⟨vs, w', dd, by rw [← rel.length]; exact z, hw, fun h' dd' hs => h w' _ ?_ rw'⟩
  have he : ∃ q, h'.get? a = some q := let ⟨q, _, _, hq, _⟩ := dd'; ⟨q, hq⟩
  exact d_write I (by rw [e]; exact True.intro) hs he (dk_new (Nat.le_trans (dropK_le kvs k) z) hd (rel.drop k) dd')
/-- d.pop(k, x), not there -/
theorem d_popD {r : Value} {Q : Value → Shared → Prop} (I : Inv X pins σ H s) (e : H a = some (.dK kvs)) (ry : RelV (kV k) u) (l : valV kvs k = none) (h : ∀ s', Inv X pins σ H s' → Q r s') :
    wpAny (model X.prog X.w) A (call (.builtin "dict.pop") [.ref a, u, r]) Q E s := by
  obtain ⟨z, hd, vs, rel, dd⟩ := dk_of I.hok e
  have hn : valueAt vs k = none := RelO.none_of (by rw [← l]; exact rel.val k)
  have hp : (keyPart u).isSome = true := by
    cases k with
    | inl i => obtain ⟨t, q⟩ := (show ∃ t, u = Value.int i t from ry); subst q; rfl
    | inr x => obtain ⟨t, q⟩ := (show ∃ t, u = Value.str x t from ry); subst q; rfl
  exact call_meetsIn PySem.F.slot_dict_pop dd.typeIs PySem.F.entry_dict_pop (PySem.F.args_dict_pop_3 _ _ _) (meets_dict_pop_default (mixKind X.prog X.w) a (kV_is ry) hd hp r) ⟨vs, dd, hn, h _ (I.tok _)⟩
/-- d.clear() -/
theorem d_clear {Q : Value → Shared → Prop} (I : Inv X pins σ H s) (e : H a = some (.dK kvs)) (h : ∀ s', Inv X pins σ (upd H a (.dK [])) s' → Q .none s') : wpAny (model X.prog X.w) A (call (.builtin "dict.clear") [.ref a]) Q E s := by
  obtain ⟨z, hd, vs, rel, dd⟩ := dk_of I.hok e
  refine call_meetsIn PySem.F.slot_dict_clear dd.typeIs PySem.F.entry_dict_clear (PySem.F.args_dict_clear_1 _) (meets_dict_clear (mixKind X.prog X.w) a) ⟨vs, dd, by rw [← rel.length]; exact z, fun h' dd' hs => h _ ?_⟩
  have he : ∃ q, h'.get? a = some q := let ⟨q, _, _, hq, _⟩ := dd'; ⟨q, hq⟩
  exact d_write (t' := s.toks) I (by rw [e]; exact True.intro) hs he (dk_new (Nat.zero_le _) hd .nil dd')
/-- len(d) -/
theorem d_len {Q : Value → Shared → Prop} (I : Inv X pins σ H s) (e : Rd H a (.dK kvs)) (h : ∀ t s', Inv X pins σ H s' → Q (.int kvs.length t) s') : wpAny (model X.prog X.w) A (call (.builtin "len") [.ref a]) Q E s := by
  obtain ⟨z, hd, vs, rel, dd⟩ := dk_rd I.hok e
  refine call_len_dict hd dd (by rw [← rel.length]; rw [sizeLine_eq] at z; omega) ?_
  rw [← rel.length]
  exact h _ _ (I.tok _)
/-- if d -/
theorem d_truth {Q : Bool → Shared → Prop} (I : Inv X pins σ H s) (e : Rd H a (.dK kvs)) (h : ∀ s', Inv X pins σ H s' → Q (!kvs.isEmpty) s') : wpAny (model X.prog X.w) A (truthy (.ref a)) Q E s := by
  obtain ⟨z, hd, vs, rel, dd⟩ := dk_rd I.hok e
  refine wpAny_truthy_dict hd dd (by rw [← rel.length]; rw [sizeLine_eq] at z; omega) ?_
  have q : kvs.isEmpty = vs.isEmpty := by cases rel <;> rfl
  rw [← q]
  exact h _ (I.tok _)
end

/-! ### readings and rules -/
/-- the element of a subscription, not a slice -/
def NoSl (i : Expr) : Prop := ∀ ov iv, subscripted i false ov iv = operate [ov, iv] (getItem ov iv)
theorem subD_of {prog : Program} {w : World} {A : Around} {E : Value → Shared → Prop} {s : Shared} {env : Env} {value slice : Expr} {pos : Pos} {T id : String} {Q : Value → Shared → Prop}
    (hl : typeLookup (.type T) "__getitem__" = pure (some (.builtin id))) (hs : NoSl slice)
    (h : wpAny (model prog w) A (eval value env) (fun o s₁ => wpAny (model prog w) A (eval slice env) (fun i s₂ => s₂.TypeIs o T ∧ wpAny (model prog w) A (getItem o i) Q E s₂) E s₁) E s) :
    wpAny (model prog w) A (eval (.Subscript value slice pos) env) Q E s := by
  refine Subscript_ (wpAny_mono h (fun o s₁ h₁ => wpAny_mono h₁ (fun i s₂ h₂ => ?_) fun _ _ x => x) fun _ _ x => x)
  obtain ⟨hT, h₂⟩ := h₂
  unfold subscriptTail
  refine wpAny_bind ?_
  rw [getitemInPython_of_ne hT.not_modules]
  refine wpAny_bind (wpAny_specialOf hT hl ?_)
  have fin : wpAny (model prog w) A (subscripted slice false o i) (fun r s₃ => wpAny (model prog w) A (letTemporaryGo value o r >>= fun _ => pure r) Q E s₃) E s₂ := by
    rw [hs o i]
    exact wpAny_operating (wpAny_mono h₂ (fun r s₃ h₃ => wpAny_bind (wpAny_letTemporaryGo (wpAny_pure h₃))) fun _ _ x => x)
  first
    | exact wpAny_pure (wpAny_bind fin)
    | exact wpAny_bind (wpAny_pure (wpAny_bind fin))
    | exact wpAny_bind fin

theorem dict_typeIs {X : Cx} {pins : List (Addr × Obj)} {σ : St} {H : Hp} {s : Shared} {a : Addr} {y : V} {o : Option V} (I : Inv X pins σ H s) (g : DGet H a y o) : s.TypeIs (.ref a) "dict" := by
  rcases g with ⟨kvs, k, e, _, _⟩ | ⟨kvs, k, b, e, _, _, _⟩
  · obtain ⟨_, _, vs, _, dd⟩ := dk_rd I.hok e
    exact dd.typeIs
  · obtain ⟨_, _, xs, _, dd⟩ := dt_rd I.hok e
    exact dd.typeIs
theorem dict_noDict {X : Cx} {pins : List (Addr × Obj)} {σ : St} {H : Hp} {s : Shared} {a : Addr} {y : V} {o : Option V} (I : Inv X pins σ H s) (g : DGet H a y o) :
    ∀ b, Value.ref a = .ref b → ∃ ob, s.heap.get? b = some ob ∧ ob.dict = none := fun b q => by
  cases q
  rcases g with ⟨kvs, k, e, _, _⟩ | ⟨kvs, k, b, e, _, _, _⟩
  · obtain ⟨_, _, vs, _, ob, _, _, h1, h2, _⟩ := dk_rd I.hok e
    exact ⟨ob, h1, h2.2.1⟩
  · obtain ⟨_, _, xs, _, ob, _, _, h1, h2, _⟩ := dt_rd I.hok e
    exact ⟨ob, h1, h2.2.1⟩

/-- d[y] -/
def tDGet (td ty : TE) : TE := fun σ H Q => td σ H fun x H1 => ty σ H1 fun y H2 => ∃ a v, x = .ref a ∧ DGet H2 a y (some v) ∧ Q v H2
/-- y in d, y not in d -/
def tDIn (ty td : TE) : TE := fun σ H Q => ty σ H fun y H1 => td σ H1 fun x H2 => ∃ a o, x = .ref a ∧ DGet H2 a y o ∧ Q (.bl o.isSome) H2
def tDNotIn (ty td : TE) : TE := fun σ H Q => ty σ H fun y H1 => td σ H1 fun x H2 => ∃ a o, x = .ref a ∧ DGet H2 a y o ∧ Q (.bl (!o.isSome)) H2
/-- d[y] = v -/
def sDPut (td ty tv : TE) : TS := fun D σ H => tv σ H fun v H1 => td σ H1 fun x H2 => ty σ H2 fun y H3 => ∃ a H4, x = .ref a ∧ DPut H3 a y v H4 ∧ D.nx σ H4
/-- d[y] op= v -/
def sDAug (td ty tv : TE) (rd : V → V → Hp → VK → Prop) : TS := fun D σ H => td σ H fun x H1 => ty σ H1 fun y H2 => ∃ a v, x = .ref a ∧ DGet H2 a y (some v) ∧
  tv σ H2 fun y2 H3 => rd v y2 H3 fun z H4 => ∃ H5, DPut H4 a y z H5 ∧ D.nx σ H5
/-- del d[y] -/
def sDDel (td ty : TE) : TS := fun D σ H => td σ H fun x H1 => ty σ H1 fun y H2 => ∃ a kvs k, x = .ref a ∧ H2 a = some (.dK kvs) ∧ y = kV k ∧ (valV kvs k).isSome = true ∧ D.nx σ (upd H2 a (.dK (dropK kvs k)))

section
variable {X : Cx} {o i e value : Expr} {pos pos' tpos : Pos} {td ty tv : TE}
theorem pe_dget (hu : X.A.units + 1 < cLine) (ho : PE X o td) (hi : PE X i ty) (hs : NoSl i) : PE X (.Subscript o i pos) (tDGet td ty) := by
  intro pins s σ H Q I h
  refine subD_of PySem.F.slot_dict_getitem.lookup hs (thn (ho pins s σ H _ I h) fun u s1 ⟨x, H1, I1, rx, q1⟩ => thn (hi pins s1 σ H1 _ I1 q1) fun iv s2 ⟨y, H2, I2, ry, a, v, ex, g, q2⟩ => ?_)
  subst ex
  obtain rfl : u = Value.ref a := rx
  exact ⟨dict_typeIs I2 g, d_getItem hu I2 g ry fun w' s3 I3 rw' => ⟨v, H2, I3, rw', q2⟩⟩
theorem pc_din (hu : X.A.units + 1 < cLine) (hi : PE X i ty) (ho : PE X o td) : PC X .In i o (tDIn ty td) := by
  intro pins s σ H Q I h
  refine thn (hi pins s σ H _ I h) fun iv s1 ⟨y, H1, I1, ry, q1⟩ => thn (ho pins s1 σ H1 _ I1 q1) fun u s2 ⟨x, H2, I2, rx, a, ov, ex, g, q2⟩ => ?_
  subst ex
  obtain rfl : u = Value.ref a := rx
  exact d_in hu I2 g ry fun s3 I3 => ⟨.bl ov.isSome, H2, I3, rfl, q2⟩
theorem pc_dnotin (hu : X.A.units + 1 < cLine) (hi : PE X i ty) (ho : PE X o td) : PC X .NotIn i o (tDNotIn ty td) := by
  intro pins s σ H Q I h
  refine thn (hi pins s σ H _ I h) fun iv s1 ⟨y, H1, I1, ry, q1⟩ => thn (ho pins s1 σ H1 _ I1 q1) fun u s2 ⟨x, H2, I2, rx, a, ov, ex, g, q2⟩ => ?_
  subst ex
  obtain rfl : u = Value.ref a := rx
  exact d_notIn hu I2 g ry fun s3 I3 => ⟨.bl (!ov.isSome), H2, I3, rfl, q2⟩
theorem ps_dput (hu : X.A.units + 1 < cLine) (ho : PE X o td) (hi : PE X i ty) (hv : PE X value tv) (hs : swapsWith value (some (.Subscript o i pos')) pos.line X.env = pure false) :
    PS X (.Assign [.Subscript o i pos'] value pos) (sDPut td ty tv) := by
  intro pins s σ H D I h
  refine wpAny_Assign_Subscript (thn (hv pins s σ H _ I h) fun r s1 ⟨v, H1, I1, rv, q1⟩ => thn (ho pins s1 σ H1 _ I1 q1) fun u s2 ⟨x, H2, I2, rx, q2⟩ => thn (hi pins s2 σ H2 _ I2 q2) fun iv s3 ⟨y, H3, I3, ry, a, H4, ex, g, q3⟩ => ?_) hs
  subst ex
  obtain rfl : u = Value.ref a := rx
  exact d_setItem hu I3 g ry rv fun s4 I4 => ⟨σ, H4, I4, q3⟩
theorem ps_daug {op : Operator} {rd : V → V → Hp → VK → Prop} (hu : X.A.units + 1 < cLine) (ho : PE X o td) (hi : PE X i ty) (hv : PE X value tv) (hop : InOp X op rd)
    (ha : ∀ ov iv new, augStore i ov iv new = (do holding [new, ov, iv] (setItem ov iv new); release [new, ov, iv] []; pure .next)) : PS X (.AugAssign (.Subscript o i tpos) op value pos) (sDAug td ty tv rd) := by
  intro pins s σ H D I h
  refine wpAny_AugAssign_SubscriptAny (thn (ho pins s σ H _ I h) fun u s1 ⟨x, H1, I1, rx, q1⟩ => thn (hi pins s1 σ H1 _ I1 q1) fun iv s2 ⟨y, H2, I2, ry, a, v, ex, g, q2⟩ => ?_) ha
  subst ex
  obtain rfl : u = Value.ref a := rx
  refine d_getItem hu I2 g ry fun w' s3 I3 rw' => thn (hv pins s3 σ H2 _ I3 q2) fun w2 s4 ⟨y2, H3, I4, ry2, q3⟩ => thn (hop pins s4 σ H3 v y2 w' w2 _ I4 rw' ry2 q3) fun w3 s5 ⟨z, H4, I5, rz, H5, g5, q4⟩ => ?_
  exact d_setItem hu I5 g5 ry rz fun s6 I6 => ⟨σ, H5, I6, q4⟩
theorem ps_ddel (ho : PE X o td) (hi : PE X i ty) : PS X (.Delete [.Subscript o i tpos] pos) (sDDel td ty) := by
  intro pins s σ H D I h
  refine wpAny_Delete (wpAny_deleteEach_cons (wpAny_delete_Subscript (thn (ho pins s σ H _ I h) fun u s1 ⟨x, H1, I1, rx, q1⟩ => thn (hi pins s1 σ H1 _ I1 q1) fun iv s2 ⟨y, H2, I2, ry, a, kvs, k, ex, e, ey, l, q2⟩ => ?_)))
  subst ex ey
  obtain rfl : u = Value.ref a := rx
  exact d_delItem I2 e ry l fun s3 I3 => wpAny_deleteEach_nil ⟨σ, _, I3, q2⟩
end

/-! ### displays -/
theorem dk_empty {P : Program} {w : World} {H : Hp} (h : Heap) (hb : sysModules < h.objs.size) : ObjOk P w H (h.push { cls := .type "dict", data := .dict #[] }) h.objs.size (.dK []) :=
  ⟨Nat.zero_le _, beq_eq_false_iff_ne.mpr (Ne.symm (Nat.ne_of_lt hb)), [], .nil, Heap.DictOf.new h⟩
theorem dt_empty {P : Program} {w : World} {H : Hp} (h : Heap) (hb : sysModules < h.objs.size) : ObjOk P w H (h.push { cls := .type "dict", data := .dict #[] }) h.objs.size (.dT []) :=
  ⟨Nat.zero_le _, beq_eq_false_iff_ne.mpr (Ne.symm (Nat.ne_of_lt hb)), [], .nil, _, #[], 0, Heap.get?_push_size _ rfl, ⟨rfl, rfl, rfl⟩, rfl, rfl, List.nodup_nil⟩
/-- {}, to be a dict of the kind that is wanted -/
def tDNewK : TE := fun _ H Q => ∀ p, H p = none → Q (.ref p) (upd H p (.dK []))
def tDNewT : TE := fun _ H Q => ∀ p, H p = none → Q (.ref p) (upd H p (.dT []))
section
variable {X : Cx} {pos : Pos}
theorem pe_dnewK : PE X (.Dict [] [] pos) tDNewK := fun pins s σ H Q I h =>
  wpAny_Dict_empty ⟨.ref s.heap.objs.size, _, I.laid (a := s.heap.objs.size) (o := .dK []) (t' := s.toks) (fun _ _ q => Heap.get?_push_of_some _ q) (Nat.le_refl _) (dk_empty s.heap I.big), rfl, h _ (I.hok.fresh (Nat.le_refl _))⟩
theorem pe_dnewT : PE X (.Dict [] [] pos) tDNewT := fun pins s σ H Q I h =>
  wpAny_Dict_empty ⟨.ref s.heap.objs.size, _, I.laid (a := s.heap.objs.size) (o := .dT []) (t' := s.toks) (fun _ _ q => Heap.get?_push_of_some _ q) (Nat.le_refl _) (dt_empty s.heap I.big), rfl, h _ (I.hok.fresh (Nat.le_refl _))⟩
end

/-- the pairs of a display, from the left -/
def tPairs : List (TE × TE) → St → Hp → (List (V × V) → Hp → Prop) → Prop
  | [], _, H, Q => Q [] H
  | (tk, tv) :: r, σ, H, Q => tk σ H fun x H1 => tv σ H1 fun y H2 => tPairs r σ H2 fun ps H3 => Q ((x, y) :: ps) H3
abbrev VV : List (V × V) → List (Value × Value) → Prop := Paired fun p q => RelV p.1 q.1 ∧ RelV p.2 q.2
def PPs (X : Cx) (pos : Pos) (keys : List (Option Expr)) (values : List Expr) (trs : List (TE × TE)) : Prop :=
  ∀ (pins : List (Addr × Obj)) (s : Shared) (σ : St) (H : Hp) (Q : List (V × V) → Hp → Prop), Inv X pins σ H s → tPairs trs σ H Q →
    wpAny (model X.prog X.w) X.A (evalPairs (pairTrees keys values X.env pos)) (fun vs s' => ∃ ps H', Inv X pins σ H' s' ∧ VV ps vs ∧ Q ps H') X.xe s
theorem pps_nil {X : Cx} {pos : Pos} : PPs X pos [] [] [] := fun pins s σ H Q I h => pairTrees_nil_walk ⟨[], H, I, .nil, h⟩
theorem pps_cons {X : Cx} {pos : Pos} {k v : Expr} {ks : List (Option Expr)} {vs : List Expr} {tk tv : TE} {trs : List (TE × TE)} (hk : PE X k tk) (hv : PE X v tv) (hr : PPs X pos ks vs trs) :
    PPs X pos (some k :: ks) (v :: vs) ((tk, tv) :: trs) := fun pins s σ H Q I h =>
  pairTrees_cons_walk (thn (hk pins s σ H _ I h) fun u s1 ⟨x, H1, I1, rx, q1⟩ => thn (hv pins s1 σ H1 _ I1 q1) fun w2 s2 ⟨y, H2, I2, ry, q2⟩ =>
    thn (hr pins s2 σ H2 _ I2 q2) fun ws s3 ⟨ps, H3, I3, rel, q3⟩ => ⟨(x, y) :: ps, H3, I3, .cons ⟨rx, ry⟩ rel, q3⟩)

def mergeK (kvs more : List (Key × V)) : List (Key × V) := more.foldl (fun acc kv => putK acc kv.1 kv.2) kvs
theorem KV.merge : ∀ {more : List (Key × V)} {rs : List (Key × Value)} {kvs : List (Key × V)} {vs : List (Key × Value)}, KV more rs → KV kvs vs → KV (mergeK kvs more) (merged vs rs) := by
  intro more rs kvs vs r
  unfold KV at r
  induction r generalizing kvs vs with
  | nil => intro q; exact q
  | @cons p q ps qs h t ih =>
    intro r0
    have e : KV (putK kvs p.1 p.2) (stored vs q.1 q.2) := by
      have := r0.put p.1 h.2
      rw [← h.1]; exact this
    exact ih e
theorem length_mergeK : ∀ (more kvs : List (Key × V)), (mergeK kvs more).length ≤ kvs.length + more.length
  | [], kvs => by show kvs.length ≤ kvs.length + 0; omega
  | p :: r, kvs => by
    have h1 := length_mergeK r (putK kvs p.1 p.2)
    have h2 := length_putK kvs p.1 p.2
    show (mergeK (putK kvs p.1 p.2) r).length ≤ _
    rw [List.length_cons]; omega
theorem carries_of {P : Program} {w : World} : ∀ {kvs : List (Key × V)} {ws : List (Value × Value)}, VV (kvs.map fun kv => (kV kv.1, kv.2)) ws → ∃ rs, Carries (mixKind P w) ws rs ∧ KV kvs rs
  | [], _, r => by rw [List.map_nil] at r; cases r; exact ⟨[], True.intro, .nil⟩
  | p :: kvs, _, r => by
    rw [List.map_cons] at r
    cases r with
    | @cons a b as bs h t =>
      obtain ⟨rs, c, q⟩ := carries_of (P := P) (w := w) t
      obtain ⟨b1, b2⟩ := b
      exact ⟨(p.1, b2) :: rs, ⟨kV_is h.1, rfl, c⟩, .cons ⟨rfl, h.2⟩ q⟩
/-- {k: v, ..} with keys ints and texts; the new dict stands empty while the pairs are made -/
def tDisp (trs : List (TE × TE)) : TE := fun σ H Q => ∀ p, H p = none → tPairs trs σ (upd H p (.dK [])) fun ps H2 => H2 p = some (.dK []) ∧ ∃ kvs : List (Key × V), ps = kvs.map (fun kv => (kV kv.1, kv.2)) ∧ kvs.length ≤ 15 ∧ Q (.ref p) (upd H2 p (.dK (mergeK [] kvs)))
theorem pe_disp {X : Cx} {pos : Pos} {keys : List (Option Expr)} {values : List Expr} {trs : List (TE × TE)} (h : PPs X pos keys values trs) (hall : keys.all (·.isSome) = true) (hl : keys.length = values.length) (h0 : keys ≠ [])
    (h15 : keys.length ≤ 15) : PE X (.Dict keys values pos) (tDisp trs) := by
  intro pins s σ H Q I q
  have hn := I.hok.fresh (Nat.le_refl s.heap.objs.size)
  have I1 := I.laid (a := s.heap.objs.size) (o := .dK []) (h' := s.heap.push { cls := .type "dict", data := .dict #[] }) (t' := s.toks) (fun _ _ q => Heap.get?_push_of_some _ q) (Nat.le_refl _) (dk_empty s.heap I.big)
  refine wpAny_Dict_walk (knd := mixKind X.prog X.w) hall hl h0 h15 (thn (h pins _ σ _ _ I1 (q _ hn)) fun ws s2 ⟨ps, H2, I2, rel, e, kvs, ep, lk, q2⟩ => ?_)
  subst ep
  obtain ⟨rs, c, rk⟩ := carries_of (P := X.prog) (w := X.w) rel
  obtain ⟨z, hd, vs0, r0, dd⟩ := dk_of I2.hok e
  cases r0
  refine ⟨rs, c, dd, fun h' dd' hs => ⟨.ref s.heap.objs.size, _, ?_, rfl, q2⟩⟩
  have hz : (mergeK [] kvs).length ≤ sizeLine := by
    have h1 := length_mergeK kvs []
    rw [List.length_nil] at h1
    rw [sizeLine_eq]; omega
  have he : ∃ q, h'.get? s.heap.objs.size = some q := let ⟨q, _, _, hq, _⟩ := dd'; ⟨q, hq⟩
  exact d_write I2 (by rw [e]; exact True.intro) hs he (dk_new hz hd (rk.merge .nil) dd')

/-! ### methods -/
/-- a method call o.m(e) of a built-in, with one argument: what must be seen of the text -/
structure M1 (X : Cx) (o : Expr) (m : Str) (apos : Pos) (e : Expr) (cpos : Pos) : Prop where
  base : attributeBase o m X.env (eval o X.env) = eval o X.env
  few : ((backTo cpos (starEach [e] X.env)).all (fun x => !x.1) && (backToKw cpos (keywordEach [] X.env)).all (fun x => x.1.isSome)
    && decide (([e] : List Expr).length + ([] : List Keyword).length + (if ([] : List Keyword).isEmpty then 0 else 1) < 30)) = true
  line : (apos.endLine == cpos.line) = true
  trees : backTo cpos (starEach [e] X.env) = [(false, eval e X.env)]
structure M2 (X : Cx) (o : Expr) (m : Str) (apos : Pos) (e f : Expr) (cpos : Pos) : Prop where
  base : attributeBase o m X.env (eval o X.env) = eval o X.env
  few : ((backTo cpos (starEach [e, f] X.env)).all (fun x => !x.1) && (backToKw cpos (keywordEach [] X.env)).all (fun x => x.1.isSome)
    && decide (([e, f] : List Expr).length + ([] : List Keyword).length + (if ([] : List Keyword).isEmpty then 0 else 1) < 30)) = true
  line : (apos.endLine == cpos.line) = true
  trees : backTo cpos (starEach [e, f] X.env) = [(false, eval e X.env), (false, eval f X.env)]

/-- a is a dict, whatever its keys -/
def IsD (H : Hp) (a : Addr) : Prop := (∃ kvs, Rd H a (.dK kvs)) ∨ ∃ kvs, Rd H a (.dT kvs)
theorem isD_at {X : Cx} {pins : List (Addr × Obj)} {σ : St} {H : Hp} {s : Shared} {a : Addr} (I : Inv X pins σ H s) (d : IsD H a) :
    s.TypeIs (.ref a) "dict" ∧ (∀ b, Value.ref a = .ref b → ∃ ob, s.heap.get? b = some ob ∧ ob.dict = none) ∧ (a == sysModules) = false := by
  rcases d with ⟨kvs, e⟩ | ⟨kvs, e⟩
  · obtain ⟨_, hd, vs, _, dd⟩ := dk_rd I.hok e
    refine ⟨dd.typeIs, fun b q => ?_, hd⟩
    cases q
    obtain ⟨ob, _, _, h1, h2, _⟩ := dd
    exact ⟨ob, h1, h2.2.1⟩
  · obtain ⟨_, hd, xs, _, dd⟩ := dt_rd I.hok e
    refine ⟨dd.typeIs, fun b q => ?_, hd⟩
    cases q
    obtain ⟨ob, _, _, h1, h2, _⟩ := dd
    exact ⟨ob, h1, h2.2.1⟩

section
variable {X : Cx} {pins : List (Addr × Obj)} {σ : St} {H : Hp} {s : Shared} {a : Addr} {y d : V} {u r : Value} {o : Option V} {A : Around} {E : Value → Shared → Prop}
/-- d.get(y) -/
theorem d_get1 {Q : Value → Shared → Prop} (hu : A.units + 1 < cLine) (I : Inv X pins σ H s) (g : DGet H a y o) (ry : RelV y u) (h : ∀ w' s', Inv X pins σ H s' → RelV (o.getD .non) w' → Q w' s') :
    wpAny (model X.prog X.w) A (call (.builtin "dict.get") [.ref a, u]) Q E s := by
  rcases g with ⟨kvs, k, e, ey, l⟩ | ⟨kvs, k, b, e, ey, eb, l⟩
  · subst ey
    obtain ⟨z, hd, vs, rel, dd⟩ := dk_rd I.hok e
    refine call_meetsIn PySem.F.slot_dict_get dd.typeIs PySem.F.entry_dict_get (PySem.F.args_dict_get_2 _ _) (meets_dict_get (mixKind X.prog X.w) a (kV_is ry) hd) ⟨_, dd.mapOf, h _ _ (I.tok _) ?_⟩
    rw [l]
    exact (rel.val k).getD rfl
  · subst ey
    cases (show u = Value.ref b from ry)
    obtain ⟨z, hd, xs, rel, dd⟩ := dt_rd I.hok e
    refine call_meetsIn PySem.F.slot_dict_get dd.typeIs PySem.F.entry_dict_get (PySem.F.args_dict_get_2 _ _) (meetsH_dict_get (tupleKind (mixKind X.prog X.w)) a b hd) ⟨tupleKind_room_in1 hu, k, xs, key_of I.hok eb, dd, h _ _ (I.tok _) ?_⟩
    rw [l]
    exact (rel.val k).getD rfl
/-- d.get(y, x) -/
theorem d_get2 {Q : Value → Shared → Prop} (hu : A.units + 1 < cLine) (I : Inv X pins σ H s) (g : DGet H a y o) (ry : RelV y u) (rd : RelV d r) (h : ∀ w' s', Inv X pins σ H s' → RelV (o.getD d) w' → Q w' s') :
    wpAny (model X.prog X.w) A (call (.builtin "dict.get") [.ref a, u, r]) Q E s := by
  rcases g with ⟨kvs, k, e, ey, l⟩ | ⟨kvs, k, b, e, ey, eb, l⟩
  · subst ey
    obtain ⟨z, hd, vs, rel, dd⟩ := dk_rd I.hok e
    refine call_meetsIn PySem.F.slot_dict_get dd.typeIs PySem.F.entry_dict_get (PySem.F.args_dict_get_3 _ _ _) (meets_dict_get_default (mixKind X.prog X.w) a (kV_is ry) hd r) ⟨_, dd.mapOf, h _ _ (I.tok _) ?_⟩
    rw [l]
    exact (rel.val k).getD rd
  · subst ey
    cases (show u = Value.ref b from ry)
    obtain ⟨z, hd, xs, rel, dd⟩ := dt_rd I.hok e
    refine call_meetsIn PySem.F.slot_dict_get dd.typeIs PySem.F.entry_dict_get (PySem.F.args_dict_get_3 _ _ _) (meetsH_dict_get_default (tupleKind (mixKind X.prog X.w)) a b hd r) ⟨tupleKind_room_in1 hu, k, xs, key_of I.hok eb, dd, h _ _ (I.tok _) ?_⟩
    rw [l]
    exact (rel.val k).getD rd
end

def tDGet1 (td ty : TE) : TE := fun σ H Q => td σ H fun x H1 => ∃ a, x = .ref a ∧ IsD H1 a ∧ ty σ H1 fun y H2 => ∃ o, DGet H2 a y o ∧ Q (o.getD .non) H2
def tDGet2 (td ty tx : TE) : TE := fun σ H Q => td σ H fun x H1 => ∃ a, x = .ref a ∧ IsD H1 a ∧ ty σ H1 fun y H2 => tx σ H2 fun z H3 => ∃ o, DGet H3 a y o ∧ Q (o.getD z) H3
/-- d.pop(k): there; d.pop(k, x): there or not -/
def tDPop1 (td ty : TE) : TE := fun σ H Q => td σ H fun x H1 => ∃ a, x = .ref a ∧ IsD H1 a ∧ ty σ H1 fun y H2 => ∃ kvs k v, H2 a = some (.dK kvs) ∧ y = kV k ∧ valV kvs k = some v ∧ Q v (upd H2 a (.dK (dropK kvs k)))
def tDPop2 (td ty tx : TE) : TE := fun σ H Q => td σ H fun x H1 => ∃ a, x = .ref a ∧ IsD H1 a ∧ ty σ H1 fun y H2 => tx σ H2 fun z H3 => ∃ kvs k, H3 a = some (.dK kvs) ∧ y = kV k ∧
  (∀ v, valV kvs k = some v → Q v (upd H3 a (.dK (dropK kvs k)))) ∧ (valV kvs k = none → Q z H3)
section
variable {X : Cx} {o e f : Expr} {apos cpos : Pos} {td ty tx : TE}
theorem pe_dget1 (hu : X.A.units + 1 < cLine) (ho : PE X o td) (he : PE X e ty) (m : M1 X o "get" apos e cpos) : PE X (.Call (.Attribute o "get" apos) [e] [] cpos) (tDGet1 td ty) := by
  intro pins s σ H Q I h
  refine wpAny_Call_method m.base m.few m.line PySem.F.plainAttrs_dict PySem.F.slot_dict_get PySem.F.type_dict_get (thn (ho pins s σ H _ I h) fun u s1 ⟨x, H1, I1, rx, a, ex, d, q1⟩ => ?_)
  subst ex
  obtain rfl : u = Value.ref a := rx
  obtain ⟨t1, t2, _⟩ := isD_at I1 d
  refine ⟨t1, t2, ?_⟩
  rw [m.trees]
  refine Calls.callWith_builtin rfl (Calls.evalArgs_plain (Calls.spliced_cons (thn (he pins s1 σ H1 _ I1 q1) fun iv s2 ⟨y, H2, I2, ry, ov, g, q2⟩ => Calls.spliced_nil ?_)))
  exact d_get1 hu I2 g ry fun w' s3 I3 rw' => ⟨_, H2, I3, rw', q2⟩
theorem pe_dget2 (hu : X.A.units + 1 < cLine) (ho : PE X o td) (he : PE X e ty) (hf : PE X f tx) (m : M2 X o "get" apos e f cpos) : PE X (.Call (.Attribute o "get" apos) [e, f] [] cpos) (tDGet2 td ty tx) := by
  intro pins s σ H Q I h
  refine wpAny_Call_method m.base m.few m.line PySem.F.plainAttrs_dict PySem.F.slot_dict_get PySem.F.type_dict_get (thn (ho pins s σ H _ I h) fun u s1 ⟨x, H1, I1, rx, a, ex, d, q1⟩ => ?_)
  subst ex
  obtain rfl : u = Value.ref a := rx
  obtain ⟨t1, t2, _⟩ := isD_at I1 d
  refine ⟨t1, t2, ?_⟩
  rw [m.trees]
  refine Calls.callWith_builtin rfl (Calls.evalArgs_plain (Calls.spliced_cons (thn (he pins s1 σ H1 _ I1 q1) fun iv s2 ⟨y, H2, I2, ry, q2⟩ =>
    Calls.spliced_cons (thn (hf pins s2 σ H2 _ I2 q2) fun fv s3 ⟨z, H3, I3, rz, ov, g, q3⟩ => Calls.spliced_nil ?_))))
  exact d_get2 hu I3 g ry rz fun w' s4 I4 rw' => ⟨_, H3, I4, rw', q3⟩
theorem pe_dpop1 (ho : PE X o td) (he : PE X e ty) (m : M1 X o "pop" apos e cpos) : PE X (.Call (.Attribute o "pop" apos) [e] [] cpos) (tDPop1 td ty) := by
  intro pins s σ H Q I h
  refine wpAny_Call_method m.base m.few m.line PySem.F.plainAttrs_dict PySem.F.slot_dict_pop PySem.F.type_dict_pop (thn (ho pins s σ H _ I h) fun u s1 ⟨x, H1, I1, rx, a, ex, d, q1⟩ => ?_)
  subst ex
  obtain rfl : u = Value.ref a := rx
  obtain ⟨t1, t2, _⟩ := isD_at I1 d
  refine ⟨t1, t2, ?_⟩
  rw [m.trees]
  refine Calls.callWith_builtin rfl (Calls.evalArgs_plain (Calls.spliced_cons (thn (he pins s1 σ H1 _ I1 q1) fun iv s2 ⟨y, H2, I2, ry, kvs, k, v, ea, ey, l, q2⟩ => Calls.spliced_nil ?_)))
  subst ey
  exact d_pop I2 ea ry l (.inl rfl) fun w' s3 I3 rw' => ⟨v, _, I3, rw', q2⟩
theorem pe_dpop2 (ho : PE X o td) (he : PE X e ty) (hf : PE X f tx) (m : M2 X o "pop" apos e f cpos) : PE X (.Call (.Attribute o "pop" apos) [e, f] [] cpos) (tDPop2 td ty tx) := by
  intro pins s σ H Q I h
  refine wpAny_Call_method m.base m.few m.line PySem.F.plainAttrs_dict PySem.F.slot_dict_pop PySem.F.type_dict_pop (thn (ho pins s σ H _ I h) fun u s1 ⟨x, H1, I1, rx, a, ex, d, q1⟩ => ?_)
  subst ex
  obtain rfl : u = Value.ref a := rx
  obtain ⟨t1, t2, _⟩ := isD_at I1 d
  refine ⟨t1, t2, ?_⟩
  rw [m.trees]
  refine Calls.callWith_builtin rfl (Calls.evalArgs_plain (Calls.spliced_cons (thn (he pins s1 σ H1 _ I1 q1) fun iv s2 ⟨y, H2, I2, ry, q2⟩ =>
    Calls.spliced_cons (thn (hf pins s2 σ H2 _ I2 q2) fun fv s3 ⟨z, H3, I3, rz, kvs, k, ea, ey, q3, q4⟩ => Calls.spliced_nil ?_))))
  subst ey
  cases l : valV kvs k with
  | some v => exact d_pop I3 ea ry l (.inr ⟨fv, rfl⟩) fun w' s4 I4 rw' => ⟨v, _, I4, rw', q3 v l⟩
  | none => exact d_popD I3 ea ry l fun s4 I4 => ⟨z, H3, I4, rz, q4 l⟩
end

/-! ### dict(d): a copy -/
section
variable {X : Cx} {pins : List (Addr × Obj)} {σ : St} {H : Hp} {s : Shared} {a : Addr} {kvs : List (Key × V)} {A : Around} {E : Value → Shared → Prop}
theorem d_copyOf {Q : Value → Shared → Prop} (I : Inv X pins σ H s) (e : Rd H a (.dK kvs)) (h : ∀ p s', H p = none → Inv X pins σ (upd H p (.dK kvs)) s' → Q (.ref p) s') : wpAny (model X.prog X.w) A (call (.type "dict") [.ref a]) Q E s := by
  obtain ⟨z, hd, vs, rel, dd⟩ := dk_rd I.hok e
  refine kt_call_dict hd dd (by rw [← rel.length]; exact z) fun h' dd' hs => ?_
  refine h _ _ (I.hok.fresh (Nat.le_refl _)) (I.laid (a := s.heap.objs.size) (o := .dK kvs) (t' := s.toks) (fun b q hq => ?_) (Nat.le_refl _) (dk_new z (beq_eq_false_iff_ne.mpr (Ne.symm (Nat.ne_of_lt I.big))) rel dd'))
  exact (hs.2 b (Nat.ne_of_lt (Heap.lt_size hq))).trans (Heap.get?_push_of_some _ hq)
end

section
variable {X : Cx} {pins : List (Addr × Obj)} {σ : St} {H : Hp} {s : Shared} {a : Addr} {y : V} {u : Value} {A : Around} {E : Value → Shared → Prop}
/-- d[y], not there: a KeyError -/
theorem d_missing {Q : Value → Shared → Prop} (hu : A.units + 1 < cLine) (hh : A.handled = none) (I : Inv X pins σ H s) (g : DGet H a y none) (ry : RelV y u)
    (h : ∀ h' e t', Heap.NewExc s.heap h' e "KeyError" → E (.ref e) { s with heap := h', toks := t' }) : wpAny (model X.prog X.w) A (getItem (.ref a) u) Q E s := by
  rcases g with ⟨kvs, k, e, ey, l⟩ | ⟨kvs, k, b, e, ey, eb, l⟩
  · subst ey
    obtain ⟨z, hd, vs, rel, dd⟩ := dk_rd I.hok e
    have hn : valueAt vs k = none := RelO.none_of (by rw [l]; exact rel.val k)
    exact wpAny_getItem_missing_of (kV_is ry) hd hh dd.mapOf hn fun h' ex ne => h h' ex _ ne
  · subst ey
    cases (show u = Value.ref b from ry)
    obtain ⟨z, hd, xs, rel, dd⟩ := dt_rd I.hok e
    have hn : (atKey xs k).map (·.2) = none := RelO.none_of (by rw [l]; exact rel.val k)
    exact wpAny_getItem_missing_heap (tupleKind_room_in1 hu) (key_of I.hok eb) hd hh dd (Option.map_eq_none_iff.mp hn) fun h' ex ne => h h' ex _ ne
end
end L2

namespace Att
open PySem PySem.W PySem.Calls PyProof.Rows

/-! ### the script -/
theorem ints_of_wellAll {P : Params} {h : Heap} : ∀ (ns : List Int) (vs : List Value), WellAll P h vs (ns.map WData.int) → IntsAre vs ns := by
  intro ns
  induction ns with
  | nil =>
    intro vs w
    rw [List.map_nil] at w
    cases w
    exact .nil
  | cons n ns ih =>
    intro vs w
    rw [List.map_cons] at w
    cases w with
    | cons a b =>
      cases a
      exact .cons _ _ (ih _ b)

theorem script_of {l : OpenLaw} {n : Nat} (hn : l.most = some n) {P : Params} {h : Heap} {args : List WData} {vals : List Value}
    (hpre : l.row.toRowW.claim.pre args = true) (hwl : WellAll P h vals args) :
    ∃ a vs ns, vals = [Value.ref a] ∧ args = [WData.list (ns.map WData.int)] ∧ h.get? a = some { cls := .type "list", data := .seq vs.toArray } ∧ IntsAre vs ns ∧ ns.length ≤ n := by
  have hsh : WShape.hasAll [] args [.list .int] = true := (pre_splitW hpre).1
  have hc : l.pre.holds [] { args := args } = true := (pre_splitW hpre).2
  obtain ⟨d, r, rfl, h1, h2⟩ := hasAllW_cons hsh
  obtain rfl := hasAllW_nil h2
  obtain ⟨xs, rfl, h3⟩ := hasW_list h1
  obtain ⟨ns, rfl⟩ := items_int h3
  have hlen : ns.length ≤ n := by
    unfold OpenLaw.pre at hc
    have h4 : (WTm.not (.lt (.lit (.int (n : Int))) (.len (.arg 0)))).holds [] { args := [.list (ns.map .int)] } = true := by
      have h4 := (holds_andW hc).1
      rw [hn] at h4
      exact h4
    have h5 := condW_of h4 (w_not (w_lt w_lit (w_len_list (w_arg rfl))))
    rw [List.length_map] at h5
    refine Nat.le_of_not_lt fun q => ?_
    have q' : (n : Int) < ((ns.length : Nat) : Int) := by omega
    first
      | (rw [decide_eq_true q'] at h5; exact absurd h5 (by decide))
      | (simp at h5; omega)
  cases hwl with
  | cons w1 w2 =>
    cases w2
    cases w1 with
    | list ho hall => exact ⟨_, _, ns, rfl, rfl, ho, ints_of_wellAll ns _ hall, hlen⟩

theorem post_true (l : OpenLaw) (args : List WData) : l.row.toRowW.claim.post args (.bool true) args = true :=
  postW_of (r := l.row.toRowW) (X := (true == true))
    (show WShape.has [] (.bool true) .bool = true by first | rfl | decide | simp [WShape.has, WShape.arms, WShape.armsAll])
    (show (WTm.eq .res (.lit (.bool true))).value [] { args := args, res := some (.bool true), after := args } = some (.bool (true == true)) from w_eq_bool (w_res rfl) w_lit) rfl

/-! ### the attachment: holds_open's last premise (the goal 'hc' behind k_head) from a wpAny of the law's body -/
theorem attach {l : OpenLaw} {n : Nat} {q : Program} {loose : List Str} {XP : (Str → Option Value) → Heap → Prop} {YP : World → Heap → Prop} {d : DefRec} {x : Str}
    (hn : l.most = some n) (hdf : d.params.defaults = [])
    (hbind : ∀ pm cd doc v : Value, bindArgs (docDef d.name d.params d.body d.scope pm cd doc) ⟨[v], []⟩ = pure [(x, v)])
    (hx : d.scope.names.lookup x = some .local ∨ d.scope.names.lookup x = some .cell)
    (hk : d.scope.kind = .function) (hco : d.scope.isCoroutine = false) (hgen : d.scope.isGenerator = false)
    (body : ∀ (w : World) (s₀ s₁ s : Shared) (mg mb : Str → Option Value) (fa : Addr) (o : Obj) (pm cd doc : Value) (a : Addr) (vs : List Value) (ns : List Int),
      Ground q loose [] XP w s₀ mg mb s₁.heap → YP w s₁.heap →
      s₁.heap.get? fa = some o → o.data = .func (docDef d.name d.params d.body d.scope pm cd doc) → s₁.heap.CodeRec cd d.name → mg d.name = some (.ref fa) →
      s₁.heap.get? a = some { cls := .type "list", data := .seq vs.toArray } → IntsAre vs ns → ns.length ≤ n →
      s.gens = #[] → s.os = s₁.os →
      Fr s₁.heap s₁.heap.objs.size s.heap (bindL (envOfC d.name d.scope s₁.heap.objs.size fa cd).kindOf [(x, .ref a)] fun _ => none) →
      Cl s₁.heap.objs.size (cellsFrom (s₁.heap.objs.size + 1) d.scope.names []) s.heap (bindC (envOfC d.name d.scope s₁.heap.objs.size fa cd).kindOf [(x, .ref a)] fun _ => none) →
      wpAny (model l.prog w) (callerA.deeper (envOfC d.name d.scope s₁.heap.objs.size fa cd)) (execs d.body (envOfC d.name d.scope s₁.heap.objs.size fa cd))
        (fun f s' => f = .ret (.bool true) ∧ OldK s₁.heap s'.heap ∧ s'.os = s₁.os ∧ AllBare s'.gens) (fun _ _ => False) s) :
    WalkO q loose XP YP l.row.toRowW d [] (fun f vs => PySem.call f vs) := by
  intro w s₀ s₁ mg mb G Y fa o pm cd doc dV kV ho hd hcd hD hmg hg args vals as hpre hlay hrd hwl hlo
  obtain rfl : dV = .none := Dflts.none hD hdf
  obtain rfl : kV = .none := Dflts.noKw hD
  obtain ⟨a, vs, ns, rfl, rfl, hobj, hints, hlen⟩ := script_of hn hpre hwl
  refine enter_call ?_
  refine call_cells_ret (o := o) (by rw [depth_caller]; decide) ho (fd_plain hd) G.T.nolimit hcd (hbind pm cd doc (.ref a)) (fun y hy => ?_) (fun h₁ tk F X => ?_) hco hgen hk
  · obtain rfl : y = (x, Value.ref a) := List.mem_singleton.mp hy
    rcases hx with e | e
    · exact .inl e
    · exact .inr ⟨e, cellsFrom_some _ _ _ (.inl e)⟩
  · refine wpAny_mono (body w s₀ s₁ { s₁ with heap := h₁, toks := tk } mg mb fa o pm cd doc a vs ns G Y ho (fd_plain hd) hcd hmg hobj hints hlen hg rfl F X) (fun f s' hq => ?_) (fun _ _ hq => hq)
    obtain ⟨rfl, h2, h3, h4⟩ := hq
    exact ⟨.inl ⟨.bool true, .bool true, [], rfl, fun _ => rfl, .bool true, post_true l _, fun _ => ⟨List.Pairwise.nil, fun _ hm => (nomatch hm)⟩⟩, h2, h3, h4⟩

/-- the same from a codeAny of the CALL (for a layer whose function contracts speak of calls) -/
theorem attach_call {l : OpenLaw} {n : Nat} {q : Program} {loose : List Str} {XP : (Str → Option Value) → Heap → Prop} {YP : World → Heap → Prop} {d : DefRec}
    (hn : l.most = some n) (hdf : d.params.defaults = [])
    (call : ∀ (w : World) (s₀ s₁ : Shared) (mg mb : Str → Option Value) (fa : Addr) (o : Obj) (pm cd doc : Value) (a : Addr) (vs : List Value) (ns : List Int),
      Ground q loose [] XP w s₀ mg mb s₁.heap → YP w s₁.heap →
      s₁.heap.get? fa = some o → o.data = .func (docDef d.name d.params d.body d.scope pm cd doc) → s₁.heap.CodeRec cd d.name → mg d.name = some (.ref fa) →
      s₁.heap.get? a = some { cls := .type "list", data := .seq vs.toArray } → IntsAre vs ns → ns.length ≤ n → s₁.gens = #[] →
      codeAny (model l.prog w) callerA (.call (.ref fa) ⟨[.ref a], []⟩) (fun r s' => r = .ok (.ret (.bool true)) ∧ OldK s₁.heap s'.heap ∧ s'.os = s₁.os ∧ AllBare s'.gens) s₁) :
    WalkO q loose XP YP l.row.toRowW d [] (fun f vs => PySem.call f vs) := by
  intro w s₀ s₁ mg mb G Y fa o pm cd doc dV kV ho hd hcd hD hmg hg args vals as hpre hlay hrd hwl hlo
  obtain rfl : dV = .none := Dflts.none hD hdf
  obtain rfl : kV = .none := Dflts.noKw hD
  obtain ⟨a, vs, ns, rfl, rfl, hobj, hints, hlen⟩ := script_of hn hpre hwl
  refine enter_call (codeAny_mono (call w s₀ s₁ mg mb fa o pm cd doc a vs ns G Y ho (fd_plain hd) hcd hmg hobj hints hlen hg) fun r s' hq => ?_)
  obtain ⟨rfl, h2, h3, h4⟩ := hq
  exact ⟨.inl ⟨.bool true, .bool true, [], rfl, fun _ => rfl, .bool true, post_true l _, fun _ => ⟨List.Pairwise.nil, fun _ hm => (nomatch hm)⟩⟩, h2, h3, h4⟩

/-- the same where the top left finished generators (o_head chose holds_openN): nothing may have changed at all and no generator may be left -/
theorem attachN {l : OpenLaw} {n : Nat} {q : Program} {loose : List Str} {XP : (Str → Option Value) → Heap → Prop} {YP : World → Heap → Prop} {d : DefRec} {x : Str}
    (hn : l.most = some n) (hdf : d.params.defaults = [])
    (hbind : ∀ pm cd doc v : Value, bindArgs (docDef d.name d.params d.body d.scope pm cd doc) ⟨[v], []⟩ = pure [(x, v)])
    (hx : d.scope.names.lookup x = some .local ∨ d.scope.names.lookup x = some .cell)
    (hk : d.scope.kind = .function) (hco : d.scope.isCoroutine = false) (hgen : d.scope.isGenerator = false)
    (body : ∀ (w : World) (s₀ s₁ s : Shared) (mg mb : Str → Option Value) (fa : Addr) (o : Obj) (pm cd doc : Value) (a : Addr) (vs : List Value) (ns : List Int),
      Ground q loose [] XP w s₀ mg mb s₁.heap → YP w s₁.heap →
      s₁.heap.get? fa = some o → o.data = .func (docDef d.name d.params d.body d.scope pm cd doc) → s₁.heap.CodeRec cd d.name → mg d.name = some (.ref fa) →
      s₁.heap.get? a = some { cls := .type "list", data := .seq vs.toArray } → IntsAre vs ns → ns.length ≤ n →
      s.gens = #[] → s.os = s₁.os →
      Fr s₁.heap s₁.heap.objs.size s.heap (bindL (envOfC d.name d.scope s₁.heap.objs.size fa cd).kindOf [(x, .ref a)] fun _ => none) →
      Cl s₁.heap.objs.size (cellsFrom (s₁.heap.objs.size + 1) d.scope.names []) s.heap (bindC (envOfC d.name d.scope s₁.heap.objs.size fa cd).kindOf [(x, .ref a)] fun _ => none) →
      wpAny (model l.prog w) (callerA.deeper (envOfC d.name d.scope s₁.heap.objs.size fa cd)) (execs d.body (envOfC d.name d.scope s₁.heap.objs.size fa cd))
        (fun f s' => f = .ret (.bool true) ∧ (∀ b o, s₁.heap.get? b = some o → s'.heap.get? b = some o) ∧ s'.os = s₁.os ∧ s'.gens = #[]) (fun _ _ => False) s) :
    WalkN q loose XP YP l.row.toRowW d [] (fun f vs => PySem.call f vs) := by
  intro w s₀ s₁ mg mb G Y fa o pm cd doc dV kV ho hd hcd hD hmg hg args vals as hpre hlay hrd hwl hlo
  obtain rfl : dV = .none := Dflts.none hD hdf
  obtain rfl : kV = .none := Dflts.noKw hD
  obtain ⟨a, vs, ns, rfl, rfl, hobj, hints, hlen⟩ := script_of hn hpre hwl
  refine enter_callW ?_
  refine call_cells_ret (o := o) (by rw [depth_caller]; decide) ho (fd_plain hd) G.T.nolimit hcd (hbind pm cd doc (.ref a)) (fun y hy => ?_) (fun h₁ tk F X => ?_) hco hgen hk
  · obtain rfl : y = (x, Value.ref a) := List.mem_singleton.mp hy
    rcases hx with e | e
    · exact .inl e
    · exact .inr ⟨e, cellsFrom_some _ _ _ (.inl e)⟩
  · refine wpAny_mono (body w s₀ s₁ { s₁ with heap := h₁, toks := tk } mg mb fa o pm cd doc a vs ns G Y ho (fd_plain hd) hcd hmg hobj hints hlen hg rfl F X) (fun f s' hq => ?_) (fun _ _ hq => hq)
    obtain ⟨rfl, h2, h3, h4⟩ := hq
    exact ⟨.inl ⟨.bool true, .bool true, [], rfl, fun _ => rfl, .bool true, post_true l _, fun _ => ⟨List.Pairwise.nil, fun _ hm => (nomatch hm)⟩⟩, h2, h3, h4⟩

/-! ### rules over ANY heap (no ledger) from facts about the written part K: the library's own take a ledger (News) for what they write -/
section
variable {prog : Program} {w : World} {A : Around} {E : Value → Shared → Prop} {s : Shared} {K : Frag}

/-- a def of the module, or a method (qual 'C.m'), entered: the frame is the next address; cells behind it -/
theorem call_fn {R : Result → Shared → Prop} {name qual : Str} {params : Arguments} {body : List Stmt} {scope : Scope} {dV kV doc pm cdv ct oc : Value} {an od : Option Addr} {osl : Array (Option Value)} {f : Addr} {args : Args} {binds : List (Str × Value)}
    (X : K.In s.heap) (hlim : s.heap.NoLimit) (ho : K.lookup f = some ⟨oc, od, .func (fnOf name qual params body scope dV kV doc pm an cdv ct), osl⟩) (hcd : codeIn K cdv qual = true) (hroom : A.depth < recursionLimit)
    (hbind : BindsTo s (fnOf name qual params body scope dV kV doc pm an cdv ct) args binds)
    (hkind : (binds.all fun y => scope.names.lookup y.1 == some .local || scope.names.lookup y.1 == some .cell) = true)
    (h : ∀ s₁, InCallC s s.heap.objs.size (bindL (envOfC qual scope s.heap.objs.size f cdv).kindOf binds fun _ => none) (cellsFrom (s.heap.objs.size + 1) scope.names [])
        (bindC (envOfC qual scope s.heap.objs.size f cdv).kindOf binds fun _ => none) s₁ →
      wpAny (model prog w) (A.deeper (envOfC qual scope s.heap.objs.size f cdv)) (execs body (envOfC qual scope s.heap.objs.size f cdv))
        (fun fl s' => R (.ok (.ret (match fl with | .ret v => v | _ => .none))) s')
        (fun e s' => wpAny (model prog w) (A.deeper (envOfC qual scope s.heap.objs.size f cdv)) (leaving (envOfC qual scope s.heap.objs.size f cdv) e) (fun _ s'' => R (.error e) s'') (fun e' s'' => R (.error e') s'') s') s₁)
    (hco : scope.isCoroutine = false) (hgen : scope.isGenerator = false) (hk : scope.kind = .function) : codeAny (model prog w) A (.call (.ref f) args) R s := by
  refine codeAny_call_function hroom (X _ _ ho) rfl hco hgen rfl (codeRec_of X hcd) (hbind _ _ _ _ ?_)
  refine wpAny_newFunctionEnv_cells hk (kindsX hkind _) fun env he s₁ x => ?_
  subst he
  exact ⟨hlim.keeps x.toInCall.keep, codeAny_func (h s₁ x)⟩

/-- C(..): dict at size, instance at size + 1, then __init__ -/
theorem make_obj {R : Result → Shared → Prop} {C fI : Addr} {rest : List Value} {kw : List (Str × Value)}
    (X : K.In s.heap) (hm : makesIn K C = true) (hi : findIn K (.ref C) "__init__" = some (some (.ref fI))) (hf : isFn K (.ref fI) = true)
    (h : codeAny (model prog w) (A.under (.builtin "type.__call__" ⟨.ref C :: rest, kw⟩)) (.call (.ref fI) ⟨.ref (s.heap.objs.size + 1) :: rest, kw⟩) (InitBack (s.heap.objs.size + 1) R)
      { s with heap := (s.heap.push emptyDict).push (instObj C s.heap.objs.size) }) : codeAny (model prog w) A (.call (.ref C) ⟨rest, kw⟩) R s := by
  obtain ⟨hh, g, d, t, os⟩ := s
  exact make_core (makes_of X hm) (looks_findIn X hi) (fun self => bind_fn X self (beq_iff_eq.mp hf)) (.inl rfl) h

/-- x.name where the instance's dict holds the name and the class does not -/
theorem get_field {x C : Addr} {ox : Obj} {es : List DictEntry} {n : Nat} {name : Str} {expr : Bool} {v : Value} {Q : Value → Shared → Prop}
    (X : K.In s.heap) (I : PySem.W.InstAt s.heap x ox C (some (dictOf es n))) (hg : plainGet K C name = true) (hh : hasDictIn K C = true) (ha : findIn K (.ref C) name = some none)
    (hl : getL name es = some (some v)) (hv : handedIn v = true) (h : Q v { s with toks := s.toks + 1 }) : wpAny (model prog w) A (getAttr (.ref x) name expr) Q E s :=
  get_value X I (plainGet_of hg).1 (findObj_own hh ha rfl hl) hv h

/-- x.m(..): the method found in the class -/
theorem get_method {x C f : Addr} {ox : Obj} {es : List DictEntry} {n : Nat} {name : Str} {pl : Sem Bool} {Q : Value × List Value → Shared → Prop}
    (X : K.In s.heap) (I : PySem.W.InstAt s.heap x ox C (some (dictOf es n))) (hg : plainGet K C name = true) (hf : findIn K (.ref C) name = some (some (.ref f))) (ht : isFn K (.ref f) = true)
    (hl : getL name es = some none) (h : Q (.ref f, [.ref x]) s) : wpAny (model prog w) A (getMethod (.ref x) name pl) Q E s :=
  method_fn X I (plainGet_of hg).1 (plainGet_of hg).2 hf (beq_iff_eq.mp ht) (by show (lookIn name (dictOf es n)).map _ = _; rw [lookIn_dict, hl]; rfl) h

/-! the whole heap as the ledger: makes every rule that writes through a ledger a rule over any heap -/
def noObjs (h : Heap) : Heap := { h with objs := #[] }
theorem noObjs_get (h : Heap) (b : Addr) : (noObjs h).get? b = none := by
  cases e : (noObjs h).get? b with
  | none => rfl
  | some o => exact absurd (Heap.lt_size e) (Nat.not_lt_zero _)
def ledger (h : Heap) (L d : Addr) : List (Addr × Obj) := (List.range h.objs.size).filterMap fun a => if a = L ∨ a = d then none else (h.get? a).map fun o => (a, o)
theorem mem_ledger {h : Heap} {L d a : Addr} {o : Obj} : (a, o) ∈ ledger h L d ↔ a ≠ L ∧ a ≠ d ∧ h.get? a = some o := by
  unfold ledger
  rw [List.mem_filterMap]
  constructor
  · rintro ⟨b, _, e⟩
    split at e
    · cases e
    · rename_i hb
      obtain ⟨o', ho, e'⟩ := Option.map_eq_some_iff.mp e
      cases e'
      exact ⟨fun q => hb (.inl q), fun q => hb (.inr q), ho⟩
  · rintro ⟨n1, n2, ho⟩
    refine ⟨a, List.mem_range.mpr (Heap.lt_size ho), ?_⟩
    rw [if_neg (show ¬ (a = L ∨ a = d) from fun q => q.elim n1 n2), ho] <;> rfl
theorem news_ledger {h : Heap} {L d : Addr} {od : Obj} (hne : d ≠ L) (ho : h.get? d = some od) : News (noObjs h) L h ([] ++ (d, od) :: ledger h L d) := by
  rintro ⟨a, o⟩ hp
  rcases List.mem_cons.mp hp with e | hp
  · cases e
    exact ⟨ho, hne, noObjs_get _ _⟩
  · obtain ⟨n1, n2, e⟩ := mem_ledger.mp hp
    exact ⟨e, n1, noObjs_get _ _⟩
theorem fr_all {h : Heap} {L : Addr} {m : Str → Option Value} (n : h.Ns L m) : Fr (noObjs h) L h m :=
  ⟨n, fun b o e => (by rw [noObjs_get] at e; cases e), Nat.zero_le _⟩
/-- Upd of the head entry (for append_K, setItem_K ..) -/
theorem upd_ledger {h : Heap} {L d : Addr} {o o' : Obj} : Upd d o o' ((d, o) :: ledger h L d) ((d, o') :: ledger h L d) :=
  .head fun ⟨_, _⟩ hp => (mem_ledger.mp hp).2.1

/-- x.name = v over any heap: L is any namespace of the heap (the frame's, say): its map stays, its object is not told; all else but the dict stays -/
theorem set_field {x C dx L : Addr} {ox : Obj} {m : Str → Option Value} {es es' : List DictEntry} {n n' : Nat} {name : Str} {v : Value} {Q : Unit → Shared → Prop}
    (X : K.In s.heap) (I : PySem.W.InstAt s.heap x ox C (some (dictOf es n))) (hd : ox.dict = some dx) (hL : s.heap.Ns L m) (hne : dx ≠ L)
    (hs : findIn K (.ref C) "__setattr__" = some (some (.builtin "object.__setattr__"))) (hp : plainOver K C = true) (ht : takerIn K C name = some none) (hh : hasDictIn K C = true) (hl : (getL name es).isSome = true)
    (e : (putL name (PyData.keyHash w.params name) (.str name (s.toks + 1)) v es, putN name es n) = (es', n')) (hz : es'.length ≤ 1000)
    (h : ∀ h' : Heap, h'.Ns L m → h'.get? dx = some (dictOf es' n') → (∀ b o, b ≠ dx → b ≠ L → s.heap.get? b = some o → h'.get? b = some o) → Q () { s with heap := h', toks := s.toks + 2 }) :
    wpAny (model prog w) A (setAttr (.ref x) name v) Q E s := by
  obtain ⟨e1, e2⟩ := Prod.mk.inj e
  have hdx : s.heap.get? dx = some (dictOf es n) := by
    have := I.dict
    rw [hd] at this
    exact this
  refine set_plain X I hs (osa_dict (s := { s with toks := s.toks + 1 }) (h₀ := noObjs s.heap) (L := L) (m := m) (od := dictOf es n) (od' := dictOf es' n') (es := es') (n := n') (pre := []) (post := ledger s.heap L dx)
    (fr_all hL) (news_ledger hne hdx) X I hd hp ht hh hl (fun _ q => nomatch q) (fun ⟨_, _⟩ q => (mem_ledger.mp q).2.1) (by rw [putName_dict, e1, e2]) rfl hz fun h' F' N' => ?_)
  exact h h' F'.ns (N'.get (List.Mem.head _)) fun b o n1 n2 ho => N'.get (List.Mem.tail _ (mem_ledger.mpr ⟨n2, n1, ho⟩))
end
end Att

namespace L2
open PySem PySem.Spec PyProof.Rows

theorem vals_ints : ∀ {vs : List Value} {ns : List Int}, IntsAre vs ns → Vals (ns.map V.int) vs
  | _, _, .nil => .nil
  | _, _, .cons n t h => .cons ⟨t, rfl⟩ (vals_ints h)

/-- nothing is tracked but the script, known to the object (or it is an object of the module) -/
def Only (H : Hp) : Prop := ∀ b, H b = none ∨ ∃ o xs, H b = some (.frz o (.lst xs))

/-- THE HEAD: the law's promise, at the heap behind the top. F, the promise of the law's def, may use that base is part of the heap (so K.In base, base.Ns mainGlobals mg stand in Mod) -/
theorem law_call {P : Program} {w : World} {K : PySem.W.Frag} {mg mb : Str → Option Value} {CX : CXT} {k : Nat} {fa a : Addr} {fd : FuncData} {x : Str} {sp : Sp} {s₁ : Shared} {vs : List Value} {ns : List Int}
    (KX : K.In s₁.heap) (hns : s₁.heap.Ns mainGlobals mg) (hb : s₁.heap.Ns builtinsNs mb) (hbb : ∀ x : Str, x ≠ "__name__" → mb x = bootBuiltins x) (hlim : s₁.heap.NoLimit) (hg : s₁.gens = #[])
    (ha : s₁.heap.get? a = some { cls := .type "list", data := .seq vs.toArray }) (hi : IntsAre vs ns) (hl : ns.length ≤ sizeLine) (hr : Room k callerA)
    (F : ∀ base : Heap, K.In base → base.Ns mainGlobals mg → FnOk P w K mg base CX k fa fd [x] sp) (hbind : ∀ (s : Shared) (u : Value), BindsTo s fd ⟨[u], []⟩ [(x, u)])
    (hsp : ∀ H : Hp, Only H → SqL K H a (ns.map V.int) → sp [.ref a] H (fun v _ => v = .bl true) fun _ _ _ => False)
    (hCX : ∀ H e s', CX [] H s₁ (fun _ _ _ => False) e s' → False) :
    codeAny (model P w) callerA (.call (.ref fa) ⟨[.ref a], []⟩) (fun r s' => r = .ok (.ret (.bool true)) ∧ OldK s₁.heap s'.heap ∧ s'.os = s₁.os ∧ AllBare s'.gens) s₁ := by
  have rv := vals_ints hi
  have lenV := hi.length
  -- from an abstract heap in which nothing but the script may be tracked
  have core : ∀ H : Hp, Only H → SqL K H a (ns.map V.int) → HOk P w H s₁.heap → (∀ b, H b ≠ none → b = a) → (H a ≠ none → K.lookup a = none) →
      codeAny (model P w) callerA (.call (.ref fa) ⟨[.ref a], []⟩) (fun r s' => r = .ok (.ret (.bool true)) ∧ OldK s₁.heap s'.heap ∧ s'.os = s₁.os ∧ AllBare s'.gens) s₁ := by
    intro H hO hS hok hA hK
    have base_of : ∀ {b : Addr} {o : Obj}, s₁.heap.get? b = some o → H b = none → (hidT s₁.heap H).get? b = some o := fun e n => hidT_get e n
    have noA : ∀ {b : Addr} {o : Obj} {es : Array DictEntry} {ep : Nat}, s₁.heap.get? b = some o → o.data = .dict es ep → H b = none := fun {b o es ep} e d => by
      cases q : H b with
      | none => rfl
      | some u =>
        have e' : b = a := hA b (by rw [q]; simp)
        subst e'
        rw [ha] at e; cases e
        have d' : Data.seq vs.toArray _ = Data.dict es ep := d
        cases d'
    have nsK : ∀ {b : Addr} {m : Str → Option Value}, s₁.heap.Ns b m → (hidT s₁.heap H).Ns b m := fun {b m} ⟨o, es, ep, e, d, r⟩ => ⟨o, es, ep, base_of e (noA e d), d, r⟩
    have hKb : K.In (hidT s₁.heap H) := fun b o e => base_of (KX b o e) (by
      cases q : H b with
      | none => rfl
      | some u =>
        have e' : b = a := hA b (by rw [q]; simp)
        subst e'
        rw [hK (by rw [q]; simp)] at e; cases e)
    have hM : Mod K mg (hidT s₁.heap H) := ⟨hKb, nsK hns, ⟨mb, nsK hb, hbb⟩, let ⟨mc, h1, h2⟩ := hlim; ⟨mc, nsK h1, h2⟩⟩
    have e0 : Env0 P w K mg (hidT s₁.heap H) callerA [] s₁ H := ⟨rfl, hM, fun b o e => of_hidT e, Nat.le_of_eq (hidT_size _ _), trivial, fun b hb => absurd (show b ∈ ([] : List Addr) from hb) (by simp), hok, .of_eq hg⟩
    refine codeAny_mono ((F _ hKb (nsK hns)).run callerA [] s₁ H ⟨[.ref a], []⟩ [.ref a] [.ref a] _ _ hr e0 (hbind s₁ (.ref a)) (.cons rfl .nil) (hsp H hO hS)) fun r s' h => ?_
    cases r with
    | error e => exact (hCX H e s' h).elim
    | ok fl =>
      cases fl with
      | next => exact False.elim h
      | brk => exact False.elim h
      | cont => exact False.elim h
      | ret u =>
        obtain ⟨v, H', os, bare, un, hok', r', q⟩ := h
        have q' : v = .bl true := q
        subst q'
        obtain rfl : u = Value.bool true := r'
        refine ⟨rfl, OldK.of_keep fun b o e => ?_, os, bare⟩
        cases q : H b with
        | none => exact un.keep b o e q (by intro z; exact absurd (show b ∈ ([] : List Addr) from z) (by simp)) (by simp)
        | some u =>
          rcases hO b with z | ⟨ob, xs, z⟩
          · rw [q] at z; cases z
          · have z2 := un.frzs b ob _ z
            obtain ⟨e1, _⟩ := hok b _ z
            obtain ⟨e2, _⟩ := hok' b _ z2
            rw [e] at e1; cases e1
            exact e2
  cases hk : K.lookup a with
  | some o =>
    -- the script is one of the module's own objects
    have e := KX a o hk
    rw [ha] at e
    cases e
    refine core (fun _ => none) (fun _ => .inl rfl) (.inr ⟨_, vs.toArray, _, hk, rfl, rfl, rfl, by rw [List.size_toArray, lenV]; exact hl, by simpa using rv⟩) (fun b u z => by have z' : (none : Option HO) = some u := z; cases z') (fun b z => absurd rfl z) fun z => absurd rfl z
  | none =>
    refine core (fun b => if b = a then some (.frz { cls := .type "list", data := .seq vs.toArray } (.lst (ns.map V.int))) else none) (fun b => ?_) (.inl (.inr ⟨{ cls := .type "list", data := .seq vs.toArray }, if_pos rfl⟩)) (fun b u z => ?_) (fun b z => ?_) fun _ => hk
    · by_cases hb : b = a
      · exact .inr ⟨_, _, if_pos hb⟩
      · exact .inl (if_neg hb)
    · by_cases hb : b = a
      · have z' := (if_pos hb).symm.trans z
        cases z'
        subst hb
        exact ⟨ha, by rw [List.length_map]; exact hl, vs, _, rv, ha⟩
      · have z' := (if_neg hb).symm.trans z
        cases z'
    · by_cases hb : b = a
      · exact hb
      · exact absurd (if_neg hb) z
end L2

namespace L2
open PySem PySem.Spec PyProof.Rows

abbrev KOf {K : PySem.W.Frag} {h : Heap} (_ : K.In h) : PySem.W.Frag := K

/-- the goal that k_head leaves (case hc), from the law's promise. F gives the function object fd (K's own) once, then the promise over every base -/
theorem walk_of {l : PySem.W.OpenLaw} {n k : Nat} {q : Program} {loose : List Str} {XP : (Str → Option Value) → Heap → Prop} {YP : World → Heap → Prop} {d : DefRec} {K : Params → PySem.W.Frag} {CX : World → CXT} {sp : World → Sp} {x : Str}
    (hn : l.most = some n) (hn2 : n ≤ sizeLine) (hdf : d.params.defaults = []) (hr : Room k callerA)
    (hY : ∀ (w : World) (h : Heap), YP w h → (K w.params).In h)
    (F : ∀ (w : World) (mg : Str → Option Value) (fa : Addr) (h : Heap), (K w.params).In h → h.Ns mainGlobals mg → mg d.name = some (.ref fa) →
      ∃ fd : FuncData, (∀ (s : Shared) (u : Value), BindsTo s fd ⟨[u], []⟩ [(x, u)]) ∧
        ∀ base : Heap, (K w.params).In base → base.Ns mainGlobals mg → FnOk l.prog w (K w.params) mg base (CX w) k fa fd [x] (sp w))
    (hsp : ∀ (w : World) (H : Hp) (a : Addr) (ns : List Int), ns.length ≤ n → Only H → SqL (K w.params) H a (ns.map V.int) → sp w [.ref a] H (fun v _ => v = .bl true) fun _ _ _ => False)
    (hCX : ∀ (w : World) (H : Hp) (s : Shared) (e : Value) (s' : Shared), CX w [] H s (fun _ _ _ => False) e s' → False) :
    PySem.W.WalkO q loose XP YP l.row.toRowW d [] (fun f vs => PySem.call f vs) := by
  refine Att.attach_call hn hdf fun w s₀ s₁ mg mb fa o pm cd doc a vs ns G Y ho hd hcd hmg hobj hints hlen hg => ?_
  have KX := hY w _ Y
  obtain ⟨fd, hb, hF⟩ := F w mg fa _ KX G.T.g hmg
  exact law_call KX G.T.g G.T.b G.T.builtins G.T.nolimit hg hobj hints (Nat.le_trans hlen hn2) hr hF hb (fun H hO hS => hsp w H a ns hlen hO hS) fun H e s' => hCX w H s₁ e s'
/-- the same where the promise hangs on the written part alone: (sp := My.sp_law), no hole under a binder -/
theorem walk_ofK {l : PySem.W.OpenLaw} {n k : Nat} {q : Program} {loose : List Str} {XP : (Str → Option Value) → Heap → Prop} {YP : World → Heap → Prop} {d : DefRec} {K : Params → PySem.W.Frag} {CX : CXT} {sp : PySem.W.Frag → Sp} {x : Str}
    (hn : l.most = some n) (hn2 : n ≤ sizeLine) (hdf : d.params.defaults = []) (hr : Room k callerA)
    (hY : ∀ (w : World) (h : Heap), YP w h → (K w.params).In h)
    (F : ∀ (w : World) (mg : Str → Option Value) (fa : Addr) (h : Heap), (K w.params).In h → h.Ns mainGlobals mg → mg d.name = some (.ref fa) →
      ∃ fd : FuncData, (∀ (s : Shared) (u : Value), BindsTo s fd ⟨[u], []⟩ [(x, u)]) ∧
        ∀ base : Heap, (K w.params).In base → base.Ns mainGlobals mg → FnOk l.prog w (K w.params) mg base CX k fa fd [x] (sp (K w.params)))
    (hsp : ∀ (K : PySem.W.Frag) (H : Hp) (a : Addr) (ns : List Int), ns.length ≤ n → Only H → SqL K H a (ns.map V.int) → sp K [.ref a] H (fun v _ => v = .bl true) fun _ _ _ => False)
    (hCX : ∀ (H : Hp) (s : Shared) (e : Value) (s' : Shared), CX [] H s (fun _ _ _ => False) e s' → False) :
    PySem.W.WalkO q loose XP YP l.row.toRowW d [] (fun f vs => PySem.call f vs) :=
  walk_of (K := K) (CX := fun _ => CX) (sp := fun w => sp (K w.params)) hn hn2 hdf hr hY F (fun w H a ns h1 h2 h3 => hsp (K w.params) H a ns h1 h2 h3) fun _ H s e s' => hCX H s e s'
end L2

/- THE LAST THEOREM (shape; LID, My.* are yours):
   My.Adr: a structure of the addresses that your layer names (classes, functions); My.Txt K t: a structure (Prop) of the equations over K;
   My.txt_mk : {K} {implicit addresses ..} (e1 : nsIn K mainGlobals "law" = some (some (.ref f))) (e2 : K.lookup f = some ⟨oc, od, .func (fnOf "law" "law" params body scope dV kV doc pm an cdv ct), sl⟩) (e3 : codeIn K cdv "law" = true) .. : ∃ t, My.Txt K t

set_option maxRecDepth 100000 in
set_option maxHeartbeats 0 in
theorem PySem.Challenge.cw_LID_holds : PySem.Challenge.rw_LID.Holds := by
  w_on; o_law; k_head; (case hw => w_witness2)
  k_fill
  refine L2.walk_of (l := PySem.Challenge.rw_LID) (n := 63) (k := 40) (x := "script") (CX := fun w => ..) (sp := fun _ => My.sp_law) rfl (by decide) rfl ⟨rfl, by decide, by decide⟩ (fun w h Y => PySem.W.kIn_of Y) ?F ?S ?C
  case F =>
    intro w mg fa h KX G hmg
    have T : ∃ t, My.Txt (L2.KOf KX) t := by
      dsimp only [L2.KOf]                          -- K must stand as «<heap const> w.params» for k_is
      refine' My.txt_mk ?e1 ?e2 ?e3 ..
      (case e1 => PySem.W.k_is)                    -- in the order: a name -> its address -> its object -> its parts
      (case e2 => PySem.W.k_is)
      ..
    obtain ⟨t, T⟩ := T
    have e0 := hmg.symm.trans (PySem.W.mg_of KX G T.law)
    cases e0                                       -- fa is the law's own address
    exact ⟨_, fun s u => .of_eq rfl, fun base kb nb => My.law_fn T kb nb⟩     -- if «.of_eq rfl» comes too early: refine' ⟨_, ?b, fun base kb nb => My.law_fn T kb nb⟩; exact fun s u => .of_eq rfl
  case S => exact fun w H a ns hl hO hS => ..
  case C => exact ..
(the tactic k_is has no namespace: write k_is) -/

/-! SHORT WORDS over the layer: a def of the text, its body, what a loop and a test want. -/
namespace L2
open PySem PySem.Spec PyProof.Rows

/-! ### the text by places -/
/-- the j-th statement of a class's body -/
def inClass (s : Stmt) (j : Nat) : Stmt := match s with
  | .ClassDef _ _ _ body _ _ _ _ _ _ _ => body.getD j (.Pass ⟨0, 0, 0, 0⟩)
  | _ => .Pass ⟨0, 0, 0, 0⟩
def defArgs (s : Stmt) : Arguments := match s with
  | .FunctionDef _ a _ _ _ _ _ _ _ _ => a
  | _ => { posonlyargs := [], args := [], vararg := none, kwonlyargs := [], kw_defaults := [], kwarg := none, defaults := [] }
def defBody (s : Stmt) : List Stmt := match s with
  | .FunctionDef _ _ b _ _ _ _ _ _ _ => b
  | _ => []
def defScope (s : Stmt) : Scope := match s with
  | .FunctionDef _ _ _ _ _ _ sc _ _ _ => sc
  | _ => { kind := .function, names := [], isGenerator := false, isCoroutine := false }

/-! ### no exception leaves a def -/
abbrev CX0 : CXT := fun _ _ _ _ _ _ => False
abbrev E0 : XK := fun _ _ _ => False
theorem pass0 {X : Cx} : Passes CX0 X E0 := fun _ _ _ _ _ _ _ h => h.elim

/-! ### a def (or method) of the text as it stands behind the top -/
structure Fun (K : PySem.W.Frag) (x qual : Str) (st : Stmt) (f : Addr) (fd : FuncData) : Prop where
  ex : ∃ (oc : Value) (od : Option Addr) (kV doc pm : Value) (an : Option Addr) (cdv ct : Value) (osl : Array (Option Value)),
    fd = PySem.W.fnOf x qual (defArgs st) (defBody st) (defScope st) .none kV doc pm an cdv ct ∧ K.lookup f = some ⟨oc, od, .func fd, osl⟩ ∧ PySem.W.codeIn K cdv qual = true
  kp : PySem.W.keepIn K (.ref f) = true
section
variable {P : Program} {w : World} {K : PySem.W.Frag} {mg : Str → Option Value} {base : Heap}
/-- THE RULE for a def: its body as a term of rules, and the reading of that term -/
theorem Fun.ok {x qual : Str} {st : Stmt} {f : Addr} {fd : FuncData} {N ps : List Str} {k : Nat} {sp : Sp} (F : Fun K x qual st f fd) (S : FnScope N ps (defScope st)) (len : ∀ vs H Q E, sp vs H Q E → vs.length = ps.length)
    (hbody : ∀ (cdv : Value) (A : Around) (outer : List Env) (s : Shared) (H : Hp) (vs : List V) (Q : VK) (E : XK), Room k (A.deeper (envOfC qual (defScope st) s.heap.objs.size f cdv)) → sp vs H Q E →
      ∃ t, PSs (cxOf CX0 P w K mg base N qual (defScope st) f cdv A outer s H E).nox (defBody st) t ∧ t { nx := fun _ H' => Q .non H', rt := Q } (start N vs) H) : FnOk P w K mg base CX0 (k + 1) f fd ps sp := by
  obtain ⟨oc, od, kV, doc, pm, an, cdv, ct, osl, rfl, lk, hcd⟩ := F.ex
  refine fn_of lk hcd S len fun A outer s H vs Q E hr hsp => ?_
  obtain ⟨t, h, q⟩ := hbody cdv A outer s H vs Q E hr hsp
  exact ⟨t, h.nox, q⟩
/-- how its arguments bind (no defaults): h is «fun _ _ _ _ _ _ us hl => match us, hl with | [_, _], _ => rfl», one _ a parameter -/
theorem Fun.binds {x qual : Str} {st : Stmt} {f : Addr} {fd : FuncData} {ps : List Str} (F : Fun K x qual st f fd)
    (h : ∀ (kV doc pm : Value) (an : Option Addr) (cdv ct : Value) (us : List Value), us.length = ps.length → bindArgs (PySem.W.fnOf x qual (defArgs st) (defBody st) (defScope st) .none kV doc pm an cdv ct) ⟨us, []⟩ = pure (ps.zip us)) : Binds K fd ps [] := by
  obtain ⟨oc, od, kV, doc, pm, an, cdv, ct, osl, rfl, lk, hcd⟩ := F.ex
  exact .all (h kV doc pm an cdv ct)
theorem fun_mk {x qual : Str} {st : Stmt} {f : Addr} {oc : Value} {od an : Option Addr} {osl : Array (Option Value)} {kV doc pm cdv ct : Value} (l : K.lookup f = some ⟨oc, od, .func (PySem.W.fnOf x qual (defArgs st) (defBody st) (defScope st) .none kV doc pm an cdv ct), osl⟩)
    (c : PySem.W.codeIn K cdv qual = true) (k : PySem.W.keepIn K (.ref f) = true) : Fun K x qual st f (PySem.W.fnOf x qual (defArgs st) (defBody st) (defScope st) .none kV doc pm an cdv ct) := ⟨⟨oc, od, kV, doc, pm, an, cdv, ct, osl, rfl, l, c⟩, k⟩
end
theorem hu_of {A : Around} {k : Nat} (hr : Room k A) : A.units + 1 < cLine := Nat.lt_of_le_of_lt (Nat.add_le_add_left (by decide : 1 ≤ 64) _) hr.units
theorem small1000 {n : Nat} (h : n ≤ 1000) : n < sizeLine := Nat.lt_of_le_of_lt h (by decide)

/-! ### expressions in short: the name that stands in the i-th slot -/
section
variable {X : Cx}
theorem pv (i : Nat) {x : Str} {pos : Pos} (hN : X.N[i]? = some x := by rfl) (hv : Vis X.env.scope x := by first | exact Or.inl rfl | exact Or.inr (Or.inl rfl) | exact Or.inr (Or.inr rfl)) (hd : (x == ("__debug__" : Str)) = false := by decide)
    (hcd : (x == ("__classdict__" : Str)) = false := by decide) : PE X (.Name x pos) (tVar i) := pe_var hN hv hd hcd
/-- len of a dict -/
theorem call_lenD : CallR X (.builtin "len") (fun xs H Q => ∃ a kvs, xs = [V.ref a] ∧ H a = some (.dK kvs) ∧ Q (.int kvs.length) H) := by
  intro pins s σ H xs us Q I r h
  obtain ⟨a, kvs, rfl, ha, q⟩ := h
  obtain ⟨u, rfl, ru⟩ := vals1 r
  cases ru
  exact d_len I (.inl ha) fun t s' I' => ⟨.int kvs.length, H, I', ⟨t, rfl⟩, q⟩
end

/-! ### tests -/
theorem iteF {A B : Prop} (h : B) : if false = true then A else B := by
  rw [if_neg Bool.false_ne_true]
  exact h
theorem iteT {A B : Prop} (h : A) : if true = true then A else B := by
  rw [if_pos rfl]
  exact h
theorem ite2 {c A B : Prop} [Decidable c] (h1 : c → A) (h2 : ¬ c → B) : if c then A else B := by
  by_cases h : c
  · rw [if_pos h]
    exact h1 h
  · rw [if_neg h]
    exact h2 h
theorem iteNS {c A B : Prop} [Decidable c] (hc : c) (h : B) : if (!decide c) = true then A else B := by
  rw [decide_eq_true hc]
  exact iteF h

/-! ### heaps -/
/-- all that was tracked is as it was -/
def Same (H H' : Hp) : Prop := ∀ b o, H b = some o → H' b = some o
theorem Same.refl (H : Hp) : Same H H := fun _ _ h => h
theorem Same.trans {H H1 H2 : Hp} (a : Same H H1) (b : Same H1 H2) : Same H H2 := fun c o h => b c o (a c o h)
theorem Same.free {H H' : Hp} (e : Same H H') {l : Addr} (h : H' l = Option.none) : H l = Option.none := by
  cases q : H l with
  | none => rfl
  | some o =>
    rw [e l o q] at h
    cases h
theorem Same.seq {K : PySem.W.Frag} {H H' : Hp} {a : Addr} {xs : List V} (e : Same H H') (h : SqL K H a xs) : SqL K H' a xs := by
  rcases h with (h | ⟨o, h⟩) | h
  · exact .inl (.inl (e _ _ h))
  · exact .inl (.inr ⟨o, e _ _ h⟩)
  · exact .inr h

/-! ### a dict's pairs: keys that differ -/
section
variable {κ : Type} [DecidableEq κ]
theorem valV_not {kvs : List (κ × V)} {k : κ} (h : valV kvs k = none) : ¬ k ∈ kvs.map (·.1) := by
  intro m
  obtain ⟨p, hp, e⟩ := List.mem_map.mp m
  have q : (kvs.any fun kv => decide (kv.1 = k)) = true := List.any_eq_true.mpr ⟨p, hp, decide_eq_true e⟩
  rw [valV_any, h] at q
  exact absurd q (by simp)
theorem valV_in {kvs : List (κ × V)} {k : κ} {v : V} (h : valV kvs k = some v) : k ∈ kvs.map (·.1) := by
  have q : (kvs.any fun kv => decide (kv.1 = k)) = true := by
    rw [valV_any, h]
    all_goals rfl
  obtain ⟨p, hp, e⟩ := List.any_eq_true.mp q
  exact List.mem_map.mpr ⟨p, hp, of_decide_eq_true e⟩
theorem nd_snoc : ∀ {l : List κ} {k : κ}, l.Nodup → ¬ k ∈ l → (l ++ [k]).Nodup
  | [], k, _, _ => by simp
  | a :: r, k, h, hk => by
    obtain ⟨h1, h2⟩ := List.nodup_cons.mp h
    show (a :: (r ++ [k])).Nodup
    refine List.nodup_cons.mpr ⟨fun m => ?_, nd_snoc h2 fun m => hk (List.mem_cons.mpr (Or.inr m))⟩
    rcases List.mem_append.mp m with q | q
    · exact h1 q
    · exact hk (List.mem_cons.mpr (Or.inl (List.mem_singleton.mp q).symm))
theorem nd_putK {kvs : List (κ × V)} {k : κ} (v : V) (hn : (kvs.map (·.1)).Nodup) (h : valV kvs k = none) : ((putK kvs k v).map (·.1)).Nodup := by
  rw [putK_new v h, List.map_append]
  exact nd_snoc hn (valV_not h)
theorem dropK_pos {p : κ × V} {r : List (κ × V)} {k : κ} (e : p.1 = k) : dropK (p :: r) k = dropK r k := by
  unfold dropK
  rw [List.filter_cons, if_neg (by simp [e])]
theorem dropK_neg {p : κ × V} {r : List (κ × V)} {k : κ} (e : ¬ p.1 = k) : dropK (p :: r) k = p :: dropK r k := by
  unfold dropK
  rw [List.filter_cons, if_pos (by simp [e])]
theorem dropK_no : ∀ {kvs : List (κ × V)} {k : κ}, ¬ k ∈ kvs.map (·.1) → dropK kvs k = kvs
  | [], _, _ => rfl
  | p :: r, k, h => by
    have h' : ¬ k ∈ r.map (·.1) := fun m => by
      obtain ⟨q, hq, e⟩ := List.mem_map.mp m
      exact h (List.mem_map.mpr ⟨q, List.mem_cons.mpr (Or.inr hq), e⟩)
    rw [dropK_neg fun e => h (List.mem_map.mpr ⟨p, List.mem_cons.mpr (Or.inl rfl), e⟩), dropK_no h']
theorem dropK_mem {kvs : List (κ × V)} {k : κ} {p : κ × V} (h : p ∈ dropK kvs k) : p ∈ kvs := (List.mem_filter.mp h).1
theorem nd_dropK : ∀ {kvs : List (κ × V)} {k : κ}, (kvs.map (·.1)).Nodup → ((dropK kvs k).map (·.1)).Nodup
  | [], _, _ => List.nodup_nil
  | p :: r, k, h => by
    have h : (p.1 :: r.map (·.1)).Nodup := h
    obtain ⟨h1, h2⟩ := List.nodup_cons.mp h
    by_cases e : p.1 = k
    · rw [dropK_pos e]
      exact nd_dropK h2
    · rw [dropK_neg e]
      show (p.1 :: (dropK r k).map (·.1)).Nodup
      refine List.nodup_cons.mpr ⟨fun m => h1 ?_, nd_dropK h2⟩
      obtain ⟨q, hq, eq⟩ := List.mem_map.mp m
      exact List.mem_map.mpr ⟨q, dropK_mem hq, eq⟩
theorem dropK_len : ∀ {kvs : List (κ × V)} {k : κ}, (kvs.map (·.1)).Nodup → k ∈ kvs.map (·.1) → (dropK kvs k).length + 1 = kvs.length
  | [], _, _, m => by simp at m
  | p :: r, k, h, m => by
    have h : (p.1 :: r.map (·.1)).Nodup := h
    have m : k = p.1 ∨ k ∈ r.map (·.1) := List.mem_cons.mp m
    obtain ⟨h1, h2⟩ := List.nodup_cons.mp h
    by_cases e : p.1 = k
    · subst e
      rw [dropK_pos rfl, dropK_no h1]
      all_goals rfl
    · have m' : k ∈ r.map (·.1) := m.resolve_left fun z => e z.symm
      have q := dropK_len h2 m'
      rw [dropK_neg e, List.length_cons, List.length_cons]
      omega
end
end L2

set_option linter.all false
set_option maxRecDepth 100000
namespace PySem
section
variable {env : Env}
theorem closureFor_cells_aux (names : List (Str × NameKind)) : ∀ (cs : List (Str × Addr)), (∀ n, (n, NameKind.free) ∈ names → ∃ c, env.cells.lookup n = some c) →
    ∃ cl, (forIn names cs (fun (x : Str × NameKind) (r : List (Str × Addr)) => if (x.2 == NameKind.free) = true then (do let c ← cellOf env x.1; pure (ForInStep.yield ((x.1, c) :: r))) else pure (ForInStep.yield r)) : Sem (List (Str × Addr))) = pure cl ∧
      (∀ n c, cl.lookup n = some c → env.cells.lookup n = some c ∨ cs.lookup n = some c) ∧ (∀ n, ((n, NameKind.free) ∈ names ∨ ∃ c, cs.lookup n = some c) → ∃ c, cl.lookup n = some c) := by
  induction names with
  | nil => intro cs _; exact ⟨cs, rfl, fun n c h => .inr h, fun n h => h.elim (fun z => nomatch z) id⟩
  | cons x r ih =>
    intro cs h
    obtain ⟨n, k⟩ := x
    have hr : ∀ n, (n, NameKind.free) ∈ r → ∃ c, env.cells.lookup n = some c := fun m hm => h m (List.mem_cons_of_mem _ hm)
    by_cases hk : k = .free
    · subst hk
      obtain ⟨c, hc⟩ := h n List.mem_cons_self
      obtain ⟨cl, e, h1, h2⟩ := ih ((n, c) :: cs) hr
      refine ⟨cl, ?_, fun m d hd => ?_, fun m hm => ?_⟩
      · rw [List.forIn_cons]
        simp only [beq_self_eq_true, if_true]
        have q : cellOf env n = pure c := by unfold cellOf; rw [hc]
        rw [q]
        exact e
      · rcases h1 m d hd with z | z
        · exact .inl z
        · rw [List.lookup_cons] at z
          by_cases hmn : m = n
          · subst hmn
            simp only [beq_self_eq_true] at z
            exact .inl (hc.trans z)
          · have : (m == n) = false := by simpa using hmn
            rw [this] at z
            exact .inr z
      · refine h2 m ?_
        rcases hm with z | ⟨d, z⟩
        · rcases List.mem_cons.mp z with z | z
          · obtain ⟨rfl, _⟩ := Prod.mk.inj z
            exact .inr ⟨c, by simp [List.lookup_cons]⟩
          · exact .inl z
        · right
          rw [List.lookup_cons]
          cases (m == n)
          · exact ⟨d, z⟩
          · exact ⟨c, rfl⟩
    · have hb : (k == NameKind.free) = false := by simpa using hk
      obtain ⟨cl, e, h1, h2⟩ := ih cs hr
      refine ⟨cl, ?_, h1, fun m hm => h2 m ?_⟩
      · rw [List.forIn_cons]
        simp only [hb, Bool.false_eq_true, if_false]
        exact e
      · rcases hm with z | z
        · rcases List.mem_cons.mp z with z | z
          · exact absurd (Prod.mk.inj z).2.symm hk
          · exact .inl z
        · exact .inr z
theorem closureFor_cells {scope : Scope} (h : ∀ n, (n, NameKind.free) ∈ scope.names → ∃ c, env.cells.lookup n = some c) :
    ∃ cl, closureFor scope env = pure cl ∧ (∀ n c, cl.lookup n = some c → env.cells.lookup n = some c) ∧ (∀ n, (n, NameKind.free) ∈ scope.names → ∃ c, cl.lookup n = some c) := by
  obtain ⟨cl, e, h1, h2⟩ := closureFor_cells_aux scope.names [] h
  refine ⟨cl, ?_, fun n c hc => (h1 n c hc).elim id fun z => (by simp at z), fun n hn => h2 n (.inl hn)⟩
  simp only [closureFor]
  have q := congrArg (fun t => t >>= fun r => (pure r : Sem (List (Str × Addr)))) e
  exact q
end

section
variable {prog : Program} {w : World} {A : Around} {R : Result → Shared → Prop} {s : Shared}
theorem codeAny_compLoop_any {elt target iter : Expr} {ifs : List Expr} {scope : Scope} {pos : Pos} {it acc : Value} {env : Env} (I : Nat → Shared → Prop)
    (turn : ∀ n s, I n s → wpAny (model prog w) A (pyNext it) (fun r s₁ => match r with
      | none => R (.ok .next) s₁
      | some v => wpAny (model prog w) A (letOwnedTupleGo target it v) (fun _ s₁' => wpAny (model prog w) A (assign target env v) (fun _ s₂ =>
          wpAny (model prog w) A (forIn ifs true fun c r => if r = true then do let ok ← isTrue c env (eval c env); pure (ForInStep.yield ok) else pure (ForInStep.yield r)) (fun ok s₃ =>
            if ok = true then wpAny (model prog w) A (eval elt env) (fun x s₄ =>
              wpAny (model prog w) A (call (.builtin "list.append") [acc, x]) (fun _ s₅ => ∃ m, m < n ∧ I m s₅) (fun _ _ => False) s₄) (fun _ _ => False) s₃
            else ∃ m, m < n ∧ I m s₃) (fun _ _ => False) s₂) (fun _ _ => False) s₁') (fun _ _ => False) s₁) (fun _ _ => False) s)
    (n : Nat) (h : I n s) :
    codeAny (model prog w) A (.compLoop (.ListComp elt [⟨target, iter, ifs, 0⟩] scope pos) 0 it acc env) R s := by
  refine codeAny_loop rfl I (fun n s hI => ?_) n h
  show wpAny _ A ((compTurn (.ListComp elt [⟨target, iter, ifs, 0⟩] scope pos) 0 it acc env).onRaise (fun x => do noteFrame x env; theTreesLotGoes x)) _ _ s
  refine wpAny_noted ?_
  rw [compTurn_list]
  refine wpAny_bind (wpAny_standAt (wpAny_bind (wpAny_mono (turn n s hI) (fun r s₁ h₁ => ?_) fun _ _ h' => h'.elim)))
  cases r with
  | none => exact wpAny_pure h₁
  | some v =>
    refine wpAny_bind (wpAny_mono h₁ (fun _ s₁' h₁' => ?_) fun _ _ h' => h'.elim)
    refine wpAny_bind (wpAny_mono h₁' (fun _ s₂ h₂ => wpAny_bind (wpAny_mono h₂ (fun ok s₃ h₃ => ?_) fun _ _ h' => h'.elim)) fun _ _ h' => h'.elim)
    cases ok with
    | false => exact wpAny_pure ⟨rfl, h₃⟩
    | true =>
      exact wpAny_bind (wpAny_bind (wpAny_mono h₃ (fun x s₄ h₄ => wpAny_bind (wpAny_mono h₄ (fun _ s₅ h₅ => wpAny_pure (wpAny_pure ⟨rfl, h₅⟩)) fun _ _ h' => h'.elim)) fun _ _ h' => h'.elim))
end
end PySem

set_option linter.all false
set_option maxRecDepth 100000
namespace PySem
open Sem (wp)
theorem list_keys_none : typeLookup (.type "list") "keys" = pure none := by rw [typeLookup_type, builtinLookup_eq_fast]; kernel_rfl
set_option maxHeartbeats 2000000 in
theorem getAttrQ_miss_list {prog : Program} {w : World} {A : Around} {E : Value → Shared → Prop} {s : Shared} {a : Addr} {o : Obj} {xs : Array Value} {k : Nat} {name : Str} {Q : Option Value → Shared → Prop}
    (hx : s.heap.get? a = some o) (hc : o.cls = .type "list") (hdat : o.data = .seq xs k) (hd : o.dict = none) (hmiss : typeLookup (.type "list") name = pure none) (hname : (["__module__", "__name__", "__qualname__", "__doc__", "__annotations__"] : List Str).contains name = false) (hA : A.handled = none)
    (h : ∀ h' tk, (∀ b o, s.heap.get? b = some o → h'.get? b = some o) → Q none { s with heap := h', toks := tk }) (hsz : name.length + 100 ≤ sizeLine := by size_fits) :
    wpAny (model prog w) A (getAttr? (.ref a) name) Q E s := by
  obtain ⟨c, dct, dat, sl⟩ := o
  simp only at hc hdat hd
  subst hc hdat hd
  obtain ⟨hp, g, d, tk, os⟩ := s
  have hT : ∀ tk', (⟨hp, g, d, tk', os⟩ : Shared).TypeIs (.ref a) "list" := fun _ => ⟨_, hx, rfl⟩
  have f1 := sub_AttributeError
  have f3 := F.slot_list_getattribute.lookup
  have f4 := F.slot_list_getattribute.bind (.ref a)
  have f5 := am_list_getattr_none
  unfold getAttr? getAttrBy? getAttrBy
  repeat (any_goals (first | assumption | exact hT _ | ((with_reducible show wpAny _ _ (call (Value.builtin "list.__getattribute__") _ _) _ _ _); refine call_meets F.slot_list_getattribute (hT _) am_entry_list_getattribute (F.args_list_getattribute_2 _ _) (meets_getattribute_miss_list a xs k sl name _ hmiss hname hsz) ⟨hx, hA, fun h' tk' e hx' => ?_⟩) | wp_step))
  obtain ⟨t', u', he⟩ := hx'.there
  show wpAny _ _ (getattributeRaised _ _ _ _ _ _ _) _ _ _
  unfold getattributeRaised
  repeat (any_goals (first | assumption | wp_step))
  exact h _ _ hx'.of.keeps
namespace F
theorem entry_dict_update_loop : entryFor table "dict.update.loop" = some Builtin.«dict.update.loop» := entryFor_of_tree (by kernel_rfl)
theorem plain_dict_update_loop : plainId "dict.update.loop" = true := by decide +kernel
end F
section
variable {prog : Program} {w : World} {K : Type} [DecidableEq K] {knd : KeyKind prog w K} {A : Around} {R : Result → Shared → Prop} {s : Shared}
def PairAt (knd : KeyKind prog w K) (h : Heap) (u : Value) (p : K × Value) : Prop := ∃ b kv, u = .ref b ∧ h.IsTuple b #[kv, p.2] ∧ knd.is p.1 kv = true
theorem pairItems_tuple {b : Addr} {xs : Array Value} {A : Around} {E : Value → Shared → Prop} {s : Shared} {Q : List Value → Shared → Prop} (ht : s.heap.IsTuple b xs) (hq : Q xs.toList s) : wpAny (model prog w) A (Builtin.Dict.pairItems (.ref b)) Q E s := by
  obtain ⟨o, ho, hc, n, hd⟩ := ht
  unfold Builtin.Dict.pairItems
  refine wpAny_bind (wpAny_typeOf (show s.TypeIs (.ref b) "tuple" from ⟨o, ho, hc⟩) ?_)
  rw [if_pos (by decide)]
  refine wpAny_bind ?_
  unfold seqItems?
  refine wpAny_bind (wpAny_load ho ?_)
  rw [hd]
  exact wpAny_pure (wpAny_pure hq)
theorem codeAny_dict_update_loop {d it l : Addr} {items : Array Value} {res : Value} (hA : A.handled = none) : ∀ (rest : List (K × Value)) (i : Nat) (s : Shared) (vs : List (K × Value)), items.size = i + rest.length →
    (∀ j p, rest[j]? = some p → ∃ u, items[i + j]? = some u ∧ PairAt knd s.heap u p) → s.heap.IsListIter it l i → s.heap.IsList l items → s.heap.DictOf knd d vs → vs.length + rest.length ≤ sizeLine →
    (∀ h' tk, h'.DictOf knd d (merged vs rest) → (∀ b o, b ≠ d → b ≠ it → s.heap.get? b = some o → h'.get? b = some o) → R (.ok (.ret res)) { s with heap := h', toks := tk }) →
    codeAny (model prog w) A (.builtin "dict.update.loop" ⟨[.ref d, .ref it, rawInt i, res], []⟩) R s
  | [], i, s, vs, hsz, hp, hit, hl, hd, hz, hR => by
    refine codeAny_builtin F.entry_dict_update_loop ?_
    rw [Around.under_plainId F.plain_dict_update_loop _]
    show wpAny _ A.in1 (pyNext (.ref it) >>= _) _ _ s
    have hdi : d ≠ it := by
      rintro rfl
      obtain ⟨o, ho, hc, hdd⟩ := hit
      obtain ⟨o', es, ep, ho', hc', hdd', _⟩ := hd
      rw [ho] at ho'; cases ho'; rw [hdd] at hdd'; cases hdd'
    refine wpAny_bind (wpAny_pyNext_list_end hA hit hl (by simp at hsz ⊢; omega) fun h' ext => ?_)
    show wpAny _ A.in1 (Builtin.Dict.addKeywords d [] >>= fun _ => ret res) _ _ _
    refine wpAny_bind (wpAny_pure (wpAny_pure (hR h' s.toks ?_ fun b o _ hb e => ext b o hb e)))
    obtain ⟨o, es, ep, ho, r⟩ := hd
    exact ⟨o, es, ep, ext _ _ hdi ho, r⟩
  | p :: rest, i, s, vs, hsz, hp, hit, hl, hd, hz, hR => by
    refine codeAny_builtin F.entry_dict_update_loop ?_
    rw [Around.under_plainId F.plain_dict_update_loop _]
    show wpAny _ A.in1 (pyNext (.ref it) >>= _) _ _ s
    obtain ⟨u, hu, b, kv, rfl, htup, hk⟩ := hp 0 p rfl
    have hdi : d ≠ it := by
      rintro rfl
      obtain ⟨o, ho, hc, hdd⟩ := hit
      obtain ⟨o', es, ep, ho', hc', hdd', _⟩ := hd
      rw [ho] at ho'; cases ho'; rw [hdd] at hdd'; cases hdd'
    have hli : l ≠ it := by
      rintro rfl
      obtain ⟨o, ho, hc, hdd⟩ := hit
      obtain ⟨o', ho', hc', n, hdd'⟩ := hl
      rw [ho] at ho'; cases ho'; rw [hdd] at hdd'; cases hdd'
    have hld : l ≠ d := by
      rintro rfl
      obtain ⟨o, es, ep, ho, hc, hdd, _⟩ := hd
      obtain ⟨o', ho', hc', n, hdd'⟩ := hl
      rw [ho] at ho'; cases ho'; rw [hdd] at hdd'; cases hdd'
    have tne : ∀ {b : Addr} {xs : Array Value}, s.heap.IsTuple b xs → b ≠ d ∧ b ≠ it := fun {b xs} ht => by
      obtain ⟨o, ho, hc, n, hdd⟩ := ht
      refine ⟨?_, ?_⟩
      · rintro rfl
        obtain ⟨o', es, ep, ho', hc', hdd', _⟩ := hd
        rw [ho] at ho'; cases ho'; rw [hdd] at hdd'; cases hdd'
      · rintro rfl
        obtain ⟨o', ho', hc', hdd'⟩ := hit
        rw [ho] at ho'; cases ho'; rw [hdd] at hdd'; cases hdd'
    refine wpAny_bind (wpAny_pyNext_list_item hit hl (x := .ref b) (by simpa using hu) fun h1 hit1 sb1 => ?_)
    have ht1 : h1.IsTuple b #[kv, p.2] := by
      obtain ⟨o, ho, r⟩ := htup
      exact ⟨o, (sb1.2 b (tne ⟨o, ho, r⟩).2).trans ho, r⟩
    have hd1 : h1.DictOf knd d vs := by
      obtain ⟨o, es, ep, ho, r⟩ := hd
      exact ⟨o, es, ep, (sb1.2 d hdi).trans ho, r⟩
    refine wpAny_bind (wpAny_holding (wpAny_bind (wpAny_tryCatch (pairItems_tuple (s := { s with heap := h1 }) ht1 ?_))))
    show wpAny _ A.in1 (holding [kv, p.2] (dictSet d kv p.2)) _ _ _
    refine wpAny_holding (wpAny_dictSet_pairs (s := { s with heap := h1 }) (hsz := by simp at hz; omega) hk hd1 fun h2 hd2 sb2 => ?_)
    have hit2 : h2.IsListIter it l (i + 1) := by
      obtain ⟨o, ho, r⟩ := hit1
      exact ⟨o, (sb2.2 it (Ne.symm hdi)).trans ho, r⟩
    have hl2 : h2.IsList l items := by
      obtain ⟨o, ho, r⟩ := hl
      exact ⟨o, (sb2.2 l hld).trans ((sb1.2 l hli).trans ho), r⟩
    have hstep : (rawInt i : Value) = rawInt i := rfl
    refine wpAny_pure ⟨plainId_quiet F.plain_dict_update_loop _, ?_⟩
    have e1 : ((i : Int) + 1) = ((i + 1 : Nat) : Int) := by omega
    rw [e1]
    refine codeAny_dict_update_loop hA rest (i + 1) _ (stored vs p.1 p.2) (by simp at hsz; omega) (fun j q hq => ?_) hit2 hl2 hd2 ?_ fun h' tk hd' kp => ?_
    · obtain ⟨u', hu', b', kv', rfl, ht', hk'⟩ := hp (j + 1) q (by simpa using hq)
      refine ⟨.ref b', by rw [← hu']; congr 1; omega, b', kv', rfl, ?_, hk'⟩
      obtain ⟨n1, n2⟩ := tne ht'
      obtain ⟨o, ho, r⟩ := ht'
      exact ⟨o, (sb2.2 b' n1).trans ((sb1.2 b' n2).trans ho), r⟩
    · have := stored_length_le vs p.1 p.2
      simp at hz; omega
    · exact hR h' tk hd' fun b o n1 n2 e => kp b o n1 n2 ((sb2.2 b n1).trans ((sb1.2 b n2).trans e))
end
end PySem

set_option linter.all false
set_option maxRecDepth 100000
namespace PySem
section
variable {prog : Program} {w : World} {K : Type} [DecidableEq K] {knd : KeyKind prog w K} {A : Around} {E : Value → Shared → Prop} {s : Shared}
theorem call_dict_pairs {l : Addr} {o : Obj} {items : Array Value} {n : Nat} {rest : List (K × Value)} {Q : Value → Shared → Prop} (hA : A.handled = none)
    (ho : s.heap.get? l = some o) (hc : o.cls = .type "list") (hdn : o.dict = none) (hdat : o.data = .seq items n) (hsz : items.size = rest.length)
    (hp : ∀ (j : Nat) p, rest[j]? = some p → ∃ u, items[j]? = some u ∧ PairAt knd s.heap u p) (hz : rest.length ≤ sizeLine)
    (h : ∀ h' tk, h'.DictOf knd s.heap.objs.size (merged [] rest) → (∀ b o, s.heap.get? b = some o → h'.get? b = some o) → Q (.ref s.heap.objs.size) { s with heap := h', toks := tk }) :
    wpAny (model prog w) A (call (.type "dict") [.ref l]) Q E s := by
  refine callType_codes (Q₁ := fun obj s₁ => obj = .ref s.heap.objs.size ∧ s₁ = { s with heap := s.heap.push { cls := .type "dict", data := .dict #[] } }) F.kt_called_dict (F.kt_typeCall_dict_1 _) F.entry_dict_init (kt_code_dict_new _ ⟨rfl, rfl⟩) ?_
  rintro obj s₁ ⟨rfl, rfl⟩
  have hnew : (s.heap.push { cls := .type "dict", data := .dict #[] }).DictOf knd s.heap.objs.size [] := Heap.DictOf.new s.heap
  have k0 : ∀ b o, s.heap.get? b = some o → (s.heap.push { cls := .type "dict", data := .dict #[] }).get? b = some o := fun b o e => Heap.get?_push_of_some _ e
  generalize hD : s.heap.objs.size = D at *
  generalize hH : s.heap.push { cls := .type "dict", data := .dict #[] } = H0 at *
  refine ⟨hnew.typeIs, F.args_dict_init_2 _ _, ?_⟩
  unfold Builtin.«dict.__init__»
  refine wpAny_bind ?_
  unfold Builtin.Dict.selfAndRest
  refine wpAny_bind (wpAny_notOrdered_dict hnew.typeIs ?_)
  show wpAny _ _ (pure (D, [Value.ref l])) _ _ _
  refine wpAny_pure ?_
  show wpAny _ _ (Builtin.Dict.updateFrom "dict.__init__" D (.ref l) [] .none) _ _ _
  unfold Builtin.Dict.updateFrom
  refine wpAny_bind (wpAny_typeOf (show ({ s with heap := H0 } : Shared).TypeIs (.ref l) "list" from ⟨o, k0 _ _ ho, hc⟩) ?_)
  rw [if_pos (by decide)]
  refine wpAny_bind (getAttrQ_miss_list (s := { s with heap := H0 }) (k0 _ _ ho) hc hdat hdn list_keys_none (by decide) hA fun h1 tk1 k1 => ?_)
  refine wpAny_bind (wpAny_rule ?_)
  refine wpAny_bind (wpAny_pyIter_list (s := { s with heap := h1, toks := tk1 }) (l := l) (items := items) ⟨o, k1 _ _ (k0 _ _ ho), hc, n, hdat⟩ ?_)
  have k2 : ∀ b ob, s.heap.get? b = some ob → (h1.push { cls := .type "list_iterator", data := .fields #[.ref l, .int 0 0] }).get? b = some ob := fun b ob e => Heap.get?_push_of_some _ (k1 b ob (k0 b ob e))
  have hd2 : (h1.push { cls := .type "list_iterator", data := .fields #[.ref l, .int 0 0] }).DictOf knd D [] := by
    obtain ⟨od, es, ep, hod, r⟩ := hnew
    exact ⟨od, es, ep, Heap.get?_push_of_some _ (k1 _ _ hod), r⟩
  refine wpAny_pure ⟨plainId_quiet F.plain_dict_update_loop _, ?_⟩
  refine codeAny_dict_update_loop (A := A.in1) (knd := knd) (l := l) (items := items) (R := wants (fun r s₂ => r = .none ∧ Q (.ref D) s₂) E) hA rest 0 { s with heap := h1.push { cls := .type "list_iterator", data := .fields #[.ref l, .int 0 0] }, toks := tk1 } [] (by omega) (fun j p hj => ?_) ⟨_, Heap.get?_push_size _ rfl, rfl, rfl⟩ ⟨o, k2 _ _ ho, hc, n, hdat⟩ hd2 (by simpa using hz) fun h' tk hd' kp => ?_
  · obtain ⟨u, hu, b, kv, rfl, ⟨ob, hob, r⟩, hk⟩ := hp j p hj
    exact ⟨.ref b, by simpa using hu, b, kv, rfl, ⟨ob, k2 _ _ hob, r⟩, hk⟩
  · refine ⟨rfl, h h' tk hd' fun b ob e => kp b ob ?_ ?_ (k2 b ob e)⟩
    · exact Nat.ne_of_lt (by rw [← hD]; exact Heap.lt_size e)
    · exact Nat.ne_of_lt (Heap.lt_size (k1 b ob (k0 b ob e)))
end
end PySem

set_option Elab.async false
set_option linter.all false
set_option maxRecDepth 100000
/-! ### a list comprehension: its block runs in a context of its own -/
namespace L2
open PySem PySem.Spec PyProof.Rows

theorem mem_of_lookup : ∀ {l : List (Str × NameKind)} {x : Str} {k : NameKind}, l.lookup x = some k → (x, k) ∈ l
  | [], _, _, h => by simp at h
  | (n, j) :: r, x, k, h => by
    rw [List.lookup_cons] at h
    by_cases e : x = n
    · subst e
      simp only [beq_self_eq_true] at h
      cases h
      exact List.mem_cons_self
    · have : (x == n) = false := by simpa using e
      rw [this] at h
      exact List.mem_cons_of_mem _ (mem_of_lookup h)
theorem relabel_free {env : Env} : ∀ {names : List (Str × NameKind)} {x : Str}, names.lookup x = some .free →
    (names.map fun (n, k) => if (k == NameKind.free && env.scope.kind == .function && env.kindOf n == some .cell) then (n, NameKind.cell) else (n, k)).lookup x = some .cell ∨
    (names.map fun (n, k) => if (k == NameKind.free && env.scope.kind == .function && env.kindOf n == some .cell) then (n, NameKind.cell) else (n, k)).lookup x = some .free
  | [], _, h => by simp at h
  | (n, k) :: r, x, h => by
    have ih := @relabel_free env r x
    show List.lookup x ((if (k == NameKind.free && env.scope.kind == .function && env.kindOf n == some .cell) = true then (n, NameKind.cell) else (n, k)) :: _) = _ ∨ List.lookup x ((if (k == NameKind.free && env.scope.kind == .function && env.kindOf n == some .cell) = true then (n, NameKind.cell) else (n, k)) :: _) = _
    cases hx : x == n with
    | true =>
      simp only [List.lookup_cons, hx] at h
      cases h
      by_cases hc : (NameKind.free == NameKind.free && env.scope.kind == .function && env.kindOf n == some .cell) = true
      · rw [if_pos hc]; simp only [List.lookup_cons, hx]; exact .inl trivial
      · rw [if_neg hc]; simp only [List.lookup_cons, hx]; exact .inr trivial
    | false =>
      simp only [List.lookup_cons, hx] at h
      by_cases hc : (k == NameKind.free && env.scope.kind == .function && env.kindOf n == some .cell) = true
      · rw [if_pos hc]; simp only [List.lookup_cons, hx]; exact ih h
      · rw [if_neg hc]; simp only [List.lookup_cons, hx]; exact ih h
theorem of_relabel {env : Env} {scope : Scope} (hcell : ∀ y ∈ scope.names, y.2 ≠ .cell) {x : Str} {k : NameKind} (hk : k = .cell ∨ k = .free) (h : (relabel scope env).names.lookup x = some k) : (x, NameKind.free) ∈ scope.names := by
  obtain ⟨⟨n, j⟩, hm, e⟩ := List.mem_map.mp (mem_of_lookup h)
  by_cases hc : (j == NameKind.free && env.scope.kind == .function && env.kindOf n == some .cell) = true
  · have e1 : (n, NameKind.cell) = (x, k) := by simpa only [hc, if_true] using e
    have e2 : j = .free := by
      simp only [Bool.and_eq_true] at hc
      exact beq_iff_eq.mp hc.1.1
    subst e2
    cases e1
    exact hm
  · have e1 : (n, j) = (x, k) := by
      have := e
      simp only [hc] at this
      exact this
    cases e1
    rcases hk with rfl | rfl
    · exact absurd rfl (hcell _ hm)
    · exact hm

section
variable {X : Cx}
/-- the context of the block: it captures through cells, its own frame is a dict, the iterator's records may turn -/
def cxComp (X : Cx) (N' : List Str) (scope : Scope) (cl : List (Str × Addr)) (C : Addr) (fp : List Addr) (s : Shared) (H : Hp) : Cx :=
  { X with N := N', s₀ := s, H₀ := H, env := compEnvC scope cl C X.env, outer := X.stack, stack := X.stack, ex := fp, fn := fun _ => false, pn := [], xe := fun _ _ => False }

/-- the tests of a clause -/
def PTs (X : Cx) (ifs : List Expr) (t : TT) : Prop :=
  ∀ (pins : List (Addr × Obj)) (s : Shared) (σ : St) (H : Hp) (Q : Bool → Hp → Prop), Inv X pins σ H s → t σ H Q →
    wpAny (model X.prog X.w) X.A (forIn ifs true fun c r => if r = true then do let ok ← isTrue c X.env (eval c X.env); pure (ForInStep.yield ok) else pure (ForInStep.yield r)) (TP X pins σ Q) X.xe s
def tYes : TT := fun _ H Q => Q true H
theorem pts_nil : PTs X [] tYes := fun _ _ _ H _ I h => wpAny_tests_nil ⟨H, I, h⟩
theorem pts_one {c : Expr} {t : TT} (h : PT X c t) : PTs X [c] t := fun pins s σ H Q I hq => wpAny_tests_one (h pins s σ H Q I hq)

/-- D: the new list; W: the invariant by the turn and a measure -/
def CompW (J : It) (D : Addr) (τ₀ : St) (g : TG) (tt : TT) (te : TE) (Q : VK) (H : Hp) : Prop :=
  ∃ W : Nat → Nat → St → Hp → Prop, (∃ m, W 0 m τ₀ (upd H D (.lst []))) ∧ ∀ i m τ H, W i m τ H →
    (J.stop i H ∧ Q (.ref D) H) ∨
    (J.go i H ∧ ∃ N : St → Hp → Prop, (∀ τ' H', N τ' H' → ∃ m', m' < m ∧ W (i + 1) m' τ' H') ∧
      ∀ x H', J.yld i H x H' → g x τ H' fun τ2 H2 => tt τ2 H2 fun b H3 => if b = true then te τ2 H3 fun v H4 => ∃ ys, H4 D = some (.lst ys) ∧ ys.length < sizeLine ∧ N τ2 (upd H4 D (.lst (ys ++ [v]))) else N τ2 H3)
def tComp (wi : TI) (caps : St → St) (g : TG) (tt : TT) (te : TE) : TE := fun σ H Q => wi σ H fun J H1 => ∀ D, H1 D = none → CompW J D (caps σ) g tt te Q H1

variable {tg iter elt : Expr} {ifs : List Expr} {scope : Scope} {pos : Pos} {N' : List Str} {caps : St → St} {wi : TI} {g : TG} {tt : TT} {te : TE}
theorem comp_block {pins : List (Addr × Obj)} {σ : St} {H2 : Hp} {s2 : Shared} {J : It} {fp : List Addr} {it : Addr} {tn : Nat → Heap → Prop} {cl : List (Str × Addr)} {Q : VK} {RR : Value → Addr → Result → Shared → Prop}
    (hc : X.calm = true) (hkind : scope.kind = .function) (hcell : ∀ y ∈ scope.names, y.2 ≠ .cell)
    (hcap : ∀ σ : St, σ.length = X.N.length → (caps σ).length = N'.length ∧ ∀ (i : Nat) (x : Str) (v : V), N'[i]? = some x → (caps σ)[i]? = some (some v) → scope.names.lookup x = some .free ∧ ∃ j : Nat, X.N[j]? = some x ∧ σ[j]? = some (some v))
    (hfree : ∀ n, (n, NameKind.free) ∈ scope.names → X.env.kindOf n = some .cell ∨ X.env.kindOf n = some .free)
    (hcl1 : ∀ n c, cl.lookup n = some c → X.env.cells.lookup n = some c) (hcl2 : ∀ n, (n, NameKind.free) ∈ scope.names → ∃ c, cl.lookup n = some c)
    (hg : ∀ C s H, PG (cxComp X N' scope cl C fp s H) tg g) (hts : ∀ C s H, PTs (cxComp X N' scope cl C fp s H) ifs tt) (hel : ∀ C s H, PE (cxComp X N' scope cl C fp s H) elt te)
    (I2 : Inv X pins σ H2 s2) (T : Turn X.prog X.w X.K tg J fp it tn) (st2 : tn 0 s2.heap) (f2 : ∀ b ∈ fp, FpOk X pins H2 b)
    (k2 : ∀ D, H2 D = none → CompW J D (caps σ) g tt te Q H2)
    (hRR : ∀ D C s' H' m, Inv X pins σ H' s' → s'.heap.Ns C m → s2.heap.objs.size ≤ C → H' C = none → Q (.ref D) H' → RR (.ref D) C (.ok .next) s') :
    wpAny (model X.prog X.w) X.A (newList []) (fun acc s₃ => wpAny (model X.prog X.w) X.A (newFunctionEnv scope X.env.globals cl [] X.env.qual none .none (some X.env)) (fun cenv s₄ =>
      codeAny (model X.prog X.w) X.A (.compStart (.ListComp elt [⟨tg, iter, ifs, 0⟩] scope pos) 0 (.ref it) acc { cenv with scope := relabel scope X.env }) (RR acc cenv.locals) s₄) X.xe s₃) X.xe s2 := by
  refine wpAny_newObj_type (wpAny_newFunctionEnv hcell (by intro y hy; simp at hy) (fun h₁ hns₁ hsb₁ => ?_) hkind)
  dsimp only at hns₁ hsb₁ ⊢
  generalize hH2 : s2.heap.push { cls := .type "list", dict := none, data := .seq ([] : List Value).toArray } = HH at hns₁ hsb₁ ⊢
  have hC : HH.objs.size = s2.heap.objs.size + 1 := by rw [← hH2, Heap.size_push]
  have hDC : s2.heap.objs.size ≠ HH.objs.size := by rw [hC]; exact Nat.ne_of_lt (Nat.lt_succ_self _)
  have hCle : s2.heap.objs.size ≤ HH.objs.size := by rw [hC]; exact Nat.le_succ _
  have below : ∀ b, b < s2.heap.objs.size → b ≠ HH.objs.size ∧ b ≠ s2.heap.objs.size := fun b hb => ⟨by rw [hC]; exact Nat.ne_of_lt (Nat.lt_succ_of_lt hb), Nat.ne_of_lt hb⟩
  have old : ∀ b o, s2.heap.get? b = some o → h₁.get? b = some o := fun b o e => hsb₁.extBut b o (below b (Heap.lt_size e)).1 (Heap.get?_push_of_some _ (hH2 ▸ Heap.get?_push_of_some _ e))
  have hacc : h₁.get? s2.heap.objs.size = some { cls := .type "list", data := .seq ([] : List Value).toArray 0 } := hsb₁.extBut _ _ hDC (Heap.get?_push_of_some _ (hH2 ▸ Heap.get?_push_size _ rfl))
  have hDn : H2 s2.heap.objs.size = none := I2.hok.fresh (Nat.le_refl _)
  have hCn : H2 HH.objs.size = none := I2.hok.fresh hCle
  have fpC : FpOk X pins H2 HH.objs.size := I2.fpOk hCle hCn
  have fplt : ∀ b ∈ fp, b < s2.heap.objs.size := fun b hb => by
    obtain ⟨o, e, _⟩ := T.obj 0 _ st2 b hb
    exact Heap.lt_size e
  have nstk : ∀ b ∈ fp, b ∉ frs X.stack := fun b hb z => by
    obtain ⟨_, f1, f2', _⟩ := f2 b hb
    rcases List.mem_cons.mp (I2.stkSub b z) with e | e
    · exact f1 e
    · exact f2' e
  obtain ⟨W, ⟨m0, w0⟩, turn⟩ := k2 s2.heap.objs.size hDn
  have capok := hcap σ I2.len
  have ok : (cxComp X N' scope cl HH.objs.size fp s2 H2).Ok :=
    { mod := I2.ok.mod
      kind := hkind
      glob := I2.ok.glob
      blt := I2.ok.blt
      above := hCle
      inj := fun x y c a b => I2.ok.inj x y c (hcl1 x c a) (hcl1 y c b)
      has := fun x h => hcl2 x (by
        rcases h with h | h
        · exact of_relabel hcell (.inl rfl) h
        · exact of_relabel hcell (.inr rfl) h)
      cab := fun x c h => (nomatch h)
      hd := I2.ok.hd
      frames := I2.ok.frames
      stk := .inl rfl
      exf := fun b hb => ⟨(below b (fplt b hb)).1, fun x c e => (f2 b hb).2.2.2.2.1 x c (hcl1 x c e)⟩
      bs := I2.bs
      bsz := Nat.le_trans I2.ok.bsz I2.sz
      noex := fun b o e hb => by
        rcases (f2 b hb).2.2.2.1 with z | z
        · exact I2.ok.noex b o e z
        · exact absurd (Nat.lt_of_lt_of_le (Heap.lt_size (I2.ok.bs b o e).1) z) (Nat.lt_irrefl _)
      exfs := nstk
      funs := I2.stack
      frf := I2.stkFree }
  have I4 : Inv (cxComp X N' scope cl HH.objs.size fp s2 H2) [] (caps σ) (upd H2 s2.heap.objs.size (.lst [])) { s2 with heap := h₁, toks := s2.toks + ([] : List (Str × Value)).length } := by
    refine ⟨ok, rfl, I2.bare, Un.laid old (Nat.le_refl _) hDn, ⟨_, hns₁, fun i x v e1 e2 e3 => ?_⟩, fun x c e => ?_, ?_, fun x c e => ?_, (fun p hp => (nomatch hp)), ?_, capok.1⟩
    · obtain ⟨lf, j, e4, e5⟩ := capok.2 i x v e1 e2
      have kx := hfree x (mem_of_lookup lf)
      have vis : Vis X.env.scope x := by rcases kx with k | k; exact .inr (.inl k); exact .inr (.inr k)
      obtain ⟨m, hn, hl⟩ := I2.loc
      obtain ⟨u, r, l⟩ := hl j x v e4 e5 vis
      refine ⟨u, r, .inr ⟨relabel_free lf, ?_⟩⟩
      obtain ⟨c, hcx⟩ := hcl2 x (mem_of_lookup lf)
      have hcx' := hcl1 x c hcx
      refine ⟨c, hcx, ?_⟩
      rcases l with ⟨k, _⟩ | ⟨_, c', ec, ⟨o, ho, hd⟩⟩
      · rcases kx with k' | k' <;> (rw [k] at k'; cases k')
      · rw [hcx'] at ec; cases ec
        exact ⟨o, old _ o ho, hd⟩
    · obtain ⟨v, o, ho, hd⟩ := I2.cell x c (hcl1 x c e)
      exact ⟨v, o, old _ o ho, hd⟩
    · show upd H2 s2.heap.objs.size (.lst []) HH.objs.size = none
      rw [upd_ne (Ne.symm hDC)]; exact hCn
    · obtain ⟨v, o, ho, hd⟩ := I2.cell x c (hcl1 x c e)
      rw [upd_ne (Nat.ne_of_lt (Heap.lt_size ho))]
      exact I2.freeC x c (hcl1 x c e)
    · exact I2.hok.laid old (Nat.le_refl _) ⟨Nat.zero_le _, [], 0, .nil, hacc⟩
  have st4 : tn 0 h₁ := T.keep _ _ _ st2 fun b _ o e => old b o e
  have stat : ∀ {H' : Hp}, (∀ b ∈ fp, H' b = none) → ∀ b ∈ fp, FpOk (cxComp X N' scope cl HH.objs.size fp s2 H2) [] H' b := fun hn b hb =>
    ⟨hn b hb, (below b (fplt b hb)).1, nstk b hb, .inl hb, fun x c e => (f2 b hb).2.2.2.2.1 x c (hcl1 x c e), (fun p hp => (nomatch hp))⟩
  have loop : ∀ s₃ : Shared, s₃ = { s2 with heap := h₁, toks := s2.toks + ([] : List (Str × Value)).length } →
      codeAny (model X.prog X.w) X.A (.compLoop (.ListComp elt [⟨tg, iter, ifs, 0⟩] scope pos) 0 (.ref it) (.ref s2.heap.objs.size) (compEnvC scope cl HH.objs.size X.env)) (RR (.ref s2.heap.objs.size) HH.objs.size) s₃ := by
    rintro s₃ rfl
    refine codeAny_compLoop_any (fun n s' => ∃ i τ H', Inv (cxComp X N' scope cl HH.objs.size fp s2 H2) [] τ H' s' ∧ tn i s'.heap ∧ (∀ b ∈ fp, H' b = none) ∧ W i n τ H') ?_ m0
      ⟨0, caps σ, _, I4, st4, fun b hb => by rw [upd_ne (below b (fplt b hb)).2]; exact (f2 b hb).1, w0⟩
    rintro n s5 ⟨i, τ, H5, I5, st5, fr5, w5⟩
    rcases turn i n τ H5 w5 with ⟨stop, q⟩ | ⟨go, N, hN, step⟩
    · refine thn (T.done (cxComp X N' scope cl HH.objs.size fp s2 H2) rfl rfl rfl hc i [] s5 τ H5 (fun _ _ => False) I5 (stat fr5) st5 stop) fun r s6 ⟨hr, I6⟩ => ?_
      subst hr
      obtain ⟨m, hn, _⟩ := I6.loc
      refine hRR _ _ s6 H5 m (I2.call' (ch := fp) I6.os I6.base I6.hok I6.bare fun b hb => ⟨(f2 b hb).2.2.2.1, (f2 b hb).2.1, (f2 b hb).2.2.2.2.1, (f2 b hb).2.2.2.2.2⟩) hn hCle I6.free q
    · refine thn (T.item (cxComp X N' scope cl HH.objs.size fp s2 H2) rfl rfl rfl hc i [] s5 τ H5 (fun _ _ => False) I5 (stat fr5) st5 go) fun r s6 ⟨u, hr, h6⟩ => ?_
      subst hr
      refine thn h6 fun _ s7 ⟨x, H7, I7, r7, y7, st7, fr7⟩ => ?_
      have I7' := I7.pinned (stat fr7) (T.obj _ _ st7)
      have again : ∀ {τ' : St} {H' : Hp} {s' : Shared}, Inv (cxComp X N' scope cl HH.objs.size fp s2 H2) ([] ++ pinsAt fp s7.heap) τ' H' s' → N τ' H' →
          ∃ m, m < n ∧ ∃ i τ H', Inv (cxComp X N' scope cl HH.objs.size fp s2 H2) [] τ H' s' ∧ tn i s'.heap ∧ (∀ b ∈ fp, H' b = none) ∧ W i m τ H' := fun {τ' H' s'} I' n' => by
        obtain ⟨m', hm, w'⟩ := hN τ' H' n'
        refine ⟨m', hm, i + 1, τ', H', I'.unpinned, T.keep _ _ _ st7 fun b hb o e => (I'.pin (b, o) (List.mem_append_right _ (List.mem_append_right _ (mem_pinsAt hb e)))).1, fun b hb => ?_, w'⟩
        obtain ⟨o, e, d⟩ := T.obj _ _ st7 b hb
        exact (I'.pin (b, o) (List.mem_append_right _ (List.mem_append_right _ (mem_pinsAt hb e)))).2.1
      refine thn (hg HH.objs.size s2 H2 _ s7 τ H7 x u _ I7' r7 (step x H7 y7)) fun _ s8 ⟨τ8, H8, I8, q8⟩ => ?_
      refine thn (hts HH.objs.size s2 H2 _ s8 τ8 H8 _ I8 q8) fun okk s9 ⟨H9, I9, q9⟩ => ?_
      cases okk with
      | false =>
        rw [if_neg Bool.false_ne_true] at q9 ⊢
        exact again I9 q9
      | true =>
        rw [if_pos rfl] at q9 ⊢
        refine thn (hel HH.objs.size s2 H2 _ s9 τ8 H9 _ I9 q9) fun y s10 ⟨v, H10, I10, r10, ys, hD, hz, n10⟩ => ?_
        refine thn (mt_append (X := cxComp X N' scope cl HH.objs.size fp s2 H2) _ s10 τ8 H10 (.ref s2.heap.objs.size) [v] (.ref s2.heap.objs.size) [y] (fun _ H' => N τ8 H') I10 rfl (.cons r10 .nil) ⟨_, ys, v, rfl, rfl, hD, hz, n10⟩) fun _ s11 ⟨_, H11, I11, _, n11⟩ => ?_
        exact again I11 n11
  exact codeAny_compStart_list (loop _ rfl) (T.self X.A 0 _ _ _ st4 (loop _ rfl))

theorem pe_comp (hc : X.calm = true) (hkind : scope.kind = .function) (hcell : ∀ y ∈ scope.names, y.2 ≠ .cell) (hnames : ∀ y ∈ scope.names, y.2 = .local → scope.names.lookup y.1 = some .local)
    (hfree : ∀ n, (n, NameKind.free) ∈ scope.names → X.env.kindOf n = some .cell ∨ X.env.kindOf n = some .free)
    (hcap : ∀ σ : St, σ.length = X.N.length → (caps σ).length = N'.length ∧ ∀ (i : Nat) (x : Str) (v : V), N'[i]? = some x → (caps σ)[i]? = some (some v) → scope.names.lookup x = some .free ∧ ∃ j : Nat, X.N[j]? = some x ∧ σ[j]? = some (some v))
    (hi : PI X tg iter wi) (hg : ∀ cl C fp s H, PG (cxComp X N' scope cl C fp s H) tg g) (hts : ∀ cl C fp s H, PTs (cxComp X N' scope cl C fp s H) ifs tt) (hel : ∀ cl C fp s H, PE (cxComp X N' scope cl C fp s H) elt te)
    (hs : ∀ x, foldedSetIterable iter X.env x = pure x := by intro _; rfl) : PE X (.ListComp elt [⟨tg, iter, ifs, 0⟩] scope pos) (tComp wi caps g tt te) := by
  intro pins s σ H Q I h
  rw [eval_ListComp]
  obtain ⟨cl, hclos, hcl1, hcl2⟩ := closureFor_cells (env := X.env) (scope := scope) (fun n hn => I.ok.has n (hfree n hn))
  refine wpAny_comprehension_free (use := none) rfl hs hclos hkind hnames (thn (hi pins s σ H _ I h) fun v s1 h1 => thn h1 fun itv s2 h2 => ?_)
  obtain ⟨it, fp, tn, J, H2, rfl, I2, T, st2, f2, k2⟩ := h2
  refine comp_block (RR := fun acc C => compPost (model X.prog X.w) X.A X.xe none (EP X pins σ Q) acc C) hc hkind hcell hcap hfree hcl1 hcl2 (fun C s H => hg cl C fp s H) (fun C s H => hts cl C fp s H) (fun C s H => hel cl C fp s H) I2 T st2 f2 k2 ?_
  intro D C s' H' m I' hn hle hC q
  obtain ⟨f0, f1, f2', f3, f4, f5⟩ := I2.fpOk hle hC
  exact ⟨m, hn, fun h' sb => ⟨.ref D, H', I'.turned (t' := s'.toks) (fun b o hb e => (sb.2 b hb).trans e) f0 f1 f3 f4 f5, rfl, q⟩⟩

/-- y = [..] where the name is stored ahead of the block's leave -/
theorem ps_comp {y : Str} {py spos : Pos} {i : Nat} (hsw : swapsWith (.ListComp elt [⟨tg, iter, ifs, 0⟩] scope pos) (some (.Name y py)) spos.line X.env = pure true)
    (hN : X.N.Nodup) (hiN : X.N[i]? = some y) (hy : Loc X.env.scope y)
    (hc : X.calm = true) (hkind : scope.kind = .function) (hcell : ∀ y ∈ scope.names, y.2 ≠ .cell) (hnames : ∀ y ∈ scope.names, y.2 = .local → scope.names.lookup y.1 = some .local)
    (hfree : ∀ n, (n, NameKind.free) ∈ scope.names → X.env.kindOf n = some .cell ∨ X.env.kindOf n = some .free)
    (hcap : ∀ σ : St, σ.length = X.N.length → (caps σ).length = N'.length ∧ ∀ (i : Nat) (x : Str) (v : V), N'[i]? = some x → (caps σ)[i]? = some (some v) → scope.names.lookup x = some .free ∧ ∃ j : Nat, X.N[j]? = some x ∧ σ[j]? = some (some v))
    (hi : PI X tg iter wi) (hg : ∀ cl C fp s H, PG (cxComp X N' scope cl C fp s H) tg g) (hts : ∀ cl C fp s H, PTs (cxComp X N' scope cl C fp s H) ifs tt) (hel : ∀ cl C fp s H, PE (cxComp X N' scope cl C fp s H) elt te)
    (hs : ∀ x, foldedSetIterable iter X.env x = pure x := by intro _; rfl) (hf : X.fn y = true ∨ X.env.scope.names.lookup y = some .local := by first | exact .inl rfl | exact .inr rfl | assumption) :
    PS X (.Assign [.Name y py] (.ListComp elt [⟨tg, iter, ifs, 0⟩] scope pos) spos) (tAsg (tComp wi caps g tt te) (gName i)) := by
  intro pins s σ H D I h
  rw [exec_Assign_Name_used _ _ _ _ hsw]
  refine wpAny_bind (wpAny_standAt (wpAny_bind ?_))
  obtain ⟨cl, hclos, hcl1, hcl2⟩ := closureFor_cells (env := X.env) (scope := scope) (fun n hn => I.ok.has n (hfree n hn))
  show wpAny _ X.A (do let _ ← comprehension (.ListComp elt [⟨tg, iter, ifs, 0⟩] scope pos) scope X.env _ (newList []) false (eval iter X.env) (some (assign (.Name y py) X.env))) _ _ s
  refine wpAny_bind (wpAny_mono (wpAny_comprehension_free (use := some (assign (.Name y py) X.env)) (Q := fun _ s' => SP X pins D .next s') rfl hs hclos hkind hnames
    (thn (hi pins s σ H _ I h) fun v s1 h1 => thn h1 fun itv s2 h2 => ?_)) (fun _ s' hq => wpAny_pure (wpAny_pure hq)) fun _ _ e => e)
  obtain ⟨it, fp, tn, J, H2, rfl, I2, T, st2, f2, k2⟩ := h2
  refine comp_block (RR := fun acc C => compPost (model X.prog X.w) X.A X.xe (some (assign (.Name y py) X.env)) (fun _ s' => SP X pins D .next s') acc C) hc hkind hcell hcap hfree hcl1 hcl2 (fun C s H => hg cl C fp s H) (fun C s H => hts cl C fp s H) (fun C s H => hel cl C fp s H) I2 T st2 f2 k2 ?_
  intro E C s' H' m I' hn hle hC q
  obtain ⟨f0, f1, f2', f3, f4, f5⟩ := I2.fpOk hle hC
  show wpAny _ X.A (assign (.Name y py) X.env (.ref E)) _ _ _
  refine wpAny_assign_Name (store_ok2 I' hN hiN hy (v := .ref E) rfl (fun s'' I'' ⟨a, sb, ha⟩ => ?_) hf)
  have hCa : C ≠ a := by
    rcases ha with rfl | ha
    · exact f1
    · exact Ne.symm (f4 y a ha)
  exact ⟨m, hn.sameBut sb hCa, fun h' sb' => ⟨_, H', I''.turned (t' := s''.toks) (fun b o hb e => (sb'.2 b hb).trans e) f0 f1 f3 f4 f5, q⟩⟩
end
end L2

set_option Elab.async false
set_option linter.all false
set_option maxRecDepth 100000
/-! DATA: values without addresses; what a value stands for in a heap of which some lists are hidden (those that are being built) -/
namespace FL
open PySem L2
inductive D where
  | non | bl (b : Bool) | int (i : Int) | str (x : Str) | tup (l : List D) | lst (l : List D)
mutual
def D.beq : D → D → Bool
  | .non, .non => true
  | .bl a, .bl b => a == b
  | .int a, .int b => a == b
  | .str a, .str b => decide (a = b)
  | .tup a, .tup b => D.beqs a b
  | .lst a, .lst b => D.beqs a b
  | _, _ => false
def D.beqs : List D → List D → Bool
  | [], [] => true
  | a :: r, b :: t => D.beq a b && D.beqs r t
  | _, _ => false
end
mutual
theorem D.beq_iff : ∀ a b : D, D.beq a b = true ↔ a = b
  | .non, b => by cases b <;> simp [D.beq]
  | .bl a, b => by cases b <;> simp [D.beq]
  | .int a, b => by cases b <;> simp [D.beq]
  | .str a, b => by cases b <;> simp [D.beq]
  | .tup a, b => by cases b <;> simp [D.beq, D.beqs_iff a]
  | .lst a, b => by cases b <;> simp [D.beq, D.beqs_iff a]
theorem D.beqs_iff : ∀ a b : List D, D.beqs a b = true ↔ a = b
  | [], b => by cases b <;> simp [D.beqs]
  | a :: r, b => by cases b <;> simp [D.beqs, D.beq_iff a, D.beqs_iff r]
end
instance : DecidableEq D := fun a b => decidable_of_iff _ (D.beq_iff a b)
mutual
inductive Rep (H : Hp) : V → D → Prop
  | non : Rep H .non .non
  | bl (b : Bool) : Rep H (.bl b) (.bl b)
  | int (i : Int) : Rep H (.int i) (.int i)
  | str (x : Str) : Rep H (.str x) (.str x)
  | tup {a : Addr} {vs : List V} {l : List D} : H a = some (.tup vs) → Reps H vs l → Rep H (.ref a) (.tup l)
  | lst {a : Addr} {vs : List V} {l : List D} : H a = some (.lst vs) → Reps H vs l → Rep H (.ref a) (.lst l)
inductive Reps (H : Hp) : List V → List D → Prop
  | nil : Reps H [] []
  | cons {v : V} {d : D} {vs : List V} {ds : List D} : Rep H v d → Reps H vs ds → Reps H (v :: vs) (d :: ds)
end
mutual
theorem Rep.mono {H H' : Hp} (e : Same H H') : ∀ {v : V} {d : D}, Rep H v d → Rep H' v d
  | _, _, .non => .non
  | _, _, .bl b => .bl b
  | _, _, .int b => .int b
  | _, _, .str b => .str b
  | _, _, .tup h r => .tup (e _ _ h) (Reps.mono e r)
  | _, _, .lst h r => .lst (e _ _ h) (Reps.mono e r)
theorem Reps.mono {H H' : Hp} (e : Same H H') : ∀ {v : List V} {d : List D}, Reps H v d → Reps H' v d
  | _, _, .nil => .nil
  | _, _, .cons h r => .cons (Rep.mono e h) (Reps.mono e r)
end
theorem Reps.length {H : Hp} : ∀ {vs : List V} {ds : List D}, Reps H vs ds → vs.length = ds.length
  | _, _, .nil => rfl
  | _, _, .cons _ r => congrArg (· + 1) r.length
theorem Reps.get {H : Hp} : ∀ {vs : List V} {ds : List D} {i : Nat} {d : D}, Reps H vs ds → ds[i]? = some d → ∃ v, vs[i]? = some v ∧ Rep H v d
  | _, _, _, _, .nil, e => by simp at e
  | _, _, 0, _, .cons h _, e => by simp at e; subst e; exact ⟨_, rfl, h⟩
  | _, _, i + 1, d, .cons _ r, e => by
    obtain ⟨v, h1, h2⟩ := Reps.get (i := i) (d := d) r (by simpa using e)
    exact ⟨v, by simpa using h1, h2⟩
theorem Reps.getV {H : Hp} : ∀ {vs : List V} {ds : List D} {i : Nat} {v : V}, Reps H vs ds → vs[i]? = some v → ∃ d, ds[i]? = some d ∧ Rep H v d
  | _, _, _, _, .nil, e => by simp at e
  | _, _, 0, _, .cons h _, e => by simp at e; subst e; exact ⟨_, rfl, h⟩
  | _, _, i + 1, d, .cons _ r, e => by
    obtain ⟨v, h1, h2⟩ := Reps.getV (i := i) (v := d) r (by simpa using e)
    exact ⟨v, by simpa using h1, h2⟩
theorem Reps.append {H : Hp} : ∀ {vs ws : List V} {ds es : List D}, Reps H vs ds → Reps H ws es → Reps H (vs ++ ws) (ds ++ es)
  | _, _, _, _, .nil, s => s
  | _, _, _, _, .cons h r, s => .cons h (r.append s)
theorem Reps.snoc {H : Hp} {vs : List V} {ds : List D} {v : V} {d : D} (r : Reps H vs ds) (h : Rep H v d) : Reps H (vs ++ [v]) (ds ++ [d]) := r.append (.cons h .nil)
theorem Reps.take {H : Hp} : ∀ {vs : List V} {ds : List D} (n : Nat), Reps H vs ds → Reps H (vs.take n) (ds.take n)
  | _, _, 0, _ => .nil
  | _, _, _ + 1, .nil => .nil
  | _, _, n + 1, .cons h r => .cons h (r.take n)
theorem Reps.drop {H : Hp} : ∀ {vs : List V} {ds : List D} (n : Nat), Reps H vs ds → Reps H (vs.drop n) (ds.drop n)
  | _, _, 0, r => r
  | _, _, _ + 1, .nil => .nil
  | _, _, n + 1, .cons _ r => r.drop n
theorem Reps.set {H : Hp} {v : V} {d : D} (h : Rep H v d) : ∀ {vs : List V} {ds : List D} (i : Nat), Reps H vs ds → Reps H (vs.set i v) (ds.set i d)
  | _, _, _, .nil => .nil
  | _, _, 0, .cons _ r => .cons h r
  | _, _, i + 1, .cons q r => .cons q (r.set h i)
theorem Reps.ints {H : Hp} : ∀ ns : List Int, Reps H (ns.map V.int) (ns.map D.int)
  | [] => .nil
  | n :: r => .cons (.int n) (Reps.ints r)
theorem Rep.of_int {H : Hp} {v : V} {i : Int} (h : Rep H v (.int i)) : v = .int i := by cases h; rfl
theorem Rep.of_str {H : Hp} {v : V} {x : Str} (h : Rep H v (.str x)) : v = .str x := by cases h; rfl
theorem Rep.of_bl {H : Hp} {v : V} {b : Bool} (h : Rep H v (.bl b)) : v = .bl b := by cases h; rfl
theorem Rep.of_non {H : Hp} {v : V} (h : Rep H v .non) : v = .non := by cases h; rfl
theorem Rep.of_tup {H : Hp} {v : V} {l : List D} (h : Rep H v (.tup l)) : ∃ a vs, v = .ref a ∧ H a = some (.tup vs) ∧ Reps H vs l := by cases h with | tup h r => exact ⟨_, _, rfl, h, r⟩
theorem Rep.of_lst {H : Hp} {v : V} {l : List D} (h : Rep H v (.lst l)) : ∃ a vs, v = .ref a ∧ H a = some (.lst vs) ∧ Reps H vs l := by cases h with | lst h r => exact ⟨_, _, rfl, h, r⟩
mutual
theorem Rep.inj {H : Hp} : ∀ {v : V} {d e : D}, Rep H v d → Rep H v e → d = e
  | _, _, _, .non, h => by cases h; rfl
  | _, _, _, .bl _, h => by cases h; rfl
  | _, _, _, .int _, h => by cases h; rfl
  | _, _, _, .str _, h => by cases h; rfl
  | _, _, _, .tup h r, q => by
    cases q with
    | tup h' r' => rw [h] at h'; cases h'; rw [Reps.inj r r']
    | lst h' r' => rw [h] at h'; cases h'
  | _, _, _, .lst h r, q => by
    cases q with
    | lst h' r' => rw [h] at h'; cases h'; rw [Reps.inj r r']
    | tup h' r' => rw [h] at h'; cases h'
theorem Reps.inj {H : Hp} : ∀ {v : List V} {d e : List D}, Reps H v d → Reps H v e → d = e
  | _, _, _, .nil, h => by cases h; rfl
  | _, _, _, .cons h r, q => by cases q with | cons h' r' => rw [Rep.inj h h', Reps.inj r r']
end

/-! ### hidden lists -/
def but (H : Hp) (M : List Addr) : Hp := fun b => if b ∈ M then none else H b
theorem but_nil (H : Hp) : but H [] = H := by funext b; simp [but]
theorem but_out {H : Hp} {M : List Addr} {b : Addr} (h : b ∉ M) : but H M b = H b := by simp [but, h]
theorem but_some {H : Hp} {M : List Addr} {b : Addr} {o : HO} (h : but H M b = some o) : b ∉ M ∧ H b = some o := by
  unfold but at h
  split at h
  · cases h
  · exact ⟨‹_›, h⟩
theorem but_sub (H : Hp) (M : List Addr) : Same (but H M) H := fun b o h => (but_some h).2
theorem _root_.L2.Same.but {H H' : Hp} (e : Same H H') (M : List Addr) : Same (but H M) (but H' M) := fun b o h => by
  obtain ⟨h1, h2⟩ := but_some h
  rw [but_out h1]; exact e b o h2
theorem but_upd {H : Hp} {M : List Addr} {a : Addr} {o : HO} (h : a ∈ M) : but (upd H a o) M = but H M := by
  funext b
  unfold FL.but
  by_cases hb : b ∈ M
  · rw [if_pos hb, if_pos hb]
  · rw [if_neg hb, if_neg hb, upd_ne (fun e : b = a => hb (by rw [e]; exact h))]
theorem but_upd_new {H : Hp} {M : List Addr} {a : Addr} {o : HO} (h : a ∉ M) : but (upd H a o) M = upd (but H M) a o := by
  funext b
  by_cases hb : b ∈ M
  · rw [upd_ne (fun e : b = a => h (by rw [← e]; exact hb))]
    simp [FL.but, hb]
  · rw [but_out hb]
    by_cases e : b = a
    · subst e; rw [upd_same, upd_same]
    · rw [upd_ne e, upd_ne e, but_out hb]
theorem but_mono {H : Hp} {M M' : List Addr} (h : ∀ a ∈ M, a ∈ M') : Same (but H M') (but H M) := fun b o e => by
  obtain ⟨h1, h2⟩ := but_some e
  rw [but_out fun z => h1 (h b z)]; exact h2
theorem same_new {H : Hp} {p : Addr} (h : H p = none) (o : HO) : Same H (upd H p o) := fun b u q => by rw [upd_ne (ne_of_none q h)]; exact q
/-- every hidden address stands -/
def Live (M : List Addr) (H : Hp) : Prop := ∀ a ∈ M, H a ≠ none
theorem Live.nil {H : Hp} : Live [] H := fun _ h => nomatch h
theorem Live.same {M : List Addr} {H H' : Hp} (l : Live M H) (e : Same H H') : Live M H' := fun a ha z => by
  cases q : H a with
  | none => exact l a ha q
  | some o => rw [e a o q] at z; cases z
theorem Live.cons {M : List Addr} {H : Hp} {a : Addr} {o : HO} (l : Live M H) (h : H a = some o) : Live (a :: M) H := fun b hb => by
  rcases List.mem_cons.mp hb with e | e
  · rw [e, h]; exact fun z => nomatch z
  · exact l b e
theorem Live.fresh {M : List Addr} {H : Hp} {p : Addr} (l : Live M H) (h : H p = none) : p ∉ M := fun z => l p z h
theorem Live.upd {M : List Addr} {H : Hp} {a : Addr} {o : HO} (l : Live M H) : Live M (L2.upd H a o) := fun b hb z => by
  by_cases e : b = a
  · subst e; rw [upd_same] at z; cases z
  · rw [upd_ne e] at z; exact l b hb z
/-- a new object is seen -/
theorem rep_new_tup {H : Hp} {M : List Addr} {p : Addr} {vs : List V} {ds : List D} (l : Live M H) (h : H p = none) (r : Reps (but H M) vs ds) : Rep (but (upd H p (.tup vs)) M) (.ref p) (.tup ds) := by
  rw [but_upd_new (l.fresh h)]
  exact .tup upd_same (r.mono (same_new (by rw [but_out (l.fresh h)]; exact h) _))
theorem rep_new_lst {H : Hp} {M : List Addr} {p : Addr} {vs : List V} {ds : List D} (l : Live M H) (h : H p = none) (r : Reps (but H M) vs ds) : Rep (but (upd H p (.lst vs)) M) (.ref p) (.lst ds) := by
  rw [but_upd_new (l.fresh h)]
  exact .lst upd_same (r.mono (same_new (by rw [but_out (l.fresh h)]; exact h) _))
/-- a hidden list is shown -/
theorem rep_show {H : Hp} {M : List Addr} {a : Addr} {vs : List V} {ds : List D} (hM : a ∉ M) (h : H a = some (.lst vs)) (r : Reps (but H (a :: M)) vs ds) : Rep (but H M) (.ref a) (.lst ds) :=
  .lst (by rw [but_out hM]; exact h) (r.mono (but_mono fun b hb => List.mem_cons_of_mem _ hb))
theorem rep_hide {H : Hp} {M : List Addr} {a : Addr} {o : HO} {v : V} {d : D} (h : H a = none) (r : Rep (but H M) v d) : Rep (but (upd H a o) (a :: M)) v d := by
  rw [but_upd (List.mem_cons_self)]
  refine r.mono fun b u e => ?_
  obtain ⟨h1, h2⟩ := but_some e
  rw [but_out]
  · exact h2
  · intro z
    rcases List.mem_cons.mp z with rfl | z
    · rw [h] at h2; cases h2
    · exact h1 z
theorem reps_hide {H : Hp} {M : List Addr} {a : Addr} {o : HO} (h : H a = none) : ∀ {vs : List V} {ds : List D}, Reps (but H M) vs ds → Reps (but (upd H a o) (a :: M)) vs ds
  | _, _, .nil => .nil
  | _, _, .cons q r => .cons (rep_hide h q) (reps_hide h r)

/-! ### readings that hand back a datum: G is what is seen; M: hidden lists -/
def EvM (te : TE) (G : Hp) (σ : St) (d : D) : Prop :=
  ∀ M H, Same G (but H M) → Live M H → ∀ Q : VK, (∀ v H', Same H H' → Rep (but H' M) v d → Q v H') → te σ H Q
def EvA (ta : TA) (G : Hp) (σ : St) (ds : List D) : Prop :=
  ∀ M H, Same G (but H M) → Live M H → ∀ Q : List V → Hp → Prop, (∀ vs H', Same H H' → Reps (but H' M) vs ds → Q vs H') → ta σ H Q
def EvT (tt : TT) (G : Hp) (σ : St) (b : Bool) : Prop :=
  ∀ M H, Same G (but H M) → Live M H → ∀ Q : Bool → Hp → Prop, (∀ H', Same H H' → Q b H') → tt σ H Q
theorem EvM.mono {te : TE} {G G' : Hp} {σ : St} {d : D} (h : EvM te G σ d) (e : Same G G') : EvM te G' σ d := fun M H s l => h M H (e.trans s) l
theorem EvT.mono {te : TT} {G G' : Hp} {σ : St} {d : Bool} (h : EvT te G σ d) (e : Same G G') : EvT te G' σ d := fun M H s l => h M H (e.trans s) l
theorem EvM.at {te : TE} {M : List Addr} {H : Hp} {σ : St} {d : D} {Q : VK} (h : EvM te (but H M) σ d) (l : Live M H) (k : ∀ v H', Same H H' → Rep (but H' M) v d → Q v H') : te σ H Q := h M H (Same.refl _) l Q k
theorem EvM.eq {te : TE} {G : Hp} {σ : St} {d d' : D} (h : EvM te G σ d) (e : d = d') : EvM te G σ d' := e ▸ h
theorem EvT.eq {te : TT} {G : Hp} {σ : St} {d d' : Bool} (h : EvT te G σ d) (e : d = d') : EvT te G σ d' := e ▸ h
section
variable {G : Hp} {σ : St} {ta tb tc : TE} {tt tu : TT} {t : TA} {d d1 d2 : D} {ds : List D} {K : PySem.W.Frag}
theorem ev_var {i : Nat} {v : V} (e : σ[i]? = some (some v)) (r : Rep G v d) : EvM (tVar i) G σ d := fun M H s l Q k => ⟨v, e, k v H (Same.refl _) (r.mono s)⟩
theorem ev_C {v : V} (r : ∀ H, Rep H v d) : EvM (tC v) G σ d := fun M H s l Q k => k _ H (Same.refl _) (r _)
theorem ev_int {i : Int} : EvM (tC (.int i)) G σ (.int i) := ev_C fun _ => .int i
theorem ev_str {x : Str} : EvM (tC (.str x)) G σ (.str x) := ev_C fun _ => .str x
theorem ev_bl {b : Bool} : EvM (tC (.bl b)) G σ (.bl b) := ev_C fun _ => .bl b
theorem ev_non : EvM (tC .non) G σ .non := ev_C fun _ => .non
/-- a two-place operation -/
theorem ev_op2 {r : R2} (hr : ∀ M H x y, Live M H → Rep (but H M) x d1 → Rep (but H M) y d2 → ∀ Q : VK, (∀ v H', Same H H' → Rep (but H' M) v d → Q v H') → r x y H Q) (ha : EvM ta G σ d1) (hb : EvM tb G σ d2) : EvM (tOp r ta tb) G σ d :=
  fun M H s l Q k => ha M H s l _ fun x H1 s1 rx => hb M H1 (s.trans (s1.but M)) (l.same s1) _ fun y H2 s2 ry =>
    hr M H2 x y (l.same (s1.trans s2)) (rx.mono (s2.but M)) ry Q fun v H3 s3 r3 => k v H3 (s1.trans (s2.trans s3)) r3
theorem ev_i0 {g : Int → Int → V} {i j : Int} (hg : ∀ H', Rep H' (g i j) d) (ha : EvM ta G σ (.int i)) (hb : EvM tb G σ (.int j)) : EvM (tOp (rI0 g) ta tb) G σ d :=
  ev_op2 (fun M H x y l rx ry Q k => ⟨i, j, rx.of_int, ry.of_int, k _ H (Same.refl _) (hg _)⟩) ha hb
theorem ev_i {C : Int → Int → Prop} {g : Int → Int → V} {i j : Int} (hc : C i j) (hg : ∀ H', Rep H' (g i j) d) (ha : EvM ta G σ (.int i)) (hb : EvM tb G σ (.int j)) : EvM (tOp (rI C g) ta tb) G σ d :=
  ev_op2 (fun M H x y l rx ry Q k => ⟨i, j, rx.of_int, ry.of_int, hc, k _ H (Same.refl _) (hg _)⟩) ha hb
theorem ev_add {i j : Int} (ha : EvM ta G σ (.int i)) (hb : EvM tb G σ (.int j)) : EvM (tOp (rI0 fun i j => .int (i + j)) ta tb) G σ (.int (i + j)) := ev_i0 (fun _ => .int _) ha hb
theorem ev_sub {i j : Int} (ha : EvM ta G σ (.int i)) (hb : EvM tb G σ (.int j)) : EvM (tOp (rI0 fun i j => .int (i - j)) ta tb) G σ (.int (i - j)) := ev_i0 (fun _ => .int _) ha hb
theorem ev_mul {i j : Int} (hc : CMul i j) (ha : EvM ta G σ (.int i)) (hb : EvM tb G σ (.int j)) : EvM (tOp (rI CMul fun i j => .int (i * j)) ta tb) G σ (.int (i * j)) := ev_i hc (fun _ => .int _) ha hb
theorem ev_mod {i j : Int} (hc : 0 < j) (ha : EvM ta G σ (.int i)) (hb : EvM tb G σ (.int j)) : EvM (tOp (rI (fun _ j => 0 < j) fun i j => .int (i % j)) ta tb) G σ (.int (i % j)) := ev_i (C := fun _ j => 0 < j) hc (fun _ => .int _) ha hb
theorem ev_fdiv {i j : Int} (hc : CDiv i j) (ha : EvM ta G σ (.int i)) (hb : EvM tb G σ (.int j)) : EvM (tOp (rI CDiv fun i j => .int (i / j)) ta tb) G σ (.int (i / j)) := ev_i hc (fun _ => .int _) ha hb
theorem ev_pow {i j : Int} (hc : CPow i j) (ha : EvM ta G σ (.int i)) (hb : EvM tb G σ (.int j)) : EvM (tOp (rI CPow fun i j => .int (i ^ j.toNat)) ta tb) G σ (.int (i ^ j.toNat)) := ev_i hc (fun _ => .int _) ha hb
theorem ev_lt {i j : Int} (ha : EvM ta G σ (.int i)) (hb : EvM tb G σ (.int j)) : EvM (tOp (rI0 fun i j => .bl (decide (i < j))) ta tb) G σ (.bl (decide (i < j))) := ev_i0 (fun _ => .bl _) ha hb
theorem ev_gt {i j : Int} (ha : EvM ta G σ (.int i)) (hb : EvM tb G σ (.int j)) : EvM (tOp (rI0 fun i j => .bl (decide (j < i))) ta tb) G σ (.bl (decide (j < i))) := ev_i0 (fun _ => .bl _) ha hb
theorem ev_ge {i j : Int} (ha : EvM ta G σ (.int i)) (hb : EvM tb G σ (.int j)) : EvM (tOp (rI0 fun i j => .bl (decide (j ≤ i))) ta tb) G σ (.bl (decide (j ≤ i))) := ev_i0 (fun _ => .bl _) ha hb
theorem ev_neg {i : Int} (ha : EvM ta G σ (.int i)) : EvM (tUn (rU fun i => .int (-i)) ta) G σ (.int (-i)) :=
  fun M H s l Q k => ha M H s l _ fun x H1 s1 rx => ⟨i, rx.of_int, k _ H1 s1 (.int _)⟩
/-- scalars -/
def D.sc : D → Bool
  | .int _ => true | .str _ => true | _ => false
theorem scal_of {H H' : Hp} {x y : V} {d e : D} (rx : Rep H x d) (ry : Rep H' y e) (hd : d.sc = true) (he : e.sc = true) : scal x y = true ∧ decide (x = y) = decide (d = e) := by
  cases rx with
  | int i =>
    cases ry with
    | int j => exact ⟨rfl, by simp⟩
    | str j => exact ⟨rfl, by simp⟩
    | _ => exact absurd he (by simp [D.sc])
  | str i =>
    cases ry with
    | int j => exact ⟨rfl, by simp⟩
    | str j => exact ⟨rfl, by simp⟩
    | _ => exact absurd he (by simp [D.sc])
  | _ => exact absurd hd (by simp [D.sc])
theorem ev_eqS (hd : d1.sc = true) (he : d2.sc = true) (ha : EvM ta G σ d1) (hb : EvM tb G σ d2) : EvM (tOp rEq ta tb) G σ (.bl (decide (d1 = d2))) :=
  ev_op2 (fun M H x y l rx ry Q k => by
    obtain ⟨h1, h2⟩ := scal_of rx ry hd he
    refine ⟨h1, ?_⟩
    rw [h2]
    exact k _ H (Same.refl _) (.bl _)) ha hb
theorem ev_neS (hd : d1.sc = true) (he : d2.sc = true) (ha : EvM ta G σ d1) (hb : EvM tb G σ d2) : EvM (tOp rNe ta tb) G σ (.bl (!decide (d1 = d2))) :=
  ev_op2 (fun M H x y l rx ry Q k => by
    obtain ⟨h1, h2⟩ := scal_of rx ry hd he
    refine ⟨h1, ?_⟩
    rw [h2]
    exact k _ H (Same.refl _) (.bl _)) ha hb
theorem ev_eqB {a b : Bool} (ha : EvM ta G σ (.bl a)) (hb : EvM tb G σ (.bl b)) : EvM (tOp rEq ta tb) G σ (.bl (decide (a = b))) :=
  ev_op2 (fun M H x y l rx ry Q k => by
    rw [rx.of_bl, ry.of_bl]
    refine ⟨rfl, ?_⟩
    have e : decide (V.bl a = V.bl b) = decide (a = b) := by simp
    rw [e]
    exact k _ H (Same.refl _) (.bl _)) ha hb
theorem ev_neB {a b : Bool} (ha : EvM ta G σ (.bl a)) (hb : EvM tb G σ (.bl b)) : EvM (tOp rNe ta tb) G σ (.bl (!decide (a = b))) :=
  ev_op2 (fun M H x y l rx ry Q k => by
    rw [rx.of_bl, ry.of_bl]
    refine ⟨rfl, ?_⟩
    have e : decide (V.bl a = V.bl b) = decide (a = b) := by simp
    rw [e]
    exact k _ H (Same.refl _) (.bl _)) ha hb
/-- argument lists, displays -/
theorem ev_nil : EvA tNil G σ [] := fun M H s l Q k => k [] H (Same.refl _) .nil
theorem ev_cons (ha : EvM ta G σ d) (ht : EvA t G σ ds) : EvA (tCons ta t) G σ (d :: ds) :=
  fun M H s l Q k => ha M H s l _ fun x H1 s1 rx => ht M H1 (s.trans (s1.but M)) (l.same s1) _ fun vs H2 s2 rs => k _ H2 (s1.trans s2) (.cons (rx.mono (s2.but M)) rs)
theorem ev_tup (h : EvA t G σ ds) (hz : ds.length ≤ sizeLine := by exact Nat.le_of_lt (small1000 (by simp))) : EvM (tTup t) G σ (.tup ds) :=
  fun M H s l Q k => h M H s l _ fun vs H1 s1 rs => ⟨by rw [rs.length]; exact hz, fun p hp => k _ _ (s1.trans (same_new hp _)) (rep_new_tup (l.same s1) hp rs)⟩
theorem ev_lst (h : EvA t G σ ds) (hz : ds.length ≤ sizeLine := by exact Nat.le_of_lt (small1000 (by simp))) : EvM (tLst t) G σ (.lst ds) :=
  fun M H s l Q k => h M H s l _ fun vs H1 s1 rs => ⟨by rw [rs.length]; exact hz, fun p hp => k _ _ (s1.trans (same_new hp _)) (rep_new_lst (l.same s1) hp rs)⟩
/-- an item -/
theorem atI_rep {H : Hp} {vs : List V} {ds : List D} {i : Int} {d : D} (r : Reps H vs ds) (h : atI ds i = some d) : ∃ v, atI vs i = some v ∧ Rep H v d := by
  unfold atI at h ⊢
  rw [r.length]
  cases e : ixN ds.length i with
  | none => rw [e] at h; cases h
  | some j => rw [e] at h; exact r.get h
theorem ev_ixL {i : Int} (h : atI ds i = some d) (ha : EvM ta G σ (.lst ds)) (hb : EvM tb G σ (.int i)) : EvM (tOp (rIxL K) ta tb) G σ d :=
  ev_op2 (fun M H x y l rx ry Q k => by
    obtain ⟨a, vs, rfl, h1, h2⟩ := rx.of_lst
    obtain ⟨v, h3, h4⟩ := atI_rep h2 h
    exact ⟨a, vs, i, v, rfl, ry.of_int, SqL.of (but_some h1).2, h3, k v H (Same.refl _) h4⟩) ha hb
theorem ev_ixT {i : Int} (h : atI ds i = some d) (ha : EvM ta G σ (.tup ds)) (hb : EvM tb G σ (.int i)) : EvM (tOp (rIxT K) ta tb) G σ d :=
  ev_op2 (fun M H x y l rx ry Q k => by
    obtain ⟨a, vs, rfl, h1, h2⟩ := rx.of_tup
    obtain ⟨v, h3, h4⟩ := atI_rep h2 h
    exact ⟨a, vs, i, v, rfl, ry.of_int, SqT.of (but_some h1).2, h3, k v H (Same.refl _) h4⟩) ha hb
/-- a builtin's call -/
theorem ev_cb {r : List V → Hp → VK → Prop} (hr : ∀ M H xs, Live M H → Reps (but H M) xs ds → ∀ Q : VK, (∀ v H', Same H H' → Rep (but H' M) v d → Q v H') → r xs H Q) (h : EvA t G σ ds) : EvM (tCB r t) G σ d :=
  fun M H s l Q k => h M H s l _ fun vs H1 s1 rs => hr M H1 vs (l.same s1) rs Q fun v H2 s2 r2 => k v H2 (s1.trans s2) r2
theorem reps1 {H : Hp} {xs : List V} {d : D} (h : Reps H xs [d]) : ∃ x, xs = [x] ∧ Rep H x d := by
  cases h with | cons q r => cases r; exact ⟨_, rfl, q⟩
theorem reps2 {H : Hp} {xs : List V} {d e : D} (h : Reps H xs [d, e]) : ∃ x y, xs = [x, y] ∧ Rep H x d ∧ Rep H y e := by
  cases h with | cons q r => cases r with | cons q' r => cases r; exact ⟨_, _, rfl, q, q'⟩
theorem ev_lenL {l : List D} (h : EvA t G σ [.lst l]) : EvM (tCB (fun xs H Q => ∃ p ys, xs = [.ref p] ∧ (SqL K H p ys ∨ SqT K H p ys) ∧ Q (.int ys.length) H) t) G σ (.int l.length) :=
  ev_cb (fun M H xs lv rs Q k => by
    obtain ⟨x, rfl, q⟩ := reps1 rs
    obtain ⟨a, vs, rfl, h1, h2⟩ := q.of_lst
    refine ⟨a, vs, rfl, .inl (SqL.of (but_some h1).2), ?_⟩
    rw [h2.length]
    exact k _ H (Same.refl _) (.int _)) h
theorem ev_lenT {l : List D} (h : EvA t G σ [.tup l]) : EvM (tCB (fun xs H Q => ∃ p ys, xs = [.ref p] ∧ (SqL K H p ys ∨ SqT K H p ys) ∧ Q (.int ys.length) H) t) G σ (.int l.length) :=
  ev_cb (fun M H xs lv rs Q k => by
    obtain ⟨x, rfl, q⟩ := reps1 rs
    obtain ⟨a, vs, rfl, h1, h2⟩ := q.of_tup
    refine ⟨a, vs, rfl, .inr (SqT.of (but_some h1).2), ?_⟩
    rw [h2.length]
    exact k _ H (Same.refl _) (.int _)) h
theorem ev_listL {l : List D} (h : EvA t G σ [.lst l]) :
    EvM (tCB (fun xs H Q => ∃ p ys, xs = [.ref p] ∧ (SqL K H p ys ∨ SqT K H p ys) ∧ ∀ l, H l = none → Q (.ref l) (upd H l (.lst ys))) t) G σ (.lst l) :=
  ev_cb (fun M H xs lv rs Q k => by
    obtain ⟨x, rfl, q⟩ := reps1 rs
    obtain ⟨a, vs, rfl, h1, h2⟩ := q.of_lst
    exact ⟨a, vs, rfl, .inl (SqL.of (but_some h1).2), fun p hp => k _ _ (same_new hp _) (rep_new_lst lv hp h2)⟩) h
theorem ev_listT {l : List D} (h : EvA t G σ [.tup l]) :
    EvM (tCB (fun xs H Q => ∃ p ys, xs = [.ref p] ∧ (SqL K H p ys ∨ SqT K H p ys) ∧ ∀ l, H l = none → Q (.ref l) (upd H l (.lst ys))) t) G σ (.lst l) :=
  ev_cb (fun M H xs lv rs Q k => by
    obtain ⟨x, rfl, q⟩ := reps1 rs
    obtain ⟨a, vs, rfl, h1, h2⟩ := q.of_tup
    exact ⟨a, vs, rfl, .inr (SqT.of (but_some h1).2), fun p hp => k _ _ (same_new hp _) (rep_new_lst lv hp h2)⟩) h
theorem ev_tupleL {l : List D} (h : EvA t G σ [.lst l]) :
    EvM (tCB (fun xs H Q => ∃ p ys, xs = [.ref p] ∧ ((SqL K H p ys ∧ ∀ l, H l = none → Q (.ref l) (upd H l (.tup ys))) ∨ (SqT K H p ys ∧ Q (.ref p) H))) t) G σ (.tup l) :=
  ev_cb (fun M H xs lv rs Q k => by
    obtain ⟨x, rfl, q⟩ := reps1 rs
    obtain ⟨a, vs, rfl, h1, h2⟩ := q.of_lst
    exact ⟨a, vs, rfl, .inl ⟨SqL.of (but_some h1).2, fun p hp => k _ _ (same_new hp _) (rep_new_tup lv hp h2)⟩⟩) h
/-- tests -/
theorem evt_test {b : Bool} (h : EvM ta G σ (.bl b)) : EvT (tTest ta) G σ b := fun M H s l Q k => h M H s l _ fun v H1 s1 r1 => ⟨b, r1.of_bl, k H1 s1⟩
theorem evt_tB {b : Bool} (h : EvM ta G σ (.bl b)) : EvT (tB ta) G σ b := fun M H s l Q k => h M H s l _ fun v H1 s1 r1 => ⟨b, r1.of_bl, k H1 s1⟩
theorem evt_not {b : Bool} (h : EvT tt G σ b) : EvT (tNot tt) G σ (!b) := fun M H s l Q k => h M H s l _ fun H1 s1 => k H1 s1
theorem evt_yes : EvT tYes G σ true := fun M H s l Q k => k H (Same.refl _)
theorem evt_and {b c : Bool} (h : EvT tt G σ b) (h2 : b = true → EvT tu G σ c) : EvT (tAnd tt tu) G σ (b && c) := fun M H s l Q k => h M H s l _ fun H1 s1 => by
  cases b with
  | true => rw [if_pos rfl]; exact h2 rfl M H1 (s.trans (s1.but M)) (l.same s1) _ fun H2 s2 => k H2 (s1.trans s2)
  | false => rw [if_neg Bool.false_ne_true]; exact k H1 s1
theorem evt_or {b c : Bool} (h : EvT tt G σ b) (h2 : b = false → EvT tu G σ c) : EvT (tOr tt tu) G σ (b || c) := fun M H s l Q k => h M H s l _ fun H1 s1 => by
  cases b with
  | true => rw [if_pos rfl]; exact k H1 s1
  | false => rw [if_neg Bool.false_ne_true]; exact h2 rfl M H1 (s.trans (s1.but M)) (l.same s1) _ fun H2 s2 => k H2 (s1.trans s2)
/-- bools as values -/
theorem ev_and {b c : Bool} (h : EvM ta G σ (.bl b)) (h2 : b = true → EvM tb G σ (.bl c)) : EvM (tAndV ta tb) G σ (.bl (b && c)) := fun M H s l Q k => h M H s l _ fun v H1 s1 r1 => ⟨b, r1.of_bl, by
  cases b with
  | true => rw [if_pos rfl]; exact h2 rfl M H1 (s.trans (s1.but M)) (l.same s1) _ fun v H2 s2 r2 => k v H2 (s1.trans s2) r2
  | false => rw [if_neg Bool.false_ne_true]; exact k _ H1 s1 (.bl _)⟩
theorem ev_or {b c : Bool} (h : EvM ta G σ (.bl b)) (h2 : b = false → EvM tb G σ (.bl c)) : EvM (tOrV ta tb) G σ (.bl (b || c)) := fun M H s l Q k => h M H s l _ fun v H1 s1 r1 => ⟨b, r1.of_bl, by
  cases b with
  | true => rw [if_pos rfl]; exact k _ H1 s1 (.bl _)
  | false => rw [if_neg Bool.false_ne_true]; exact h2 rfl M H1 (s.trans (s1.but M)) (l.same s1) _ fun v H2 s2 r2 => k v H2 (s1.trans s2) r2⟩
theorem ev_not {b : Bool} (h : EvM ta G σ (.bl b)) : EvM (tNotV ta) G σ (.bl (!b)) := fun M H s l Q k => h M H s l _ fun v H1 s1 r1 => ⟨b, r1.of_bl, k _ H1 s1 (.bl _)⟩
end
section
variable {M : List Addr} {H : Hp} {σ : St} {ta : TE} {tt : TT} {d : D} {E : Ends}
/-- statements -/
theorem st_set {i : Nat} (l : Live M H) (h : EvM ta (but H M) σ d) (k : ∀ v H', Same H H' → Rep (but H' M) v d → E.nx (σ.set i (some v)) H') : tAsg ta (gName i) E σ H := h.at l fun v H' s r => k v H' s r
theorem st_ret (l : Live M H) (h : EvM ta (but H M) σ d) (k : ∀ v H', Same H H' → Rep (but H' M) v d → E.rt v H') : tRet ta E σ H := h.at l k
theorem st_if {b : Bool} {ts us : TS} (l : Live M H) (h : EvT tt (but H M) σ b) (k1 : b = true → ∀ H', Same H H' → ts E σ H') (k2 : b = false → ∀ H', Same H H' → us E σ H') : tIfS tt ts us E σ H := h M H (Same.refl _) l _ fun H' s => by
  cases b with
  | true => rw [if_pos rfl]; exact k1 rfl H' s
  | false => rw [if_neg Bool.false_ne_true]; exact k2 rfl H' s
end
/-! ### defs that hand back a datum -/
/-- f: what the def is worth, where it is worth anything -/
def spP (f : List D → Option D) : Sp := fun vs H Q _ => ∃ M ds d, Live M H ∧ Reps (but H M) vs ds ∧ f ds = some d ∧ ∀ v H', Same H H' → Rep (but H' M) v d → Q v H'
theorem ev_call {f : List D → Option D} {E : XK} {G : Hp} {σ : St} {t : TA} {ds : List D} {d : D} (hf : f ds = some d) (h : EvA t G σ ds) : EvM (tCall (spP f) [] E t) G σ d :=
  fun M H s l Q k => h M H s l _ fun vs H1 s1 rs => ⟨M, ds, d, l.same s1, by rw [List.append_nil]; exact rs, hf, fun v H2 s2 r2 => k v H2 (s1.trans s2) r2⟩
end FL

set_option Elab.async false
set_option linter.all false
set_option maxRecDepth 100000
/-! ==, !=, in, not in over data; isinstance; dict(pairs); str(x) -/
namespace FL
open PySem L2
/-! data that == may be asked of, without bools and None -/
mutual
def cmpb : D → D → Bool
  | .int _, .int _ => true
  | .int _, .str _ => true
  | .str _, .int _ => true
  | .str _, .str _ => true
  | .tup a, .tup b => cmpbs a b
  | .lst a, .lst b => cmpbs a b
  | _, _ => false
def cmpbs : List D → List D → Bool
  | a :: r, b :: t => cmpb a b && cmpbs r t
  | _, _ => true
end
mutual
def D.dep : D → Nat
  | .tup l => D.deps l + 1
  | .lst l => D.deps l + 1
  | _ => 0
def D.deps : List D → Nat
  | [] => 0
  | a :: r => max (D.dep a) (D.deps r)
end
theorem deps_get : ∀ {l : List D} {j : Nat} {d : D}, l[j]? = some d → d.dep ≤ D.deps l
  | [], _, _, h => by simp at h
  | a :: r, 0, d, h => by simp at h; subst h; exact Nat.le_max_left _ _
  | a :: r, j + 1, d, h => by
    have := deps_get (l := r) (j := j) (d := d) (by simpa using h)
    exact Nat.le_trans this (Nat.le_max_right _ _)
theorem cmpbs_get : ∀ {l m : List D} {j : Nat} {d e : D}, cmpbs l m = true → l[j]? = some d → m[j]? = some e → cmpb d e = true
  | [], _, _, _, _, _, h, _ => by simp at h
  | _ :: _, [], _, _, _, _, _, h => by simp at h
  | a :: r, b :: t, 0, d, e, h, h1, h2 => by
    simp at h1 h2; subst h1; subst h2
    rw [cmpbs, Bool.and_eq_true] at h
    exact h.1
  | a :: r, b :: t, j + 1, d, e, h, h1, h2 => by
    rw [cmpbs, Bool.and_eq_true] at h
    exact cmpbs_get (l := r) (m := t) (j := j) h.2 (by simpa using h1) (by simpa using h2)
theorem all_eq_iff {l m : List D} : ((List.range (min l.length m.length)).all (fun j => decide (l[j]? = m[j]?)) && l.length == m.length) = decide (l = m) := by
  rw [Bool.eq_iff_iff, Bool.and_eq_true, List.all_eq_true, beq_iff_eq, decide_eq_true_iff]
  constructor
  · rintro ⟨h1, h2⟩
    refine List.ext_getElem? fun j => ?_
    by_cases hj : j < min l.length m.length
    · exact of_decide_eq_true (h1 j (List.mem_range.mpr hj))
    · rw [List.getElem?_eq_none (by omega), List.getElem?_eq_none (by omega)]
  · rintro rfl
    exact ⟨fun j _ => by simp, rfl⟩
theorem vals_at {P : Program} {w : World} {K : PySem.W.Frag} {xs : List V} {us : List Value} {j : Nat} {u : Value} (r : Vals xs us) (h : us[j]? = some u) : ∃ x, xs[j]? = some x ∧ RelV x u := by
  have hl := r.length
  obtain ⟨hj, _⟩ := List.getElem?_eq_some_iff.mp h
  have hx : xs[j]? = some (xs[j]'(by omega)) := List.getElem?_eq_getElem (by omega)
  obtain ⟨u', h1, h2⟩ := r.get hx
  rw [h] at h1; cases h1
  exact ⟨_, hx, h2⟩
open SeqAt in
theorem eqAt_of {P : Program} {w : World} {G H : Hp} {s : Shared} (ok : HOk P w H s.heap) (hG : Same G H) : ∀ (n : Nat) {d e : D} {x y : V} {u z : Value} {A : Around}, d.dep ≤ n → Rep G x d → Rep G y e → RelV x u → RelV y z → cmpb d e = true → A.units + n < cLine →
    EqAt A s u z (decide (d = e)) := by
  intro n
  induction n with
  | zero =>
    intro d e x y u z A hd rx ry ru rz hc hu
    cases rx with
    | int i =>
      obtain ⟨t, rfl⟩ := ru
      cases ry with
      | int j =>
        obtain ⟨t', rfl⟩ := rz
        have q : decide (D.int i = D.int j) = (i == j) := by rw [Bool.eq_iff_iff]; simp
        rw [q]; exact EqAt.int_int i t j t'
      | str j =>
        obtain ⟨t', rfl⟩ := rz
        have q : decide (D.int i = D.str j) = false := by simp
        rw [q]; exact EqAt.int_str i t j t'
      | _ => exact absurd hc (by simp [cmpb])
    | str i =>
      obtain ⟨t, rfl⟩ := ru
      cases ry with
      | int j =>
        obtain ⟨t', rfl⟩ := rz
        have q : decide (D.str i = D.int j) = false := by simp
        rw [q]; exact EqAt.str_int i t j t'
      | str j =>
        obtain ⟨t', rfl⟩ := rz
        have q : decide (D.str i = D.str j) = (i == j) := by rw [Bool.eq_iff_iff]; simp
        rw [q]; exact EqAt.str_str i t j t'
      | _ => exact absurd hc (by simp [cmpb])
    | non => exact absurd hc (by simp [cmpb])
    | bl _ => exact absurd hc (by simp [cmpb])
    | tup _ _ => simp [D.dep] at hd
    | lst _ _ => simp [D.dep] at hd
  | succ n ih =>
    intro d e x y u z A hd rx ry ru rz hc hu
    cases rx with
    | int i =>
      obtain ⟨t, rfl⟩ := ru
      cases ry with
      | int j =>
        obtain ⟨t', rfl⟩ := rz
        have q : decide (D.int i = D.int j) = (i == j) := by rw [Bool.eq_iff_iff]; simp
        rw [q]; exact EqAt.int_int i t j t'
      | str j =>
        obtain ⟨t', rfl⟩ := rz
        have q : decide (D.int i = D.str j) = false := by simp
        rw [q]; exact EqAt.int_str i t j t'
      | _ => exact absurd hc (by simp [cmpb])
    | str i =>
      obtain ⟨t, rfl⟩ := ru
      cases ry with
      | int j =>
        obtain ⟨t', rfl⟩ := rz
        have q : decide (D.str i = D.int j) = false := by simp
        rw [q]; exact EqAt.str_int i t j t'
      | str j =>
        obtain ⟨t', rfl⟩ := rz
        have q : decide (D.str i = D.str j) = (i == j) := by rw [Bool.eq_iff_iff]; simp
        rw [q]; exact EqAt.str_str i t j t'
      | _ => exact absurd hc (by simp [cmpb])
    | non => exact absurd hc (by simp [cmpb])
    | bl _ => exact absurd hc (by simp [cmpb])
    | @tup a vs l ha ra =>
      cases ru
      cases ry with
      | @tup b ws m hb rb =>
        cases rz
        rw [cmpb] at hc
        by_cases hab : a = b
        · subst hab
          rw [ha] at hb; cases hb
          rw [Reps.inj ra rb, decide_eq_true rfl]
          exact EqAt.same _
        · obtain ⟨_, its, r1, p1⟩ := (show ObjOk P w H s.heap a (.tup vs) from ok a _ (hG _ _ ha))
          obtain ⟨_, its2, r2, p2⟩ := (show ObjOk P w H s.heap b (.tup ws) from ok b _ (hG _ _ hb))
          have n1 : its.toArray.size = l.length := by rw [List.size_toArray, ← r1.length, ra.length]
          have n2 : its2.toArray.size = m.length := by rw [List.size_toArray, ← r2.length, rb.length]
          have q : decide (D.tup l = D.tup m) = ((List.range (min its.toArray.size its2.toArray.size)).all (fun j => decide (l[j]? = m[j]?)) && its.toArray.size == its2.toArray.size) := by
            rw [n1, n2, all_eq_iff, Bool.eq_iff_iff]; simp
          rw [q]
          refine EqAt.of_refs hab (RcAt.tuples p1 p2 (by omega) fun j h1 h2 => ?_)
          obtain ⟨x', hx, rx'⟩ := vals_at (P := P) (w := w) (K := []) r1 (j := j) (u := its.toArray[j]) (by simp)
          obtain ⟨y', hy, ry'⟩ := vals_at (P := P) (w := w) (K := []) r2 (j := j) (u := its2.toArray[j]) (by simp)
          obtain ⟨d', hd', rd'⟩ := ra.getV hx
          obtain ⟨e', he', re'⟩ := rb.getV hy
          have q2 : decide (l[j]? = m[j]?) = decide (d' = e') := by rw [hd', he', Bool.eq_iff_iff]; simp
          rw [q2]
          have hdd : d'.dep ≤ n := by
            have := deps_get hd'
            simp only [D.dep] at hd
            omega
          exact ih hdd rd' re' rx' ry' (cmpbs_get hc hd' he') (by show A.units + 1 + n < cLine; omega)
      | _ => exact absurd hc (by simp [cmpb])
    | @lst a vs l ha ra =>
      cases ru
      cases ry with
      | @lst b ws m hb rb =>
        cases rz
        rw [cmpb] at hc
        by_cases hab : a = b
        · subst hab
          rw [ha] at hb; cases hb
          rw [Reps.inj ra rb, decide_eq_true rfl]
          exact EqAt.same _
        · obtain ⟨_, its, k1, r1, p1⟩ := (show ObjOk P w H s.heap a (.lst vs) from ok a _ (hG _ _ ha))
          obtain ⟨_, its2, k2, r2, p2⟩ := (show ObjOk P w H s.heap b (.lst ws) from ok b _ (hG _ _ hb))
          have n1 : its.toArray.size = l.length := by rw [List.size_toArray, ← r1.length, ra.length]
          have n2 : its2.toArray.size = m.length := by rw [List.size_toArray, ← r2.length, rb.length]
          by_cases hlm : l.length = m.length
          · have q : decide (D.lst l = D.lst m) = ((List.range its.toArray.size).all (fun j => decide (l[j]? = m[j]?))) := by
              have := all_eq_iff (l := l) (m := m)
              rw [n1]
              have e1 : min l.length m.length = l.length := by omega
              rw [e1] at this
              have e2 : (l.length == m.length) = true := by simpa using hlm
              rw [e2, Bool.and_true] at this
              rw [this, Bool.eq_iff_iff]; simp
            rw [q]
            refine EqAt.of_refs hab (RcAt.lists ⟨_, p1, rfl, _, rfl⟩ ⟨_, p2, rfl, _, rfl⟩ (by omega) (by omega) fun j h1 h2 => ?_)
            obtain ⟨x', hx, rx'⟩ := vals_at (P := P) (w := w) (K := []) r1 (j := j) (u := its.toArray[j]) (by simp)
            obtain ⟨y', hy, ry'⟩ := vals_at (P := P) (w := w) (K := []) r2 (j := j) (u := its2.toArray[j]) (by simp)
            obtain ⟨d', hd', rd'⟩ := ra.getV hx
            obtain ⟨e', he', re'⟩ := rb.getV hy
            have q2 : decide (l[j]? = m[j]?) = decide (d' = e') := by rw [hd', he', Bool.eq_iff_iff]; simp
            rw [q2]
            have hdd : d'.dep ≤ n := by
              have := deps_get hd'
              simp only [D.dep] at hd
              omega
            exact ih hdd rd' re' rx' ry' (cmpbs_get hc hd' he') (by show A.units + 1 + n < cLine; omega)
          · have q : decide (D.lst l = D.lst m) = false := by
              rw [decide_eq_false_iff_not]
              intro z; cases z; exact hlm rfl
            rw [q]
            exact EqAt.of_refs hab (RcAt.lists_lengths ⟨_, p1, rfl, _, rfl⟩ ⟨_, p2, rfl, _, rfl⟩ (by rw [n1, n2]; simpa using hlm) (by omega))
      | _ => exact absurd hc (by simp [cmpb])
section
variable {X : Cx}
open SeqAt
/-- the data of two values, where == may be asked -/
def Two (x y : V) (H : Hp) (d e : D) : Prop := ∃ M, Rep (but H M) x d ∧ Rep (but H M) y e ∧ cmpb d e = true ∧ d.dep ≤ 40
theorem Two.eqAt {pins : List (Addr × Obj)} {σ : St} {H : Hp} {s : Shared} {x y : V} {u z : Value} {d e : D} {A : Around} (I : Inv X pins σ H s) (h : Two x y H d e) (ru : RelV x u) (rz : RelV y z) (hu : A.units + 50 < cLine) : EqAt A s u z (decide (d = e)) := by
  obtain ⟨M, rx, ry, hc, hd⟩ := h
  exact eqAt_of I.hok (but_sub H M) 40 hd rx ry ru rz hc (by omega)
def rEqD : R2 := fun x y H Q => ∃ d e, Two x y H d e ∧ Q (.bl (decide (d = e))) H
def rNeD : R2 := fun x y H Q => ∃ d e, Two x y H d e ∧ Q (.bl (!decide (d = e))) H
theorem rich_same {A : Around} {s : Shared} {pins : List (Addr × Obj)} {σ : St} {H : Hp} (I : Inv X pins σ H s) {a : Addr} {M : List Addr} {d : D} (r : Rep (but H M) (.ref a) d) (hc : cmpb d d = true) (hd : d.dep ≤ 40) (hu : A.units + 50 < cLine) :
    (∃ its n, s.heap.IsTuple a its ∧ RcAt A s (.ref a) (.ref a) true ∧ RcNeAt A s (.ref a) (.ref a) false ∧ n = its.size) ∨ (∃ its n, s.heap.IsList a its ∧ RcAt A s (.ref a) (.ref a) true ∧ RcNeAt A s (.ref a) (.ref a) false ∧ n = its.size) := by
  have hin : A.in1.units + 45 < cLine := by show A.units + 1 + 45 < cLine; omega
  cases r with
  | @tup _ vs l ha ra =>
    left
    obtain ⟨_, its, r1, p1⟩ := (show ObjOk X.prog X.w H s.heap a (.tup vs) from I.hok a _ (but_some ha).2)
    have he : ∀ j (h1 : j < its.toArray.size) (h2 : j < its.toArray.size), EqAt A.in1 s its.toArray[j] its.toArray[j] ((fun _ => true) j) := fun j _ _ => EqAt.same _
    have q1 := RcAt.tuples p1 p1 (by omega) he
    have q2 := RcNeAt.tuples p1 p1 (by omega) he
    have e1 : ((List.range (min its.toArray.size its.toArray.size)).all (fun _ => true) && its.toArray.size == its.toArray.size) = true := by simp
    rw [e1] at q1 q2
    exact ⟨_, _, p1, q1, q2, rfl⟩
  | @lst _ vs l ha ra =>
    right
    obtain ⟨_, its, k1, r1, p1⟩ := (show ObjOk X.prog X.w H s.heap a (.lst vs) from I.hok a _ (but_some ha).2)
    have he : ∀ j (h1 : j < its.toArray.size) (h2 : j < its.toArray.size), EqAt A.in1 s its.toArray[j] its.toArray[j] ((fun _ => true) j) := fun j _ _ => EqAt.same _
    have p1' : s.heap.IsList a its.toArray := ⟨_, p1, rfl, _, rfl⟩
    have q1 := RcAt.lists p1' p1' rfl (by omega) he
    have q2 := RcNeAt.lists p1' p1' rfl (by omega) he
    have e1 : ((List.range its.toArray.size).all (fun _ => true)) = true := by simp
    rw [e1] at q1 q2
    exact ⟨_, _, p1', q1, q2, rfl⟩
/-- richCompare of two tuples, two lists -/
theorem rich_two {A : Around} {s : Shared} {pins : List (Addr × Obj)} {σ : St} {H : Hp} (I : Inv X pins σ H s) {a b : Addr} {M : List Addr} {d e : D} (ra : Rep (but H M) (.ref a) d) (rb : Rep (but H M) (.ref b) e) (hc : cmpb d e = true) (hd : d.dep ≤ 40) (hu : A.units + 50 < cLine) :
    RcAt A s (.ref a) (.ref b) (decide (d = e)) ∧ RcNeAt A s (.ref a) (.ref b) (!decide (d = e)) := by
  have hin : A.in1.units + 45 < cLine := by show A.units + 1 + 45 < cLine; omega
  cases ra with
  | @tup _ vs l ha ra =>
    cases rb with
    | @tup _ ws m hb rb =>
      rw [cmpb] at hc
      obtain ⟨_, its, r1, p1⟩ := (show ObjOk X.prog X.w H s.heap a (.tup vs) from I.hok a _ (but_some ha).2)
      obtain ⟨_, its2, r2, p2⟩ := (show ObjOk X.prog X.w H s.heap b (.tup ws) from I.hok b _ (but_some hb).2)
      have n1 : its.toArray.size = l.length := by rw [List.size_toArray, ← r1.length, ra.length]
      have n2 : its2.toArray.size = m.length := by rw [List.size_toArray, ← r2.length, rb.length]
      have q : decide (D.tup l = D.tup m) = ((List.range (min its.toArray.size its2.toArray.size)).all (fun j => decide (l[j]? = m[j]?)) && its.toArray.size == its2.toArray.size) := by
        rw [n1, n2, all_eq_iff, Bool.eq_iff_iff]; simp
      have he : ∀ j (h1 : j < its.toArray.size) (h2 : j < its2.toArray.size), EqAt A.in1 s its.toArray[j] its2.toArray[j] ((fun j => decide (l[j]? = m[j]?)) j) := fun j h1 h2 => by
        obtain ⟨x', hx, rx'⟩ := vals_at (P := X.prog) (w := X.w) (K := X.K) r1 (j := j) (u := its.toArray[j]) (by simp)
        obtain ⟨y', hy, ry'⟩ := vals_at (P := X.prog) (w := X.w) (K := X.K) r2 (j := j) (u := its2.toArray[j]) (by simp)
        obtain ⟨d', hd', rd'⟩ := ra.getV hx
        obtain ⟨e', he', re'⟩ := rb.getV hy
        have q2 : decide (l[j]? = m[j]?) = decide (d' = e') := by rw [hd', he', Bool.eq_iff_iff]; simp
        show EqAt A.in1 s _ _ (decide (l[j]? = m[j]?))
        rw [q2]
        have hdd : d'.dep ≤ 40 := by
          have := deps_get hd'
          simp only [D.dep] at hd
          omega
        exact eqAt_of I.hok (but_sub H M) 40 hdd rd' re' rx' ry' (cmpbs_get hc hd' he') (by omega)
      rw [q]
      exact ⟨RcAt.tuples p1 p2 (by omega) he, RcNeAt.tuples p1 p2 (by omega) he⟩
    | _ => exact absurd hc (by simp [cmpb])
  | @lst _ vs l ha ra =>
    cases rb with
    | @lst _ ws m hb rb =>
      rw [cmpb] at hc
      obtain ⟨_, its, k1, r1, p1⟩ := (show ObjOk X.prog X.w H s.heap a (.lst vs) from I.hok a _ (but_some ha).2)
      obtain ⟨_, its2, k2, r2, p2⟩ := (show ObjOk X.prog X.w H s.heap b (.lst ws) from I.hok b _ (but_some hb).2)
      have p1' : s.heap.IsList a its.toArray := ⟨_, p1, rfl, _, rfl⟩
      have p2' : s.heap.IsList b its2.toArray := ⟨_, p2, rfl, _, rfl⟩
      have n1 : its.toArray.size = l.length := by rw [List.size_toArray, ← r1.length, ra.length]
      have n2 : its2.toArray.size = m.length := by rw [List.size_toArray, ← r2.length, rb.length]
      by_cases hlm : l.length = m.length
      · have q : decide (D.lst l = D.lst m) = ((List.range its.toArray.size).all (fun j => decide (l[j]? = m[j]?))) := by
          have := all_eq_iff (l := l) (m := m)
          rw [n1]
          have e1 : min l.length m.length = l.length := by omega
          rw [e1] at this
          have e2 : (l.length == m.length) = true := by simpa using hlm
          rw [e2, Bool.and_true] at this
          rw [this, Bool.eq_iff_iff]; simp
        have he : ∀ j (h1 : j < its.toArray.size) (h2 : j < its2.toArray.size), EqAt A.in1 s its.toArray[j] its2.toArray[j] ((fun j => decide (l[j]? = m[j]?)) j) := fun j h1 h2 => by
          obtain ⟨x', hx, rx'⟩ := vals_at (P := X.prog) (w := X.w) (K := X.K) r1 (j := j) (u := its.toArray[j]) (by simp)
          obtain ⟨y', hy, ry'⟩ := vals_at (P := X.prog) (w := X.w) (K := X.K) r2 (j := j) (u := its2.toArray[j]) (by simp)
          obtain ⟨d', hd', rd'⟩ := ra.getV hx
          obtain ⟨e', he', re'⟩ := rb.getV hy
          have q2 : decide (l[j]? = m[j]?) = decide (d' = e') := by rw [hd', he', Bool.eq_iff_iff]; simp
          show EqAt A.in1 s _ _ (decide (l[j]? = m[j]?))
          rw [q2]
          have hdd : d'.dep ≤ 40 := by
            have := deps_get hd'
            simp only [D.dep] at hd
            omega
          exact eqAt_of I.hok (but_sub H M) 40 hdd rd' re' rx' ry' (cmpbs_get hc hd' he') (by omega)
        rw [q]
        exact ⟨RcAt.lists p1' p2' (by omega) (by omega) he, RcNeAt.lists p1' p2' (by omega) (by omega) he⟩
      · have q : decide (D.lst l = D.lst m) = false := by
          rw [decide_eq_false_iff_not]
          intro z; cases z; exact hlm rfl
        rw [q]
        exact ⟨RcAt.lists_lengths p1' p2' (by rw [n1, n2]; simpa using hlm) (by omega), RcNeAt.lists_lengths p1' p2' (by rw [n1, n2]; simpa using hlm) (by omega)⟩
    | _ => exact absurd hc (by simp [cmpb])
theorem cmpb_sc {G : Hp} {x y : V} {d e : D} (rx : Rep G x d) (ry : Rep G y e) (hc : cmpb d e = true) : (d.sc = true ∧ e.sc = true) ∨ ∃ a b, x = .ref a ∧ y = .ref b := by
  cases rx with
  | int i => cases ry <;> first | exact .inl ⟨rfl, rfl⟩ | exact absurd hc (by simp [cmpb])
  | str i => cases ry <;> first | exact .inl ⟨rfl, rfl⟩ | exact absurd hc (by simp [cmpb])
  | tup _ _ => cases ry <;> first | exact .inr ⟨_, _, rfl, rfl⟩ | exact absurd hc (by simp [cmpb])
  | lst _ _ => cases ry <;> first | exact .inr ⟨_, _, rfl, rfl⟩ | exact absurd hc (by simp [cmpb])
  | _ => exact absurd hc (by simp [cmpb])
theorem op_eqD (hu : X.A.units + 50 < cLine) : OpR X (compareOp .Eq) rEqD := by
  intro pins s σ H x y v u Q I rx ry h
  obtain ⟨d, e, ⟨M, r1, r2, hc, hd⟩, q⟩ := h
  rcases cmpb_sc r1 r2 hc with ⟨h1, h2⟩ | ⟨a, b, rfl, rfl⟩
  · obtain ⟨h3, h4⟩ := scal_of r1 r2 h1 h2
    rw [← h4] at q
    exact op_eq pins s σ H x y v u Q I rx ry ⟨h3, q⟩
  · cases rx; cases ry
    exact (rich_two I r1 r2 hc hd hu).1 _ _ _ _ ⟨.bl _, H, I, rfl, q⟩
theorem op_neD (hu : X.A.units + 50 < cLine) : OpR X (compareOp .NotEq) rNeD := by
  intro pins s σ H x y v u Q I rx ry h
  obtain ⟨d, e, ⟨M, r1, r2, hc, hd⟩, q⟩ := h
  rcases cmpb_sc r1 r2 hc with ⟨h1, h2⟩ | ⟨a, b, rfl, rfl⟩
  · obtain ⟨h3, h4⟩ := scal_of r1 r2 h1 h2
    rw [← h4] at q
    exact op_ne pins s σ H x y v u Q I rx ry ⟨h3, q⟩
  · cases rx; cases ry
    exact (rich_two I r1 r2 hc hd hu).2 _ _ _ _ ⟨.bl _, H, I, rfl, q⟩
/-- x in a list, in a tuple -/
def rInD (neg : Bool) : R2 := fun x y H Q => ∃ M d es, Rep (but H M) x d ∧ (Rep (but H M) y (.lst es) ∨ Rep (but H M) y (.tup es)) ∧ (∀ e ∈ es, cmpb e d = true ∧ e.dep ≤ 40) ∧ Q (.bl (if neg then !decide (d ∈ es) else decide (d ∈ es))) H
theorem in_items {pins : List (Addr × Obj)} {σ : St} {H : Hp} {s : Shared} {A : Around} (I : Inv X pins σ H s) {M : List Addr} {x : V} {u : Value} {d : D} {es : List D} {vs : List V} {its : List Value} (rx : Rep (but H M) x d) (ru : RelV x u) (rs : Reps (but H M) vs es) (rv : Vals vs its) (hall : ∀ e ∈ es, cmpb e d = true ∧ e.dep ≤ 40) (hu : A.units + 50 < cLine) :
    ∃ f : Value → Bool, (∀ y, y ∈ its.toArray → EqAt A.in1 s y u (f y)) ∧ its.toArray.any f = decide (d ∈ es) := by
  classical
  refine ⟨fun y => decide (∃ v e, RelV v y ∧ Rep (but H M) v e ∧ e = d), fun y hy => ?_, ?_⟩
  · have hy' : y ∈ its := by simpa using hy
    obtain ⟨j, hj, hjy⟩ := List.getElem_of_mem hy'
    obtain ⟨v, hv, rv'⟩ := vals_at (P := X.prog) (w := X.w) (K := X.K) rv (j := j) (u := y) (by rw [List.getElem?_eq_getElem hj, hjy])
    obtain ⟨e, he, re⟩ := rs.getV hv
    have hm : e ∈ es := List.mem_of_getElem? he
    have q : decide (∃ v e, RelV v y ∧ Rep (but H M) v e ∧ e = d) = decide (e = d) := by
      rw [Bool.eq_iff_iff, decide_eq_true_iff, decide_eq_true_iff]
      constructor
      · rintro ⟨v', e', r1, r2, r3⟩
        rw [rv'.inj r1] at re
        rw [Rep.inj re r2]; exact r3
      · intro z; exact ⟨v, e, rv', re, z⟩
    show EqAt A.in1 s y u (decide (∃ v e, RelV v y ∧ Rep (but H M) v e ∧ e = d))
    rw [q]
    exact eqAt_of I.hok (but_sub H M) 40 (hall e hm).2 re rx rv' ru (hall e hm).1 (by show A.units + 1 + 40 < cLine; omega)
  · rw [Bool.eq_iff_iff, Array.any_eq_true, decide_eq_true_iff]
    constructor
    · rintro ⟨j, hj, h⟩
      obtain ⟨v', e', r1, r2, r3⟩ := of_decide_eq_true h
      obtain ⟨v, hv, rv'⟩ := vals_at (P := X.prog) (w := X.w) (K := X.K) rv (j := j) (u := its.toArray[j]) (by simp)
      obtain ⟨e, he, re⟩ := rs.getV hv
      rw [rv'.inj r1] at re
      rw [← r3, ← Rep.inj re r2]
      exact List.mem_of_getElem? he
    · intro hm
      obtain ⟨j, hj, hjd⟩ := List.getElem_of_mem hm
      have hl := rs.length
      have hl2 := rv.length
      obtain ⟨v, hv, rv'⟩ := rs.get (i := j) (d := d) (by rw [List.getElem?_eq_getElem hj, hjd])
      obtain ⟨y, hy, ry⟩ := rv.get hv
      have hjs : j < its.toArray.size := by simp; omega
      refine ⟨j, hjs, decide_eq_true ⟨v, d, ?_, rv', rfl⟩⟩
      have : its.toArray[j] = y := by
        rw [List.getElem?_eq_getElem (by simpa using hjs)] at hy
        simpa using hy
      rw [this]; exact ry
theorem op_inD (hu : X.A.units + 50 < cLine) : OpR X (compareOp .In) (rInD false) := by
  intro pins s σ H x y v u Q I rx ry h
  obtain ⟨M, d, es, r1, r2, hall, q⟩ := h
  rcases r2 with r2 | r2
  · obtain ⟨a, vs, rfl, h1, h2⟩ := r2.of_lst
    cases ry
    obtain ⟨_, its, n, rv, p⟩ := (show ObjOk X.prog X.w H s.heap a (.lst vs) from I.hok a _ (but_some h1).2)
    obtain ⟨f, hf, he⟩ := in_items I r1 rx h2 rv hall hu
    refine in_listAt f ⟨_, p, rfl, _, rfl⟩ hf ?_
    rw [he]
    exact ⟨.bl _, H, I, rfl, q⟩
  · obtain ⟨a, vs, rfl, h1, h2⟩ := r2.of_tup
    cases ry
    obtain ⟨_, its, rv, p⟩ := (show ObjOk X.prog X.w H s.heap a (.tup vs) from I.hok a _ (but_some h1).2)
    obtain ⟨f, hf, he⟩ := in_items I r1 rx h2 rv hall hu
    refine in_tupleAt f p hf ?_
    rw [he]
    exact ⟨.bl _, H, I, rfl, q⟩
theorem op_notInD (hu : X.A.units + 50 < cLine) : OpR X (compareOp .NotIn) (rInD true) := by
  intro pins s σ H x y v u Q I rx ry h
  obtain ⟨M, d, es, r1, r2, hall, q⟩ := h
  rcases r2 with r2 | r2
  · obtain ⟨a, vs, rfl, h1, h2⟩ := r2.of_lst
    cases ry
    obtain ⟨_, its, n, rv, p⟩ := (show ObjOk X.prog X.w H s.heap a (.lst vs) from I.hok a _ (but_some h1).2)
    obtain ⟨f, hf, he⟩ := in_items I r1 rx h2 rv hall hu
    refine notIn_listAt f ⟨_, p, rfl, _, rfl⟩ hf ?_
    rw [he]
    exact ⟨.bl _, H, I, rfl, q⟩
  · obtain ⟨a, vs, rfl, h1, h2⟩ := r2.of_tup
    cases ry
    obtain ⟨_, its, rv, p⟩ := (show ObjOk X.prog X.w H s.heap a (.tup vs) from I.hok a _ (but_some h1).2)
    obtain ⟨f, hf, he⟩ := in_items I r1 rx h2 rv hall hu
    refine notIn_tupleAt f p hf ?_
    rw [he]
    exact ⟨.bl _, H, I, rfl, q⟩
/-! dict(pairs) -/
def Pairs (K : PySem.W.Frag) (H : Hp) : List V → List (Key × V) → Prop := Paired fun v kv => ∃ b, v = .ref b ∧ SqT K H b [kV kv.1, kv.2]
theorem pairs_at {pins : List (Addr × Obj)} {σ : St} {H : Hp} {s : Shared} (I : Inv X pins σ H s) : ∀ {vs : List V} {kvs : List (Key × V)} {its : List Value}, Pairs X.K H vs kvs → Vals vs its →
    ∃ rest : List (Key × Value), KV kvs rest ∧ ∀ (j : Nat) (p : Key × Value), rest[j]? = some p → ∃ u, its.toArray[j]? = some u ∧ PairAt (mixKind X.prog X.w) s.heap u p
  | _, _, _, .nil, .nil => ⟨[], .nil, fun j p h => by simp at h⟩
  | _, _, _, .cons (b := kv) ⟨b, hb, hq⟩ t, .cons (b := u) r rr => by
    subst hb
    obtain rfl : u = Value.ref b := r
    obtain ⟨rest, h1, h2⟩ := pairs_at I t rr
    obtain ⟨its', rv, p, _⟩ := I.tuple hq
    obtain ⟨u1, u2, rfl, r1, r2⟩ := Vals.two rv
    refine ⟨(kv.1, u2) :: rest, .cons ⟨rfl, r2⟩ h1, fun j p' hj => ?_⟩
    cases j with
    | zero =>
      simp at hj; subst hj
      exact ⟨.ref b, by simp, b, u1, rfl, p, kV_is r1⟩
    | succ j =>
      obtain ⟨u', hu', hp'⟩ := h2 j p' (by simpa using hj)
      exact ⟨u', by simpa using hu', hp'⟩
theorem call_dict_of (hc : X.calm = true) : CallR X (.type "dict") (fun xs H Q => ∃ a vs kvs, xs = [.ref a] ∧ SqL X.K H a vs ∧ Pairs X.K H vs kvs ∧ ∀ p, H p = none → Q (.ref p) (upd H p (.dK (mergeK [] kvs)))) := by
  intro pins s σ H xs us Q I r h
  obtain ⟨a, vs, kvs, rfl, hq, hp, q⟩ := h
  obtain ⟨u, rfl, ru⟩ := vals1 r
  cases ru
  obtain ⟨its, rv, ⟨o, n, ho, hcl, hdn, hdat⟩, hz⟩ := I.list hq
  obtain ⟨rest, h1, h2⟩ := pairs_at I hp rv
  have hlen : kvs.length = rest.length := Paired.length h1
  have hvl : vs.length = kvs.length := Paired.length hp
  have hil := rv.length
  refine call_dict_pairs (knd := mixKind X.prog X.w) (I.ok.hd hc) ho hcl hdn hdat (by simp; omega) h2 (by omega) fun h' tk hd' kp => ?_
  have hm := KV.merge (kvs := []) (vs := []) h1 .nil
  have hml := length_mergeK kvs []
  refine ⟨.ref s.heap.objs.size, _, I.laid (a := s.heap.objs.size) (o := .dK (mergeK [] kvs)) (t' := tk) kp (Nat.le_refl _) (dk_new (by simp at hml; omega) (beq_eq_false_iff_ne.mpr (Ne.symm (Nat.ne_of_lt I.big))) hm hd'), rfl, q _ (I.hok.fresh (Nat.le_refl _))⟩
theorem call_str_str : CallR X (.type "str") (fun xs H Q => ∃ x, xs = [.str x] ∧ Q (.str x) H) := by
  intro pins s σ H xs us Q I r h
  obtain ⟨x, rfl, q⟩ := h
  obtain ⟨u, rfl, t, rfl⟩ := vals1 r
  exact PySem.P.str_of_str ⟨.str _, H, I, ⟨_, rfl⟩, q⟩
end
end FL

set_option Elab.async false
set_option linter.all false
set_option maxRecDepth 100000
/-! what is walked, comprehensions, loops, slices, over data -/
namespace FL
open PySem L2
/-- what a loop walks: the data ds, as long as what is seen stays -/
def Walk (wi : TI) (G : Hp) (σ : St) (ds : List D) : Prop := ∀ M H, Same G (but H M) → Live M H → ∀ R : It → Hp → Prop,
  (∀ J H1, Same H H1 → (∀ (j : Nat) d M' H', ds[j]? = some d → Same (but H1 M) (but H' M') → Live M' H' → J.go j H' ∧ ∀ x H'', J.yld j H' x H'' → Same H' H'' ∧ Rep (but H'' M') x d) → (∀ M' H', Same (but H1 M) (but H' M') → J.stop ds.length H') → R J H1) → wi σ H R
section
variable {G : Hp} {σ : St} {ta tb tl te : TE} {tt : TT} {t : TA} {d : D} {ds : List D} {K : PySem.W.Frag} {wi : TI}
theorem walk_list (h : EvM tl G σ (.lst ds)) : Walk (iList K tl) G σ ds := fun M H s l R k => h M H s l _ fun x H1 s1 rx => by
  obtain ⟨a, vs, rfl, h1, h2⟩ := rx.of_lst
  refine ⟨a, rfl, ⟨vs, SqL.of (but_some h1).2⟩, k _ H1 s1 (fun j d M' H' hj hs hl => ?_) (fun M' H' hs => ?_)⟩
  · have ha := (but_some (hs _ _ h1)).2
    obtain ⟨v, hv, rv⟩ := h2.get hj
    refine ⟨⟨vs, v, SqL.of ha, hv⟩, fun x H'' ⟨e, hy⟩ => ?_⟩
    subst e
    have hx := hy vs (SqL.of ha)
    rw [hv] at hx; cases hx
    exact ⟨Same.refl _, rv.mono hs⟩
  · have ha := (but_some (hs _ _ h1)).2
    exact ⟨vs, SqL.of ha, by rw [h2.length]; exact Nat.le_refl _⟩
theorem walk_tup (h : EvM tl G σ (.tup ds)) : Walk (iTup K tl) G σ ds := fun M H s l R k => h M H s l _ fun x H1 s1 rx => by
  obtain ⟨a, vs, rfl, h1, h2⟩ := rx.of_tup
  refine ⟨a, rfl, ⟨vs, SqT.of (but_some h1).2⟩, k _ H1 s1 (fun j d M' H' hj hs hl => ?_) (fun M' H' hs => ?_)⟩
  · have ha := (but_some (hs _ _ h1)).2
    obtain ⟨v, hv, rv⟩ := h2.get hj
    refine ⟨⟨vs, v, SqT.of ha, hv⟩, fun x H'' ⟨e, hy⟩ => ?_⟩
    subst e
    have hx := hy vs (SqT.of ha)
    rw [hv] at hx; cases hx
    exact ⟨Same.refl _, rv.mono hs⟩
  · have ha := (but_some (hs _ _ h1)).2
    exact ⟨vs, SqT.of ha, by rw [h2.length]; exact Nat.le_refl _⟩
theorem range_at (lo : Int) (n j : Nat) (d : D) (h : ((List.range n).map fun (k : Nat) => D.int (lo + k))[j]? = some d) : j < n ∧ d = .int (lo + j) := by
  rw [List.getElem?_map] at h
  cases e : (List.range n)[j]? with
  | none => rw [e] at h; cases h
  | some q =>
    rw [e] at h
    obtain ⟨h1, h2⟩ := List.getElem?_eq_some_iff.mp e
    simp at h1 h2
    subst h2
    exact ⟨h1, (Option.some.inj h).symm⟩
theorem walk_range1 {n : Nat} (hn : n < 2 ^ 62) (h : EvA t G σ [.int n]) : Walk (iRng1 t) G σ ((List.range n).map fun (k : Nat) => D.int (0 + k)) := fun M H s l R k => h M H s l _ fun vs H1 s1 rs => by
  obtain ⟨x, rfl, rx⟩ := reps1 rs
  refine ⟨(n : Int), by rw [rx.of_int], by omega, by omega, ?_⟩
  refine k _ H1 s1 (fun j d M' H' hj hs hl => ?_) (fun M' H' hs => ?_)
  · obtain ⟨h1, rfl⟩ := range_at 0 n j d hj
    refine ⟨by show j < ((n : Int)).toNat; omega, fun x H'' ⟨e, hy⟩ => ?_⟩
    subst e; subst hy
    exact ⟨Same.refl _, .int _⟩
  · show ((n : Int)).toNat ≤ _
    simp
theorem walk_range2 {a b : Int} (ha : -(2 ^ 62) ≤ a ∧ a < 2 ^ 62) (hb : -(2 ^ 62) ≤ b ∧ b < 2 ^ 62) (h : EvA t G σ [.int a, .int b]) : Walk (iRng2 t) G σ ((List.range (b - a).toNat).map fun (k : Nat) => D.int (a + k)) := fun M H s l R k => h M H s l _ fun vs H1 s1 rs => by
  obtain ⟨x, y, rfl, rx, ry⟩ := reps2 rs
  refine ⟨a, b, by rw [rx.of_int, ry.of_int], ⟨ha.1, ha.2, hb.1, hb.2⟩, ?_⟩
  refine k _ H1 s1 (fun j d M' H' hj hs hl => ?_) (fun M' H' hs => ?_)
  · obtain ⟨h1, rfl⟩ := range_at a _ j d hj
    refine ⟨h1, fun x H'' ⟨e, hy⟩ => ?_⟩
    subst e; subst hy
    exact ⟨Same.refl _, .int _⟩
  · show (b - a).toNat ≤ _
    simp
/-- a comprehension over what is walked; pos: where the target's names go -/
theorem sub_hide {H H' : Hp} {M : List Addr} {D : Addr} (h : H D = none) (s : Same H H') : Same (but H M) (but H' (D :: M)) := fun b o e => by
  obtain ⟨h1, h2⟩ := but_some e
  rw [but_out]
  · exact s b o h2
  · intro z
    rcases List.mem_cons.mp z with rfl | z
    · rw [h] at h2; cases h2
    · exact h1 z
theorem ev_comp {caps : St → St} {i : Nat} {p : D → Bool} {f : D → D} (hw : Walk wi G σ ds)
    (ht : ∀ G' v d, Same G G' → d ∈ ds → Rep G' v d → EvT tt G' ((caps σ).set i (some v)) (p d))
    (he : ∀ G' v d, Same G G' → d ∈ ds → p d = true → Rep G' v d → EvM te G' ((caps σ).set i (some v)) (f d)) (hz : ds.length < sizeLine) :
    EvM (tComp wi caps (gName i) tt te) G σ (.lst ((ds.filter p).map f)) := fun M H s l Q k => hw M H s l _ fun J H1 s1 hgo hstop D hD => by
  have lf : D ∉ M := (l.same s1).fresh hD
  have sG1 : Same G (but H1 M) := s.trans (s1.but M)
  refine ⟨fun j m τ H' => m = ds.length - j ∧ j ≤ ds.length ∧ (∀ v, τ.set i (some v) = (caps σ).set i (some v)) ∧ Same H1 H' ∧ ∃ ys, H' D = some (.lst ys) ∧ Reps (but H' (D :: M)) ys (((ds.take j).filter p).map f),
    ⟨ds.length, by simp, Nat.zero_le _, fun _ => rfl, same_new hD _, [], upd_same, by simpa using Reps.nil⟩, ?_⟩
  rintro j m τ H' ⟨rfl, hj, hτ, s2, ys, hD', ry⟩
  have hs : Same (but H1 M) (but H' (D :: M)) := sub_hide hD s2
  have hl : Live (D :: M) H' := ((l.same s1).same s2).cons hD'
  by_cases hlt : j < ds.length
  · have hd : ds[j]? = some ds[j] := List.getElem?_eq_getElem hlt
    obtain ⟨go, gy⟩ := hgo j _ (D :: M) H' hd hs hl
    refine .inr ⟨go, fun τ' H'' => (∀ v, τ'.set i (some v) = (caps σ).set i (some v)) ∧ Same H1 H'' ∧ ∃ ys, H'' D = some (.lst ys) ∧ Reps (but H'' (D :: M)) ys (((ds.take (j + 1)).filter p).map f),
      fun τ' H'' ⟨a, b, c⟩ => ⟨ds.length - (j + 1), by omega, rfl, hlt, a, b, c⟩, fun x H'' hy => ?_⟩
    obtain ⟨s3, rx⟩ := gy x H'' hy
    have hm : ds[j] ∈ ds := List.getElem_mem hlt
    have sG : Same G (but H'' (D :: M)) := sG1.trans (hs.trans (s3.but _))
    have hl3 := hl.same s3
    show tt (τ.set i (some x)) H'' _
    rw [hτ x]
    have tk : (ds.take (j + 1)).filter p = (ds.take j).filter p ++ (if p ds[j] = true then [ds[j]] else []) := by
      rw [List.take_add_one, hd, List.filter_append]
      congr 1
      by_cases hp : p ds[j] = true
      · simp [hp]
      · simp [hp]
    refine ht _ x _ sG hm rx (D :: M) H'' (Same.refl _) hl3 _ fun H4 s4 => ?_
    have setset : ∀ v, ((caps σ).set i (some x)).set i (some v) = (caps σ).set i (some v) := fun v => by rw [List.set_set]
    by_cases hp : p ds[j] = true
    · rw [if_pos hp]
      refine he _ x _ (sG.trans (s4.but _)) hm hp (rx.mono (s4.but _)) (D :: M) H4 (Same.refl _) (hl3.same s4) _ fun v H5 s5 r5 => ?_
      have hD5 : H5 D = some (.lst ys) := s5 _ _ (s4 _ _ (s3 _ _ hD'))
      have hlen := ry.length
      have hle : (((ds.take j).filter p).map f).length ≤ j := by
        rw [List.length_map]
        have := List.length_filter_le p (ds.take j)
        rw [List.length_take] at this
        omega
      refine ⟨ys, hD5, by omega, setset, ?_, ys ++ [v], upd_same, ?_⟩
      · intro b o e
        rw [upd_ne (ne_of_none e hD)]
        exact s5 _ _ (s4 _ _ (s3 _ _ (s2 _ _ e)))
      · rw [but_upd List.mem_cons_self, tk, if_pos hp, List.map_append]
        exact (ry.mono (((s3.trans s4).trans s5).but _)).snoc r5
    · rw [if_neg hp]
      refine ⟨setset, s2.trans (s3.trans s4), ys, s4 _ _ (s3 _ _ hD'), ?_⟩
      rw [tk, if_neg hp, List.append_nil]
      exact ry.mono ((s3.trans s4).but _)
  · have e : j = ds.length := by omega
    subst e
    refine .inl ⟨hstop (D :: M) H' hs, k _ H' (s1.trans s2) (rep_show lf hD' ?_)⟩
    rw [List.take_of_length_le (Nat.le_refl _)] at ry
    exact ry
/-- slices -/
theorem cut_from {xs : List V} (k : Nat) : cutV xs (some (k : Int)) none = xs.drop k := by
  unfold cutV
  rw [HT.sIx_nat, HT.sIx_none]
  by_cases h : k ≤ xs.length
  · rw [Nat.min_eq_left h, List.take_of_length_le (by simp)]
  · rw [Nat.min_eq_right (by omega), List.drop_of_length_le (Nat.le_refl _), List.drop_of_length_le (by omega), List.take_nil]
theorem cut_to {xs : List V} (k : Nat) : cutV xs none (some (k : Int)) = xs.take k := by
  unfold cutV
  rw [HT.sIx_nat, HT.sIx_none, List.drop_zero, Nat.sub_zero]
  by_cases h : k ≤ xs.length
  · rw [Nat.min_eq_left h]
  · rw [Nat.min_eq_right (by omega), List.take_of_length_le (Nat.le_refl _), List.take_of_length_le (by omega)]
theorem ev_from {k : Nat} {l : List D} (ha : EvM ta G σ (.lst l)) : EvM (tSl (rSlL K) ta (tPart (tC (.int (k : Int)))) tNoPart) G σ (.lst (l.drop k)) :=
  fun M H s lv Q q => ha M H s lv _ fun x H1 s1 rx => ⟨(k : Int), rfl, by
    obtain ⟨a, vs, rfl, h1, h2⟩ := rx.of_lst
    refine ⟨a, vs, rfl, SqL.of (but_some h1).2, fun p hp => ?_⟩
    rw [cut_from]
    exact q _ _ (s1.trans (same_new hp _)) (rep_new_lst (lv.same s1) hp (h2.drop k))⟩
theorem ev_to {k : Nat} {l : List D} (ha : EvM ta G σ (.lst l)) : EvM (tSl (rSlL K) ta tNoPart (tPart (tC (.int (k : Int))))) G σ (.lst (l.take k)) :=
  fun M H s lv Q q => ha M H s lv _ fun x H1 s1 rx => ⟨(k : Int), rfl, by
    obtain ⟨a, vs, rfl, h1, h2⟩ := rx.of_lst
    refine ⟨a, vs, rfl, SqL.of (but_some h1).2, fun p hp => ?_⟩
    rw [cut_to]
    exact q _ _ (s1.trans (same_new hp _)) (rep_new_lst (lv.same s1) hp (h2.take k))⟩
theorem ev_fromT {k : Nat} {l : List D} (hk : 0 < k) (hl : 0 < l.length) (ha : EvM ta G σ (.tup l)) : EvM (tSl (rSlT K) ta (tPart (tC (.int (k : Int)))) tNoPart) G σ (.tup (l.drop k)) :=
  fun M H s lv Q q => ha M H s lv _ fun x H1 s1 rx => ⟨(k : Int), rfl, by
    obtain ⟨a, vs, rfl, h1, h2⟩ := rx.of_tup
    refine ⟨a, vs, rfl, SqT.of (but_some h1).2, ?_, fun p hp => ?_⟩
    · rw [HT.sIx_nat]
      have := h2.length
      omega
    · rw [cut_from]
      exact q _ _ (s1.trans (same_new hp _)) (rep_new_tup (lv.same s1) hp (h2.drop k))⟩
/-- ==, != , in, not in -/
theorem ev_eqD {d1 d2 : D} (hc : cmpb d1 d2 = true) (hd : d1.dep ≤ 40) (ha : EvM ta G σ d1) (hb : EvM tb G σ d2) : EvM (tOp rEqD ta tb) G σ (.bl (decide (d1 = d2))) :=
  ev_op2 (fun M H x y l rx ry Q k => ⟨d1, d2, ⟨M, rx, ry, hc, hd⟩, k _ H (Same.refl _) (.bl _)⟩) ha hb
theorem ev_neD {d1 d2 : D} (hc : cmpb d1 d2 = true) (hd : d1.dep ≤ 40) (ha : EvM ta G σ d1) (hb : EvM tb G σ d2) : EvM (tOp rNeD ta tb) G σ (.bl (!decide (d1 = d2))) :=
  ev_op2 (fun M H x y l rx ry Q k => ⟨d1, d2, ⟨M, rx, ry, hc, hd⟩, k _ H (Same.refl _) (.bl _)⟩) ha hb
theorem ev_inL {es : List D} (hall : ∀ e ∈ es, cmpb e d = true ∧ e.dep ≤ 40) (ha : EvM ta G σ d) (hb : EvM tb G σ (.lst es)) : EvM (tOp (rInD false) ta tb) G σ (.bl (decide (d ∈ es))) :=
  ev_op2 (fun M H x y l rx ry Q k => ⟨M, d, es, rx, .inl ry, hall, k _ H (Same.refl _) (.bl _)⟩) ha hb
theorem ev_inT {es : List D} (hall : ∀ e ∈ es, cmpb e d = true ∧ e.dep ≤ 40) (ha : EvM ta G σ d) (hb : EvM tb G σ (.tup es)) : EvM (tOp (rInD false) ta tb) G σ (.bl (decide (d ∈ es))) :=
  ev_op2 (fun M H x y l rx ry Q k => ⟨M, d, es, rx, .inr ry, hall, k _ H (Same.refl _) (.bl _)⟩) ha hb
theorem ev_ninL {es : List D} (hall : ∀ e ∈ es, cmpb e d = true ∧ e.dep ≤ 40) (ha : EvM ta G σ d) (hb : EvM tb G σ (.lst es)) : EvM (tOp (rInD true) ta tb) G σ (.bl (!decide (d ∈ es))) :=
  ev_op2 (fun M H x y l rx ry Q k => ⟨M, d, es, rx, .inl ry, hall, k _ H (Same.refl _) (.bl _)⟩) ha hb
end
/-- a for over data; M: what is hidden in the loop -/
theorem st_for {wi : TI} {g : TG} {tb : TS} {E : Ends} {σ : St} {H : Hp} {M : List Addr} {ds : List D} (hw : Walk wi (but H M) σ ds) (l : Live M H)
    (k : ∀ H1, Same H H1 → ∃ Pv : Nat → St → Hp → Prop, Pv 0 σ H1 ∧ (∀ j σ' H', Pv j σ' H' → Same (but H1 M) (but H' M) ∧ Live M H') ∧
      (∀ (j : Nat) d x σ' H' H'', ds[j]? = some d → Pv j σ' H' → Same H' H'' → Rep (but H'' M) x d → g x σ' H'' fun σ2 H2 => tb { E with nx := Pv (j + 1), ct := Pv (j + 1), bk := E.nx } σ2 H2) ∧ ∀ σ' H', Pv ds.length σ' H' → E.nx σ' H') :
    tFor wi g tb E σ H := hw M H (Same.refl _) l _ fun J H1 s1 hgo hstop => by
  obtain ⟨Pv, p0, hV, hstep, hend⟩ := k H1 s1
  refine ⟨fun j m σ' H' => m = ds.length - j ∧ j ≤ ds.length ∧ Pv j σ' H', ⟨ds.length, by simp, Nat.zero_le _, p0⟩, ?_⟩
  rintro j m σ' H' ⟨rfl, hj, p⟩
  obtain ⟨hs, hl⟩ := hV j σ' H' p
  by_cases hlt : j < ds.length
  · have hd : ds[j]? = some ds[j] := List.getElem?_eq_getElem hlt
    obtain ⟨go, gy⟩ := hgo j _ M H' hd hs hl
    refine .inr ⟨go, Pv (j + 1), fun σ2 H2 p2 => ⟨ds.length - (j + 1), by omega, rfl, hlt, p2⟩, fun x H'' hy => ?_⟩
    obtain ⟨s3, rx⟩ := gy x H'' hy
    exact hstep j _ x σ' H' H'' hd p s3 rx
  · have e : j = ds.length := by omega
    subst e
    exact .inl ⟨hstop M H' hs, hend σ' H' p⟩
/-- the names that a block captures -/
def capsOf (idx : List Nat) (k : Nat) : St → St := fun σ => idx.map (fun j => (σ[j]?).join) ++ List.replicate k none
def capChk (N N' : List Str) (names : List (Str × NameKind)) : List Nat → Nat → Bool
  | [], _ => true
  | j :: r, i => (match N'[i]?, N[j]? with | some x, some y => decide (x = y) && (names.lookup x == some .free) | _, _ => false) && capChk N N' names r (i + 1)
theorem capChk_ok {N N' : List Str} {names : List (Str × NameKind)} : ∀ {idx : List Nat} {i0 : Nat}, capChk N N' names idx i0 = true → ∀ (i j : Nat), idx[i]? = some j → ∃ x, N'[i0 + i]? = some x ∧ N[j]? = some x ∧ names.lookup x = some .free
  | [], _, _, i, j, h => by simp at h
  | q :: r, i0, hc, i, j, h => by
    rw [capChk, Bool.and_eq_true] at hc
    cases i with
    | zero =>
      simp at h; subst h
      have h1 := hc.1
      cases e1 : N'[i0]? with
      | none => rw [e1] at h1; cases h1
      | some x =>
        cases e2 : N[q]? with
        | none => rw [e1, e2] at h1; cases h1
        | some y =>
          rw [e1, e2] at h1
          simp only [Bool.and_eq_true, decide_eq_true_eq, beq_iff_eq] at h1
          obtain ⟨rfl, h2⟩ := h1
          exact ⟨x, by simpa using e1, rfl, h2⟩
    | succ i =>
      obtain ⟨x, h1, h2, h3⟩ := capChk_ok hc.2 i j (by simpa using h)
      exact ⟨x, by rw [← h1]; congr 1; omega, h2, h3⟩
theorem caps_ok {N N' : List Str} {names : List (Str × NameKind)} {idx : List Nat} {k : Nat} (hl : N'.length = idx.length + k) (hc : capChk N N' names idx 0 = true) : ∀ σ : St, σ.length = N.length →
    (capsOf idx k σ).length = N'.length ∧ ∀ (i : Nat) (x : Str) (v : V), N'[i]? = some x → (capsOf idx k σ)[i]? = some (some v) → names.lookup x = some .free ∧ ∃ j : Nat, N[j]? = some x ∧ σ[j]? = some (some v) := by
  intro σ hσ
  refine ⟨by simp [capsOf, hl], fun i x v hx hv => ?_⟩
  unfold capsOf at hv
  by_cases hi : i < idx.length
  · rw [List.getElem?_append_left (by simpa using hi), List.getElem?_map, List.getElem?_eq_getElem hi] at hv
    obtain ⟨y, h1, h2, h3⟩ := capChk_ok hc i idx[i] (List.getElem?_eq_getElem hi)
    rw [Nat.zero_add, hx] at h1
    cases h1
    refine ⟨h3, idx[i], h2, ?_⟩
    simp only [Option.map_some, Option.some.injEq] at hv
    cases e : σ[idx[i]]? with
    | none => rw [e] at hv; cases hv
    | some w => rw [e] at hv; simp at hv; rw [hv]
  · rw [List.getElem?_append_right (by simpa using hi)] at hv
    obtain ⟨h1, h2⟩ := List.getElem?_eq_some_iff.mp hv
    simp at h2
/-- the block's scope is fit -/
def scopeChk (esc : Scope) (scope : Scope) : Bool :=
  (scope.names.all fun y => decide (y.2 ≠ .cell)) && (scope.names.all fun y => !(y.2 == .local) || (scope.names.lookup y.1 == some .local)) && (scope.names.all fun y => !(y.2 == .free) || (esc.names.lookup y.1 == some .cell) || (esc.names.lookup y.1 == some .free))
theorem scopeChk_ok {esc scope : Scope} (h : scopeChk esc scope = true) : (∀ y ∈ scope.names, y.2 ≠ .cell) ∧ (∀ y ∈ scope.names, y.2 = .local → scope.names.lookup y.1 = some .local) ∧
    ∀ n, (n, NameKind.free) ∈ scope.names → esc.names.lookup n = some .cell ∨ esc.names.lookup n = some .free := by
  rw [scopeChk, Bool.and_eq_true, Bool.and_eq_true, List.all_eq_true, List.all_eq_true, List.all_eq_true] at h
  obtain ⟨⟨h1, h2⟩, h3⟩ := h
  refine ⟨fun y hy => of_decide_eq_true (h1 y hy), fun y hy e => ?_, fun n hn => ?_⟩
  · have := h2 y hy
    rw [e] at this
    simpa using this
  · have := h3 _ hn
    simpa using this
section
variable {X : Cx} {tg iter elt : Expr} {ifs : List Expr} {scope : Scope} {pos : Pos} {wi : TI} {g : TG} {tt : TT} {te : TE}
theorem pe_compC (N' : List Str) (idx : List Nat) (k : Nat) (hi : PI X tg iter wi) (hg : ∀ cl C fp s H, PG (cxComp X N' scope cl C fp s H) tg g) (hts : ∀ cl C fp s H, PTs (cxComp X N' scope cl C fp s H) ifs tt) (hel : ∀ cl C fp s H, PE (cxComp X N' scope cl C fp s H) elt te)
    (hc : X.calm = true := by rfl) (hkind : scope.kind = .function := by rfl) (hck : scopeChk X.env.scope scope = true := by rfl) (hl : N'.length = idx.length + k := by rfl) (hcp : capChk X.N N' scope.names idx 0 = true := by rfl)
    (hs : ∀ x, foldedSetIterable iter X.env x = pure x := by intro _; rfl) : PE X (.ListComp elt [⟨tg, iter, ifs, 0⟩] scope pos) (tComp wi (capsOf idx k) g tt te) :=
  let h := scopeChk_ok hck
  pe_comp hc hkind h.1 h.2.1 h.2.2 (caps_ok hl hcp) hi hg hts hel hs
theorem ps_compC {y : Str} {py spos : Pos} {i : Nat} (N' : List Str) (idx : List Nat) (k : Nat) (hN : X.N.Nodup) (hiN : X.N[i]? = some y) (hy : Loc X.env.scope y) (hi : PI X tg iter wi) (hg : ∀ cl C fp s H, PG (cxComp X N' scope cl C fp s H) tg g) (hts : ∀ cl C fp s H, PTs (cxComp X N' scope cl C fp s H) ifs tt) (hel : ∀ cl C fp s H, PE (cxComp X N' scope cl C fp s H) elt te)
    (hsw : swapsWith (.ListComp elt [⟨tg, iter, ifs, 0⟩] scope pos) (some (.Name y py)) spos.line X.env = pure true := by rfl)
    (hc : X.calm = true := by rfl) (hkind : scope.kind = .function := by rfl) (hck : scopeChk X.env.scope scope = true := by rfl) (hl : N'.length = idx.length + k := by rfl) (hcp : capChk X.N N' scope.names idx 0 = true := by rfl)
    (hs : ∀ x, foldedSetIterable iter X.env x = pure x := by intro _; rfl) (hf : X.fn y = true ∨ X.env.scope.names.lookup y = some .local := by first | exact .inl rfl | exact .inr rfl | assumption) :
    PS X (.Assign [.Name y py] (.ListComp elt [⟨tg, iter, ifs, 0⟩] scope pos) spos) (tAsg (tComp wi (capsOf idx k) g tt te) (gName i)) :=
  let h := scopeChk_ok hck
  ps_comp hsw hN hiN hy hc hkind h.1 h.2.1 h.2.2 (caps_ok hl hcp) hi hg hts hel hs hf
end
end FL

set_option Elab.async false
set_option linter.all false
set_option maxRecDepth 100000
/-! isinstance, str(x) over data -/
namespace FL
open PySem L2
def D.tyn : D → String
  | .non => "NoneType" | .bl _ => "bool" | .int _ => "int" | .str _ => "str" | .tup _ => "tuple" | .lst _ => "list"
theorem rep_ty {K : PySem.W.Frag} {H : Hp} {M : List Addr} {x : V} {d : D} (r : Rep (but H M) x d) : TyOf K H x (.type d.tyn) := by
  cases r with
  | non => exact .non
  | bl b => exact .bl b
  | int b => exact .int b
  | str b => exact .str b
  | tup h _ => exact .tup (but_some h).2
  | lst h _ => exact .lst (but_some h).2
def rIs (K : PySem.W.Frag) : List V → Hp → VK → Prop := fun xs H Q => ∃ x n t b, xs = [x, .ty n] ∧ TyOf K H x t ∧ PySem.W.kitOne K t (.type n) = some b ∧ Q (.bl b) H
theorem call_isinst {X : Cx} : CallR X (.builtin "isinstance") (rIs X.K) := by
  intro pins s σ H xs us Q I r h
  obtain ⟨x, n, t, b, rfl, ty, e, q⟩ := h
  obtain ⟨u, w, rfl, ru, rw'⟩ := vals2 r
  cases rw'
  exact isinst_ok I ru ty e fun tk => ⟨.bl b, H, I.tok _, rfl, q⟩
theorem kit_indep (K : PySem.W.Frag) (a b : String) : PySem.W.kitOne K (.type a) (.type b) = PySem.W.kitOne [] (.type a) (.type b) := rfl
section
variable {G : Hp} {σ : St} {ta : TE} {d : D} {K : PySem.W.Frag}
theorem ev_isinst {n : String} {b : Bool} (h : EvM ta G σ d) (hk : PySem.W.kitOne [] (.type d.tyn) (.type n) = some b) : EvM (tCB (rIs K) (tCons ta (tCons (tC (.ty n)) tNil))) G σ (.bl b) :=
  fun M H s l Q k => h M H s l _ fun x H1 s1 rx => ⟨x, n, _, b, rfl, rep_ty rx, by rw [kit_indep]; exact hk, k _ H1 s1 (.bl b)⟩
def isI : D → Bool
  | .int _ => true | .bl _ => true | _ => false
def isB : D → Bool
  | .bl _ => true | _ => false
def isS : D → Bool
  | .str _ => true | _ => false
def isT : D → Bool
  | .tup _ => true | _ => false
def isL : D → Bool
  | .lst _ => true | _ => false
theorem ev_isInt (h : EvM ta G σ d) : EvM (tCB (rIs K) (tCons ta (tCons (tC (.ty "int")) tNil))) G σ (.bl (isI d)) := by
  cases d with
  | bl _ => exact ev_isinst h rfl
  | int _ => exact ev_isinst h rfl
  | _ => exact ev_isinst h rfl
theorem ev_isBool (h : EvM ta G σ d) : EvM (tCB (rIs K) (tCons ta (tCons (tC (.ty "bool")) tNil))) G σ (.bl (isB d)) := by
  cases d <;> exact ev_isinst h rfl
theorem ev_isStr (h : EvM ta G σ d) : EvM (tCB (rIs K) (tCons ta (tCons (tC (.ty "str")) tNil))) G σ (.bl (isS d)) := by
  cases d <;> exact ev_isinst h rfl
theorem ev_isTuple (h : EvM ta G σ d) : EvM (tCB (rIs K) (tCons ta (tCons (tC (.ty "tuple")) tNil))) G σ (.bl (isT d)) := by
  cases d <;> exact ev_isinst h rfl
theorem ev_isList (h : EvM ta G σ d) : EvM (tCB (rIs K) (tCons ta (tCons (tC (.ty "list")) tNil))) G σ (.bl (isL d)) := by
  cases d <;> exact ev_isinst h rfl
end
/-- str(x) of a number or a text -/
def rStr : List V → Hp → VK → Prop := fun xs H Q => (∃ i, xs = [.int i] ∧ i.natAbs.log2 < 1920 ∧ Q (.str (toString i)) H) ∨ ∃ x, xs = [.str x] ∧ Q (.str x) H
theorem call_str {X : Cx} : CallR X (.type "str") rStr := by
  intro pins s σ H xs us Q I r h
  rcases h with h | h
  · exact call_str_int pins s σ H xs us Q I r h
  · exact call_str_str pins s σ H xs us Q I r h
def D.text : D → Str
  | .int i => toString i
  | .str x => x
  | _ => Str.empty
def D.smallS : D → Bool
  | .int i => decide (i.natAbs.log2 < 1920)
  | .str _ => true
  | _ => false
theorem ev_strD {G : Hp} {σ : St} {t : TA} {d : D} (hd : d.smallS = true) (h : EvA t G σ [d]) : EvM (tCB rStr t) G σ (.str d.text) :=
  ev_cb (fun M H xs l rs Q k => by
    obtain ⟨x, rfl, q⟩ := reps1 rs
    cases q with
    | int i => exact .inl ⟨i, rfl, of_decide_eq_true hd, k _ H (Same.refl _) (.str _)⟩
    | str y => exact .inr ⟨y, rfl, k _ H (Same.refl _) (.str _)⟩
    | _ => exact absurd hd (by simp [D.smallS])) h
end FL

set_option Elab.async false
set_option linter.all false
set_option maxRecDepth 100000
/-! own defs, the built-in names, rules for any kind -/
namespace FL
open PySem L2
/-- a def of the text that keeps sp, with room for n calls -/
structure Has (P : Program) (w : World) (K : PySem.W.Frag) (mg : Str → Option Value) (base : Heap) (n : Nat) (x : Str) (ps : List Str) (sp : Sp) : Prop where
  ex : ∃ f fd, FnOk P w K mg base CX0 n f fd ps sp ∧ Binds K fd ps [] ∧ PySem.W.keepIn K (.ref f) = true ∧ mg x = some (.ref f)
theorem pe_own {X : Cx} {n : Nat} {x : Str} {ps : List Str} {sp : Sp} {e : Expr} {es : List Expr} {t : TA} {p pos : Pos} {m : Nat} (h : Has X.prog X.w X.K X.mg X.base n x ps sp) (hr : Room m X.A) (ha : PA X (e :: es) t) (hle : n ≤ m := by decide)
    (hg : Gl X x := by rfl) (hdb : (x == ("__debug__" : Str)) = false := by decide) (he : starEach (e :: es) X.env = (false, eval e X.env) :: starEach es X.env := by rfl) (hpl : (backTo pos (starEach es X.env)).any (·.1) = false := by rfl) :
    PE X (.Call (.Name x p) (e :: es) [] pos) (tCall sp [] E0 t) := by
  obtain ⟨f, fd, F, b, k, hm⟩ := h.ex
  exact pe_call (F.mono hle) hr hg hm k b .nil pass0 ha hdb he hpl
/-- the built-in names that no def hides -/
structure Bl (mg : Str → Option Value) : Prop where
  len : mg "len" = none
  isinstance : mg "isinstance" = none
  range : mg "range" = none
  int : mg "int" = none
  str : mg "str" = none
  bool : mg "bool" = none
  list : mg "list" = none
  tuple : mg "tuple" = none
  dict : mg "dict" = none
  zip : mg "zip" = none
  enumerate : mg "enumerate" = none
  all : mg "all" = none
  reversed : mg "reversed" = none
section
variable {X : Cx} {e : Expr} {es : List Expr} {t : TA} {te : TE} {tg iter : Expr} {p pos : Pos}
theorem pi_or {wi wj : TI} (h : PI X tg iter wi) (h' : PI X tg iter wj) : PI X tg iter (fun σ H R => wi σ H R ∨ wj σ H R) := by
  intro pins s σ H R I q
  rcases q with q | q
  · exact h pins s σ H R I q
  · exact h' pins s σ H R I q
theorem pi_seq (h : PE X iter te) : PI X tg iter (fun σ H R => iList X.K te σ H R ∨ iTup X.K te σ H R) := pi_or (pi_list h) (pi_tup h)
theorem CallR.or {f : Value} {r r' : List V → Hp → VK → Prop} (h : CallR X f r) (h' : CallR X f r') : CallR X f (fun xs H Q => r xs H Q ∨ r' xs H Q) := by
  intro pins s σ H xs us Q I rv q
  rcases q with q | q
  · exact h pins s σ H xs us Q I rv q
  · exact h' pins s σ H xs us Q I rv q
theorem pe_len (B : Bl X.mg) (h : PE X e te) (hg : Gl X "len" := by rfl) (he : starEach [e] X.env = (false, eval e X.env) :: starEach [] X.env := by rfl) : PE X (.Call (.Name "len" p) [e] [] pos) (tCB (fun xs H Q => ∃ p ys, xs = [.ref p] ∧ (SqL X.K H p ys ∨ SqT X.K H p ys) ∧ Q (.int ys.length) H) (tCons te tNil)) :=
  pe_callB call_len_seq hg B.len PySem.boot_len (pa_cons h pa_nil he) (he := he)
theorem pe_isin {n : String} {x : Str} {p' : Pos} (B : Bl X.mg) (h : PE X e te) (hx : X.mg x = none) (hb : bootBuiltins x = some (.type n)) (hg : Gl X "isinstance" := by rfl) (hg' : Gl X x := by rfl) (hn : x ≠ "__name__" := by decide) (hd : (x == ("__debug__" : Str)) = false := by decide)
    (he : starEach [e, .Name x p'] X.env = (false, eval e X.env) :: starEach [.Name x p'] X.env := by rfl) (he' : starEach [.Name x p'] X.env = (false, eval (.Name x p') X.env) :: starEach [] X.env := by rfl) :
    PE X (.Call (.Name "isinstance" p) [e, .Name x p'] [] pos) (tCB (rIs X.K) (tCons te (tCons (tC (.ty n)) tNil))) :=
  pe_callB call_isinst hg B.isinstance PyProof.Rows.boot_isinstance (pa_cons h (pa_cons (pe_bltn (v := .ty n) hg' hx hb rfl hn hd) pa_nil he') he) (he := he) (hpl := by rw [he']; rfl)
theorem pe_tupleC (B : Bl X.mg) (h : PE X e te) (hg : Gl X "tuple" := by rfl) (he : starEach [e] X.env = (false, eval e X.env) :: starEach [] X.env := by rfl) : PE X (.Call (.Name "tuple" p) [e] [] pos)
    (tCB (fun xs H Q => ∃ p ys, xs = [.ref p] ∧ ((SqL X.K H p ys ∧ ∀ l, H l = none → Q (.ref l) (upd H l (.tup ys))) ∨ (SqT X.K H p ys ∧ Q (.ref p) H))) (tCons te tNil)) :=
  pe_callTy call_tuple_of hg B.tuple PyProof.Rows.boot_tuple (pa_cons h pa_nil he) (he := he)
theorem pe_listC (B : Bl X.mg) (h : PE X e te) (hg : Gl X "list" := by rfl) (he : starEach [e] X.env = (false, eval e X.env) :: starEach [] X.env := by rfl) : PE X (.Call (.Name "list" p) [e] [] pos)
    (tCB (fun xs H Q => ∃ p ys, xs = [.ref p] ∧ (SqL X.K H p ys ∨ SqT X.K H p ys) ∧ ∀ l, H l = none → Q (.ref l) (upd H l (.lst ys))) (tCons te tNil)) :=
  pe_callTy call_list_of hg B.list PyProof.Rows.boot_list (pa_cons h pa_nil he) (he := he)
theorem pe_dictC (B : Bl X.mg) (h : PE X e te) (hc : X.calm = true := by rfl) (hg : Gl X "dict" := by rfl) (he : starEach [e] X.env = (false, eval e X.env) :: starEach [] X.env := by rfl) : PE X (.Call (.Name "dict" p) [e] [] pos)
    (tCB (fun xs H Q => ∃ a vs kvs, xs = [.ref a] ∧ SqL X.K H a vs ∧ Pairs X.K H vs kvs ∧ ∀ p, H p = none → Q (.ref p) (upd H p (.dK (mergeK [] kvs)))) (tCons te tNil)) :=
  pe_callTy (call_dict_of hc) hg B.dict PyProof.Rows.boot_dict (pa_cons h pa_nil he) (he := he)
theorem pe_strC (B : Bl X.mg) (h : PE X e te) (hg : Gl X "str" := by rfl) (he : starEach [e] X.env = (false, eval e X.env) :: starEach [] X.env := by rfl) : PE X (.Call (.Name "str" p) [e] [] pos) (tCB rStr (tCons te tNil)) :=
  pe_callTy call_str hg B.str PyProof.Rows.boot_str (pa_cons h pa_nil he) (he := he)
theorem pe_ixS {a b : Expr} {ta tb : TE} (ha : PE X a ta) (hb : PE X b tb) (hs : PlainIx b := by intro _ _; rfl) : PE X (.Subscript a b pos) (tOp (rIx X.K) ta tb) := pe_ix ix_seq ha hb hs
theorem op_eqA (hu : X.A.units + 50 < cLine) : OpR X (compareOp .Eq) (fun x y H Q => rEqD x y H Q ∨ rEq x y H Q) := (op_eqD hu).or op_eq
theorem op_neA (hu : X.A.units + 50 < cLine) : OpR X (compareOp .NotEq) (fun x y H Q => rNeD x y H Q ∨ rNe x y H Q) := (op_neD hu).or op_ne
/-- xs.append(e) as a statement -/
theorem ps_append {o : Expr} {to : TE} {apos cpos spos : Pos} (ho : PE X o to) (h : PE X e te) (he : starEach [e] X.env = (false, eval e X.env) :: starEach [] X.env := by rfl) (hbase : attributeBase o "append" X.env (eval o X.env) = eval o X.env := by rfl)
    (hfew : ((backTo cpos (starEach [e] X.env)).all (fun x => !x.1) && (backToKw cpos (keywordEach [] X.env)).all (fun x => x.1.isSome) && decide ([e].length + ([] : List Keyword).length + (if ([] : List Keyword).isEmpty then 0 else 1) < 30)) = true := by rfl)
    (hline : (apos.endLine == cpos.line) = true := by rfl) (hplain : (backTo cpos (starEach [] X.env)).any (·.1) = false := by rfl) (hs : swapsWith (.Call (.Attribute o "append" apos) [e] [] cpos) none spos.line X.env = pure false := by rfl) :
    PS X (.Expr (.Call (.Attribute o "append" apos) [e] [] cpos) spos) (tDrop (tBM X.K "list" rAppend to (tCons te tNil))) :=
  ps_expr (pe_bm PySem.F.plainAttrs_list PySem.F.slot_list_append PySem.F.type_list_append mt_append ho (pa_cons h pa_nil he) hbase hfew hline he hplain) hs
end
/-! within a comprehension's block: the same rules, over the outer context's written part -/
section
variable {X : Cx} {N' : List Str} {scope : Scope} {cl : List (Str × Addr)} {C : Addr} {fp : List Addr} {s : Shared} {H : Hp} {e a b : Expr} {te ta tb : TE} {p pos : Pos}
theorem pe_ixSc (ha : PE (cxComp X N' scope cl C fp s H) a ta) (hb : PE (cxComp X N' scope cl C fp s H) b tb) (hs : PlainIx b := by intro _ _; rfl) : PE (cxComp X N' scope cl C fp s H) (.Subscript a b pos) (tOp (rIx X.K) ta tb) := pe_ixS ha hb hs
theorem pe_lenc (B : Bl X.mg) (h : PE (cxComp X N' scope cl C fp s H) e te) (hg : Gl (cxComp X N' scope cl C fp s H) "len" := by rfl) (he : starEach [e] (cxComp X N' scope cl C fp s H).env = (false, eval e (cxComp X N' scope cl C fp s H).env) :: starEach [] (cxComp X N' scope cl C fp s H).env := by rfl) :
    PE (cxComp X N' scope cl C fp s H) (.Call (.Name "len" p) [e] [] pos) (tCB (fun xs H Q => ∃ p ys, xs = [.ref p] ∧ (SqL X.K H p ys ∨ SqT X.K H p ys) ∧ Q (.int ys.length) H) (tCons te tNil)) := pe_len (X := cxComp X N' scope cl C fp s H) B h hg he
theorem pe_isinc {n : String} {x : Str} {p' : Pos} (B : Bl X.mg) (h : PE (cxComp X N' scope cl C fp s H) e te) (hx : X.mg x = none) (hb : bootBuiltins x = some (.type n)) (hg : Gl (cxComp X N' scope cl C fp s H) "isinstance" := by rfl) (hg' : Gl (cxComp X N' scope cl C fp s H) x := by rfl) (hn : x ≠ "__name__" := by decide) (hd : (x == ("__debug__" : Str)) = false := by decide)
    (he : starEach [e, .Name x p'] (cxComp X N' scope cl C fp s H).env = (false, eval e (cxComp X N' scope cl C fp s H).env) :: starEach [.Name x p'] (cxComp X N' scope cl C fp s H).env := by rfl) (he' : starEach [.Name x p'] (cxComp X N' scope cl C fp s H).env = (false, eval (.Name x p') (cxComp X N' scope cl C fp s H).env) :: starEach [] (cxComp X N' scope cl C fp s H).env := by rfl) :
    PE (cxComp X N' scope cl C fp s H) (.Call (.Name "isinstance" p) [e, .Name x p'] [] pos) (tCB (rIs X.K) (tCons te (tCons (tC (.ty n)) tNil))) := pe_isin (X := cxComp X N' scope cl C fp s H) B h hx hb hg hg' hn hd he he'
theorem pg_tupc {es : List Expr} {k : Nat} {t : TGs} {n : Nat} (hc : X.calm = true) (h : PGs (cxComp X N' scope cl C fp s H) es t) (hn : (assignEach es (cxComp X N' scope cl C fp s H).env).length = n := by rfl) (hst : (assignEach es (cxComp X N' scope cl C fp s H).env).findIdx? (·.1) = none := by rfl) :
    PG (cxComp X N' scope cl C fp s H) (.Tuple es k pos) (gTup X.K n t) := pg_tup (X := cxComp X N' scope cl C fp s H) hc h hn hst
theorem pe_slicec {lo hi : Option Expr} {tl th : TO} {p2 : Pos} (he : PE (cxComp X N' scope cl C fp s H) e te) (hl : PO (cxComp X N' scope cl C fp s H) lo tl) (hu : PO (cxComp X N' scope cl C fp s H) hi th) : PE (cxComp X N' scope cl C fp s H) (.Subscript e (.Slice lo hi none p2) pos) (tSl (rSlL X.K) te tl th) := pe_slice (X := cxComp X N' scope cl C fp s H) sl_list he hl hu
end
section
variable {G : Hp} {σ : St} {ta tb te : TE} {d : D} {ds : List D} {K : PySem.W.Frag}
theorem ev_ix {i : Int} (h : atI ds i = some d) (ha : EvM ta G σ (.lst ds)) (hb : EvM tb G σ (.int i)) : EvM (tOp (rIx K) ta tb) G σ d :=
  fun M H s l Q k => ha M H s l _ fun x H1 s1 rx => hb M H1 (s.trans (s1.but M)) (l.same s1) _ fun y H2 s2 ry => by
    obtain ⟨a, vs, rfl, h1, h2⟩ := (rx.mono (s2.but M)).of_lst
    obtain ⟨v, h3, h4⟩ := atI_rep h2 h
    exact .inl ⟨a, vs, i, v, rfl, ry.of_int, SqL.of (but_some h1).2, h3, k v H2 (s1.trans s2) h4⟩
theorem ev_ixt {i : Int} (h : atI ds i = some d) (ha : EvM ta G σ (.tup ds)) (hb : EvM tb G σ (.int i)) : EvM (tOp (rIx K) ta tb) G σ d :=
  fun M H s l Q k => ha M H s l _ fun x H1 s1 rx => hb M H1 (s.trans (s1.but M)) (l.same s1) _ fun y H2 s2 ry => by
    obtain ⟨a, vs, rfl, h1, h2⟩ := (rx.mono (s2.but M)).of_tup
    obtain ⟨v, h3, h4⟩ := atI_rep h2 h
    exact .inr (.inl ⟨a, vs, i, v, rfl, ry.of_int, SqT.of (but_some h1).2, h3, k v H2 (s1.trans s2) h4⟩)
theorem ev_eqA {d1 d2 : D} (hc : cmpb d1 d2 = true) (hd : d1.dep ≤ 40) (ha : EvM ta G σ d1) (hb : EvM tb G σ d2) : EvM (tOp (fun x y H Q => rEqD x y H Q ∨ rEq x y H Q) ta tb) G σ (.bl (decide (d1 = d2))) :=
  ev_op2 (fun M H x y l rx ry Q k => .inl ⟨d1, d2, ⟨M, rx, ry, hc, hd⟩, k _ H (Same.refl _) (.bl _)⟩) ha hb
theorem ev_neA {d1 d2 : D} (hc : cmpb d1 d2 = true) (hd : d1.dep ≤ 40) (ha : EvM ta G σ d1) (hb : EvM tb G σ d2) : EvM (tOp (fun x y H Q => rNeD x y H Q ∨ rNe x y H Q) ta tb) G σ (.bl (!decide (d1 = d2))) :=
  ev_op2 (fun M H x y l rx ry Q k => .inl ⟨d1, d2, ⟨M, rx, ry, hc, hd⟩, k _ H (Same.refl _) (.bl _)⟩) ha hb
theorem ev_eqAB {a b : Bool} (ha : EvM ta G σ (.bl a)) (hb : EvM tb G σ (.bl b)) : EvM (tOp (fun x y H Q => rEqD x y H Q ∨ rEq x y H Q) ta tb) G σ (.bl (decide (a = b))) :=
  ev_op2 (fun M H x y l rx ry Q k => .inr (by
    rw [rx.of_bl, ry.of_bl]
    refine ⟨rfl, ?_⟩
    have e : decide (V.bl a = V.bl b) = decide (a = b) := by simp
    rw [e]
    exact k _ H (Same.refl _) (.bl _))) ha hb
theorem ev_neAB {a b : Bool} (ha : EvM ta G σ (.bl a)) (hb : EvM tb G σ (.bl b)) : EvM (tOp (fun x y H Q => rNeD x y H Q ∨ rNe x y H Q) ta tb) G σ (.bl (!decide (a = b))) :=
  ev_op2 (fun M H x y l rx ry Q k => .inr (by
    rw [rx.of_bl, ry.of_bl]
    refine ⟨rfl, ?_⟩
    have e : decide (V.bl a = V.bl b) = decide (a = b) := by simp
    rw [e]
    exact k _ H (Same.refl _) (.bl _))) ha hb
theorem ev_eqI {i j : Int} (ha : EvM ta G σ (.int i)) (hb : EvM tb G σ (.int j)) : EvM (tOp (fun x y H Q => rEqD x y H Q ∨ rEq x y H Q) ta tb) G σ (.bl (decide (i = j))) :=
  (ev_eqA rfl (Nat.zero_le _) ha hb).eq (by simp)
theorem ev_neI {i j : Int} (ha : EvM ta G σ (.int i)) (hb : EvM tb G σ (.int j)) : EvM (tOp (fun x y H Q => rNeD x y H Q ∨ rNe x y H Q) ta tb) G σ (.bl (!decide (i = j))) :=
  (ev_neA rfl (Nat.zero_le _) ha hb).eq (by simp)
theorem walk_seqL (h : EvM te G σ (.lst ds)) : Walk (fun σ H R => iList K te σ H R ∨ iTup K te σ H R) G σ ds := fun M H s l R k => .inl (walk_list h M H s l R k)
theorem walk_seqT (h : EvM te G σ (.tup ds)) : Walk (fun σ H R => iList K te σ H R ∨ iTup K te σ H R) G σ ds := fun M H s l R k => .inr (walk_tup h M H s l R k)
/-- append to a hidden list -/
theorem st_append {M : List Addr} {H : Hp} {E : Ends} {i : Nat} {a : Addr} {vs : List V} (l : Live M H) (e : σ[i]? = some (some (.ref a))) (ha : H a = some (.lst vs)) (hz : vs.length < sizeLine) (h : EvM te (but H M) σ d)
    (k : ∀ v H', Same H H' → Rep (but H' M) v d → E.nx σ (upd H' a (.lst (vs ++ [v])))) : tDrop (tBM K "list" rAppend (tVar i) (tCons te tNil)) E σ H :=
  ⟨.ref a, e, (show tyV K "list" (.ref a) H from .inl ⟨rfl, vs, SqL.of ha⟩), h.at l fun v H' s r => ⟨a, vs, v, rfl, rfl, s _ _ ha, hz, k v H' s r⟩⟩
end
theorem atI_of_nat {α : Type} {l : List α} {i : Int} (h0 : 0 ≤ i) {x : α} (h : l[i.toNat]? = some x) : atI l i = some x := by
  have : i = ((i.toNat : Nat) : Int) := by omega
  rw [this]
  exact atI_nat h
end FL

set_option Elab.async false
set_option linter.all false
set_option maxRecDepth 100000
/-! the frame's names by their data -/
namespace FL
open PySem L2
abbrev Dn := List (Option D)
structure EnvR (G : Hp) (σ : St) (δ : Dn) : Prop where
  len : σ.length = δ.length
  get : ∀ (i : Nat) (d : D), δ[i]? = some (some d) → ∃ v, σ[i]? = some (some v) ∧ Rep G v d
theorem EnvR.mono {G G' : Hp} {σ : St} {δ : Dn} (h : EnvR G σ δ) (e : Same G G') : EnvR G' σ δ := ⟨h.len, fun i d q => let ⟨v, a, b⟩ := h.get i d q; ⟨v, a, b.mono e⟩⟩
theorem EnvR.same {M : List Addr} {H H' : Hp} {σ : St} {δ : Dn} (h : EnvR (but H M) σ δ) (e : Same H H') : EnvR (but H' M) σ δ := h.mono (e.but M)
theorem EnvR.set {G : Hp} {σ : St} {δ : Dn} {v : V} {d : D} (h : EnvR G σ δ) (i : Nat) (r : Rep G v d) : EnvR G (σ.set i (some v)) (δ.set i (some d)) := by
  refine ⟨by simp [h.len], fun j e q => ?_⟩
  have hl := h.len
  by_cases hj : i = j
  · subst hj
    by_cases hi : i < δ.length
    · rw [List.getElem?_set_self hi] at q
      cases q
      exact ⟨v, List.getElem?_set_self (by omega), r⟩
    · rw [List.getElem?_eq_none (by simpa using Nat.le_of_not_lt hi)] at q; cases q
  · rw [List.getElem?_set_ne hj] at q ⊢
    exact h.get j e q
/-- a name is forgotten (it may hold anything) -/
theorem EnvR.off {G : Hp} {σ : St} {δ : Dn} (h : EnvR G σ δ) (i : Nat) (o : Option V) : EnvR G (σ.set i o) (δ.set i none) := by
  refine ⟨by simp [h.len], fun j e q => ?_⟩
  by_cases hj : i = j
  · subst hj
    by_cases hi : i < δ.length
    · rw [List.getElem?_set_self hi] at q; cases q
    · rw [List.getElem?_eq_none (by simpa using Nat.le_of_not_lt hi)] at q; cases q
  · rw [List.getElem?_set_ne hj] at q ⊢
    exact h.get j e q
theorem EnvR.weak {G : Hp} {σ : St} {δ δ' : Dn} (h : EnvR G σ δ) (hl : δ'.length = δ.length) (w : ∀ (i : Nat) (d : D), δ'[i]? = some (some d) → δ[i]? = some (some d)) : EnvR G σ δ' :=
  ⟨h.len.trans hl.symm, fun i d q => h.get i d (w i d q)⟩
section
variable {G : Hp} {σ : St} {δ : Dn} {d : D} {b : Bool} {M : List Addr} {H : Hp} {ta : TE} {tt : TT} {E : Ends}
theorem ev_v {i : Nat} (h : EnvR G σ δ) (e : δ[i]? = some (some d)) : EvM (tVar i) G σ d := let ⟨v, a, r⟩ := h.get i d e; ev_var a r
theorem s_set {i : Nat} (l : Live M H) (hE : EnvR (but H M) σ δ) (h : EvM ta (but H M) σ d) (k : ∀ σ' H', Same H H' → Live M H' → EnvR (but H' M) σ' (δ.set i (some d)) → E.nx σ' H') : tAsg ta (gName i) E σ H :=
  h.at l fun v H' s r => k _ H' s (l.same s) ((hE.same s).set i r)
theorem s_ret (l : Live M H) (h : EvM ta (but H M) σ d) (k : ∀ v H', Same H H' → Rep (but H' M) v d → E.rt v H') : tRet ta E σ H := h.at l k
theorem s_if {ts us : TS} (l : Live M H) (hE : EnvR (but H M) σ δ) (h : EvT tt (but H M) σ b) (k1 : b = true → ∀ H', Same H H' → Live M H' → EnvR (but H' M) σ δ → ts E σ H') (k2 : b = false → ∀ H', Same H H' → Live M H' → EnvR (but H' M) σ δ → us E σ H') : tIfS tt ts us E σ H :=
  st_if l h (fun e H' s => k1 e H' s (l.same s) (hE.same s)) (fun e H' s => k2 e H' s (l.same s) (hE.same s))
end
theorem EnvR.drop {G : Hp} {σ : St} {δ : Dn} (h : EnvR G σ δ) (i : Nat) : EnvR G σ (δ.set i none) :=
  h.weak (by simp) fun j d q => by
    by_cases hj : i = j
    · subst hj
      by_cases hi : i < δ.length
      · rw [List.getElem?_set_self hi] at q; cases q
      · rw [List.getElem?_eq_none (by simpa using Nat.le_of_not_lt hi)] at q; cases q
    · rw [List.getElem?_set_ne hj] at q; exact q
theorem nx {E : Ends} {σ : St} {H : Hp} (h : E.nx σ H) : tNext E σ H := h
/-- an if whose ways meet -/
theorem s_ifK {δ : Dn} {b : Bool} {M : List Addr} {H : Hp} {tt : TT} {E : Ends} {σ : St} {ts us : TS} (P : St → Hp → Prop) (l : Live M H) (hE : EnvR (but H M) σ δ) (h : EvT tt (but H M) σ b)
    (k1 : (∀ σ H, P σ H → E.nx σ H) → b = true → ∀ H', Same H H' → Live M H' → EnvR (but H' M) σ δ → ts E σ H') (k2 : (∀ σ H, P σ H → E.nx σ H) → b = false → ∀ H', Same H H' → Live M H' → EnvR (but H' M) σ δ → us E σ H') (hk : ∀ σ H, P σ H → E.nx σ H) : tIfS tt ts us E σ H :=
  s_if l hE h (k1 hk) (k2 hk)
/-- a def whose body ends with a datum -/
theorem spP_len {f : List D → Option D} {n : Nat} (hn : ∀ ds d, f ds = some d → ds.length = n) : ∀ vs H Q E, spP f vs H Q E → vs.length = n := fun vs H Q E ⟨M, ds, d, l, r, e, k⟩ => by rw [r.length]; exact hn ds d e
theorem env_start {G : Hp} {vs : List V} {ds : List D} (h : Reps G vs ds) (N : List Str) : EnvR G (L2.start N vs) (ds.map some ++ List.replicate (N.length - ds.length) none) := by
  refine ⟨by simp [L2.start, h.length], fun i d q => ?_⟩
  have hl := h.length
  unfold L2.start
  by_cases hi : i < ds.length
  · rw [List.getElem?_append_left (by simpa using hi), List.getElem?_map] at q
    cases e : ds[i]? with
    | none => rw [e] at q; cases q
    | some d' =>
      rw [e] at q
      cases q
      obtain ⟨v, h1, h2⟩ := h.get e
      exact ⟨v, by rw [List.getElem?_append_left (by simpa using (by omega : i < vs.length)), List.getElem?_map, h1]; rfl, h2⟩
  · rw [List.getElem?_append_right (by simpa using Nat.le_of_not_lt hi)] at q
    obtain ⟨h1, h2⟩ := List.getElem?_eq_some_iff.mp q
    simp at h2
theorem hu50 {A : Around} {k : Nat} (hr : Room k A) : A.units + 50 < cLine := by have := hr.units; omega
theorem sc_cmp {a b : D} (ha : a.sc = true) (hb : b.sc = true) : cmpb a b = true ∧ a.dep ≤ 40 := by
  cases a with
  | int i => cases b <;> first | exact ⟨rfl, Nat.zero_le _⟩ | exact absurd hb (by simp [D.sc])
  | str i => cases b <;> first | exact ⟨rfl, Nat.zero_le _⟩ | exact absurd hb (by simp [D.sc])
  | _ => exact absurd ha (by simp [D.sc])
/-- law's own promise -/
def spLaw (K : PySem.W.Frag) : Sp := fun vs H Q _ => ∃ (a : Addr) (ns : List Int), vs = [.ref a] ∧ SqL K H a (ns.map V.int) ∧ ns.length ≤ 63 ∧ ∀ H', Q (.bl true) H'
theorem cut500 {ns : List Int} (h : ns.length ≤ 63) : cutV (ns.map V.int) none (some 500) = ns.map V.int := by
  have := cut_to (xs := ns.map V.int) 500
  rw [List.take_of_length_le (by simp; omega)] at this
  exact this
theorem env_law {H : Hp} {p : Addr} {ns : List Int} (N : List Str) (a : Addr) (n : Nat) (hN : N.length = n + 1) : EnvR (but (upd H p (.lst (ns.map V.int))) []) ((L2.start N [.ref a]).set 0 (some (.ref p))) (some (.lst (ns.map D.int)) :: List.replicate n none) := by
  have h0 : EnvR (but (upd H p (.lst (ns.map V.int))) []) (L2.start N [.ref a]) (none :: List.replicate n none) := by
    refine ⟨by simp [L2.start, hN], fun i d q => ?_⟩
    obtain ⟨h1, h2⟩ := List.getElem?_eq_some_iff.mp q
    have : (none :: List.replicate n none : Dn) = List.replicate (n + 1) none := rfl
    rw [List.getElem_of_eq this] at h2
    simp at h2
  have r : Rep (but (upd H p (.lst (ns.map V.int))) []) (.ref p) (.lst (ns.map D.int)) := .lst (by rw [but_nil]; exact upd_same) (Reps.ints ns)
  exact h0.set 0 r
/-- cells of the script -/
def cellD (l : List D) (k : Int) : D := if k < l.length then l.getD k.toNat .non else .int 0
def fAt : List D → Option D
  | [.lst l, .int k] => if 0 ≤ k then some (cellD l k) else none
  | _ => none
theorem cell_int (ns : List Int) (k : Nat) : cellD (ns.map D.int) k = .int (ns.getD k 0) := by
  unfold cellD
  by_cases h : k < ns.length
  · rw [if_pos (by simpa using h)]
    simp [List.getD, h]
  · rw [if_neg (by simpa using h)]
    have : ns.getD k 0 = 0 := by simp [List.getD, List.getElem?_eq_none (Nat.le_of_not_lt h)]
    rw [this]
theorem fAt_int (ns : List Int) (k : Nat) : fAt [.lst (ns.map D.int), .int (k : Int)] = some (.int (ns.getD k 0)) := by
  show (if (0 : Int) ≤ k then some (cellD (ns.map D.int) k) else none) = _
  rw [if_pos (by omega), cell_int]
end FL

set_option Elab.async false
set_option linter.all false
set_option maxRecDepth 100000
/-! what the laws' own helpers are worth; hidden lists in a frame; dicts of scalars -/
namespace FL
open PySem L2
/-- a def by a relation between its arguments and its answer -/
def spR (R : List D → D → Prop) : Sp := fun vs H Q _ => ∃ M ds d, Live M H ∧ Reps (but H M) vs ds ∧ R ds d ∧ ∀ v H', Same H H' → Rep (but H' M) v d → Q v H'
theorem ev_callR {R : List D → D → Prop} {E : XK} {G : Hp} {σ : St} {t : TA} {ds : List D} {d : D} (hf : R ds d) (h : EvA t G σ ds) : EvM (tCall (spR R) [] E t) G σ d :=
  fun M H s l Q k => h M H s l _ fun vs H1 s1 rs => ⟨M, ds, d, l.same s1, by rw [List.append_nil]; exact rs, hf, fun v H2 s2 r2 => k v H2 (s1.trans s2) r2⟩
theorem spR_len {R : List D → D → Prop} {n : Nat} (hn : ∀ ds d, R ds d → ds.length = n) : ∀ vs H Q E, spR R vs H Q E → vs.length = n := fun vs H Q E ⟨M, ds, d, l, r, e, k⟩ => by rw [r.length]; exact hn ds d e
theorem atI_zero {α : Type} {h : α} {r : List α} : atI (h :: r) 0 = some h := atI_of_nat (by decide) rfl
/-! the helpers -/
def whole (d : D) : Bool := isI d && !isB d
def thing (d : D) : Bool := isS d || whole d
def isFact : D → Bool
  | .tup (h :: r) => isS h && (h :: r).all thing
  | _ => false
def RAt : List D → D → Prop := fun ds d => ∃ l k, ds = [.lst l, .int k] ∧ 0 ≤ k ∧ d = cellD l k
def RWhole : List D → D → Prop := fun ds d => ∃ x, ds = [x] ∧ d = .bl (whole x)
def RIsFact : List D → D → Prop := fun ds d => ∃ x, ds = [x] ∧ d = .bl (isFact x)
def mixed (ns : List Int) : List Int := (List.range ns.length).map fun (k : Nat) => (ns.getD k 0 + 7919 * (k : Int)) * 48271 % 1000003
def RMixed : List D → D → Prop := fun ds d => ∃ ns : List Int, ds = [.lst (ns.map D.int)] ∧ ns.length ≤ 63 ∧ d = .lst ((mixed ns).map D.int)
theorem mixed_len (ns : List Int) : (mixed ns).length = ns.length := by simp [mixed]
theorem mixed_nonneg {ns : List Int} {x : Int} (h : x ∈ mixed ns) : 0 ≤ x := by
  obtain ⟨k, _, rfl⟩ := List.mem_map.mp h
  exact Int.emod_nonneg _ (by decide)
theorem RAt_int (ns : List Int) (k : Nat) : RAt [.lst (ns.map D.int), .int (k : Int)] (.int (ns.getD k 0)) := ⟨_, _, rfl, by omega, (cell_int ns k).symm⟩
theorem thing_sc {d : D} (h : d.sc = true) : thing d = true := by
  cases d with
  | int i => rfl
  | str i => rfl
  | _ => exact absurd h (by simp [D.sc])
/-- an item of a written list of five, seven .. at a remainder -/
theorem at_mod {l : List D} {n : Nat} (x : Int) (hn : 0 < n) (hl : l.length = n) : ∃ d, atI l (x % (n : Int)) = some d ∧ d ∈ l ∧ d = l.getD (x % (n : Int)).toNat .non := by
  have h1 := Int.emod_nonneg x (show (n : Int) ≠ 0 by omega)
  have h2 := Int.emod_lt_of_pos x (show (0 : Int) < n by omega)
  have h3 : (x % (n : Int)).toNat < l.length := by omega
  refine ⟨l[(x % (n : Int)).toNat], atI_of_nat h1 (List.getElem?_eq_getElem h3), List.getElem_mem h3, ?_⟩
  simp [List.getD, List.getElem?_eq_getElem h3]
/-! raw slots, hidden lists -/
section
variable {σ : St} {δ : Dn} {d : D} {M : List Addr} {H : Hp} {ta te : TE} {t : TA} {E : Ends} {ds : List D} {K : PySem.W.Frag}
/-- name = value, the other slots known to stay -/
theorem s_setR {i : Nat} (l : Live M H) (hE : EnvR (but H M) σ δ) (h : EvM ta (but H M) σ d) (k : ∀ σ' H', (∀ j : Nat, j ≠ i → σ'[j]? = σ[j]?) → Same H H' → Live M H' → EnvR (but H' M) σ' (δ.set i (some d)) → E.nx σ' H') : tAsg ta (gName i) E σ H :=
  h.at l fun v H' s r => k _ H' (fun j hj => List.getElem?_set_ne (Ne.symm hj)) s (l.same s) ((hE.same s).set i r)
/-- name = [..], the new list hidden -/
theorem s_new {i : Nat} (l : Live M H) (hE : EnvR (but H M) σ δ) (hi : i < δ.length) (h : EvA t (but H M) σ ds) (hz : ds.length ≤ sizeLine)
    (k : ∀ p vs σ' H', (∀ j : Nat, j ≠ i → σ'[j]? = σ[j]?) → σ'[i]? = some (some (.ref p)) → p ∉ M → H' p = some (.lst vs) → Reps (but H' (p :: M)) vs ds → Live (p :: M) H' → (∀ b o, H b = some o → b ≠ p ∧ H' b = some o) → EnvR (but H' (p :: M)) σ' (δ.set i none) → E.nx σ' H') : tAsg (tLst t) (gName i) E σ H :=
  h M H (Same.refl _) l _ fun vs H1 s1 rs => ⟨by rw [rs.length]; exact hz, fun p hp => by
    have hl := hE.len
    refine k p vs _ _ (fun j hj => List.getElem?_set_ne (Ne.symm hj)) (List.getElem?_set_self (by omega)) ((l.same s1).fresh hp) upd_same (reps_hide hp rs) ((l.same s1).upd.cons upd_same) (fun b o e => ?_) ?_
    · have e1 := s1 b o e
      have nb : b ≠ p := ne_of_none e1 hp
      exact ⟨nb, by rw [upd_ne nb]; exact e1⟩
    · have h2 : EnvR (but (upd H1 p (.lst vs)) (p :: M)) σ δ := ⟨hE.len, fun j d q => let ⟨v, a, b⟩ := (hE.same s1).get j d q; ⟨v, a, rep_hide hp b⟩⟩
      exact h2.off i _⟩
/-- name = list(hidden), the copy hidden too -/
theorem s_copy {i k : Nat} {a : Addr} {vs : List V} (l : Live M H) (hE : EnvR (but H M) σ δ) (hi : i < δ.length) (e : σ[k]? = some (some (.ref a))) (ha : H a = some (.lst vs)) (r : Reps (but H M) vs ds)
    (q : ∀ p σ' H', (∀ j : Nat, j ≠ i → σ'[j]? = σ[j]?) → σ'[i]? = some (some (.ref p)) → p ∉ M → H' p = some (.lst vs) → Reps (but H' (p :: M)) vs ds → Live (p :: M) H' → (∀ b o, H b = some o → b ≠ p ∧ H' b = some o) → EnvR (but H' (p :: M)) σ' (δ.set i none) → E.nx σ' H') :
    tAsg (tCB (fun xs H Q => ∃ p ys, xs = [.ref p] ∧ (SqL K H p ys ∨ SqT K H p ys) ∧ ∀ l, H l = none → Q (.ref l) (upd H l (.lst ys))) (tCons (tVar k) tNil)) (gName i) E σ H :=
  ⟨.ref a, e, a, vs, rfl, .inl (SqL.of ha), fun p hp => by
    have hl := hE.len
    refine q p _ _ (fun j hj => List.getElem?_set_ne (Ne.symm hj)) (List.getElem?_set_self (by omega)) (l.fresh hp) upd_same (reps_hide hp r) (l.upd.cons upd_same) (fun b o e => ?_) ?_
    · have nb : b ≠ p := ne_of_none e hp
      exact ⟨nb, by rw [upd_ne nb]; exact e⟩
    · have h2 : EnvR (but (upd H p (.lst vs)) (p :: M)) σ δ := ⟨hE.len, fun j d q => let ⟨v, a, b⟩ := hE.get j d q; ⟨v, a, rep_hide hp b⟩⟩
      exact h2.off i _⟩
/-- a hidden list is shown again -/
theorem env_show {i : Nat} {a : Addr} {vs : List V} (hM : a ∉ M) (hi : i < δ.length) (e : σ[i]? = some (some (.ref a))) (ha : H a = some (.lst vs)) (r : Reps (but H (a :: M)) vs ds) (hE : EnvR (but H (a :: M)) σ δ) : EnvR (but H M) σ (δ.set i (some (.lst ds))) := by
  have h2 := hE.mono (but_mono (H := H) (M := M) (M' := a :: M) fun b hb => List.mem_cons_of_mem _ hb)
  refine ⟨by simp [hE.len], fun j d q => ?_⟩
  by_cases hj : i = j
  · subst hj
    rw [List.getElem?_set_self hi] at q
    cases q
    exact ⟨_, e, rep_show hM ha r⟩
  · rw [List.getElem?_set_ne hj] at q
    exact h2.get j d q
/-- append to a hidden list, its own address among the hidden -/
theorem s_app {i : Nat} {a : Addr} {vs : List V} (l : Live M H) (hE : EnvR (but H M) σ δ) (ha' : a ∈ M) (e : σ[i]? = some (some (.ref a))) (ha : H a = some (.lst vs)) (r : Reps (but H M) vs ds) (hz : ds.length < sizeLine) (h : EvM te (but H M) σ d)
    (k : ∀ v H', (∀ b o, b ≠ a → H b = some o → H' b = some o) → Live M H' → H' a = some (.lst (vs ++ [v])) → Reps (but H' M) (vs ++ [v]) (ds ++ [d]) → EnvR (but H' M) σ δ → E.nx σ H') : tDrop (tBM K "list" rAppend (tVar i) (tCons te tNil)) E σ H :=
  st_append l e ha (by rw [r.length]; exact hz) h fun v H' s rv => by
    have eb : but (upd H' a (.lst (vs ++ [v]))) M = but H' M := but_upd ha'
    refine k v _ (fun b o hb q => by rw [upd_ne hb]; exact s b o q) (l.same s).upd upd_same ?_ ?_
    · rw [eb]; exact (r.mono (s.but M)).snoc rv
    · rw [eb]; exact hE.same s
/-- a hidden list was changed: what is seen stays -/
theorem hide_same {H H' : Hp} {M : List Addr} {a : Addr} (ha : a ∈ M) (k : ∀ b o, b ≠ a → H b = some o → H' b = some o) : Same (but H M) (but H' M) := fun b o e => by
  obtain ⟨h1, h2⟩ := but_some e
  rw [but_out h1]
  exact k b o (fun z => h1 (by rw [z]; exact ha)) h2
/-- unpacking a pair -/
theorem g_pair {x : V} {d1 d2 : D} {i j : Nat} {Q : St → Hp → Prop} (rx : Rep (but H M) x (.tup [d1, d2])) (k : ∀ v1 v2, Rep (but H M) v1 d1 → Rep (but H M) v2 d2 → Q ((σ.set i (some v1)).set j (some v2)) H) : gTup K 2 (gCons (gName i) (gCons (gName j) gNil)) x σ H Q := by
  obtain ⟨a, vs, rfl, h1, h2⟩ := rx.of_tup
  obtain ⟨v1, v2, rfl, r1, r2⟩ := reps2 h2
  exact ⟨a, _, rfl, SqT.of (but_some h1).2, rfl, v1, [v2], rfl, v2, [], rfl, rfl, k v1 v2 r1 r2⟩
end
/-! dicts of scalars, by text and number keys -/
def D.toV : D → V
  | .int i => .int i
  | .str x => .str x
  | .bl b => .bl b
  | _ => .non
def D.key : D → Key
  | .int i => .inl i
  | .str x => .inr x
  | _ => .inl 0
theorem rep_toV {H : Hp} {d : D} (h : d.sc = true) : Rep H d.toV d := by
  cases d with
  | int i => exact .int i
  | str x => exact .str x
  | _ => exact absurd h (by simp [D.sc])
theorem rep_sc {H : Hp} {v : V} {d : D} (h : d.sc = true) (r : Rep H v d) : v = d.toV ∧ v = kV d.key := by
  cases r with
  | int i => exact ⟨rfl, rfl⟩
  | str x => exact ⟨rfl, rfl⟩
  | _ => exact absurd h (by simp [D.sc])
theorem key_inj {a b : D} (ha : a.sc = true) (hb : b.sc = true) : a.key = b.key ↔ a = b := by
  cases a with
  | int i => cases b <;> first | (exfalso; simp [D.sc] at hb; done) | simp [D.key]
  | str i => cases b <;> first | (exfalso; simp [D.sc] at hb; done) | simp [D.key]
  | _ => exact absurd ha (by simp [D.sc])
theorem valV_merge (j : Key) : ∀ (kvs acc : List (Key × V)), valV (mergeK acc kvs) j = kvs.foldl (fun o p => if j = p.1 then some p.2 else o) (valV acc j)
  | [], acc => rfl
  | p :: r, acc => by
    show valV (mergeK (putK acc p.1 p.2) r) j = _
    rw [valV_merge j r, valV_put]
    rfl
/-- a setting: names and things -/
abbrev Pairs0 := List (Str × D)
def pairD (ps : Pairs0) : List D := ps.map fun p => .tup [.str p.1, p.2]
def pairK (ps : Pairs0) : List (Key × V) := ps.map fun p => (Sum.inr p.1, p.2.toV)
def lookD (ps : Pairs0) (x : D) : D := ps.foldl (fun acc p => if D.str p.1 = x then p.2 else acc) x
theorem pairs_rep {K : PySem.W.Frag} {H : Hp} {M : List Addr} : ∀ {ps : Pairs0} {vs : List V}, (∀ p ∈ ps, p.2.sc = true) → Reps (but H M) vs (pairD ps) → Pairs K H vs (pairK ps)
  | [], _, _, .nil => .nil
  | p :: r, _, hs, .cons (v := v) h t => by
    obtain ⟨a, us, rfl, h1, h2⟩ := h.of_tup
    obtain ⟨v1, v2, rfl, r1, r2⟩ := reps2 h2
    refine .cons ⟨a, rfl, ?_⟩ (pairs_rep (fun q hq => hs q (List.mem_cons_of_mem _ hq)) t)
    have e2 := (rep_sc (hs p List.mem_cons_self) r2).1
    have e1 := r1.of_str
    subst e1 e2
    exact SqT.of (but_some h1).2
theorem look_fold (x : D) (hx : x.sc = true) : ∀ (ps : Pairs0) (o : Option V) (acc : D), (∀ p ∈ ps, p.2.sc = true) → o.getD x.toV = acc.toV → acc.sc = true →
    (((pairK ps).foldl (fun o p => if x.key = p.1 then some p.2 else o) o).getD x.toV = (ps.foldl (fun acc p => if D.str p.1 = x then p.2 else acc) acc).toV ∧ (ps.foldl (fun acc p => if D.str p.1 = x then p.2 else acc) acc).sc = true)
  | [], o, acc, _, h, hs => ⟨h, hs⟩
  | p :: r, o, acc, hp, h, hs => by
    have hr : ∀ q ∈ r, q.2.sc = true := fun q hq => hp q (List.mem_cons_of_mem _ hq)
    show ((pairK r).foldl _ (if x.key = Sum.inr p.1 then some p.2.toV else o)).getD x.toV = (r.foldl _ (if D.str p.1 = x then p.2 else acc)).toV ∧ _
    by_cases e : D.str p.1 = x
    · have e2 : x.key = Sum.inr p.1 := by rw [← e]; rfl
      rw [if_pos e, if_pos e2]
      have := look_fold x hx r (some p.2.toV) p.2 hr rfl (hp p List.mem_cons_self)
      refine ⟨this.1, ?_⟩
      show (r.foldl _ (if D.str p.1 = x then p.2 else acc)).sc = true
      rw [if_pos e]; exact this.2
    · have e2 : ¬ x.key = Sum.inr p.1 := fun z => e ((key_inj (a := D.str p.1) (b := x) rfl hx).mp z.symm)
      rw [if_neg e, if_neg e2]
      have := look_fold x hx r o acc hr h hs
      refine ⟨this.1, ?_⟩
      show (r.foldl _ (if D.str p.1 = x then p.2 else acc)).sc = true
      rw [if_neg e]; exact this.2
theorem look_take {ps : Pairs0} {j : Nat} {p : Str × D} (x : D) (h : ps[j]? = some p) : lookD (ps.take (j + 1)) x = if D.str p.1 = x then p.2 else lookD (ps.take j) x := by
  unfold lookD
  rw [List.take_add_one, h, List.foldl_append]
  rfl
theorem look_ok {ps : Pairs0} {x : D} (hx : x.sc = true) (hp : ∀ p ∈ ps, p.2.sc = true) : (valV (mergeK [] (pairK ps)) x.key).getD x.toV = (lookD ps x).toV ∧ (lookD ps x).sc = true := by
  rw [valV_merge]
  exact look_fold x hx ps none x hp rfl hx
/-- d.get(x, x) of such a dict -/
theorem ev_get2 {G : Hp} {σ : St} {i j : Nat} {a : Addr} {ps : Pairs0} {x : D} (e : σ[i]? = some (some (.ref a))) (hG : G a = some (.dK (mergeK [] (pairK ps)))) (hx : x.sc = true) (hp : ∀ p ∈ ps, p.2.sc = true) (h : EvM (tVar j) G σ x) : EvM (tDGet2 (tVar i) (tVar j) (tVar j)) G σ (lookD ps x) :=
  fun M H s l Q k => by
    have ha := (but_some (s _ _ hG)).2
    refine ⟨.ref a, e, a, rfl, .inl ⟨_, .inl ha⟩, h M H s l _ fun y H1 s1 ry => h M H1 (s.trans (s1.but M)) (l.same s1) _ fun z H2 s2 rz => ?_⟩
    obtain ⟨e1, e2⟩ := rep_sc hx ry
    obtain ⟨e3, _⟩ := rep_sc hx rz
    have ha2 := s2 _ _ (s1 _ _ ha)
    refine ⟨valV (mergeK [] (pairK ps)) x.key, ?_, ?_⟩
    · rw [e2]; exact DGet.k ha2
    · rw [e3, (look_ok hx hp).1]
      exact k _ H2 (s1.trans s2) (rep_toV (look_ok hx hp).2)
end FL

set_option linter.all false
set_option maxRecDepth 100000
/-! zip over any two inner walks -/
namespace PySem
/-- an inner walk: the iterator at i over what stands at l, by its turn k -/
structure Inn (prog : Program) (w : World) (i l : Addr) (St : Nat → Heap → Prop) (item : Nat → Option Value) : Prop where
  here : ∀ k h, St k h → ∃ o vs, h.get? i = some o ∧ o.data = .fields vs
  keep : ∀ k h h', St k h → (∀ o, h.get? i = some o → h'.get? i = some o) → (∀ o, h.get? l = some o → h'.get? l = some o) → St k h'
  one : ∀ (A : Around) (E : Value → Shared → Prop) (k : Nat) (s : Shared) (x : Value) (Q : Value → Shared → Prop), St k s.heap → item k = some x → (∀ h', St (k + 1) h' → Heap.SameBut i s.heap h' → Q x { s with heap := h' }) → wpAny (model prog w) A (Builtin.SmallTypes.nextOf (.ref i)) Q E s
  over : ∀ (A : Around) (E : Value → Shared → Prop) (k : Nat) (s : Shared) (Q : Value → Shared → Prop), A.handled = none → St k s.heap → item k = none → (∀ h' e, Heap.ExtBut i s.heap h' → (∃ o, h'.get? e = some o ∧ o.cls = .type "StopIteration") → E (.ref e) { s with heap := h' }) → wpAny (model prog w) A (Builtin.SmallTypes.nextOf (.ref i)) Q E s
theorem inn_list {prog : Program} {w : World} {i l : Addr} {xs : Array Value} : Inn prog w i l (fun k h => h.IsListIter i l k ∧ h.IsList l xs ∧ l ≠ i) (fun k => xs[k]?) where
  here := fun k h ⟨⟨o, e, _, d⟩, _⟩ => ⟨o, _, e, d⟩
  keep := fun k h h' ⟨⟨o, e, r⟩, ⟨o2, e2, r2⟩, n⟩ k1 k2 => ⟨⟨o, k1 _ e, r⟩, ⟨o2, k2 _ e2, r2⟩, n⟩
  one := fun A E k s x Q ⟨h1, h2, n⟩ hx hq => wpAny_nextOf_list_item h1 h2 hx fun h' a b => hq h' ⟨a, h2.extBut b.extBut n, n⟩ b
  over := fun A E k s Q hh ⟨h1, h2, n⟩ hx hq => wpAny_nextOf_list_end hh h1 h2 hx fun h' e a b => hq h' e a b
section
variable {prog : Program} {w : World} {A : Around} {E : Value → Shared → Prop} {s : Shared}
theorem nextOf_tup_one {it l : Addr} {i : Nat} {items : Array Value} {x : Value} {Q : Value → Shared → Prop} (hit : s.heap.IsTupleIter it l i) (hl : s.heap.IsTuple l items) (hx : items[i]? = some x)
    (hQ : ∀ h', h'.IsTupleIter it l (i + 1) → Heap.SameBut it s.heap h' → Q x { s with heap := h' }) : wpAny (model prog w) A (Builtin.SmallTypes.nextOf (.ref it)) Q E s := by
  obtain ⟨o, ho, hc, hd⟩ := id hit
  obtain ⟨ot, hot, _, nt, hdt⟩ := hl
  unfold Builtin.SmallTypes.nextOf
  refine wpAny_bind (wpAny_callSpecial?_slot (name := Str.ofString "__next__") hit.typeIs F.slot_tuple_iterator_next (wpAny_call_entry F.slot_tuple_iterator_next hit.typeIs F.entry_tuple_iterator_next ?_ (F.args_tuple_iterator_next_1 _)))
  show wpAny _ _ (field (.ref it) 0 >>= _) _ _ s
  refine wpAny_bind (wpAny_field ho hd (x := .ref l) rfl ?_)
  show wpAny _ _ (if (Value.ref l == Value.none) = true then _ else _) _ _ s
  rw [if_neg (show ¬ ((Value.ref l == Value.none) = true) from Bool.false_ne_true)]
  show wpAny _ _ (field (.ref it) 1 >>= _) _ _ s
  refine wpAny_bind (wpAny_field ho hd (x := .int i 0) rfl ?_)
  show wpAny _ _ (seqItems? (.ref l) >>= _) _ _ s
  refine wpAny_bind (wpAny_seqItems hot hdt ?_)
  simp only [Int.toNat_natCast, hx]
  refine wpAny_bind (wpAny_setField ho hd (by simp) (wpAny_pure ⟨x, rfl, wpAny_pure (hQ _ ⟨_, Heap.get?_update_self _ ho (Obj.isFreed_of_fields (Obj.data_mapFields hd _)), (Obj.cls_mapFields ..).trans hc, ?_⟩ (Heap.SameBut.update ..))⟩))
  rw [Obj.data_mapFields hd]
  simp [rawInt]
theorem nextOf_tup_over {it l : Addr} {i : Nat} {items : Array Value} {Q : Value → Shared → Prop} (hh : A.handled = none) (hit : s.heap.IsTupleIter it l i) (hl : s.heap.IsTuple l items) (hx : items[i]? = none)
    (hE : ∀ h' e, Heap.ExtBut it s.heap h' → (∃ o, h'.get? e = some o ∧ o.cls = .type "StopIteration") → E (.ref e) { s with heap := h' }) : wpAny (model prog w) A (Builtin.SmallTypes.nextOf (.ref it)) Q E s := by
  obtain ⟨o, ho, hc, hd⟩ := id hit
  obtain ⟨ot, hot, _, nt, hdt⟩ := hl
  unfold Builtin.SmallTypes.nextOf
  refine wpAny_bind (wpAny_callSpecial?_slot (name := Str.ofString "__next__") hit.typeIs F.slot_tuple_iterator_next (wpAny_call_entry F.slot_tuple_iterator_next hit.typeIs F.entry_tuple_iterator_next ?_ (F.args_tuple_iterator_next_1 _)))
  show wpAny _ _ (field (.ref it) 0 >>= _) _ _ s
  refine wpAny_bind (wpAny_field ho hd (x := .ref l) rfl ?_)
  show wpAny _ _ (if (Value.ref l == Value.none) = true then _ else _) _ _ s
  rw [if_neg (show ¬ ((Value.ref l == Value.none) = true) from Bool.false_ne_true)]
  show wpAny _ _ (field (.ref it) 1 >>= _) _ _ s
  refine wpAny_bind (wpAny_field ho hd (x := .int i 0) rfl ?_)
  show wpAny _ _ (seqItems? (.ref l) >>= _) _ _ s
  refine wpAny_bind (wpAny_seqItems hot hdt ?_)
  simp only [Int.toNat_natCast, hx]
  refine wpAny_bind (wpAny_rule (wpAny_bind (wpAny_setField ho hd (by simp) ?_)))
  show wpAny _ _ (newExc (.type "StopIteration") [] >>= _) _ _ _
  refine wpAny_bind ?_
  simp only [newExc, newTuple]
  refine wpAny_bind (wpAny_newObj_type ?_ (by size_fits))
  refine wpAny_bind (m := firstArgMember _ _) (wpAny_of_eq (a := Value.none) (by first | rfl | (simp only [firstArgMember]; rfl)) ?_)
  refine wpAny_newObj_type ?_ (by size_fits)
  simp only [raiseNew]
  refine wpAny_bind (wpAny_handled ?_)
  first | rw [show A.in1.handled = none from hh] | rw [hh]
  exact wpAny_bind (wpAny_pure (wpAny_throw (hE _ _ (((Heap.SameBut.update ..).extBut.push _).push _) ⟨_, Heap.get?_push_size _ rfl, rfl⟩)))
theorem inn_tup {i l : Addr} {xs : Array Value} : Inn prog w i l (fun k h => h.IsTupleIter i l k ∧ h.IsTuple l xs ∧ l ≠ i) (fun k => xs[k]?) where
  here := fun k h ⟨⟨o, e, _, d⟩, _⟩ => ⟨o, _, e, d⟩
  keep := fun k h h' ⟨⟨o, e, r⟩, ⟨o2, e2, r2⟩, n⟩ k1 k2 => ⟨⟨o, k1 _ e, r⟩, ⟨o2, k2 _ e2, r2⟩, n⟩
  one := fun A E k s x Q ⟨h1, h2, n⟩ hx hq => nextOf_tup_one h1 h2 hx fun h' a b => hq h' ⟨a, h2.extBut b.extBut n, n⟩ b
  over := fun A E k s Q hh ⟨h1, h2, n⟩ hx hq => nextOf_tup_over hh h1 h2 hx fun h' e a b => hq h' e a b
variable {z TI TO i1 i2 l1 l2 : Addr} {S1 S2 : Nat → Heap → Prop} {it1 it2 : Nat → Option Value}
/-- the state of a zip, ready for its next turn -/
structure ZipSt (prog : Program) (w : World) (S1 S2 : Nat → Heap → Prop) (z TI TO i1 i2 l1 l2 : Addr) (f0 : Value) (k : Nat) (h : Heap) : Prop where
  zip : IsZip h z TI TO f0
  ins : IsPair h TI (.ref i1) (.ref i2)
  out : ∃ a b, IsPair h TO a b
  one : S1 k h
  two : S2 k h
theorem ZipSt.keep {f0 : Value} {k : Nat} {h h' : Heap} (I1 : Inn prog w i1 l1 S1 it1) (I2 : Inn prog w i2 l2 S2 it2) (Z : ZipSt prog w S1 S2 z TI TO i1 i2 l1 l2 f0 k h) (kp : ∀ b ∈ [z, TI, TO, i1, i2, l1, l2], ∀ o, h.get? b = some o → h'.get? b = some o) : ZipSt prog w S1 S2 z TI TO i1 i2 l1 l2 f0 k h' :=
  ⟨kp _ (by simp) _ Z.zip, kp _ (by simp) _ Z.ins, let ⟨a, b, e⟩ := Z.out; ⟨a, b, kp _ (by simp) _ e⟩, I1.keep _ _ _ Z.one (fun o e => kp _ (by simp) o e) (fun o e => kp _ (by simp) o e), I2.keep _ _ _ Z.two (fun o e => kp _ (by simp) o e) (fun o e => kp _ (by simp) o e)⟩
theorem zipN_item {k : Nat} {x y : Value} {Q : Value → Shared → Prop} (I1 : Inn prog w i1 l1 S1 it1) (I2 : Inn prog w i2 l2 S2 it2) (D : ZipApart z TI TO i1 i2 l1 l2) (Z : ZipSt prog w S1 S2 z TI TO i1 i2 l1 l2 .none k s.heap) (hx : it1 k = some x) (hy : it2 k = some y)
    (hQ : ∀ h', ZipSt prog w S1 S2 z TI TO i1 i2 l1 l2 (rawInt s.heap.objs.size) (k + 1) h' → IsPair h' s.heap.objs.size x y → (∀ c o, c ≠ z → c ≠ TO → c ≠ i1 → c ≠ i2 → s.heap.get? c = some o → h'.get? c = some o) → Q (.ref s.heap.objs.size) { s with heap := h' }) :
    wpAny (model prog w) A (Builtin.«zip.__next__» ⟨[.ref z], []⟩) (fun fin s' => ∃ v, fin = .done (.ret v) ∧ Q v s') E s := by
  obtain ⟨hz, hTI, ⟨a, b, hTO⟩, h1, h2⟩ := Z
  show wpAny _ _ (field (.ref z) 2 >>= _) _ _ _
  refine wpAny_bind (wpAny_field hz rfl (x := .bool false) rfl ?_)
  show wpAny _ _ (field (.ref z) 3 >>= _) _ _ _
  refine wpAny_bind (wpAny_field hz rfl (x := .ref TI) rfl (wpAny_bind (wpAny_seqItems hTI rfl ?_)))
  show wpAny _ _ (Builtin.SmallTypes.ownedTupleIsFree (.ref z) >>= _) _ _ _
  unfold Builtin.SmallTypes.ownedTupleIsFree
  refine wpAny_bind (wpAny_bind (wpAny_field hz rfl (x := .none) rfl (wpAny_pure ?_)))
  simp only [if_true]
  refine wpAny_bind (wpAny_rule (wpAny_bind (wpAny_field hz rfl (x := .ref TO) rfl (wpAny_bind (wpAny_setField_rec hz (by simp) fun ha hza sa => ?_)))))
  replace hza : IsZip ha z TI TO .ellipsis := hza
  refine wpAny_bind ?_
  simp only [List.zipIdx_cons, List.zipIdx_nil, List.forIn_cons, List.forIn_nil]
  refine wpAny_bind (wpAny_bind (wpAny_onRaise ?_))
  show wpAny _ _ (Builtin.SmallTypes.nextOf (.ref i1) >>= _) _ _ _
  have h1a : S1 k ha := I1.keep _ _ _ h1 (fun o e => sa.extBut _ _ D.i1z e) (fun o e => sa.extBut _ _ D.l1z e)
  refine wpAny_bind (I1.one _ _ k { s with heap := ha } x _ h1a hx fun hb h1b sb => wpAny_pure ?_)
  have hTOb : IsPair hb TO a b := sb.extBut _ _ D.TOi1 (sa.extBut _ _ D.TOz hTO)
  refine wpAny_bind (wpAny_seqItems hTOb rfl (wpAny_bind (wpAny_updateSeq_pair hTOb fun hc hTOc sc => ?_)))
  replace hTOc : IsPair hc TO x b := hTOc
  refine wpAny_bind (wpAny_letGo (wpAny_pure (wpAny_bind (wpAny_bind (wpAny_onRaise ?_)))))
  show wpAny _ _ (Builtin.SmallTypes.nextOf (.ref i2) >>= _) _ _ _
  have h2c : S2 k hc := I2.keep _ _ _ h2 (fun o e => sc.extBut _ _ D.TOi2.symm (sb.extBut _ _ D.i12.symm (sa.extBut _ _ D.i2z e))) (fun o e => sc.extBut _ _ D.l2TO (sb.extBut _ _ D.l2i1 (sa.extBut _ _ D.l2z e)))
  refine wpAny_bind (I2.one _ _ k { s with heap := hc } y _ h2c hy fun hd h2d sd => wpAny_pure ?_)
  have hTOd : IsPair hd TO x b := sd.extBut _ _ D.TOi2 hTOc
  refine wpAny_bind (wpAny_seqItems hTOd rfl (wpAny_bind (wpAny_updateSeq_pair hTOd fun he hTOe se => ?_)))
  replace hTOe : IsPair he TO x y := hTOe
  refine wpAny_bind (wpAny_letGo (wpAny_pure (wpAny_pure (wpAny_bind (wpAny_seqItems hTOe rfl (wpAny_bind (wpAny_newTuple ?_)))))))
  have hsz : he.objs.size = s.heap.objs.size := by rw [se.1, sd.1, sc.1, sb.1, sa.1]
  have hze : IsZip he z TI TO .ellipsis := se.extBut _ _ D.TOz.symm (sd.extBut _ _ D.i2z.symm (sc.extBut _ _ D.TOz.symm (sb.extBut _ _ D.i1z.symm hza)))
  have hke : ∀ c o, c ≠ z → c ≠ TO → c ≠ i1 → c ≠ i2 → s.heap.get? c = some o → he.get? c = some o := fun c o c1 c2 c3 c4 e => se.extBut _ _ c2 (sd.extBut _ _ c4 (sc.extBut _ _ c2 (sb.extBut _ _ c3 (sa.extBut _ _ c1 e))))
  have h1e : S1 (k + 1) he := I1.keep _ _ _ h1b (fun o e => se.extBut _ _ D.TOi1.symm (sd.extBut _ _ D.i12 (sc.extBut _ _ D.TOi1.symm e))) (fun o e => se.extBut _ _ D.l1TO (sd.extBut _ _ D.l1i2 (sc.extBut _ _ D.l1TO e)))
  have h2e : S2 (k + 1) he := I2.keep _ _ _ h2d (fun o e => se.extBut _ _ D.TOi2.symm e) (fun o e => se.extBut _ _ D.l2TO e)
  show wpAny _ _ (Builtin.SmallTypes.ownedTupleHandOut (.ref z) (.ref he.objs.size) >>= _) _ _ _
  unfold Builtin.SmallTypes.ownedTupleHandOut
  have hzf : IsZip (he.push { cls := .type "tuple", data := .seq #[x, y] }) z TI TO .ellipsis := Heap.get?_push_of_some _ hze
  refine wpAny_bind (wpAny_bind (wpAny_setField_rec hzf (by simp) fun hg hzg sg => ?_))
  replace hzg : IsZip hg z TI TO (rawInt he.objs.size) := hzg
  refine wpAny_setField_rec hzg (by simp) fun hi hzi si => ?_
  replace hzi : IsZip hi z TI TO (rawInt he.objs.size) := hzi
  have up : ∀ c o, c ≠ z → he.get? c = some o → hi.get? c = some o := fun c o c1 e => si.extBut _ _ c1 (sg.extBut _ _ c1 (Heap.get?_push_of_some _ e))
  have zlt : he.objs.size ≠ z := Nat.ne_of_gt (Heap.lt_size hze)
  have hT : IsPair hi he.objs.size x y := si.extBut _ _ zlt (sg.extBut _ _ zlt (Heap.get?_push_size _ rfl))
  rw [hsz] at hzi hT
  refine wpAny_pure ⟨_, rfl, ?_⟩
  show Q (.ref he.objs.size) _
  rw [hsz]
  exact hQ hi ⟨hzi, up _ _ D.TIz (hke _ _ D.TIz D.TITO D.TIi1 D.TIi2 hTI), ⟨_, _, up _ _ D.TOz hTOe⟩, I1.keep _ _ _ h1e (fun o e => up _ o D.i1z e) (fun o e => up _ o D.l1z e), I2.keep _ _ _ h2e (fun o e => up _ o D.i2z e) (fun o e => up _ o D.l2z e)⟩ hT fun c o c1 c2 c3 c4 e => up c o c1 (hke c o c1 c2 c3 c4 e)
theorem zipN_over {k : Nat} {Q : Fin → Shared → Prop} (hh : A.handled = none) (I1 : Inn prog w i1 l1 S1 it1) (D : ZipApart z TI TO i1 i2 l1 l2) (Z : ZipSt prog w S1 S2 z TI TO i1 i2 l1 l2 .none k s.heap) (hx : it1 k = none)
    (hE : ∀ h' e, (∀ c o, c ≠ z → c ≠ i1 → s.heap.get? c = some o → h'.get? c = some o) → (∃ o, h'.get? e = some o ∧ o.cls = .type "StopIteration") → E (.ref e) { s with heap := h' }) :
    wpAny (model prog w) A (Builtin.«zip.__next__» ⟨[.ref z], []⟩) Q E s := by
  obtain ⟨hz, hTI, ⟨a, b, hTO⟩, h1, h2⟩ := Z
  show wpAny _ _ (field (.ref z) 2 >>= _) _ _ _
  refine wpAny_bind (wpAny_field hz rfl (x := .bool false) rfl ?_)
  show wpAny _ _ (field (.ref z) 3 >>= _) _ _ _
  refine wpAny_bind (wpAny_field hz rfl (x := .ref TI) rfl (wpAny_bind (wpAny_seqItems hTI rfl ?_)))
  show wpAny _ _ (Builtin.SmallTypes.ownedTupleIsFree (.ref z) >>= _) _ _ _
  unfold Builtin.SmallTypes.ownedTupleIsFree
  refine wpAny_bind (wpAny_bind (wpAny_field hz rfl (x := .none) rfl (wpAny_pure ?_)))
  simp only [if_true]
  refine wpAny_bind (wpAny_rule (wpAny_bind (wpAny_field hz rfl (x := .ref TO) rfl (wpAny_bind (wpAny_setField_rec hz (by simp) fun ha hza sa => ?_)))))
  replace hza : IsZip ha z TI TO .ellipsis := hza
  refine wpAny_bind ?_
  simp only [List.zipIdx_cons, List.zipIdx_nil, List.forIn_cons, List.forIn_nil]
  refine wpAny_bind (wpAny_bind (wpAny_onRaise ?_))
  show wpAny _ _ (Builtin.SmallTypes.nextOf (.ref i1) >>= _) _ _ _
  have h1a : S1 k ha := I1.keep _ _ _ h1 (fun o e => sa.extBut _ _ D.i1z e) (fun o e => sa.extBut _ _ D.l1z e)
  refine wpAny_bind (I1.over _ _ k { s with heap := ha } _ hh h1a hx fun hb e sb ⟨oe, hoe, hce⟩ => ?_)
  have hzb : IsZip hb z TI TO .ellipsis := sb _ _ D.i1z.symm hza
  have hez : e ≠ z := fun q => by subst q; rw [hzb] at hoe; cases hoe; simp at hce
  exact wpAny_setField_rec hzb (by simp) fun hc _ sc => hE hc e (fun c o c1 c2 q => sc.extBut _ _ c1 (sb _ _ c2 (sa.extBut _ _ c1 q))) ⟨oe, sc.extBut _ _ hez hoe, hce⟩
theorem pyNext_zipN {k : Nat} {x y : Value} {Q : Option Value → Shared → Prop} (I1 : Inn prog w i1 l1 S1 it1) (I2 : Inn prog w i2 l2 S2 it2) (D : ZipApart z TI TO i1 i2 l1 l2) (Z : ZipSt prog w S1 S2 z TI TO i1 i2 l1 l2 .none k s.heap) (hx : it1 k = some x) (hy : it2 k = some y)
    (hQ : ∀ h', ZipSt prog w S1 S2 z TI TO i1 i2 l1 l2 (rawInt s.heap.objs.size) (k + 1) h' → IsPair h' s.heap.objs.size x y → (∀ c o, c ≠ z → c ≠ TO → c ≠ i1 → c ≠ i2 → s.heap.get? c = some o → h'.get? c = some o) → Q (some (.ref s.heap.objs.size)) { s with heap := h' }) :
    wpAny (model prog w) A (pyNext (.ref z)) Q E s := by
  have hT : s.TypeIs (.ref z) "zip" := ⟨_, Z.zip, rfl⟩
  unfold pyNext
  exact wpAny_bind (wpAny_attempt (wpAny_callSpecial?_slot (name := Str.ofString "__next__") hT F.slot_zip_next (wpAny_call_entry F.slot_zip_next hT F.entry_zip_next (zipN_item I1 I2 D Z hx hy fun h' a b c => wpAny_pure (hQ h' a b c)) (F.args_zip_next_1 _))))
theorem pyNext_zipEnd {k : Nat} {Q : Option Value → Shared → Prop} (hh : A.handled = none) (I1 : Inn prog w i1 l1 S1 it1) (D : ZipApart z TI TO i1 i2 l1 l2) (Z : ZipSt prog w S1 S2 z TI TO i1 i2 l1 l2 .none k s.heap) (hx : it1 k = none)
    (hQ : ∀ h', (∀ c o, c ≠ z → c ≠ i1 → s.heap.get? c = some o → h'.get? c = some o) → Q none { s with heap := h' }) : wpAny (model prog w) A (pyNext (.ref z)) Q E s := by
  have hT : s.TypeIs (.ref z) "zip" := ⟨_, Z.zip, rfl⟩
  unfold pyNext
  refine wpAny_bind (wpAny_attempt (wpAny_callSpecial?_slot (name := Str.ofString "__next__") hT F.slot_zip_next (wpAny_call_entry F.slot_zip_next hT F.entry_zip_next (zipN_over hh I1 D Z hx fun h' e kp ⟨o, ho, hc⟩ => ?_) (F.args_zip_next_1 _))))
  exact wpAny_bind (wpAny_isInstance (T := "StopIteration") (b := true) ⟨o, ho, hc⟩ isSubtype_stop (wpAny_pure (hQ _ kp)))
end
/-- the heap as zip of two tuples leaves it, object by object -/
abbrev ztA (h : Heap) (a : Addr) : Heap := h.push { cls := .type "tuple_iterator", data := .fields #[.ref a, .int 0 0] }
abbrev ztB (h : Heap) (a b : Addr) : Heap := (ztA h a).push { cls := .type "tuple_iterator", data := .fields #[.ref b, .int 0 0] }
abbrev ztC (h : Heap) (a b : Addr) : Heap := (ztB h a b).push { cls := .type "tuple", data := .seq #[.ref h.objs.size, .ref (ztA h a).objs.size] }
abbrev ztD (h : Heap) (a b : Addr) : Heap := (ztC h a b).push { cls := .type "tuple", data := .seq #[.none, .none] }
abbrev ztE (h : Heap) (a b : Addr) : Heap := (ztD h a b).push { cls := .type "zip", data := .fields #[.none, .bool false, .bool false, .ref (ztB h a b).objs.size, .ref (ztC h a b).objs.size] }
theorem meets_zipT (a b : Addr) (xs ys : Array Value) : Meets (Builtin.«zip.__new__» ⟨[.type "zip", .ref a, .ref b], []⟩) (fun _ R s => s.heap.IsTuple a xs ∧ s.heap.IsTuple b ys ∧ R (.ok (.ret (.ref (ztD s.heap a b).objs.size))) { s with heap := ztE s.heap a b }) :=
  .of_wp fun prog w A R s h => by
    obtain ⟨hp, g, d, tk, os⟩ := s
    obtain ⟨ha, hb, h⟩ := h
    have hsub := sub_zip
    have h1 : Heap.IsTuple (Shared.heap ⟨hp, g, d, tk, os⟩) a xs := ha
    have h2 : Heap.IsTuple (Shared.heap ⟨hp.push { cls := .type "tuple_iterator", data := .fields #[.ref a, .int 0 0] }, g, d, tk, os⟩) b ys := Heap.IsTuple.push hb _
    wp_walk using wpAny_pyIter_tuple h1, wpAny_pyIter_tuple h2
    exact ⟨_, rfl, h⟩
theorem call_zipT {prog : Program} {w : World} {A : Around} {E : Value → Shared → Prop} {s : Shared} {a b : Addr} {xs ys : Array Value} {Q : Value → Shared → Prop} (ha : s.heap.IsTuple a xs) (hb : s.heap.IsTuple b ys)
    (h : ∀ h' n, n = s.heap.objs.size → IsZip h' (n + 4) (n + 2) (n + 3) .none → IsPair h' (n + 2) (.ref n) (.ref (n + 1)) → IsPair h' (n + 3) .none .none → h'.IsTupleIter n a 0 → h'.IsTupleIter (n + 1) b 0 → (∀ c o, s.heap.get? c = some o → h'.get? c = some o) → Q (.ref (n + 4)) { s with heap := h' }) :
    wpAny (model prog w) A (call (.type "zip") [.ref a, .ref b]) Q E s := by
  refine callType_new F.called_zip (by decide) (F.typeCall_zip_2 _ _) (F.newCall_zip_2 _ _) (fun obj => F.args_object_init_3 obj _ _) F.entry_zip_new (meets_zipT a b xs ys) ⟨ha, hb, ?_⟩
  have zA : (ztA s.heap a).objs.size = s.heap.objs.size + 1 := Heap.size_push ..
  have zB : (ztB s.heap a b).objs.size = s.heap.objs.size + 2 := by rw [Heap.size_push, zA]
  have zC : (ztC s.heap a b).objs.size = s.heap.objs.size + 3 := by rw [Heap.size_push, zB]
  have zD : (ztD s.heap a b).objs.size = s.heap.objs.size + 4 := by rw [Heap.size_push, zC]
  have gE : (ztE s.heap a b).get? (ztD s.heap a b).objs.size = some _ := Heap.get?_push_size _ rfl
  have gD : (ztE s.heap a b).get? (ztC s.heap a b).objs.size = some _ := Heap.get?_push_of_some _ (Heap.get?_push_size _ rfl)
  have gC : (ztE s.heap a b).get? (ztB s.heap a b).objs.size = some _ := Heap.get?_push_of_some _ (Heap.get?_push_of_some _ (Heap.get?_push_size _ rfl))
  have gB : (ztE s.heap a b).get? (ztA s.heap a).objs.size = some _ := Heap.get?_push_of_some _ (Heap.get?_push_of_some _ (Heap.get?_push_of_some _ (Heap.get?_push_size _ rfl)))
  have gA : (ztE s.heap a b).get? s.heap.objs.size = some _ := Heap.get?_push_of_some _ (Heap.get?_push_of_some _ (Heap.get?_push_of_some _ (Heap.get?_push_of_some _ (Heap.get?_push_size _ rfl))))
  show _ ∧ _
  rw [zB, zC, zD] at gE
  rw [zA, zB] at gC
  rw [zC] at gD
  rw [zA] at gB
  rw [zD]
  exact ⟨⟨_, gE, rfl⟩, h _ _ rfl gE gC gD ⟨_, gA, rfl, rfl⟩ ⟨_, gB, rfl, rfl⟩ fun c o q => Heap.get?_push_of_some _ (Heap.get?_push_of_some _ (Heap.get?_push_of_some _ (Heap.get?_push_of_some _ (Heap.get?_push_of_some _ q))))⟩
end PySem

set_option Elab.async false
set_option linter.all false
set_option maxRecDepth 100000
/-! for .. in zip(t, u), both tuples -/
namespace L2
open PySem PySem.Spec PyProof.Rows
section
variable {X : Cx} {pins : List (Addr × Obj)} {σ : St} {H : Hp} {s : Shared}
/-- some untracked records have turned, one new object is laid and tracked -/
theorem Inv.turnLay {ch : List Addr} {h' : Heap} {T : Addr} {o : HO} {t' : Nat} (I : Inv X pins σ H s) (hf : ∀ b ∈ ch, FpOk X pins H b) (hT : s.heap.objs.size ≤ T) (k : ∀ b u, b ∉ ch → s.heap.get? b = some u → h'.get? b = some u)
    (new : ObjOk X.prog X.w (upd H T o) h' T o) : Inv X pins σ (upd H T o) { s with heap := h', toks := t' } := by
  have hTn : H T = none := I.hok.fresh hT
  have fT := I.fpOk hT hTn
  have tne : ∀ b u, H b = some u → b ≠ T := fun b u e => ne_of_none e hTn
  have nch : ∀ b u, H b = some u → b ∉ ch := fun b u e hb => by have := (hf b hb).1; rw [e] at this; cases this
  refine I.step (g' := s.gens) (d' := s.drawn) (ch := T :: ch) (fun b hb => ?_) (fun b u _ _ hc e _ => k b u (fun z => hc (List.mem_cons_of_mem _ z)) e) (fun b u _ _ hc e _ => ⟨u.slots, k b u (fun z => hc (List.mem_cons_of_mem _ z)) e⟩) (fun b u hc e n => ?_)
    (fun b u hc e => ⟨u, k b u (fun z => hc (List.mem_cons_of_mem _ z)) e⟩) (fun b xs e => by rw [upd_ne (tne b _ e)]; exact e) (fun b q xs e => by rw [upd_ne (tne b _ e)]; exact e) (fun b ps e => ⟨#[], by rw [upd_ne (tne b _ e), e]; simp⟩) (fun m hm => ?_) (fun b u e => ?_) I.bare
  · rcases List.mem_cons.mp hb with rfl | hb
    · exact ⟨fT.2.2.2.1, fT.2.1, fT.2.2.2.2.1, fT.2.2.2.2.2⟩
    · have f := hf b hb
      exact ⟨f.2.2.2.1, f.2.1, f.2.2.2.2.1, f.2.2.2.2.2⟩
  · rw [upd_ne fun z => hc (by rw [z]; exact List.mem_cons_self)]; exact n
  · obtain ⟨ob, es, ep, ho, r⟩ := hm
    exact ⟨ob, es, ep, k _ ob (fun z => (hf _ z).2.1 rfl) ho, r⟩
  · by_cases hb : b = T
    · subst hb; rw [upd_same] at e; cases e; exact new
    · rw [upd_ne hb] at e
      refine (I.hok b u e).stay (fun c v hc q => k c v ?_ q) (fun c q => by rw [upd_ne (tne c _ q)]; exact q) fun c xs q => by rw [upd_ne (tne c _ q)]; exact q
      rcases hc with rfl | hc
      · exact nch _ _ e
      · exact nch _ _ hc
/-- some untracked records have turned -/
theorem Inv.turnN {ch : List Addr} {h' : Heap} {t' : Nat} (I : Inv X pins σ H s) (hf : ∀ b ∈ ch, FpOk X pins H b) (k : ∀ b u, b ∉ ch → s.heap.get? b = some u → h'.get? b = some u) : Inv X pins σ H { s with heap := h', toks := t' } := by
  have nch : ∀ b u, H b = some u → b ∉ ch := fun b u e hb => by have := (hf b hb).1; rw [e] at this; cases this
  refine I.step (g' := s.gens) (d' := s.drawn) (ch := ch) (fun b hb => ?_) (fun b u _ _ hc e _ => k b u hc e) (fun b u _ _ hc e _ => ⟨u.slots, k b u hc e⟩) (fun b u hc e n => n)
    (fun b u hc e => ⟨u, k b u hc e⟩) (fun b xs e => e) (fun b q xs e => e) (fun b ps e => ⟨#[], by rw [e]; simp⟩) (fun m hm => ?_) (fun b u e => ?_) I.bare
  · have f := hf b hb
    exact ⟨f.2.2.2.1, f.2.1, f.2.2.2.2.1, f.2.2.2.2.2⟩
  · obtain ⟨ob, es, ep, ho, r⟩ := hm
    exact ⟨ob, es, ep, k _ ob (fun z => (hf _ z).2.1 rfl) ho, r⟩
  · refine (I.hok b u e).stay (fun c v hc q => k c v ?_ q) (fun c q => q) fun c xs q => q
    rcases hc with rfl | hc
    · exact nch _ _ e
    · exact nch _ _ hc
end
/-- turn i: a new pair of the i-th parts of the tuples at a and at b -/
def Itz (K : PySem.W.Frag) (a b : Addr) : It :=
  ⟨fun i H => ∃ xs ys x y, SqT K H a xs ∧ SqT K H b ys ∧ xs[i]? = some x ∧ ys[i]? = some y,
   fun i H v H' => ∃ T x y, H T = none ∧ v = .ref T ∧ H' = upd H T (.tup [x, y]) ∧ ∀ xs ys, SqT K H a xs → SqT K H b ys → xs[i]? = some x ∧ ys[i]? = some y,
   fun i H => ∃ xs ys, SqT K H a xs ∧ SqT K H b ys ∧ xs.length ≤ i⟩
/-- the records of a zip at its i-th turn -/
def zipT (z TI TO i1 i2 a b : Addr) (f0 : Value) (i : Nat) (h : Heap) : Prop := IsZip h z TI TO f0 ∧ IsPair h TI (.ref i1) (.ref i2) ∧ (∃ u v, IsPair h TO u v) ∧ h.IsTupleIter i1 a i ∧ h.IsTupleIter i2 b i
theorem turn_zip {P : Program} {w : World} {K : PySem.W.Frag} {es : List Expr} {kk : Nat} {tp : Pos} {z TI TO i1 i2 a b : Addr} (D : ZipApart z TI TO i1 i2 a b) (D1 : TI ≠ a) (D2 : TI ≠ b) :
    Turn P w K (.Tuple es kk tp) (Itz K a b) [z, TI, TO, i1, i2] z (fun i h => zipT z TI TO i1 i2 a b .none i h) where
  mem := by simp
  obj := fun i h ⟨hz, hTI, ⟨u, v, hTO⟩, ⟨o1, e1, _, d1⟩, ⟨o2, e2, _, d2⟩⟩ q hq => by
    simp only [List.mem_cons, List.not_mem_nil, or_false] at hq
    rcases hq with rfl | rfl | rfl | rfl | rfl
    · exact ⟨_, hz, fun v z => nomatch z⟩
    · exact ⟨_, hTI, fun v z => nomatch z⟩
    · exact ⟨_, hTO, fun v z => nomatch z⟩
    · exact ⟨_, e1, fun v z => by rw [d1] at z; cases z⟩
    · exact ⟨_, e2, fun v z => by rw [d2] at z; cases z⟩
  keep := fun i h h' ⟨hz, hTI, ⟨u, v, hTO⟩, ⟨o1, e1, r1⟩, ⟨o2, e2, r2⟩⟩ k => ⟨k _ (by simp) _ hz, k _ (by simp) _ hTI, ⟨u, v, k _ (by simp) _ hTO⟩, ⟨o1, k _ (by simp) _ e1, r1⟩, ⟨o2, k _ (by simp) _ e2, r2⟩⟩
  item := by
    intro X hP hw hK hc i pins s σ H E I hf st hg
    subst hP hw hK
    obtain ⟨xs, ys, x, y, hq1, hq2, hx, hy⟩ := hg
    obtain ⟨its, rv, p1, hz1⟩ := I.tuple hq1
    obtain ⟨its2, rv2, p2, hz2⟩ := I.tuple hq2
    obtain ⟨u, hu, ru⟩ := rv.get hx
    obtain ⟨v, hv, rv'⟩ := rv2.get hy
    obtain ⟨hz, hTI, hTO, h1, h2⟩ := st
    have Z : ZipSt X.prog X.w (fun k h => h.IsTupleIter i1 a k ∧ h.IsTuple a its.toArray ∧ a ≠ i1) (fun k h => h.IsTupleIter i2 b k ∧ h.IsTuple b its2.toArray ∧ b ≠ i2) z TI TO i1 i2 a b .none i s.heap := ⟨hz, hTI, hTO, ⟨h1, p1, D.l1i1⟩, ⟨h2, p2, D.l2i2⟩⟩
    refine pyNext_zipN inn_tup inn_tup D Z (x := u) (y := v) (by simpa using hu) (by simpa using hv) fun h' Z' hT kp => ?_
    refine ⟨_, rfl, ?_⟩
    refine wpAny_letOwnedTupleGo_zip (s := { s with heap := h' }) Z'.zip fun h2' hz2' sb => ?_
    have hTz : s.heap.objs.size ≠ z := Nat.ne_of_gt (Heap.lt_size hz)
    have hT2 : IsPair h2' s.heap.objs.size u v := (sb.2 _ hTz).trans hT
    have kp2 : ∀ c o, c ∉ [z, TI, TO, i1, i2] → s.heap.get? c = some o → h2'.get? c = some o := fun c o hc e => (sb.2 c fun q => hc (by simp [q])).trans (kp c o (fun q => hc (by simp [q])) (fun q => hc (by simp [q])) (fun q => hc (by simp [q])) (fun q => hc (by simp [q])) e)
    have hTn : H s.heap.objs.size = none := I.hok.fresh (Nat.le_refl _)
    refine ⟨.ref s.heap.objs.size, upd H s.heap.objs.size (.tup [x, y]), I.turnLay (t' := s.toks) hf (Nat.le_refl _) kp2 ⟨by show 2 ≤ sizeLine; decide, [u, v], .cons ru (.cons rv' .nil), ⟨_, hT2, rfl, _, rfl⟩⟩, rfl, ⟨_, x, y, hTn, rfl, rfl, fun xs' ys' q1 q2 => ?_⟩, ?_, fun b' hb => ?_⟩
    · rw [I.tuple_inj q1 hq1, I.tuple_inj q2 hq2]; exact ⟨hx, hy⟩
    · obtain ⟨u', v', hTO'⟩ := Z'.out
      have ii1 := Z'.one.1
      have ii2 := Z'.two.1
      exact ⟨hz2', (sb.2 _ D.TIz).trans Z'.ins, ⟨u', v', (sb.2 _ D.TOz).trans hTO'⟩, ii1.extBut sb.extBut D.i1z, ii2.extBut sb.extBut D.i2z⟩
    · obtain ⟨ob, e, _⟩ : ∃ ob, s.heap.get? b' = some ob ∧ True := by
        simp only [List.mem_cons, List.not_mem_nil, or_false] at hb
        obtain ⟨u', v', hTO'⟩ := hTO
        obtain ⟨o1, e1, _⟩ := h1
        obtain ⟨o2, e2, _⟩ := h2
        rcases hb with rfl | rfl | rfl | rfl | rfl
        · exact ⟨_, hz, trivial⟩
        · exact ⟨_, hTI, trivial⟩
        · exact ⟨_, hTO', trivial⟩
        · exact ⟨_, e1, trivial⟩
        · exact ⟨_, e2, trivial⟩
      rw [upd_ne (Nat.ne_of_lt (Heap.lt_size e))]
      exact (hf b' hb).1
  done := by
    intro X hP hw hK hc i pins s σ H E I hf st hg
    subst hP hw hK
    obtain ⟨xs, ys, hq1, hq2, hx⟩ := hg
    obtain ⟨its, rv, p1, hz1⟩ := I.tuple hq1
    obtain ⟨its2, rv2, p2, hz2⟩ := I.tuple hq2
    obtain ⟨hz, hTI, hTO, h1, h2⟩ := st
    have Z : ZipSt X.prog X.w (fun k h => h.IsTupleIter i1 a k ∧ h.IsTuple a its.toArray ∧ a ≠ i1) (fun k h => h.IsTupleIter i2 b k ∧ h.IsTuple b its2.toArray ∧ b ≠ i2) z TI TO i1 i2 a b .none i s.heap := ⟨hz, hTI, hTO, ⟨h1, p1, D.l1i1⟩, ⟨h2, p2, D.l2i2⟩⟩
    have hl := rv.length
    exact pyNext_zipEnd (I.ok.hd hc) inn_tup D Z (by simp; omega) fun h' kp => ⟨rfl, I.turnN (t' := s.toks) hf fun c o hcc e => kp c o (fun q => hcc (by simp [q])) (fun q => hcc (by simp [q])) e⟩
  self := fun A i s Q E st h => wpAny_pyIter_zip st.1 h
section
variable {X : Cx}
def iZip (K : PySem.W.Frag) (t : TA) : TI := fun σ H R => t σ H fun vs H1 => ∃ a b, vs = [.ref a, .ref b] ∧ (∃ xs, SqT K H1 a xs) ∧ (∃ ys, SqT K H1 b ys) ∧ R (Itz K a b) H1
theorem pi_zipT {es : List Expr} {kk : Nat} {tp : Pos} {a b : Expr} {t : TA} {p pos : Pos} (hm : X.mg "zip" = none) (ha : PA X [a, b] t) (hg : Gl X "zip" := by rfl) (hs : starEach [a, b] X.env = [(false, eval a X.env), (false, eval b X.env)] := by rfl) (hs2 : starEach [b] X.env = [(false, eval b X.env)] := by rfl) :
    PI X (.Tuple es kk tp) (.Call (.Name "zip" p) [a, b] [] pos) (iZip X.K t) := by
  intro pins s σ H R I h
  refine Call_ (ld_blt I hg hm PyProof.Rows.boot_zip (PyProof.Rows.callWith_type1 (thn (ha pos pins s σ H _ I h) fun us s1 ⟨vs, H1, I1, r1, q1⟩ => ?_) (by rw [hs, hs2]) (by rw [hs2]; rfl)))
  obtain ⟨a, b, rfl, ⟨xs, hq1⟩, ⟨ys, hq2⟩, q⟩ := q1
  obtain ⟨u1, u2, rfl, ru1, ru2⟩ := Vals.two r1
  cases ru1; cases ru2
  obtain ⟨its, rv, p1, hz1⟩ := I1.tuple hq1
  obtain ⟨its2, rv2, p2, hz2⟩ := I1.tuple hq2
  refine call_zipT p1 p2 fun h' n hn g1 g2 g3 g4 g5 kp => ?_
  have ha : a < n := by rw [hn]; exact p1.lt
  have hb : b < n := by rw [hn]; exact p2.lt
  have I2 : Inv X pins σ H1 { s1 with heap := h' } := I1.kept (t' := s1.toks) kp
  have D : ZipApart (n + 4) (n + 2) (n + 3) n (n + 1) a b := zipApart_new ha hb
  refine wpAny_pyIter_zip (s := { s1 with heap := h' }) g1 ?_
  refine ⟨n + 4, [n + 4, n + 2, n + 3, n, n + 1], _, _, H1, rfl, I2, turn_zip D (Nat.ne_of_gt (Nat.lt_of_lt_of_le ha (Nat.le_add_right _ _))) (Nat.ne_of_gt (Nat.lt_of_lt_of_le hb (Nat.le_add_right _ _))), ⟨g1, g2, ⟨_, _, g3⟩, g4, g5⟩, fun c hc => ?_, q⟩
  have hcn : s1.heap.objs.size ≤ c := by
    simp only [List.mem_cons, List.not_mem_nil, or_false] at hc
    rw [← hn]
    rcases hc with rfl | rfl | rfl | rfl | rfl
    · exact Nat.le_add_right _ _
    · exact Nat.le_add_right _ _
    · exact Nat.le_add_right _ _
    · exact Nat.le_refl _
    · exact Nat.le_add_right _ _
  exact I1.fpOk hcn (I1.hok.fresh hcn)
end
end L2
namespace FL
open PySem L2
def zipD (xs ys : List D) : List D := List.zipWith (fun x y => .tup [x, y]) xs ys
theorem walk_zip {G : Hp} {σ : St} {t : TA} {xs ys : List D} {K : PySem.W.Frag} (hl : xs.length = ys.length) (h : EvA t G σ [.tup xs, .tup ys]) : Walk (iZip K t) G σ (zipD xs ys) := fun M H s l R k => h M H s l _ fun vs H1 s1 rs => by
  obtain ⟨v1, v2, rfl, r1, r2⟩ := reps2 rs
  obtain ⟨a, us, rfl, h1, h2⟩ := r1.of_tup
  obtain ⟨b, ws, rfl, h3, h4⟩ := r2.of_tup
  refine ⟨a, b, rfl, ⟨us, SqT.of (but_some h1).2⟩, ⟨ws, SqT.of (but_some h3).2⟩, k _ H1 s1 (fun j d M' H' hj hs hlv => ?_) (fun M' H' hs => ?_)⟩
  · have ha := (but_some (hs _ _ h1)).2
    have hb := (but_some (hs _ _ h3)).2
    unfold zipD at hj
    rw [List.getElem?_zipWith] at hj
    cases e1 : xs[j]? with
    | none => rw [e1] at hj; cases hj
    | some x =>
      cases e2 : ys[j]? with
      | none => rw [e1, e2] at hj; cases hj
      | some y =>
        rw [e1, e2] at hj
        cases hj
        obtain ⟨u, hu, ru⟩ := h2.get e1
        obtain ⟨w, hw, rw'⟩ := h4.get e2
        refine ⟨⟨us, ws, u, w, SqT.of ha, SqT.of hb, hu, hw⟩, fun v H'' ⟨T, x', y', hT, e, eH, hy⟩ => ?_⟩
        obtain ⟨q1, q2⟩ := hy us ws (SqT.of ha) (SqT.of hb)
        rw [hu] at q1; rw [hw] at q2
        cases q1; cases q2
        subst e eH
        refine ⟨same_new hT _, ?_⟩
        exact rep_new_tup hlv hT (.cons (ru.mono hs) (.cons (rw'.mono hs) .nil))
  · have ha := (but_some (hs _ _ h1)).2
    have hb := (but_some (hs _ _ h3)).2
    refine ⟨us, ws, SqT.of ha, SqT.of hb, ?_⟩
    rw [h2.length]
    simp [zipD, hl]
end FL

set_option Elab.async false
set_option linter.all false
set_option maxRecDepth 100000
/-! matching: the program's way and the law's way, over data -/
namespace FL
open PySem L2
def D.name : D → Str
  | .str s => s
  | _ => Str.empty
def blankD : D → Bool
  | .str s => Txt.isupper ⟨#[s.cps.getD 0 0]⟩
  | _ => false
def hasN (F : Pairs0) (x : D) : Bool := F.any fun p => decide (D.str p.1 = x)
def mStep (F : Pairs0) (x y : D) : Option Pairs0 := if (blankD x && !hasN F x) = true then some (F ++ [(x.name, y)]) else if lookD F x = y then some F else none
def mRun : Pairs0 → List (D × D) → Option Pairs0
  | F, [] => some F
  | F, p :: r => (mStep F p.1 p.2).bind fun F' => mRun F' r
def pStep (g : D → Bool) (P : Pairs0) (x y : D) : Option Pairs0 := if g x = true then some (P ++ [(x.name, y)]) else if x = y then some P else none
def pRun (g : D → Bool) : Pairs0 → List (D × D) → Option Pairs0
  | P, [] => some P
  | P, p :: r => (pStep g P p.1 p.2).bind fun P' => pRun g P' r
def clash (all : Pairs0) (p : Str × D) : Bool := all.any fun q => decide (q.1 = p.1) && !decide (q.2 = p.2)
def dRun (all : Pairs0) : Pairs0 → Pairs0 → Option Pairs0
  | due, [] => some due
  | due, p :: r => if clash all p = true then none else dRun all (if p ∈ due then due else due ++ [p]) r
theorem hasN_iff {F : Pairs0} {s : Str} : hasN F (.str s) = true ↔ s ∈ F.map (·.1) := by
  unfold hasN
  rw [List.any_eq_true]
  constructor
  · rintro ⟨p, hp, e⟩
    have := of_decide_eq_true e
    injection this with this
    exact List.mem_map.mpr ⟨p, hp, this⟩
  · intro h
    obtain ⟨p, hp, e⟩ := List.mem_map.mp h
    exact ⟨p, hp, decide_eq_true (by rw [e])⟩
/-- no two things under one name -/
def Cons (P : Pairs0) : Prop := ∀ p ∈ P, ∀ q ∈ P, p.1 = q.1 → p.2 = q.2
/-- F has each pair of P once, and no other -/
structure Ded (P F : Pairs0) : Prop where
  mem : ∀ p, p ∈ F ↔ p ∈ P
  run : ∀ (all : Pairs0), (∀ p ∈ P, clash all p = false) → ∀ r, dRun all [] (P ++ r) = dRun all F r
theorem look_mem {F : Pairs0} (hc : Cons F) {p : Str × D} (hp : p ∈ F) : lookD F (.str p.1) = p.2 := by
  have key : ∀ (Q : Pairs0) (acc : D), (∀ q ∈ Q, q ∈ F) → (acc = p.2 ∨ p ∈ Q) → Q.foldl (fun acc q => if D.str q.1 = D.str p.1 then q.2 else acc) acc = p.2 := by
    intro Q
    induction Q with
    | nil => intro acc _ h; rcases h with h | h; exact h; cases h
    | cons q r ih =>
      intro acc hq h
      show r.foldl _ (if D.str q.1 = D.str p.1 then q.2 else acc) = p.2
      refine ih _ (fun t ht => hq t (List.mem_cons_of_mem _ ht)) ?_
      by_cases e : D.str q.1 = D.str p.1
      · rw [if_pos e]
        injection e with e
        exact .inl (hc q (hq q List.mem_cons_self) p hp e)
      · rw [if_neg e]
        rcases h with h | h
        · exact .inl h
        · rcases List.mem_cons.mp h with rfl | h
          · exact absurd rfl e
          · exact .inr h
  exact key F _ (fun q h => h) (.inr hp)
theorem look_none {F : Pairs0} {x : D} (h : hasN F x = false) : lookD F x = x := by
  have key : ∀ (Q : Pairs0) (acc : D), hasN Q x = false → Q.foldl (fun acc q => if D.str q.1 = x then q.2 else acc) acc = acc := by
    intro Q
    induction Q with
    | nil => intro acc _; rfl
    | cons q r ih =>
      intro acc hq
      have hq' : (decide (D.str q.1 = x) || hasN r x) = false := hq
      rw [Bool.or_eq_false_iff] at hq'
      show r.foldl _ (if D.str q.1 = x then q.2 else acc) = acc
      rw [if_neg (of_decide_eq_false hq'.1)]
      exact ih acc hq'.2
  exact key F x h
theorem clash_false {P : Pairs0} (h : Cons P) {p : Str × D} (hp : p ∈ P) : clash P p = false := by
  unfold clash
  rw [List.any_eq_false]
  intro q hq e
  rw [Bool.and_eq_true] at e
  have e1 := of_decide_eq_true e.1
  have e2 : decide (q.2 = p.2) = false := by simpa using e.2
  exact of_decide_eq_false e2 (h q hq p hp e1)
theorem Ded.nil : Ded [] [] := ⟨fun p => Iff.rfl, fun all _ r => rfl⟩
theorem Ded.snoc {P F : Pairs0} (h : Ded P F) (p : Str × D) : Ded (P ++ [p]) (if p ∈ F then F else F ++ [p]) := by
  refine ⟨fun q => ?_, fun all hc r => ?_⟩
  · by_cases hp : p ∈ F
    · rw [if_pos hp, List.mem_append, ← h.mem]
      constructor
      · exact .inl
      · rintro (z | z)
        · exact z
        · rw [List.mem_singleton.mp z]; exact hp
    · rw [if_neg hp, List.mem_append, List.mem_append, h.mem]
  · rw [List.append_assoc, h.run all (fun q hq => hc q (List.mem_append_left _ hq))]
    show (if clash all p = true then none else dRun all (if p ∈ F then F else F ++ [p]) r) = _
    rw [hc p (List.mem_append_right _ (List.mem_singleton.mpr rfl)), if_neg Bool.false_ne_true]
theorem dRun_none {all : Pairs0} : ∀ (Q due : Pairs0), (∃ p ∈ Q, clash all p = true) → dRun all due Q = none
  | [], _, ⟨p, hp, _⟩ => by cases hp
  | q :: r, due, ⟨p, hp, e⟩ => by
    show (if clash all q = true then none else _) = none
    by_cases hq : clash all q = true
    · rw [if_pos hq]
    · rw [if_neg hq]
      rcases List.mem_cons.mp hp with rfl | hp
      · exact absurd e hq
      · exact dRun_none r _ ⟨p, hp, e⟩
theorem dRun_bad {P : Pairs0} (h : ¬ Cons P) : dRun P [] P = none := by
  refine dRun_none P [] ?_
  false_or_by_contra
  rename_i hn
  refine h fun p hp q hq e => ?_
  false_or_by_contra
  rename_i hne
  refine hn ⟨q, hq, ?_⟩
  unfold clash
  rw [List.any_eq_true]
  exact ⟨p, hp, by simp [e, hne]⟩
theorem pRun_bad {g : D → Bool} : ∀ (L : List (D × D)) (P : Pairs0), ¬ Cons P → (pRun g P L).bind (fun P => dRun P [] P) = none
  | [], P, h => dRun_bad h
  | p :: r, P, h => by
    show ((pStep g P p.1 p.2).bind fun P' => pRun g P' r).bind _ = none
    unfold pStep
    by_cases hg : g p.1 = true
    · rw [if_pos hg]
      exact pRun_bad r _ fun hc => h fun a ha b hb e => hc a (List.mem_append_left _ ha) b (List.mem_append_left _ hb) e
    · rw [if_neg hg]
      by_cases e : p.1 = p.2
      · rw [if_pos e]; exact pRun_bad r P h
      · rw [if_neg e]; rfl
/-- THE TWO WAYS AGREE -/
theorem agree {g : D → Bool} : ∀ (L : List (D × D)) (P F : Pairs0), Cons P → Ded P F → (∀ p ∈ L, blankD p.1 = g p.1 ∧ (g p.1 = true → ∃ s, p.1 = .str s) ∧ (g p.1 = false → hasN F p.1 = false)) → (∀ s, g (.str s) = false → ∀ p ∈ L, g p.1 = true → ¬ p.1 = .str s) →
    mRun F L = (pRun g P L).bind fun P => dRun P [] P
  | [], P, F, hc, hd, _, _ => by
    show some F = dRun P [] P
    have := hd.run P (fun p hp => clash_false hc hp) []
    rw [List.append_nil] at this
    rw [this]
    rfl
  | (x, y) :: r, P, F, hc, hd, hL, hs => by
    obtain ⟨h1, h2, h3⟩ := hL (x, y) List.mem_cons_self
    simp only at h1 h2 h3
    show (mStep F x y).bind (fun F' => mRun F' r) = ((pStep g P x y).bind fun P' => pRun g P' r).bind _
    unfold mStep pStep
    by_cases hg : g x = true
    · obtain ⟨s, rfl⟩ := h2 hg
      rw [h1, hg, if_pos rfl]
      have hL' : ∀ (F' : Pairs0), (∀ q, q ∈ F' → q ∈ F ∨ q = (s, y)) → ∀ p ∈ r, blankD p.1 = g p.1 ∧ (g p.1 = true → ∃ s, p.1 = .str s) ∧ (g p.1 = false → hasN F' p.1 = false) := fun F' hF p hp => by
        obtain ⟨a, b, c⟩ := hL p (List.mem_cons_of_mem _ hp)
        refine ⟨a, b, fun z => ?_⟩
        cases e : hasN F' p.1 with
        | false => rfl
        | true =>
          exfalso
          obtain ⟨q, hq, e2⟩ := List.any_eq_true.mp e
          have e2 := of_decide_eq_true e2
          rcases hF q hq with w | w
          · have := c z
            have t : hasN F p.1 = true := List.any_eq_true.mpr ⟨q, w, decide_eq_true e2⟩
            rw [this] at t; cases t
          · subst w
            rw [← e2, hg] at z; cases z
      have hs' : ∀ s', g (.str s') = false → ∀ p ∈ r, g p.1 = true → ¬ p.1 = .str s' := fun s' z p hp => hs s' z p (List.mem_cons_of_mem _ hp)
      cases hn : hasN F (.str s) with
      | false =>
        rw [show (true && !false) = true from rfl, if_pos rfl]
        have nm : ∀ q ∈ P, ¬ q.1 = s := fun q hq e => by
          have : hasN F (.str s) = true := List.any_eq_true.mpr ⟨q, (hd.mem q).mpr hq, decide_eq_true (by rw [e])⟩
          rw [hn] at this; cases this
        have hc' : Cons (P ++ [(s, y)]) := fun a ha b hb e => by
          rcases List.mem_append.mp ha with ha | ha <;> rcases List.mem_append.mp hb with hb | hb
          · exact hc a ha b hb e
          · have := List.mem_singleton.mp hb; subst this; exact absurd e (nm a ha)
          · have := List.mem_singleton.mp ha; subst this; exact absurd e.symm (nm b hb)
          · rw [List.mem_singleton.mp ha, List.mem_singleton.mp hb]
        have hd' : Ded (P ++ [(s, y)]) (F ++ [(s, y)]) := by
          have := hd.snoc (s, y)
          rw [if_neg fun z => nm _ ((hd.mem _).mp z) rfl] at this
          exact this
        exact agree r (P ++ [(s, y)]) (F ++ [(s, y)]) hc' hd' (hL' _ fun q hq => (List.mem_append.mp hq).imp id List.mem_singleton.mp) hs'
      | true =>
        rw [show (true && !true) = false from rfl, if_neg Bool.false_ne_true]
        obtain ⟨q, hq, e⟩ := List.any_eq_true.mp hn
        have e := of_decide_eq_true e
        injection e with e
        have hqP := (hd.mem q).mp hq
        have cF : Cons F := fun a ha b hb e => hc a ((hd.mem a).mp ha) b ((hd.mem b).mp hb) e
        have hl : lookD F (.str s) = q.2 := by rw [← e]; exact look_mem cF hq
        rw [hl]
        by_cases hy : q.2 = y
        · rw [if_pos hy]
          have hqe : q = (s, y) := by rw [← e, ← hy]
          have hc' : Cons (P ++ [(s, y)]) := fun a ha b hb e => by
            have in' : ∀ t, t ∈ P ++ [(s, y)] → t ∈ P := fun t ht => by
              rcases List.mem_append.mp ht with ht | ht
              · exact ht
              · rw [List.mem_singleton.mp ht, ← hqe]; exact hqP
            exact hc a (in' a ha) b (in' b hb) e
          have hd' : Ded (P ++ [(s, y)]) F := by
            have := hd.snoc (s, y)
            rw [if_pos (by rw [← hqe]; exact hq)] at this
            exact this
          exact agree r (P ++ [(s, y)]) F hc' hd' (hL' F fun q hq => .inl hq) hs'
        · rw [if_neg hy]
          show none = _
          symm
          refine pRun_bad r (P ++ [(s, y)]) fun hcc => hy ?_
          exact hcc q (List.mem_append_left _ hqP) (s, y) (List.mem_append_right _ (List.mem_singleton.mpr rfl)) e
    · have hg' : g x = false := by simpa using hg
      rw [h1, hg', Bool.false_and, if_neg Bool.false_ne_true, if_neg Bool.false_ne_true, look_none (h3 hg')]
      by_cases e : x = y
      · rw [if_pos e, if_pos e]
        exact agree r P F hc hd (fun p hp => hL p (List.mem_cons_of_mem _ hp)) (fun s' z p hp => hs s' z p (List.mem_cons_of_mem _ hp))
      · rw [if_neg e, if_neg e]
        rfl
end FL

set_option Elab.async false
set_option linter.all false
set_option maxRecDepth 100000
/-! isupper, hidden dicts, items stored -/
namespace FL
open PySem L2
section
variable {X : Cx} {a : Expr} {ta : TE} {apos cpos : Pos}
def rUp : V → List V → Hp → VK → Prop := fun x xs H Q => ∃ z, x = .str z ∧ xs = [] ∧ Q (.bl (Txt.isupper z)) H
theorem mt_isupper : MtR X "str.isupper" rUp := by
  intro pins s σ H x xs v us Q I rx rv h
  obtain ⟨z, rfl, rfl, q⟩ := h
  obtain ⟨t, rfl⟩ := rx
  cases rv
  exact SC.isupper ⟨.bl _, H, I, rfl, q⟩
theorem pe_upper (h : PE X a ta) (hbase : attributeBase a "isupper" X.env (eval a X.env) = eval a X.env := by rfl) (hline : (apos.endLine == cpos.line) = true := by rfl) : PE X (.Call (.Attribute a "isupper" apos) [] [] cpos) (tBM0 X.K "str" rUp ta) :=
  pe_bm0 PySem.F.plainAttrs_str PySem.F.slot_str_isupper PySem.F.type_str_isupper mt_isupper h hbase hline
end
section
variable {G : Hp} {σ : St} {ta tb te : TE} {d : D} {K : PySem.W.Frag}
theorem ev_upper {x : Str} (h : EvM ta G σ (.str x)) : EvM (tBM0 K "str" rUp ta) G σ (.bl (Txt.isupper x)) :=
  fun M H s l Q k => h M H s l _ fun v H1 s1 r1 => by
    rw [r1.of_str]
    exact ⟨rfl, x, rfl, rfl, k _ H1 s1 (.bl _)⟩
theorem ev_ixs {x : Str} {i : Int} {c : Nat} (hz : x.length ≤ sizeLine) (hc : atI x.cps.toList i = some c) (ha : EvM ta G σ (.str x)) (hb : EvM tb G σ (.int i)) : EvM (tOp (rIx K) ta tb) G σ (.str ⟨#[c]⟩) :=
  ev_op2 (fun M H v y l rv ry Q k => .inr (.inr ⟨x, i, c, rv.of_str, ry.of_int, hz, hc, k _ H (Same.refl _) (.str _)⟩)) ha hb
theorem ev_isN (h : EvM ta G σ d) (hd : ∀ (H : Hp) v, Rep H v d → decide (v = .non) = decide (d = .non)) : EvM (tOp (fun x y H Q => y = .non ∧ Q (.bl (decide (x = .non))) H) ta (tC .non)) G σ (.bl (decide (d = .non))) :=
  fun M H s l Q k => h M H s l _ fun v H1 s1 r1 => ⟨rfl, by rw [hd _ v r1]; exact k _ H1 s1 (.bl _)⟩
theorem isN_of {H : Hp} {v : V} {d : D} (r : Rep H v d) : decide (v = .non) = decide (d = .non) := by cases r <;> simp
end
/-! tests where the heap is known, hidden things too -/
def TV (tt : TT) (σ : St) (H : Hp) (b : Bool) : Prop := ∀ H1, Same H H1 → ∀ Q : Bool → Hp → Prop, (∀ H', Same H1 H' → Q b H') → tt σ H1 Q
section
variable {σ : St} {δ : Dn} {M : List Addr} {H : Hp} {tt tu : TT} {ta ty te : TE} {E : Ends} {b c : Bool} {d : D} {K : PySem.W.Frag}
theorem TV.of (l : Live M H) (h : EvT tt (but H M) σ b) : TV tt σ H b := fun H1 s1 Q k => h M H1 (s1.but M) (l.same s1) Q k
theorem tv_and (h : TV tt σ H b) (h2 : b = true → TV tu σ H c) : TV (tAnd tt tu) σ H (b && c) := fun H1 s1 Q k => h H1 s1 _ fun H2 s2 => by
  cases b with
  | true => rw [if_pos rfl]; exact h2 rfl H2 (s1.trans s2) _ fun H3 s3 => k H3 (s2.trans s3)
  | false => rw [if_neg Bool.false_ne_true]; exact k H2 s2
theorem s_ifV {ts us : TS} (l : Live M H) (hE : EnvR (but H M) σ δ) (h : TV tt σ H b) (k1 : b = true → ∀ H', Same H H' → Live M H' → EnvR (but H' M) σ δ → ts E σ H') (k2 : b = false → ∀ H', Same H H' → Live M H' → EnvR (but H' M) σ δ → us E σ H') : tIfS tt ts us E σ H :=
  h H (Same.refl _) _ fun H' s => by
    cases b with
    | true => rw [if_pos rfl]; exact k1 rfl H' s (l.same s) (hE.same s)
    | false => rw [if_neg Bool.false_ne_true]; exact k2 rfl H' s (l.same s) (hE.same s)
theorem merge_snoc (F : Pairs0) (n : Str) (y : D) : mergeK [] (pairK (F ++ [(n, y)])) = putK (mergeK [] (pairK F)) (Sum.inr n) y.toV := by
  simp [mergeK, pairK, List.foldl_append]
theorem has_val {F : Pairs0} {x : D} (hx : x.sc = true) : (valV (mergeK [] (pairK F)) x.key).isSome = hasN F x := by
  rw [valV_merge]
  have key : ∀ (Q : Pairs0) (o : Option V), ((pairK Q).foldl (fun o p => if x.key = p.1 then some p.2 else o) o).isSome = (o.isSome || hasN Q x) := by
    intro Q
    induction Q with
    | nil => intro o; simp [pairK, hasN]
    | cons p r ih =>
      intro o
      show ((pairK r).foldl _ (if x.key = Sum.inr p.1 then some p.2.toV else o)).isSome = _
      rw [ih]
      show _ = (o.isSome || (decide (D.str p.1 = x) || hasN r x))
      by_cases e : D.str p.1 = x
      · have e2 : x.key = Sum.inr p.1 := by rw [← e]; rfl
        rw [if_pos e2, decide_eq_true e]
        simp
      · have e2 : ¬ x.key = Sum.inr p.1 := fun z => e ((key_inj (a := D.str p.1) (b := x) rfl hx).mp z.symm)
        rw [if_neg e2, decide_eq_false e]
        simp
  have := key F none
  simpa [valV] using this
/-- x not in d, d hidden -/
theorem tv_notin {i : Nat} {p : Addr} {F : Pairs0} {x : D} (e : σ[i]? = some (some (.ref p))) (hp : H p = some (.dK (mergeK [] (pairK F)))) (hx : x.sc = true) (l : Live M H) (h : EvM ty (but H M) σ x) : TV (tB (tDNotIn ty (tVar i))) σ H (!hasN F x) :=
  fun H1 s1 Q k => h M H1 (s1.but M) (l.same s1) _ fun y H2 s2 ry => ⟨.ref p, e, p, valV (mergeK [] (pairK F)) x.key, rfl, by rw [(rep_sc hx ry).2]; exact DGet.k (s2 _ _ (s1 _ _ hp)), _, rfl, by rw [has_val hx]; exact k H2 s2⟩
/-- d.get(x, x) != y, d hidden -/
theorem tv_getne {i j m : Nat} {p : Addr} {F : Pairs0} {x y : D} (e : σ[i]? = some (some (.ref p))) (hp : H p = some (.dK (mergeK [] (pairK F)))) (hx : x.sc = true) (hy : y.sc = true) (hF : ∀ q ∈ F, q.2.sc = true) (l : Live M H) (h : EvM (tVar j) (but H M) σ x) (h2 : EvM (tVar m) (but H M) σ y) :
    TV (tTest (tOp (fun x y H Q => rNeD x y H Q ∨ rNe x y H Q) (tDGet2 (tVar i) (tVar j) (tVar j)) (tVar m))) σ H (!decide (lookD F x = y)) :=
  fun H1 s1 Q k => by
    have hp1 := s1 _ _ hp
    refine ⟨.ref p, e, p, rfl, .inl ⟨_, .inl hp1⟩, h M H1 (s1.but M) (l.same s1) _ fun v H2 s2 rv => h M H2 ((s1.trans s2).but M) (l.same (s1.trans s2)) _ fun z H3 s3 rz => ?_⟩
    obtain ⟨e1, e2⟩ := rep_sc hx rv
    obtain ⟨e3, _⟩ := rep_sc hx rz
    refine ⟨valV (mergeK [] (pairK F)) x.key, by rw [e2]; exact DGet.k (s3 _ _ (s2 _ _ hp1)), ?_⟩
    rw [e3, (look_ok hx hF).1]
    refine h2 M H3 ((s1.trans (s2.trans s3)).but M) (l.same (s1.trans (s2.trans s3))) _ fun u H4 s4 ru => ?_
    have hl := (look_ok (ps := F) hx hF).2
    have hcm := sc_cmp hl hy
    exact .inl ⟨lookD F x, y, ⟨M, rep_toV hl, ru, hcm.1, hcm.2⟩, _, rfl, k H4 (s2.trans (s3.trans s4))⟩
/-- d[x] = y, d hidden -/
theorem s_dput {i j m : Nat} {p : Addr} {F : Pairs0} {x y : D} (l : Live M H) (hE : EnvR (but H M) σ δ) (hpM : p ∈ M) (e : σ[i]? = some (some (.ref p))) (hp : H p = some (.dK (mergeK [] (pairK F)))) (hx : ∃ n, x = .str n) (hy : y.sc = true) (hz : F.length < 1000) (h : EvM (tVar j) (but H M) σ x) (h2 : EvM (tVar m) (but H M) σ y)
    (k : ∀ H', (∀ b o, b ≠ p → H b = some o → H' b = some o) → Live M H' → H' p = some (.dK (mergeK [] (pairK (F ++ [(x.name, y)])))) → EnvR (but H' M) σ δ → E.nx σ H') : sDPut (tVar i) (tVar j) (tVar m) E σ H := by
  obtain ⟨n, rfl⟩ := hx
  refine h2 M H (Same.refl _) l _ fun v H1 s1 rv => ⟨.ref p, e, h M H1 (s1.but M) (l.same s1) _ fun u H2 s2 ru => ?_⟩
  have hp2 := s2 _ _ (s1 _ _ hp)
  have eu := (rep_sc (d := .str n) rfl ru).2
  have ev := (rep_sc hy rv).1
  have hlen : (mergeK [] (pairK F)).length < sizeLine := by
    have := length_mergeK (pairK F) []
    simp only [pairK, List.length_map, List.length_nil, Nat.zero_add] at this
    exact small1000 (by unfold pairK; omega)
  refine ⟨p, _, rfl, by rw [eu]; exact DPut.k (k := Sum.inr n) hp2 hlen, ?_⟩
  have eb : but (upd H2 p (.dK (putK (mergeK [] (pairK F)) (Sum.inr n) v))) M = but H2 M := but_upd hpM
  refine k _ (fun b o hb q => by rw [upd_ne hb]; exact s2 _ _ (s1 _ _ q)) (l.same (s1.trans s2)).upd ?_ ?_
  · rw [upd_same, ev]
    show some (HO.dK (putK _ _ _)) = some (HO.dK (mergeK [] (pairK (F ++ [(n, y)]))))
    rw [merge_snoc]
  · rw [eb]; exact hE.same (s1.trans s2)
end
end FL

set_option Elab.async false
set_option linter.all false
set_option maxRecDepth 100000
/-! hidden dicts and lists: made, stored into, asked -/
namespace FL
open PySem L2
theorem same_keep {H0 H H' : Hp} {a : Addr} (s : Same H0 H) (h : H0 a = none) (k : ∀ b o, b ≠ a → H b = some o → H' b = some o) : Same H0 H' := fun b o e => k b o (fun z => by rw [z, h] at e; cases e) (s b o e)
theorem none_of {H0 H : Hp} {p : Addr} {H' : Hp} (s : Same H0 H) (k : ∀ b o, H b = some o → b ≠ p ∧ H' b = some o) : H0 p = none := by
  cases e : H0 p with
  | none => rfl
  | some o => exact absurd rfl (k p o (s p o e)).1
theorem pair_cmp {n m : Str} {t u : D} (ht : t.sc = true) (hu : u.sc = true) : cmpb (.tup [.str n, t]) (.tup [.str m, u]) = true ∧ (D.tup [.str n, t]).dep ≤ 40 := by
  have h1 := sc_cmp ht hu
  refine ⟨?_, ?_⟩
  · show (cmpb (.str n) (.str m) && (cmpb t u && true)) = true
    rw [h1.1]; rfl
  · have h2 : t.dep = 0 := by
      cases t with
      | int _ => rfl
      | str _ => rfl
      | _ => simp [D.sc] at ht
    show max (D.dep (.str n)) (max t.dep 0) + 1 ≤ 40
    rw [h2]
    simp [D.dep]
theorem pairD_cmp : ∀ {ps qs : Pairs0}, (∀ p ∈ ps, p.2.sc = true) → (∀ p ∈ qs, p.2.sc = true) → cmpbs (pairD ps) (pairD qs) = true ∧ D.deps (pairD ps) ≤ 1
  | [], [], _, _ => ⟨rfl, Nat.zero_le _⟩
  | [], _ :: _, _, _ => ⟨rfl, Nat.zero_le _⟩
  | p :: r, qs, h1, h2 => by
    have e2 : p.2.dep = 0 := by
      have := h1 p List.mem_cons_self
      cases e : p.2 with
      | int _ => rfl
      | str _ => rfl
      | _ => rw [e] at this; simp [D.sc] at this
    have hd : (D.tup [.str p.1, p.2]).dep ≤ 1 := by
      show max (D.dep (.str p.1)) (max p.2.dep 0) + 1 ≤ 1
      rw [e2]; simp [D.dep]
    cases qs with
    | nil =>
      refine ⟨rfl, ?_⟩
      have ih := (pairD_cmp (ps := r) (qs := []) (fun q hq => h1 q (List.mem_cons_of_mem _ hq)) (fun q hq => by cases hq)).2
      show max (D.tup [.str p.1, p.2]).dep (D.deps (pairD r)) ≤ 1
      omega
    | cons q t =>
      have ih := pairD_cmp (ps := r) (qs := t) (fun q hq => h1 q (List.mem_cons_of_mem _ hq)) (fun q hq => h2 q (List.mem_cons_of_mem _ hq))
      refine ⟨?_, ?_⟩
      · show (cmpb (.tup [.str p.1, p.2]) (.tup [.str q.1, q.2]) && cmpbs (pairD r) (pairD t)) = true
        rw [(pair_cmp (h1 p List.mem_cons_self) (h2 q List.mem_cons_self)).1, ih.1]; rfl
      · show max (D.tup [.str p.1, p.2]).dep (D.deps (pairD r)) ≤ 1
        omega
theorem pairL_cmp {ps qs : Pairs0} (h1 : ∀ p ∈ ps, p.2.sc = true) (h2 : ∀ p ∈ qs, p.2.sc = true) : cmpb (.lst (pairD ps)) (.lst (pairD qs)) = true ∧ (D.lst (pairD ps)).dep ≤ 40 := by
  obtain ⟨a, b⟩ := pairD_cmp h1 h2
  refine ⟨a, ?_⟩
  show D.deps (pairD ps) + 1 ≤ 40
  omega
theorem pairD_snoc (ps : Pairs0) (n : Str) (t : D) : pairD (ps ++ [(n, t)]) = pairD ps ++ [.tup [.str n, t]] := by simp [pairD]
theorem mem_pairD {ps : Pairs0} {n : Str} {t : D} : D.tup [.str n, t] ∈ pairD ps ↔ (n, t) ∈ ps := by
  unfold pairD
  rw [List.mem_map]
  constructor
  · rintro ⟨p, hp, e⟩
    have : p = (n, t) := by
      obtain ⟨a, b⟩ := p
      simp at e
      rw [e.1, e.2]
    rw [← this]; exact hp
  · intro h
    exact ⟨_, h, rfl⟩
theorem pairD_at {ps : Pairs0} {j : Nat} {d : D} (h : (pairD ps)[j]? = some d) : ∃ p, ps[j]? = some p ∧ d = .tup [.str p.1, p.2] := by
  unfold pairD at h
  rw [List.getElem?_map] at h
  cases e : ps[j]? with
  | none => rw [e] at h; cases h
  | some y => rw [e] at h; exact ⟨y, rfl, (Option.some.inj h).symm⟩
theorem sc_snoc {ps : Pairs0} {n : Str} {t : D} (h : ∀ p ∈ ps, p.2.sc = true) (ht : t.sc = true) : ∀ p ∈ ps ++ [(n, t)], p.2.sc = true := fun p hp => by
  rcases List.mem_append.mp hp with q | q
  · exact h p q
  · rw [List.mem_singleton.mp q]; exact ht
section
variable {σ : St} {δ : Dn} {M : List Addr} {H : Hp} {tt tu : TT} {ta ty tz te : TE} {E : Ends} {b c : Bool} {d : D} {ds : List D} {K : PySem.W.Frag}
/-- a new object is laid, hidden -/
theorem env_hide {i : Nat} {p : Addr} {o : HO} (hE : EnvR (but H M) σ δ) (hp : H p = none) : EnvR (but (upd H p o) (p :: M)) (σ.set i (some (.ref p))) (δ.set i none) := by
  have h2 : EnvR (but (upd H p o) (p :: M)) σ δ := ⟨hE.len, fun j d q => let ⟨v, a, b⟩ := hE.get j d q; ⟨v, a, rep_hide hp b⟩⟩
  exact h2.off i _
/-- name = dict(pairs), the dict hidden -/
theorem s_dict {i k : Nat} {ps : Pairs0} (l : Live M H) (hE : EnvR (but H M) σ δ) (hi : i < δ.length) (hk : δ[k]? = some (some (.lst (pairD ps)))) (hs : ∀ p ∈ ps, p.2.sc = true)
    (q : ∀ p σ' H', (∀ j : Nat, j ≠ i → σ'[j]? = σ[j]?) → σ'[i]? = some (some (.ref p)) → p ∉ M → H' p = some (.dK (mergeK [] (pairK ps))) → Live (p :: M) H' → (∀ b o, H b = some o → b ≠ p ∧ H' b = some o) → EnvR (but H' (p :: M)) σ' (δ.set i none) → E.nx σ' H') :
    tAsg (tCB (fun xs H Q => ∃ a vs kvs, xs = [.ref a] ∧ SqL K H a vs ∧ Pairs K H vs kvs ∧ ∀ p, H p = none → Q (.ref p) (upd H p (.dK (mergeK [] kvs)))) (tCons (tVar k) tNil)) (gName i) E σ H := by
  obtain ⟨v, hv, rv⟩ := hE.get k _ hk
  obtain ⟨a, us, rfl, h1, h2⟩ := rv.of_lst
  refine ⟨.ref a, hv, a, us, pairK ps, rfl, SqL.of (but_some h1).2, pairs_rep hs h2, fun p hp => ?_⟩
  have hl := hE.len
  refine q p _ _ (fun j hj => List.getElem?_set_ne (Ne.symm hj)) (List.getElem?_set_self (by omega)) (l.fresh hp) upd_same (l.upd.cons upd_same) (fun b o e => ?_) (env_hide hE hp)
  have nb : b ≠ p := ne_of_none e hp
  exact ⟨nb, by rw [upd_ne nb]; exact e⟩
/-- name = list(seen), the copy hidden -/
theorem s_copyS {i k : Nat} (l : Live M H) (hE : EnvR (but H M) σ δ) (hi : i < δ.length) (hk : δ[k]? = some (some (.lst ds)))
    (q : ∀ p vs σ' H', (∀ j : Nat, j ≠ i → σ'[j]? = σ[j]?) → σ'[i]? = some (some (.ref p)) → p ∉ M → H' p = some (.lst vs) → Reps (but H' (p :: M)) vs ds → Live (p :: M) H' → (∀ b o, H b = some o → b ≠ p ∧ H' b = some o) → EnvR (but H' (p :: M)) σ' (δ.set i none) → E.nx σ' H') :
    tAsg (tCB (fun xs H Q => ∃ p ys, xs = [.ref p] ∧ (SqL K H p ys ∨ SqT K H p ys) ∧ ∀ l, H l = none → Q (.ref l) (upd H l (.lst ys))) (tCons (tVar k) tNil)) (gName i) E σ H := by
  obtain ⟨v, hv, rv⟩ := hE.get k _ hk
  obtain ⟨a, us, rfl, h1, h2⟩ := rv.of_lst
  exact s_copy l hE hi hv (but_some h1).2 h2 fun p σ' H' a b c d e f g h => q p us σ' H' a b c d e f g h
/-- name = {two pairs}, the dict hidden -/
theorem s_disp2 {i : Nat} {n m : Str} {x y : D} {tx tw : TE} (l : Live M H) (hE : EnvR (but H M) σ δ) (hi : i < δ.length) (hx : x.sc = true) (hy : y.sc = true)
    (h1 : EvM tx (but H M) σ x) (h2 : EvM tw (but H M) σ y)
    (q : ∀ p σ' H', (∀ j : Nat, j ≠ i → σ'[j]? = σ[j]?) → σ'[i]? = some (some (.ref p)) → p ∉ M → H' p = some (.dK (mergeK [] (pairK [(n, x), (m, y)]))) → Live (p :: M) H' → (∀ b o, H b = some o → b ≠ p ∧ H' b = some o) → EnvR (but H' (p :: M)) σ' (δ.set i none) → E.nx σ' H') :
    tAsg (tDisp [(tC (.str n), tx), (tC (.str m), tw)]) (gName i) E σ H := by
  intro p hp
  have s0 := same_new hp (.dK [])
  have hl := hE.len
  have sB : Same (but H M) (but (upd H p (.dK [])) (p :: M)) := fun b o e => by
    obtain ⟨e1, e2⟩ := but_some e
    have nb : b ≠ p := ne_of_none e2 hp
    rw [but_out (by simp [nb, e1]), upd_ne nb]; exact e2
  have l1 : Live (p :: M) (upd H p (.dK [])) := l.upd.cons upd_same
  refine h1 (p :: M) _ sB l1 _ fun v1 H1 s1 r1 => h2 (p :: M) H1 (sB.trans (s1.but _)) (l1.same s1) _ fun v2 H2 s2 r2 => ?_
  have hp2 : H2 p = some (.dK []) := s2 _ _ (s1 _ _ upd_same)
  refine ⟨hp2, pairK [(n, x), (m, y)], by rw [(rep_sc hx r1).1, (rep_sc hy r2).1]; rfl, (show 2 ≤ 15 by decide), ?_⟩
  refine q p _ _ (fun j hj => List.getElem?_set_ne (Ne.symm hj)) (List.getElem?_set_self (by omega)) (l.fresh hp) upd_same ((l1.same (s1.trans s2)).upd) (fun b o e => ?_) ?_
  · have nb : b ≠ p := ne_of_none e hp
    exact ⟨nb, by rw [upd_ne nb]; exact s2 _ _ (s1 _ _ (s0 _ _ e))⟩
  · have h3 : EnvR (but H2 (p :: M)) σ δ := (hE.mono sB).same (s1.trans s2)
    have : but (upd H2 p (.dK (mergeK [] (pairK [(n, x), (m, y)])))) (p :: M) = but H2 (p :: M) := but_upd List.mem_cons_self
    rw [this]
    exact h3.off i _
/-- d[x] = y, d hidden, any key and value -/
theorem s_dputE {i : Nat} {p : Addr} {F : Pairs0} {n : Str} {y : D} (l : Live M H) (hE : EnvR (but H M) σ δ) (hpM : p ∈ M) (e : σ[i]? = some (some (.ref p))) (hp : H p = some (.dK (mergeK [] (pairK F)))) (hy : y.sc = true) (hz : F.length < 1000) (h : EvM ty (but H M) σ (.str n)) (h2 : EvM tz (but H M) σ y)
    (k : ∀ H', (∀ b o, b ≠ p → H b = some o → H' b = some o) → Live M H' → H' p = some (.dK (mergeK [] (pairK (F ++ [(n, y)])))) → EnvR (but H' M) σ δ → E.nx σ H') : sDPut (tVar i) ty tz E σ H := by
  refine h2 M H (Same.refl _) l _ fun v H1 s1 rv => ⟨.ref p, e, h M H1 (s1.but M) (l.same s1) _ fun u H2 s2 ru => ?_⟩
  have hp2 := s2 _ _ (s1 _ _ hp)
  have eu := (rep_sc (d := .str n) rfl ru).2
  have ev := (rep_sc hy rv).1
  have hlen : (mergeK [] (pairK F)).length < sizeLine := by
    have := length_mergeK (pairK F) []
    simp only [pairK, List.length_map, List.length_nil, Nat.zero_add] at this
    exact small1000 (by unfold pairK; omega)
  refine ⟨p, _, rfl, by rw [eu]; exact DPut.k (k := Sum.inr n) hp2 hlen, ?_⟩
  have eb : but (upd H2 p (.dK (putK (mergeK [] (pairK F)) (Sum.inr n) v))) M = but H2 M := but_upd hpM
  refine k _ (fun b o hb q => by rw [upd_ne hb]; exact s2 _ _ (s1 _ _ q)) (l.same (s1.trans s2)).upd ?_ ?_
  · rw [upd_same, ev]
    show some (HO.dK (putK _ _ _)) = some (HO.dK (mergeK [] (pairK (F ++ [(n, y)]))))
    rw [merge_snoc]
  · rw [eb]; exact hE.same (s1.trans s2)
/-- x not in ys, ys hidden -/
theorem tv_ninH {i : Nat} {a : Addr} {vs : List V} {es : List D} (hM : a ∉ M) (e : σ[i]? = some (some (.ref a))) (ha : H a = some (.lst vs)) (r : Reps (but H (a :: M)) vs es) (l : Live (a :: M) H) (hall : ∀ e ∈ es, cmpb e d = true ∧ e.dep ≤ 40) (h : EvM ty (but H (a :: M)) σ d) : TV (tTest (tOp (rInD true) ty (tVar i))) σ H (!decide (d ∈ es)) :=
  fun H1 s1 Q k => h (a :: M) H1 (s1.but _) (l.same s1) _ fun x H2 s2 rx => ⟨.ref a, e, M, d, es, rx.mono (but_mono fun b hb => List.mem_cons_of_mem _ hb), .inl (rep_show hM (s2 _ _ (s1 _ _ ha)) (r.mono ((s1.trans s2).but _))), hall, _, rfl, k H2 s2⟩
/-- ys[k] = y, ys hidden, y a scalar; the value and the place are read where M' is hidden -/
theorem s_lput {i : Nat} {a : Addr} {vs : List V} {n : Int} {M' : List Addr} {tx tv : TE} (l : Live M H) (hE : EnvR (but H M) σ δ) (ha' : a ∈ M) (e : σ[i]? = some (some (.ref a))) (ha : H a = some (.lst vs)) (r : Reps (but H M) vs ds) (hd : d.sc = true) (l' : Live M' H) (h : EvM tv (but H M') σ d) (hx : EvM tx (but H M') σ (.int n)) (hn : 0 ≤ n ∧ n < ds.length)
    (k : ∀ vs' H', (∀ b o, b ≠ a → H b = some o → H' b = some o) → Live M H' → H' a = some (.lst vs') → Reps (but H' M) vs' (ds.set n.toNat d) → EnvR (but H' M) σ δ → E.nx σ H') : tAsg tv (gSub (tVar i) tx rSetL) E σ H :=
  h M' H (Same.refl _) l' _ fun v H1 s1 rv => ⟨.ref a, e, hx M' H1 (s1.but M') (l'.same s1) _ fun u H2 s2 ru => by
    have ha2 := s2 _ _ (s1 _ _ ha)
    have hlen := r.length
    refine ⟨a, vs, n, n.toNat, rfl, ru.of_int, ha2, ?_, ?_⟩
    · unfold ixN
      rw [if_pos hn.1, if_pos (by omega)]
    · have eb : but (upd H2 a (.lst (vs.set n.toNat v))) M = but H2 M := but_upd ha'
      refine k _ _ (fun b o hb q => by rw [upd_ne hb]; exact s2 _ _ (s1 _ _ q)) (l.same (s1.trans s2)).upd upd_same ?_ ?_
      · rw [eb, (rep_sc hd rv).1]
        exact Reps.set (rep_toV hd) _ (r.mono ((s1.trans s2).but _))
      · rw [eb]; exact hE.same (s1.trans s2)⟩
/-- d[x] of a seen dict -/
theorem ev_dgetS {G : Hp} {i : Nat} {a : Addr} {ps : Pairs0} {n : Str} (e : σ[i]? = some (some (.ref a))) (hG : G a = some (.dK (mergeK [] (pairK ps)))) (hn : hasN ps (.str n) = true) (hp : ∀ p ∈ ps, p.2.sc = true) (h : EvM ty G σ (.str n)) : EvM (tDGet (tVar i) ty) G σ (lookD ps (.str n)) :=
  fun M H s l Q k => by
    have ha := (but_some (s _ _ hG)).2
    refine ⟨.ref a, e, h M H s l _ fun y H1 s1 ry => ?_⟩
    have ha1 := s1 _ _ ha
    have hv := has_val (F := ps) (x := .str n) rfl
    rw [hn] at hv
    obtain ⟨v, ev⟩ := Option.isSome_iff_exists.mp hv
    have hl := look_ok (ps := ps) (x := .str n) rfl hp
    rw [ev] at hl
    refine ⟨a, v, rfl, ?_, k _ H1 s1 ?_⟩
    · rw [(rep_sc (d := .str n) rfl ry).2, ← ev]; exact DGet.k ha1
    · have : v = (lookD ps (.str n)).toV := hl.1
      rw [this]; exact rep_toV hl.2
end
end FL

set_option Elab.async false
set_option linter.all false
set_option maxRecDepth 100000
/-! for .. in enumerate(list), reversed(list) -/
namespace L2
open PySem PySem.Spec PyProof.Rows
def Ite (K : PySem.W.Frag) (a : Addr) : It :=
  ⟨fun i H => ∃ xs x, SqL K H a xs ∧ xs[i]? = some x,
   fun i H v H' => ∃ T x, H T = none ∧ v = .ref T ∧ H' = upd H T (.tup [.int i, x]) ∧ ∀ xs, SqL K H a xs → xs[i]? = some x,
   fun i H => ∃ xs, SqL K H a xs ∧ xs.length ≤ i⟩
theorem turn_enum {P : Program} {w : World} {K : PySem.W.Frag} {es : List Expr} {kk : Nat} {tp : Pos} {e it a : Addr} (hne : e ≠ it) :
    Turn P w K (.Tuple es kk tp) (Ite K a) [e, it] e (fun i h => (∃ old, IsEnum h e it ((i : Nat) : Int) old) ∧ h.IsListIter it a i) where
  mem := by simp
  obj := fun i h ⟨⟨old, he⟩, ⟨o1, e1, _, d1⟩⟩ q hq => by
    simp only [List.mem_cons, List.not_mem_nil, or_false] at hq
    rcases hq with rfl | rfl
    · exact ⟨_, he, fun v z => nomatch z⟩
    · exact ⟨_, e1, fun v z => by rw [d1] at z; cases z⟩
  keep := fun i h h' ⟨⟨old, he⟩, ⟨o1, e1, r1⟩⟩ k => ⟨⟨old, k _ (by simp) _ he⟩, ⟨o1, k _ (by simp) _ e1, r1⟩⟩
  item := by
    intro X hP hw hK hc i pins s σ H E I hf st hg
    subst hP hw hK
    obtain ⟨xs, x, hq, hx⟩ := hg
    obtain ⟨its, rv, p, hz⟩ := I.list hq
    obtain ⟨u, hu, ru⟩ := rv.get hx
    obtain ⟨⟨old, he⟩, hit⟩ := st
    refine wpAny_pyNext_enum_item he hit p.isList (x := u) (by simpa using hu) hne fun h' heo hit' hT hzz kp => ?_
    refine ⟨_, rfl, ?_⟩
    refine wpAny_letOwnedTupleGo_enum (s := { s with heap := h', toks := s.toks + 1 }) heo fun h2' he2 sb => ?_
    have hTe : s.heap.objs.size ≠ e := Nat.ne_of_gt (Heap.lt_size he)
    have hT2 : h2'.get? s.heap.objs.size = some { cls := .type "tuple", data := .seq #[.int i s.toks, u] } := (sb.2 _ hTe).trans hT
    have kp2 : ∀ c o, c ∉ [e, it] → s.heap.get? c = some o → h2'.get? c = some o := fun c o hc e' => (sb.2 c fun q => hc (by simp [q])).trans (kp c o (fun q => hc (by simp [q])) (fun q => hc (by simp [q])) e')
    have hTn : H s.heap.objs.size = none := I.hok.fresh (Nat.le_refl _)
    refine ⟨.ref s.heap.objs.size, upd H s.heap.objs.size (.tup [.int i, x]), I.turnLay (t' := s.toks + 1) hf (Nat.le_refl _) kp2 ⟨by show 2 ≤ sizeLine; decide, [.int i s.toks, u], .cons ⟨_, rfl⟩ (.cons ru .nil), ⟨_, hT2, rfl, _, rfl⟩⟩, rfl, ⟨_, x, hTn, rfl, rfl, fun ys hy => by rw [I.list_inj hy hq]; exact hx⟩, ⟨⟨u, he2⟩, hit'.extBut sb.extBut (Ne.symm hne)⟩, fun b' hb => ?_⟩
    obtain ⟨ob, e', _⟩ : ∃ ob, s.heap.get? b' = some ob ∧ True := by
      simp only [List.mem_cons, List.not_mem_nil, or_false] at hb
      obtain ⟨o1, e1, _⟩ := hit
      rcases hb with rfl | rfl
      · exact ⟨_, he, trivial⟩
      · exact ⟨_, e1, trivial⟩
    rw [upd_ne (Nat.ne_of_lt (Heap.lt_size e'))]
    exact (hf b' hb).1
  done := by
    intro X hP hw hK hc i pins s σ H E I hf st hg
    subst hP hw hK
    obtain ⟨xs, hq, hx⟩ := hg
    obtain ⟨its, rv, p, hz⟩ := I.list hq
    obtain ⟨⟨old, he⟩, hit⟩ := st
    have hl := rv.length
    exact wpAny_pyNext_enum_end (I.ok.hd hc) he hit p.isList (by simp; omega) fun h' eb => ⟨rfl, I.turnN (t' := s.toks) hf fun c o hcc e => eb c o (fun q => hcc (by simp [q])) e⟩
  self := fun A i s Q E st h => let ⟨⟨_, he⟩, _⟩ := st; wpAny_pyIter_enum he h
/-- from the last on; n: how many there were when it was made -/
def Itv (K : PySem.W.Frag) (a : Addr) (n : Nat) : It :=
  ⟨fun i H => i < n ∧ ∃ xs x, SqL K H a xs ∧ xs.length = n ∧ xs[n - 1 - i]? = some x, fun i H x H' => H' = H ∧ ∀ xs, SqL K H a xs → xs[n - 1 - i]? = some x, fun i H => n ≤ i⟩
theorem turn_rev {P : Program} {w : World} {K : PySem.W.Frag} {tg : Expr} (a it : Addr) (n : Nat) : Turn P w K tg (Itv K a n) [it] it (fun i h => i ≤ n ∧ h.IsRevIter it a ((n : Int) - 1 - (i : Int))) where
  mem := by simp
  obj := fun i h st b hb => by
    have e : b = it := by simpa using hb
    subst e
    obtain ⟨_, o, e, c, d⟩ := st
    exact ⟨o, e, fun v z => by rw [d] at z; cases z⟩
  keep := fun i h h' st k => ⟨st.1, st.2.at fun o e => k it (by simp) o e⟩
  item := by
    intro X hP hw hK hc i pins s σ H E I hf st hg
    subst hP hw hK
    obtain ⟨hin, xs, x, hq, hn, hx⟩ := hg
    obtain ⟨its, rv, p, hz⟩ := I.list hq
    obtain ⟨u, hu, ru⟩ := rv.get hx
    obtain ⟨f0, f1, f2, f3, f4, f5⟩ := hf it (by simp)
    have e1 : (n : Int) - 1 - (i : Int) = ((n - 1 - i : Nat) : Int) := by omega
    have hit := st.2
    rw [e1] at hit
    refine wpAny_pyNext_rev_item hit p.isList (x := u) (by simpa using hu) fun h' st' sb => ?_
    have I1 : Inv X pins σ H { s with heap := h' } := I.turned (t' := s.toks) (fun b o hb e => (sb.2 b hb).trans e) f0 f1 f3 f4 f5
    have e2 : ((n - 1 - i : Nat) : Int) - 1 = (n : Int) - 1 - ((i + 1 : Nat) : Int) := by omega
    rw [e2] at st'
    obtain ⟨o, e, c, d⟩ := id st'
    exact ⟨u, rfl, go_of (s := { s with heap := h' }) e c d (by decide) ⟨x, H, I1, ru, ⟨rfl, fun ys hy => by rw [I.list_inj hy hq]; exact hx⟩, ⟨hin, st'⟩, fun b hb => (hf b hb).1⟩⟩
  done := by
    intro X hP hw hK hc i pins s σ H E I hf st hg
    subst hP hw hK
    obtain ⟨f0, f1, f2, f3, f4, f5⟩ := hf it (by simp)
    have hg : n ≤ i := hg
    have e : (n : Int) - 1 - (i : Int) = -1 := by have := st.1; omega
    have hit := st.2
    rw [e] at hit
    exact wpAny_pyNext_rev_end (I.ok.hd hc) hit fun h' eb => ⟨rfl, I.turned (t' := s.toks) (fun b o hb e => eb b o hb e) f0 f1 f3 f4 f5⟩
  self := fun _ _ _ _ _ st h => wpAny_pyIter_revIter st.2 h
section
variable {X : Cx}
def iEnum (K : PySem.W.Frag) (t : TA) : TI := fun σ H R => t σ H fun vs H1 => ∃ a, vs = [.ref a] ∧ (∃ xs, SqL K H1 a xs) ∧ R (Ite K a) H1
theorem pi_enum {es : List Expr} {kk : Nat} {tp : Pos} {a : Expr} {t : TA} {p pos : Pos} (hm : X.mg "enumerate" = none) (ha : PA X [a] t) (hg : Gl X "enumerate" := by rfl) (hs : starEach [a] X.env = [(false, eval a X.env)] := by rfl) (hs2 : starEach [] X.env = [] := by rfl) :
    PI X (.Tuple es kk tp) (.Call (.Name "enumerate" p) [a] [] pos) (iEnum X.K t) := by
  intro pins s σ H R I h
  refine Call_ (ld_blt I hg hm PyProof.Rows.boot_enumerate (PyProof.Rows.callWith_type1 (thn (ha pos pins s σ H _ I h) fun us s1 ⟨vs, H1, I1, r1, q1⟩ => ?_) (by rw [hs, hs2]) (by rw [hs2]; rfl)))
  obtain ⟨a, rfl, ⟨xs, hq⟩, q⟩ := q1
  obtain ⟨u1, rfl, ru1⟩ := Vals.one r1
  cases ru1
  obtain ⟨its, rv, p1, hz1⟩ := I1.list hq
  refine call_enumerate_list p1.isList fun h' g1 g2 hz kp => ?_
  have I2 : Inv X pins σ H1 { s1 with heap := h' } := I1.kept (t' := s1.toks) kp
  refine wpAny_pyIter_enum (s := { s1 with heap := h' }) g1 ?_
  refine ⟨s1.heap.objs.size + 1, [s1.heap.objs.size + 1, s1.heap.objs.size], _, _, H1, rfl, I2, turn_enum (Nat.succ_ne_self _), ⟨⟨_, g1⟩, g2⟩, fun c hc => ?_, q⟩
  have hcn : s1.heap.objs.size ≤ c := by
    simp only [List.mem_cons, List.not_mem_nil, or_false] at hc
    rcases hc with rfl | rfl
    · exact Nat.le_add_right _ _
    · exact Nat.le_refl _
  exact I1.fpOk hcn (I1.hok.fresh hcn)
def iRev (K : PySem.W.Frag) (t : TA) : TI := fun σ H R => t σ H fun vs H1 => ∃ a xs, vs = [.ref a] ∧ SqL K H1 a xs ∧ R (Itv K a xs.length) H1
theorem pi_rev {tg : Expr} {a : Expr} {t : TA} {p pos : Pos} (hm : X.mg "reversed" = none) (ha : PA X [a] t) (hg : Gl X "reversed" := by rfl) (hs : starEach [a] X.env = [(false, eval a X.env)] := by rfl) (hs2 : starEach [] X.env = [] := by rfl) :
    PI X tg (.Call (.Name "reversed" p) [a] [] pos) (iRev X.K t) := by
  intro pins s σ H R I h
  refine Call_ (ld_blt I hg hm PyProof.Rows.boot_reversed (PyProof.Rows.callWith_type1 (thn (ha pos pins s σ H _ I h) fun us s1 ⟨vs, H1, I1, r1, q1⟩ => ?_) (by rw [hs, hs2]) (by rw [hs2]; rfl)))
  obtain ⟨a, xs, rfl, hq, q⟩ := q1
  obtain ⟨u1, rfl, ru1⟩ := Vals.one r1
  cases ru1
  obtain ⟨its, rv, p1, hz1⟩ := I1.list hq
  have hl := rv.length
  refine call_reversed_list p1.isList ?_
  have I2 : Inv X pins σ H1 { s1 with heap := s1.heap.push (revObj a ((its.toArray.size : Int) - 1)) } := I1.kept (t' := s1.toks) fun b o e => Heap.get?_push_of_some _ e
  have g : (s1.heap.push (revObj a ((its.toArray.size : Int) - 1))).IsRevIter s1.heap.objs.size a ((xs.length : Int) - 1 - ((0 : Nat) : Int)) := by
    refine ⟨_, Heap.get?_push_size _ rfl, rfl, ?_⟩
    have : ((its.toArray.size : Nat) : Int) - 1 = (xs.length : Int) - 1 - ((0 : Nat) : Int) := by simp; omega
    rw [← this]
    rfl
  refine wpAny_pyIter_revIter (s := { s1 with heap := s1.heap.push (revObj a ((its.toArray.size : Int) - 1)) }) g ?_
  refine ⟨s1.heap.objs.size, [s1.heap.objs.size], _, _, H1, rfl, I2, turn_rev a _ xs.length, ⟨Nat.zero_le _, g⟩, fun b hb => ?_, q⟩
  have e : b = s1.heap.objs.size := by simpa using hb
  subst e
  exact I1.fpOk (Nat.le_refl _) (I1.hok.fresh (Nat.le_refl _))
end
end L2
namespace FL
open PySem L2
def enumD (xs : List D) : List D := xs.zipIdx.map fun p => .tup [.int p.2, p.1]
theorem enumD_at {xs : List D} {j : Nat} {d : D} (h : (enumD xs)[j]? = some d) : ∃ x, xs[j]? = some x ∧ d = .tup [.int j, x] := by
  unfold enumD at h
  rw [List.getElem?_map, List.getElem?_zipIdx] at h
  cases e : xs[j]? with
  | none => rw [e] at h; cases h
  | some x => rw [e] at h; exact ⟨x, rfl, by have := Option.some.inj h; rw [← this]; simp⟩
theorem walk_enum {G : Hp} {σ : St} {t : TA} {xs : List D} {K : PySem.W.Frag} (h : EvA t G σ [.lst xs]) : Walk (iEnum K t) G σ (enumD xs) := fun M H s l R k => h M H s l _ fun vs H1 s1 rs => by
  obtain ⟨v1, rfl, r1⟩ := reps1 rs
  obtain ⟨a, us, rfl, h1, h2⟩ := r1.of_lst
  refine ⟨a, rfl, ⟨us, SqL.of (but_some h1).2⟩, k _ H1 s1 (fun j d M' H' hj hs hlv => ?_) (fun M' H' hs => ?_)⟩
  · have ha := (but_some (hs _ _ h1)).2
    obtain ⟨x, e1, rfl⟩ := enumD_at hj
    obtain ⟨u, hu, ru⟩ := h2.get e1
    refine ⟨⟨us, u, SqL.of ha, hu⟩, fun v H'' ⟨T, x', hT, e, eH, hy⟩ => ?_⟩
    have q1 := hy us (SqL.of ha)
    rw [hu] at q1
    cases q1
    subst e eH
    refine ⟨same_new hT _, ?_⟩
    exact rep_new_tup hlv hT (.cons (.int _) (.cons (ru.mono hs) .nil))
  · have ha := (but_some (hs _ _ h1)).2
    refine ⟨us, SqL.of ha, ?_⟩
    rw [h2.length]
    simp [enumD]
theorem walk_rev {G : Hp} {σ : St} {t : TA} {xs : List D} {K : PySem.W.Frag} (h : EvA t G σ [.lst xs]) : Walk (iRev K t) G σ xs.reverse := fun M H s l R k => h M H s l _ fun vs H1 s1 rs => by
  obtain ⟨v1, rfl, r1⟩ := reps1 rs
  obtain ⟨a, us, rfl, h1, h2⟩ := r1.of_lst
  refine ⟨a, us, rfl, SqL.of (but_some h1).2, k _ H1 s1 (fun j d M' H' hj hs hlv => ?_) (fun M' H' hs => ?_)⟩
  · have ha := (but_some (hs _ _ h1)).2
    have hlen := h2.length
    have hjl : j < xs.length := by have := (List.getElem?_eq_some_iff.mp hj).1; simpa using this
    rw [List.getElem?_reverse hjl, ← hlen] at hj
    obtain ⟨u, hu, ru⟩ := h2.get hj
    refine ⟨⟨by omega, us, u, SqL.of ha, rfl, hu⟩, fun v H'' ⟨eH, hy⟩ => ?_⟩
    have q1 := hy us (SqL.of ha)
    rw [hu] at q1
    cases q1
    subst eH
    exact ⟨Same.refl _, ru.mono hs⟩
  · show us.length ≤ _
    rw [h2.length, List.length_reverse]
    exact Nat.le_refl _
end FL

set_option Elab.async false
set_option linter.all false
set_option maxRecDepth 100000
/-! d.setdefault(k, x), list(d) -/
namespace PySem
section
variable {prog : Program} {w : World} {K : Type} [DecidableEq K] {knd : HeapKind prog w K} {A : Around} {E : Value → Shared → Prop} {s : Shared}
theorem fl_dictSetDefault_heap {d a : Addr} {xs : List (K × Addr × Value)} {k : K} {dflt : Value} {Q : Value → Shared → Prop} (hu : knd.room A) (hkey : knd.is s.heap k a) (hm : s.heap.DictOfH knd d xs)
    (h1 : ∀ v, (atKey xs k).map (·.2) = some v → Q v { s with toks := s.toks + knd.draws k })
    (h2 : (atKey xs k).map (·.2) = none → ∀ h', h'.DictOfH knd d (storedH xs k a dflt) → Heap.SameBut d s.heap h' → Q dflt { s with heap := h', toks := s.toks + knd.draws k })
    (hsz : xs.length ≤ sizeLine := by size_fits) : wpAny (model prog w) A (dictSetDefault d (.ref a) dflt) Q E s := by
  obtain ⟨o, es, ep, ho, hc, hd, he, his, hn⟩ := hm
  unfold dictSetDefault
  try with_reducible refine wpAny_holding ?_
  refine wpAny_bind (knd.pyHash hu hkey ?_)
  refine wpAny_bind (wpAny_dictFind_heap (s := { s with toks := s.toks + knd.draws k }) hu hkey ho hd he his hn ?_ ?_)
  · intro hno
    have hnot : k ∉ xs.map (·.1) := not_mem_keys_of_get hno
    have hnone := atKey_none_of_get hno
    refine wpAny_bind (wpAny_rule (wpAny_bind (wpAny_updateDictKeys (hz := by have e := size_of_entries he; omega) (s := { s with toks := s.toks + knd.draws k }) ho hd (wpAny_pure (h2 (by rw [hnone]; rfl) _ ⟨_, _, ep + 1, Heap.get?_update_self _ ho (Obj.isFreed_of_dict (Obj.data_mapDictKeys hd _)),
      hc.mapDictKeys _, Obj.data_mapDictKeys hd _, ?_, ?_, ?_⟩ (Heap.SameBut.update ..))))))
    · rw [storedH_new hnone]
      simp [he, entryOfKey]
    · rw [storedH_new hnone]
      intro x hx
      rcases List.mem_append.mp hx with hx | hx
      · exact knd.keeps (his x hx) ho hd (Heap.SameBut.update ..)
      · simp only [List.mem_singleton] at hx
        subst hx
        exact knd.keeps hkey ho hd (Heap.SameBut.update ..)
    · rw [storedH_new hnone]
      rw [List.map_append, List.nodup_append]
      refine ⟨hn, by simp, ?_⟩
      intro x hx y hy
      simp only [List.map_cons, List.map_nil, List.mem_singleton] at hy
      subst hy
      exact fun e => hnot (e ▸ hx)
  · intro j p hj
    refine wpAny_bind (wpAny_dictEntries (s := { s with toks := s.toks + knd.draws k }) ho hd ?_)
    rw [entry_at he j, hj]
    exact wpAny_bind (wpAny_rule (wpAny_pure (h1 _ (by rw [atKey_of_get hn hj]; rfl))))
theorem fl_meetsH_setdefault (knd : HeapKind prog w K) (d a : Addr) (hd : (d == sysModules) = false) (dflt : Value) :
    MeetsIn prog w (Builtin.«dict.setdefault» ⟨[.ref d, .ref a, dflt], []⟩) (fun A R s => knd.room A.in1 ∧ ∃ k xs, knd.is s.heap k a ∧ s.heap.DictOfH knd d xs ∧ xs.length ≤ sizeLine ∧
      (∀ v, (atKey xs k).map (·.2) = some v → R (.ok (.ret v)) { s with toks := s.toks + knd.draws k }) ∧
      ((atKey xs k).map (·.2) = none → ∀ h', h'.DictOfH knd d (storedH xs k a dflt) → Heap.SameBut d s.heap h' → R (.ok (.ret dflt)) { s with heap := h', toks := s.toks + knd.draws k })) :=
  .of_wp fun A R s ⟨hu, k, xs, hkey, hm, hz, h1, h2⟩ => by
    unfold Builtin.«dict.setdefault»
    refine wpAny_bind ?_
    unfold Builtin.Dict.keyAndDefault
    refine wpAny_bind (wpAny_notOrdered_dict hm.typeIs ?_)
    show wpAny _ _ (pure (d, Value.ref a, some dflt)) _ _ s
    refine wpAny_pure ?_
    show wpAny _ _ (if (d == sysModules) = true then _ else (dictSetDefault d (.ref a) dflt >>= _)) _ _ s
    rw [if_neg (by rw [hd]; exact Bool.false_ne_true)]
    exact wpAny_bind (fl_dictSetDefault_heap (hsz := hz) hu hkey hm (fun v hv => wpAny_pure ⟨v, rfl, h1 v hv⟩) fun hn h' hm' hs' => wpAny_pure ⟨dflt, rfl, h2 hn h' hm' hs'⟩)
end
end PySem
namespace L2
open PySem PySem.Spec PyProof.Rows
/-- what d.setdefault(y, z) answers, and the heap behind it -/
def DSet (H : Hp) (a : Addr) (y z r : V) (H' : Hp) : Prop := (DGet H a y (some r) ∧ H' = H ∧ ∃ o, H a = some o) ∨ (DGet H a y none ∧ r = z ∧ DPut H a y z H')
section
variable {X : Cx} {pins : List (Addr × Obj)} {σ : St} {H : Hp} {s : Shared} {a : Addr} {y z v : V} {u r : Value} {A : Around} {E : Value → Shared → Prop}
theorem d_setdefault {H' : Hp} {Q : Value → Shared → Prop} (hu : A.units + 1 < cLine) (I : Inv X pins σ H s) (g : DSet H a y z v H') (ry : RelV y u) (rz : RelV z r) (h : ∀ w' s', Inv X pins σ H' s' → RelV v w' → Q w' s') :
    wpAny (model X.prog X.w) A (call (.builtin "dict.setdefault") [.ref a, u, r]) Q E s := by
  rcases g with ⟨g, rfl, ho⟩ | ⟨g, rfl, p⟩
  · rcases g with ⟨kvs, k, e, ey, l⟩ | ⟨kvs, k, b, e, ey, eb, l⟩
    · subst ey
      obtain ⟨zz, hd, vs, rel, dd⟩ := dk_rd I.hok e
      obtain ⟨w', hw, rw'⟩ := RelO.some_of (v := v) (o := valueAt vs k) (by rw [l]; exact rel.val k)
      refine call_meetsIn PySem.F.slot_dict_setdefault dd.typeIs PySem.F.entry_dict_setdefault (PySem.F.args_dict_setdefault_3 _ _ _) (kt_meets_setdefault (mixKind X.prog X.w) a (kV_is ry) hd r) ⟨vs, dd, by rw [← rel.length]; exact zz, fun v' hv' => ?_, fun hn => by rw [hw] at hn; cases hn⟩
      rw [hw] at hv'
      cases hv'
      exact h _ _ (I.tok _) rw'
    · subst ey
      cases (show u = Value.ref b from ry)
      obtain ⟨zz, hd, xs, rel, dd⟩ := dt_rd I.hok e
      obtain ⟨w', hw, rw'⟩ := RelO.some_of (v := v) (o := (atKey xs k).map (·.2)) (by rw [l]; exact rel.val k)
      refine call_meetsIn PySem.F.slot_dict_setdefault dd.typeIs PySem.F.entry_dict_setdefault (PySem.F.args_dict_setdefault_3 _ _ _) (fl_meetsH_setdefault (tupleKind (mixKind X.prog X.w)) a b hd r) ⟨tupleKind_room_in1 hu, k, xs, key_of I.hok eb, dd, by rw [← Paired.length rel]; exact zz, fun v' hv' => ?_, fun hn => by rw [hw] at hn; cases hn⟩
      rw [hw] at hv'
      cases hv'
      exact h _ _ (I.tok _) rw'
  · rcases p with ⟨kvs, k, e, ey, l, eH⟩ | ⟨kvs, k, b, e, ey, eb, l, eH⟩
    · subst ey eH
      obtain ⟨zz, hd, vs, rel, dd⟩ := dk_of I.hok e
      have hg : valV kvs k = none := by
        rcases g with ⟨kvs', k', e', ey', l'⟩ | ⟨kvs', k', b', e', ey', eb', l'⟩
        · have e1 : kV k = kV k' := ey'
          have : k = k' := by
            cases k <;> cases k' <;> simp [kV] at e1 <;> rw [e1]
          subst this
          rcases e' with e' | e'
          · rw [e] at e'; cases e'; exact l'.symm
          · rw [e] at e'; simp at e'
        · cases k <;> cases ey'
      have hn : valueAt vs k = none := RelO.none_of (by rw [← hg]; exact rel.val k)
      have hl : (putK kvs k v).length ≤ sizeLine := by have := length_putK kvs k v; omega
      refine call_meetsIn PySem.F.slot_dict_setdefault dd.typeIs PySem.F.entry_dict_setdefault (PySem.F.args_dict_setdefault_3 _ _ _) (kt_meets_setdefault (mixKind X.prog X.w) a (kV_is ry) hd r) ⟨vs, dd, by rw [← rel.length]; exact zz, fun v' hv' => (by rw [hn] at hv'; cases hv'), fun _ h' dd' hs => h _ _ ?_ rz⟩
      have he : ∃ q, h'.get? a = some q := let ⟨q, _, _, hq, _⟩ := dd'; ⟨q, hq⟩
      exact d_write I (by rw [e]; exact True.intro) hs he (dk_new hl hd (rel.put k rz) dd')
    · subst ey eH
      cases (show u = Value.ref b from ry)
      obtain ⟨zz, hd, xs, rel, dd⟩ := dt_of I.hok e
      have hg : valV kvs k = none := by
        rcases g with ⟨kvs', k', e', ey', l'⟩ | ⟨kvs', k', b', e', ey', eb', l'⟩
        · cases k' <;> cases ey'
        · cases ey'
          rw [eb] at eb'
          have e1 : k.map kV = k'.map kV := by injection eb' with e2; injection e2
          have inj : ∀ (p q : List Key), p.map kV = q.map kV → p = q := by
            intro p
            induction p with
            | nil => intro q h; cases q <;> first | rfl | cases h
            | cons c t ih =>
              intro q h
              cases q with
              | nil => cases h
              | cons c' t' =>
                obtain ⟨h1, h2⟩ := List.cons.inj h
                have : c = c' := by cases c <;> cases c' <;> simp [kV] at h1 <;> rw [h1]
                rw [this, ih t' h2]
          have : k = k' := inj _ _ e1
          subst this
          rcases e' with e' | e'
          · rw [e] at e'; cases e'; exact l'.symm
          · rw [e] at e'; simp at e'
      have hn : (atKey xs k).map (·.2) = none := RelO.none_of (by rw [← hg]; exact rel.val k)
      have hz : xs.length ≤ sizeLine := by rw [← Paired.length rel]; exact zz
      have hl : (putK kvs k v).length ≤ sizeLine := by have := length_putK kvs k v; omega
      refine call_meetsIn PySem.F.slot_dict_setdefault dd.typeIs PySem.F.entry_dict_setdefault (PySem.F.args_dict_setdefault_3 _ _ _) (fl_meetsH_setdefault (tupleKind (mixKind X.prog X.w)) a b hd r) ⟨tupleKind_room_in1 hu, k, xs, key_of I.hok eb, dd, hz, fun v' hv' => (by rw [hn] at hv'; cases hv'), fun _ h' dd' hs => h _ _ ?_ rz⟩
      obtain ⟨q, es, ep, hq, h2, h3, h4, _, h5⟩ := dd'
      refine d_write I (by rw [e]; exact True.intro) hs ⟨q, hq⟩ ⟨hl, hd, _, (rel.put k eb rz).keeps fun c ys ec => ?_, q, es, ep, hq, h2, h3, h4, h5⟩
      rw [upd_ne (ne_of ec e (fun z => nomatch z))]
      exact ec
end
def tDSet (td ty tx : TE) : TE := fun σ H Q => td σ H fun x H1 => ∃ a, x = .ref a ∧ IsD H1 a ∧ ty σ H1 fun y H2 => tx σ H2 fun z H3 => ∃ r H4, DSet H3 a y z r H4 ∧ Q r H4
theorem pe_dset {X : Cx} {o e f : Expr} {apos cpos : Pos} {td ty tx : TE} (hu : X.A.units + 1 < cLine) (ho : PE X o td) (he : PE X e ty) (hf : PE X f tx) (m : M2 X o "setdefault" apos e f cpos) : PE X (.Call (.Attribute o "setdefault" apos) [e, f] [] cpos) (tDSet td ty tx) := by
  intro pins s σ H Q I h
  refine wpAny_Call_method m.base m.few m.line PySem.F.plainAttrs_dict PySem.F.slot_dict_setdefault PySem.F.type_dict_setdefault (thn (ho pins s σ H _ I h) fun u s1 ⟨x, H1, I1, rx, a, ex, d, q1⟩ => ?_)
  subst ex
  obtain rfl : u = Value.ref a := rx
  obtain ⟨t1, t2, _⟩ := isD_at I1 d
  refine ⟨t1, t2, ?_⟩
  rw [m.trees]
  refine Calls.callWith_builtin rfl (Calls.evalArgs_plain (Calls.spliced_cons (thn (he pins s1 σ H1 _ I1 q1) fun iv s2 ⟨y, H2, I2, ry, q2⟩ =>
    Calls.spliced_cons (thn (hf pins s2 σ H2 _ I2 q2) fun fv s3 ⟨z, H3, I3, rz, r, H4, g, q3⟩ => Calls.spliced_nil ?_))))
  exact d_setdefault hu I3 g ry rz fun w' s4 I4 rw' => ⟨r, H4, I4, rw', q3⟩
end L2

set_option Elab.async false
set_option linter.all false
set_option maxRecDepth 100000
/-! list(d), all(list of truths), xs.insert(i, x) -/
namespace L2
open PySem PySem.Spec PyProof.Rows
section
variable {X : Cx}
theorem kV_of {P : Program} {w : World} {k : Key} {u : Value} (h : (mixKind P w).is k u = true) : RelV (kV k) u := by
  rw [mixKind_is] at h
  rcases keyIs_shape h with ⟨i, t, rfl, rfl⟩ | ⟨x, t, rfl, rfl⟩
  · exact ⟨t, rfl⟩
  · exact ⟨t, rfl⟩
theorem call_list_dict (hc : X.calm = true) : CallR X (.type "list") (fun xs H Q => ∃ a kvs, xs = [.ref a] ∧ Rd H a (.dK kvs) ∧ ∀ l, H l = none → Q (.ref l) (upd H l (.lst (kvs.map fun kv => kV kv.1)))) := by
  intro pins s σ H xs us Q I r h
  obtain ⟨a, kvs, rfl, e, q⟩ := h
  obtain ⟨u, rfl, rx⟩ := vals1 r
  cases rx
  obtain ⟨z, hd, vs, rel, dd⟩ := dk_rd I.hok e
  obtain ⟨ep, hat⟩ := dd.dictAt
  have hl := rel.length
  refine PySem.W.kdl_call (PySem.W.kdl_dict (knd := mixKind X.prog X.w) (kvs := vs) (ep := ep) hd) (I.ok.hd hc) hat (by rw [← hl]; exact z) fun h' tk acc' c' hk hS hacc => ?_
  have rv : Vals (kvs.map fun kv => kV kv.1) acc'.toList := by
    have key : ∀ (ks : List (Key × V)) (ws : List (Key × Value)) (as : List Value), KV ks ws → as.length = ws.length → (∀ (j : Nat) v, as[j]? = some v → ∃ k x, ws[j]? = some (k, x) ∧ (mixKind X.prog X.w).is k v = true) → Vals (ks.map fun kv => kV kv.1) as := by
      intro ks ws as rk
      induction rk generalizing as with
      | nil => intro hl _; cases as with
        | nil => exact .nil
        | cons _ _ => cases hl
      | @cons p q ps qs hpq t ih =>
        intro hl hv
        cases as with
        | nil => cases hl
        | cons v as =>
          obtain ⟨k, x, h1, h2⟩ := hv 0 v rfl
          have h1 : q = (k, x) := Option.some.inj h1
          refine .cons ?_ (ih as (Nat.succ.inj hl) fun j u hu => hv (j + 1) u hu)
          have e1 : p.1 = k := by rw [hpq.1, h1]
          show RelV (kV p.1) v
          rw [e1]
          exact kV_of h2
    exact key kvs vs acc'.toList rel (by rw [Array.length_toList]; exact hacc.1) fun j v hv => hacc.2 j v (by rw [← Array.getElem?_toList]; exact hv)
  exact ⟨.ref s.heap.objs.size, _, I.laid (t' := tk) hk (Nat.le_refl _) (show ObjOk X.prog X.w _ h' _ (.lst (kvs.map fun kv => kV kv.1)) from ⟨by rw [List.length_map]; exact z, acc'.toList, c', rv, by rw [Array.toArray_toList]; exact hS⟩), rfl, q _ (I.hok.fresh (Nat.le_refl _))⟩
theorem call_all_list (hc : X.calm = true) : CallR X (.builtin "all") (fun xs H Q => ∃ (a : Addr) (bs : List Bool), xs = [.ref a] ∧ SqL X.K H a (bs.map V.bl) ∧ Q (.bl (bs.all id)) H) := by
  intro pins s σ H xs us Q I r h
  obtain ⟨a, bs, rfl, hq, q⟩ := h
  obtain ⟨u, rfl, rx⟩ := vals1 r
  cases rx
  obtain ⟨its, rv, p, hz⟩ := I.list hq
  refine call_all_walk (wpAny_pyIter_list p.isList ?_)
  have hne : a ≠ s.heap.objs.size := by
    obtain ⟨o, ho, _⟩ := p.isList
    exact Nat.ne_of_lt (Heap.lt_size ho)
  have hlen : its.length = bs.length := by have := rv.length; rw [List.length_map] at this; exact this.symm
  refine ⟨s.heap.objs.size, _, _, its.toArray.size, _, _, fun i => bs.getD i true, rfl, Walks.list (A := X.A.in1) (prog := X.prog) (w := X.w) (show X.A.in1.handled = none from I.ok.hd hc) s.heap.objs.size a hne its.toArray, ⟨⟨_, Heap.get?_push_size _ rfl, rfl, rfl⟩, p.isList.push _⟩, fun i v s' Q' E' hv hQ' => ?_, fun h' tk hk => ?_⟩
  · have hv : its[i]? = some v := by simpa using hv
    have hi : i < its.length := (List.getElem?_eq_some_iff.mp hv).1
    have hb : (bs.map V.bl)[i]? = some (.bl (bs.getD i true)) := by
      rw [List.getElem?_map, List.getElem?_eq_getElem (by omega), List.getD, List.getElem?_eq_getElem (by omega)]
      rfl
    obtain ⟨w', hw, rw'⟩ := rv.get hb
    rw [hv] at hw
    cases hw
    obtain rfl : v = Value.bool (bs.getD i true) := rw'
    exact wpAny_truthy_bool hQ'
  · have e : (List.range its.toArray.size).all (fun i => bs.getD i true) = bs.all id := by
      rw [List.size_toArray, hlen]
      clear hlen rv hz hq q
      induction bs with
      | nil => rfl
      | cons b r ih =>
        rw [List.length_cons, List.range_succ_eq_map, List.all_cons, List.all_map]
        show (b && (List.range r.length).all fun i => r.getD i true) = (b && r.all id)
        rw [ih]
    refine ⟨.bl (bs.all id), H, I.kept (t' := tk) (fun b o e' => hk b o (fun z => ?_) (Heap.get?_push_of_some _ e')), congrArg Value.bool e, q⟩
    have : b = s.heap.objs.size := by simpa using z
    exact absurd (Heap.lt_size e') (by rw [this]; exact Nat.lt_irrefl _)
theorem vals_take : ∀ {xs : List V} {us : List Value}, Vals xs us → ∀ n, Vals (xs.take n) (us.take n)
  | _, _, .nil, n => by rw [List.take_nil, List.take_nil]; exact .nil
  | _, _, .cons h t, 0 => .nil
  | _, _, .cons h t, n + 1 => .cons h (vals_take t n)
theorem vals_drop : ∀ {xs : List V} {us : List Value}, Vals xs us → ∀ n, Vals (xs.drop n) (us.drop n)
  | _, _, .nil, n => by rw [List.drop_nil, List.drop_nil]; exact .nil
  | _, _, .cons h t, 0 => .cons h t
  | _, _, .cons h t, n + 1 => vals_drop t n
/-- xs.insert(i, x), from nought on -/
def rInsert : V → List V → Hp → VK → Prop := fun x vs H Q => ∃ l xs i y, x = .ref l ∧ vs = [.int i, y] ∧ 0 ≤ i ∧ i < 1000 ∧ H l = some (.lst xs) ∧ xs.length < sizeLine ∧ Q .non (upd H l (.lst (xs.take i.toNat ++ y :: xs.drop i.toNat)))
theorem mt_insert : MtM X "list.insert" rInsert := by
  intro pins s σ H x vs v us Q I rx rv h
  obtain ⟨l, xs, i, y, rfl, rfl, h0, h1, hH, hz, q⟩ := h
  cases rx
  obtain ⟨u1, u2, rfl, ⟨t, rfl⟩, ru⟩ := vals2 rv
  obtain ⟨z, its, n, r, hl, e⟩ := I.lstM hH
  have hfit : ¬ (!Builtin.List.listFitsIndex i) = true := by
    simp [Builtin.List.listFitsIndex]
    omega
  refine call_meets F.slot_list_insert ⟨_, e, rfl⟩ F.entry_list_insert (F.args_list_insert_3 _ _ _) (AutoListH.list_insert_list_int_val_1 l its.toArray n i t u2 hfit (by rw [List.size_toArray]; omega)) ⟨e, ?_⟩
  refine ⟨.non, _, I.lset (its' := its.take i.toNat ++ u2 :: its.drop i.toNat) hH e ?_ ?_ ?_, rfl, q⟩
  · show ((its.toArray.extract 0 (if i < 0 then (i + ((its.toArray.size : Nat) : Int)).toNat else min i.toNat its.toArray.size)).push u2 ++ its.toArray.extract (if i < 0 then (i + ((its.toArray.size : Nat) : Int)).toNat else min i.toNat its.toArray.size)) = _
    rw [if_neg (by omega)]
    apply Array.ext'
    rw [Array.toList_append, Array.toList_push, Array.toList_extract, Array.toList_extract, List.size_toArray, List.append_assoc]
    show List.extract its 0 (min i.toNat its.length) ++ ([u2] ++ List.extract its (min i.toNat its.length) its.length) = its.take i.toNat ++ u2 :: its.drop i.toNat
    unfold List.extract
    rw [List.drop_zero, Nat.sub_zero]
    by_cases h : i.toNat ≤ its.length
    · rw [Nat.min_eq_left h, List.take_of_length_le (l := List.drop i.toNat its) (by rw [List.length_drop]; exact Nat.le_refl _)]
      rfl
    · have h' : its.length ≤ i.toNat := by omega
      rw [Nat.min_eq_right h', List.drop_eq_nil_of_le h', List.drop_eq_nil_of_le (Nat.le_refl _), List.take_of_length_le (Nat.le_refl _), List.take_of_length_le h', List.take_nil]
      rfl
  · exact (vals_take r _).append (.cons ru (vals_drop r _))
  · rw [List.length_append, List.length_cons, List.length_take, List.length_drop]
    omega
end
end L2

set_option Elab.async false
set_option linter.all false
set_option maxRecDepth 100000
/-! tuple + tuple of any kind, len of a dict by tuples, own defs in comprehensions, methods, classes -/
namespace L2
open PySem PySem.Spec PyProof.Rows
section
variable {X : Cx}
def rCatA (K : PySem.W.Frag) : R2 := fun x y H Q => ∃ a b xs ys, x = .ref a ∧ y = .ref b ∧ SqT K H a xs ∧ SqT K H b ys ∧ xs.length + ys.length ≤ sizeLine ∧
  (xs = [] → Q (.ref b) H) ∧ (xs ≠ [] → ys = [] → Q (.ref a) H) ∧ (xs ≠ [] → ys ≠ [] → ∀ p, H p = none → Q (.ref p) (upd H p (.tup (xs ++ ys))))
theorem op_catA : OpR X (binaryOp .Add) (rCatA X.K) := by
  intro pins s σ H x y v u Q I rx ry h
  obtain ⟨a, b, xs, ys, rfl, rfl, ha, hb, hz, q0, q1, q2⟩ := h
  by_cases hx : xs = []
  · cases rx
    cases ry
    obtain ⟨its, r1, p1, _⟩ := I.tuple ha
    obtain ⟨its2, r2, p2, _⟩ := I.tuple hb
    have hi : its = [] := r1.nil_iff.mpr hx
    obtain ⟨⟨cls, dd, data, sl⟩, ho, hc, n, hd⟩ := id p1
    obtain ⟨⟨cls2, dd2, data2, sl2⟩, ho2, hc2, n2, hd2⟩ := id p2
    simp only at hc hd hc2 hd2
    subst hc hd hc2 hd2
    exact concat_meets ⟨_, ho, rfl⟩ ⟨_, ho2, rfl⟩ noFill_tuple_add seq_tuple_add PySem.F.slot_tuple_add PySem.F.entry_tuple_add (PySem.F.args_tuple_add_2 _ _)
      (tuple_addW0 a b its.toArray its2.toArray n n2 dd dd2 sl sl2 (by simp [hi])) ⟨ho, ho2, ⟨.ref b, H, I, rfl, q0 hx⟩⟩
  · exact op_catT pins s σ H _ _ v u Q I rx ry ⟨a, b, xs, ys, rfl, rfl, ha, hb, hx, hz, q1 hx, q2 hx⟩
end
end L2
namespace FL
open PySem L2
section
variable {G : Hp} {σ : St} {ta tb : TE} {K : PySem.W.Frag} {xs ys : List D}
theorem ev_catT (hz : xs.length + ys.length ≤ 1000) (ha : EvM ta G σ (.tup xs)) (hb : EvM tb G σ (.tup ys)) : EvM (tOp (rCatA K) ta tb) G σ (.tup (xs ++ ys)) :=
  ev_op2 (fun M H v y l rv ry Q k => by
    obtain ⟨a, vs, rfl, h1, h2⟩ := rv.of_tup
    obtain ⟨b, ws, rfl, h3, h4⟩ := ry.of_tup
    have l1 := h2.length
    have l2 := h4.length
    refine ⟨a, b, vs, ws, rfl, rfl, SqT.of (but_some h1).2, SqT.of (but_some h3).2, Nat.le_of_lt (small1000 (by omega)), fun e => ?_, fun e e2 => ?_, fun e e2 p hp => ?_⟩
    · have : xs = [] := List.eq_nil_of_length_eq_zero (by rw [← l1, e]; rfl)
      rw [this, List.nil_append] at k
      exact k _ H (Same.refl _) (.tup h3 h4)
    · have : ys = [] := List.eq_nil_of_length_eq_zero (by rw [← l2, e2]; rfl)
      rw [this, List.append_nil] at k
      exact k _ H (Same.refl _) (.tup h1 h2)
    · exact k _ _ (same_new hp _) (rep_new_tup l hp (h2.append h4))) ha hb
theorem ev_catL (hz : xs.length + ys.length ≤ 1000) (ha : EvM ta G σ (.lst xs)) (hb : EvM tb G σ (.lst ys)) : EvM (tOp rCat ta tb) G σ (.lst (xs ++ ys)) :=
  ev_op2 (fun M H v y l rv ry Q k => by
    obtain ⟨a, vs, rfl, h1, h2⟩ := rv.of_lst
    obtain ⟨b, ws, rfl, h3, h4⟩ := ry.of_lst
    have l1 := h2.length
    have l2 := h4.length
    exact ⟨a, b, vs, ws, rfl, rfl, (but_some h1).2, (but_some h3).2, Nat.le_of_lt (small1000 (by omega)), fun p hp => k _ _ (same_new hp _) (rep_new_lst l hp (h2.append h4))⟩) ha hb
end
/-! own defs within a comprehension's block -/
section
variable {X : Cx} {N' : List Str} {scope : Scope} {cl : List (Str × Addr)} {C : Addr} {fp : List Addr} {s : Shared} {H : Hp}
theorem pe_ownc {n : Nat} {x : Str} {ps : List Str} {sp : Sp} {e : Expr} {es : List Expr} {t : TA} {p pos : Pos} {m : Nat} (h : Has X.prog X.w X.K X.mg X.base n x ps sp) (hr : Room m X.A) (ha : PA (cxComp X N' scope cl C fp s H) (e :: es) t) (hle : n ≤ m := by decide)
    (hg : Gl (cxComp X N' scope cl C fp s H) x := by rfl) (hdb : (x == ("__debug__" : Str)) = false := by decide) (he : starEach (e :: es) (cxComp X N' scope cl C fp s H).env = (false, eval e (cxComp X N' scope cl C fp s H).env) :: starEach es (cxComp X N' scope cl C fp s H).env := by rfl) (hpl : (backTo pos (starEach es (cxComp X N' scope cl C fp s H).env)).any (·.1) = false := by rfl) :
    PE (cxComp X N' scope cl C fp s H) (.Call (.Name x p) (e :: es) [] pos) (tCall sp [] E0 t) := pe_own (X := cxComp X N' scope cl C fp s H) h hr ha hle hg hdb he hpl
end
/-! methods and classes of the text -/
structure HasM (P : Program) (w : World) (K : PySem.W.Frag) (mg : Str → Option Value) (base : Heap) (n : Nat) (C : Addr) (m : Str) (ps : List Str) (sp : Sp) : Prop where
  ex : ∃ f fd, FnOk P w K mg base CX0 n f fd ps sp ∧ Binds K fd ps [] ∧ Meth K C m f
structure HasC (P : Program) (w : World) (K : PySem.W.Frag) (mg : Str → Option Value) (base : Heap) (n : Nat) (C : Addr) (x : Str) (ps : List Str) (sp : Sp) : Prop where
  ex : ∃ f fd, FnOk P w K mg base CX0 n f fd ps sp ∧ Binds K fd ps [] ∧ Mk K C f ∧ mg x = some (.ref C)
section
variable {X : Cx} {C : Addr}
theorem pe_mown {pl : Sem Bool} {n : Nat} {m : Str} {ps : List Str} {sp : Sp} {o e : Expr} {es : List Expr} {ta : TE} {t : TA} {apos pos : Pos} {k : Nat} (he : PE X o ta) (c : Cls X.K C) (h : HasM X.prog X.w X.K X.mg X.base n C m ps sp) (hr : Room k X.A) (ha : PA X (e :: es) t) (hle : n ≤ k := by decide)
    (hst : starEach (e :: es) X.env = (false, eval e X.env) :: starEach es X.env := by rfl) (hpl : (backTo pos (starEach es X.env)).any (·.1) = false := by rfl)
    (ht : eval (.Call (.Attribute o m apos) (e :: es) [] pos) X.env = (do
      let ov ← eval o X.env
      standAt apos.atName
      let (f, first) ← holding [ov] (getMethod ov m pl)
      callWith pos f first (backTo pos (starEach (e :: es) X.env)) (backToKw pos (keywordEach [] X.env))) := by rfl) :
    PE X (.Call (.Attribute o m apos) (e :: es) [] pos) (tMeth C m sp [] E0 ta t) := by
  obtain ⟨f, fd, F, b, M⟩ := h.ex
  exact pe_meth (pl := pl) he c M (F.mono hle) hr b .nil pass0 ha hst hpl ht
theorem pe_new {n : Nat} {x : Str} {ps : List Str} {sp : Sp} {e : Expr} {es : List Expr} {t : TA} {p pos : Pos} {k : Nat} (h : HasC X.prog X.w X.K X.mg X.base n C x ps sp) (hr : Room (k + 1) X.A) (ha : PA X (e :: es) t) (hle : n ≤ k := by decide)
    (hg : Gl X x := by rfl) (hdb : (x == ("__debug__" : Str)) = false := by decide) (he : starEach (e :: es) X.env = (false, eval e X.env) :: starEach es X.env := by rfl) (hpl : (backTo pos (starEach es X.env)).any (·.1) = false := by rfl) :
    PE X (.Call (.Name x p) (e :: es) [] pos) (tMake C sp [] E0 t) := by
  obtain ⟨f, fd, F, b, M, hm⟩ := h.ex
  exact pe_make M (F.mono hle) hr hg hm b .nil pass0 ha hdb he hpl
end
/-! lists made of a dict, all, truth of a list -/
section
variable {X : Cx} {e : Expr} {te : TE} {p pos : Pos}
theorem pe_listD (B : Bl X.mg) (h : PE X e te) (hc : X.calm = true := by rfl) (hg : Gl X "list" := by rfl) (he : starEach [e] X.env = (false, eval e X.env) :: starEach [] X.env := by rfl) : PE X (.Call (.Name "list" p) [e] [] pos)
    (tCB (fun xs H Q => ∃ a kvs, xs = [.ref a] ∧ Rd H a (.dK kvs) ∧ ∀ l, H l = none → Q (.ref l) (upd H l (.lst (kvs.map fun kv => kV kv.1)))) (tCons te tNil)) :=
  pe_callTy (call_list_dict hc) hg B.list PyProof.Rows.boot_list (pa_cons h pa_nil he) (he := he)
theorem pe_allC (B : Bl X.mg) (h : PE X e te) (hc : X.calm = true := by rfl) (hg : Gl X "all" := by rfl) (he : starEach [e] X.env = (false, eval e X.env) :: starEach [] X.env := by rfl) : PE X (.Call (.Name "all" p) [e] [] pos)
    (tCB (fun xs H Q => ∃ (a : Addr) (bs : List Bool), xs = [.ref a] ∧ SqL X.K H a (bs.map V.bl) ∧ Q (.bl (bs.all id)) H) (tCons te tNil)) :=
  pe_callB (call_all_list hc) hg B.all PyProof.Rows.boot_all (pa_cons h pa_nil he) (he := he)
end
section
variable {G : Hp} {σ : St} {ta : TE} {t : TA} {K : PySem.W.Frag}
theorem reps_bls {H : Hp} : ∀ {vs : List V} {bs : List Bool}, Reps H vs (bs.map D.bl) → vs = bs.map V.bl
  | _, [], .nil => rfl
  | _, b :: r, .cons h t => by rw [h.of_bl, reps_bls t]; rfl
theorem ev_all {bs : List Bool} (h : EvA t G σ [.lst (bs.map D.bl)]) : EvM (tCB (fun xs H Q => ∃ (a : Addr) (bs : List Bool), xs = [.ref a] ∧ SqL K H a (bs.map V.bl) ∧ Q (.bl (bs.all id)) H) t) G σ (.bl (bs.all id)) :=
  ev_cb (fun M H xs l rs Q k => by
    obtain ⟨v, rfl, r⟩ := reps1 rs
    obtain ⟨a, vs, rfl, h1, h2⟩ := r.of_lst
    refine ⟨a, bs, rfl, ?_, k _ H (Same.refl _) (.bl _)⟩
    rw [← reps_bls h2]
    exact SqL.of (but_some h1).2) h
def tTruL (K : PySem.W.Frag) (ta : TE) : TT := fun σ H Q => ta σ H fun x H' => ∃ k, TruV K x H' k ∧ Q k H'
theorem evt_truL {xs : List D} (h : EvM ta G σ (.lst xs)) : EvT (fun σ H Q => ta σ H fun x H' => ∃ k, TruV K x H' k ∧ Q k H') G σ (!xs.isEmpty) := fun M H s l Q k => h M H s l _ fun v H1 s1 r1 => by
  obtain ⟨a, vs, rfl, h1, h2⟩ := r1.of_lst
  refine ⟨!xs.isEmpty, .inl ⟨vs, SqL.of (but_some h1).2, ?_⟩, k H1 s1⟩
  cases h2 <;> rfl
end
end FL

set_option Elab.async false
set_option linter.all false
set_option maxRecDepth 100000
namespace PySem
section
variable {prog : Program} {w : World} {K : Type} [DecidableEq K] {knd : HeapKind prog w K} {A : Around} {E : Value → Shared → Prop} {s : Shared}
theorem fl_meetsH_len (knd : HeapKind prog w K) (d : Addr) (hd : (d == sysModules) = false) :
    MeetsIn prog w (Builtin.«dict.__len__» ⟨[.ref d], []⟩) (fun _ R s => ∃ xs, s.heap.DictOfH knd d xs ∧ R (.ok (.ret (.int xs.length s.toks))) { s with toks := s.toks + 1 }) :=
  .of_wp fun A R s ⟨xs, hm, h⟩ => by
    obtain ⟨o, es, ep, ho, hc, hdat, he, his, hn⟩ := hm
    show wpAny _ _ (dictSize d >>= _) _ _ s
    unfold dictSize
    refine wpAny_bind (wpAny_bind (wpAny_dictEntries ho hdat (wpAny_pure ?_)))
    show wpAny _ _ (Builtin.Dict.pendingCount d >>= _) _ _ s
    refine wpAny_bind (wpAny_pendingCount_other hd ?_)
    refine wpAny_ret_mkInt ?_
    have : es.size = xs.length := size_of_entries he
    rw [Nat.add_zero, this]; exact h
theorem fl_call_len_dictH {d : Addr} {xs : List (K × Addr × Value)} {Q : Value → Shared → Prop} (hd : (d == sysModules) = false) (hm : s.heap.DictOfH knd d xs) (hfit : (xs.length : Int) < 2 ^ 63)
    (h : Q (.int xs.length (s.toks + 1)) { s with toks := s.toks + 1 + 1 }) : wpAny (model prog w) A (call (.builtin "len") [.ref d]) Q E s := by
  refine Calls.call_function_entry kind_len plain_len entry_len (args_len1 _) ?_
  unfold Builtin.«len»
  refine wpAny_bind (m := oneArg "len" _) (wpAny_pure ?_)
  refine wpAny_bind (m := callSpecial? (.ref d) (Str.ofString "__len__")) (wpAny_callSpecial?_slot (name := Str.ofString "__len__") hm.typeIs F.slot_dict_len
    (call_meetsIn F.slot_dict_len hm.typeIs F.entry_dict_len (F.args_dict_len_1 _) (fl_meetsH_len knd d hd) ⟨xs, hm, ?_⟩))
  show wpAny _ _ _ _ _ { s with toks := s.toks + 1 }
  refine wpAny_bind (wpAny_holding (wpAny_pure ?_))
  refine wpAny_bind (wpAny_letGo ?_)
  show wpAny _ _ (if ((xs.length : Nat) : Int) < 0 then _ else _) _ _ _
  rw [if_neg (by omega)]
  show wpAny _ _ (if ((xs.length : Nat) : Int) ≥ 2 ^ 63 then _ else _) _ _ _
  rw [if_neg (by omega)]
  exact wpAny_bind (wpAny_mkInt (wpAny_pure ⟨_, rfl, h⟩))
end
end PySem
namespace L2
open PySem PySem.Spec PyProof.Rows
section
variable {X : Cx}
/-- len of a dict, its keys texts and numbers or tuples of these -/
def rLenD : List V → Hp → VK → Prop := fun xs H Q => (∃ a kvs, xs = [.ref a] ∧ Rd H a (.dK kvs) ∧ Q (.int kvs.length) H) ∨ ∃ a kvs, xs = [.ref a] ∧ Rd H a (.dT kvs) ∧ Q (.int kvs.length) H
theorem call_lenDT : CallR X (.builtin "len") rLenD := by
  intro pins s σ H xs us Q I r h
  rcases h with ⟨a, kvs, rfl, e, q⟩ | ⟨a, kvs, rfl, e, q⟩
  · obtain ⟨u, rfl, ru⟩ := vals1 r
    cases ru
    exact d_len I e fun t s' I' => ⟨.int kvs.length, H, I', ⟨t, rfl⟩, q⟩
  · obtain ⟨u, rfl, ru⟩ := vals1 r
    cases ru
    obtain ⟨z, hd, xs, rel, dd⟩ := dt_rd I.hok e
    have hl := Paired.length rel
    refine fl_call_len_dictH hd dd (by rw [← hl]; rw [sizeLine_eq] at z; omega) ?_
    rw [← hl]
    exact ⟨.int kvs.length, H, I.tok _, ⟨_, rfl⟩, q⟩
end
end L2
namespace FL
open PySem L2
section
variable {X : Cx} {e : Expr} {te : TE} {p pos : Pos}
theorem pe_lenD (B : Bl X.mg) (h : PE X e te) (hg : Gl X "len" := by rfl) (he : starEach [e] X.env = (false, eval e X.env) :: starEach [] X.env := by rfl) : PE X (.Call (.Name "len" p) [e] [] pos) (tCB rLenD (tCons te tNil)) :=
  pe_callB call_lenDT hg B.len PySem.boot_len (pa_cons h pa_nil he) (he := he)
end
section
variable {X : Cx} {N' : List Str} {scope : Scope} {cl : List (Str × Addr)} {C : Addr} {fp : List Addr} {s : Shared} {H : Hp} {e : Expr} {te : TE} {p pos : Pos}
theorem pe_lenDc (B : Bl X.mg) (h : PE (cxComp X N' scope cl C fp s H) e te) (hg : Gl (cxComp X N' scope cl C fp s H) "len" := by rfl) (he : starEach [e] (cxComp X N' scope cl C fp s H).env = (false, eval e (cxComp X N' scope cl C fp s H).env) :: starEach [] (cxComp X N' scope cl C fp s H).env := by rfl) :
    PE (cxComp X N' scope cl C fp s H) (.Call (.Name "len" p) [e] [] pos) (tCB rLenD (tCons te tNil)) := pe_lenD (X := cxComp X N' scope cl C fp s H) B h hg he
end
end FL
namespace FL
open PySem L2
section
variable {X : Cx} {N' : List Str} {scope : Scope} {cl : List (Str × Addr)} {C : Addr} {fp : List Addr} {s : Shared} {H : Hp} {e : Expr} {te : TE} {p pos : Pos} {f : Str}
theorem pe_fldc (he : PE (cxComp X N' scope cl C fp s H) e te) (hb : attributeBase e f (cxComp X N' scope cl C fp s H).env (eval e (cxComp X N' scope cl C fp s H).env) = eval e (cxComp X N' scope cl C fp s H).env) : PE (cxComp X N' scope cl C fp s H) (.Attribute e f pos) (tFld X.K te f) := pe_fld (X := cxComp X N' scope cl C fp s H) he hb
theorem pt_truthc (ha : PE (cxComp X N' scope cl C fp s H) e te) (he : ∀ whole, isTrue e (cxComp X N' scope cl C fp s H).env whole = (do let v ← whole; standAt e.pos; holding [v] (truthy v))) :
    PT (cxComp X N' scope cl C fp s H) e (fun σ H Q => te σ H fun x H' => ∃ k, TruV X.K x H' k ∧ Q k H') := pt_truth (X := cxComp X N' scope cl C fp s H) ha he
end
end FL

set_option Elab.async false
set_option linter.all false
set_option maxRecDepth 100000
/-! MATHEMATICS of texts: partition and split at a separator -/
namespace FL
open PySem PySem.StrLaws PySem.Builtin PySem.Builtin.Str
abbrev L := List Nat
def S (l : L) : Str := ⟨l.toArray⟩
theorem S_list (l : L) : (S l).cps.toList = l := rfl
theorem S_of (x : Str) : S x.cps.toList = x := by cases x; rfl
theorem S_len (l : L) : (S l).length = l.length := by simp [S, Str.length]
theorem S_inj {a b : L} (h : S a = S b) : a = b := by have := congrArg (fun x : Str => x.cps.toList) h; exact this
theorem len_list (x : Str) : x.cps.toList.length = x.length := by simp [Str.length]
theorem S_app (a b : L) : S a ++ S b = S (a ++ b) := by
  show (⟨a.toArray ++ b.toArray⟩ : Str) = ⟨(a ++ b).toArray⟩
  simp
def Occ (y x : L) (i : Nat) : Prop := y <+: x.drop i
theorem occ_iff (x y : L) (hy : y ≠ []) (i : Nat) : At (S x) (S y) (S x).length i ↔ Occ y x i := by
  have hp : 0 < y.length := List.length_pos_iff.mpr hy
  constructor
  · intro h
    have h2 := h.2
    rw [subAt_eq, S_list, S_list, S_len] at h2
    have := eq_of_beq h2
    refine ⟨(x.drop i).drop y.length, ?_⟩
    have e := List.take_append_drop y.length (x.drop i)
    rw [this] at e
    exact e
  · intro h
    obtain ⟨t, ht⟩ := id h
    have hl := congrArg List.length ht
    rw [List.length_append, List.length_drop] at hl
    refine ⟨by rw [S_len, S_len]; omega, ?_⟩
    rw [subAt_eq, S_list, S_list, S_len, ← ht]
    simp
theorem occ_at {y x : L} {i j : Nat} {c : Nat} (h : Occ y x i) (hc : y[j]? = some c) : x[i + j]? = some c := by
  obtain ⟨t, ht⟩ := h
  have : (x.drop i)[j]? = some c := by
    rw [← ht, List.getElem?_append_left (List.getElem?_eq_some_iff.mp hc).1]
    exact hc
  rwa [List.getElem?_drop] at this
theorem occ_here (a y b : L) : Occ y (a ++ y ++ b) a.length := by
  refine ⟨b, ?_⟩
  rw [List.append_assoc, List.drop_left]
/-- partition -/
theorem partition_at {a y b : L} (hy : y ≠ []) (h : ∀ k, k < a.length → ¬ Occ y (a ++ y ++ b) k) : Txt.partition (S (a ++ y ++ b)) (S y) = (S a, S y, S b) := by
  unfold Txt.partition
  rcases occ_head (S (a ++ y ++ b)) (S y) 1 (Nat.le_refl _) with ⟨_, hn⟩ | ⟨i, r, e, hi, hk⟩
  · exact absurd ((occ_iff _ _ hy _).mpr (occ_here a y b)) (hn _)
  · have hi' := (occ_iff _ _ hy _).mp hi
    have e2 : i = a.length := by
      rcases Nat.lt_trichotomy i a.length with q | q | q
      · exact absurd hi' (h i q)
      · exact q
      · exact absurd ((occ_iff _ _ hy _).mpr (occ_here a y b)) (hk _ q)
    rw [e]
    subst e2
    show (strSub _ _ _, S y, strSub _ _ _) = _
    have e3 : strSub (S (a ++ y ++ b)) 0 a.length = S a := by
      apply Str.ext'
      apply Array.toList_inj.mp
      rw [strSub_toList, S_list, List.drop_zero, Nat.sub_zero, List.append_assoc, List.take_left]
      rfl
    have e4 : strSub (S (a ++ y ++ b)) (a.length + (S y).length) (S (a ++ y ++ b)).length = S b := by
      apply Str.ext'
      apply Array.toList_inj.mp
      rw [strSub_toList, S_list, S_len, S_len, ← List.length_append, List.drop_left, List.take_of_length_le]
      · rfl
      · simp only [List.length_append]; omega
    rw [e3, e4]
theorem partition_no {x y : L} (hy : y ≠ []) (h : ∀ k, ¬ Occ y x k) : Txt.partition (S x) (S y) = (S x, Str.empty, Str.empty) := by
  unfold Txt.partition
  rcases occ_head (S x) (S y) 1 (Nat.le_refl _) with ⟨e, hn⟩ | ⟨i, r, e, hi, hk⟩
  · rw [e]
  · exact absurd ((occ_iff _ _ hy _).mp hi) (h _)
/-- split -/
def joinL (y : L) : List L → L
  | [] => []
  | [p] => p
  | p :: q :: r => p ++ y ++ joinL y (q :: r)
def Tight (y : L) : List L → Prop
  | [] => False
  | [p] => ∀ k, ¬ Occ y p k
  | p :: q :: r => (∀ k, k < p.length → ¬ Occ y (p ++ y ++ joinL y (q :: r)) k) ∧ Tight y (q :: r)
theorem parts_tight (x y : L) (hy : y ≠ []) : ∀ (ps : List L) (cuts : List Nat) (a f : Nat), a ≤ x.length → ChainG (S x) (S y) (S x).length a cuts f → (∀ k, f ≤ k → ¬ At (S x) (S y) (S x).length k) → x.drop a = joinL y ps → Tight y ps →
    partsFrom (S x) (S y).length a cuts = ps.map S
  | [], _, _, _, _, _, _, _, t => t.elim
  | [p], cuts, a, f, ha, hc, hf, e, t => by
    cases cuts with
    | nil =>
      show [strSub (S x) a (S x).length] = [S p]
      congr 1
      apply Str.ext'
      apply Array.toList_inj.mp
      rw [strSub_toList, S_list, S_len, List.take_of_length_le (by simp), e]
      rfl
    | cons c r =>
      have h1 := (occ_iff _ _ hy _).mp hc.2.1
      have e' : x.drop a = p := e
      exact absurd (show Occ y p (c - a) from by
        unfold Occ at h1 ⊢
        rw [← e', List.drop_drop]
        have : a + (c - a) = c := by have := hc.1; omega
        rw [this]; exact h1) (t _)
  | p :: q :: r, cuts, a, f, ha, hc, hf, e, t => by
    have hx : x = x.take a ++ (p ++ y ++ joinL y (q :: r)) := by
      have := (List.take_append_drop a x).symm
      rw [e] at this
      exact this
    have hla : (x.take a).length = a := by rw [List.length_take]; omega
    have here : Occ y x (a + p.length) := by
      refine ⟨joinL y (q :: r), ?_⟩
      rw [← List.drop_drop, e]
      show _ = (p ++ y ++ joinL y (q :: r)).drop p.length
      rw [List.append_assoc, List.drop_left]
    have none' : ∀ k, a ≤ k → k < a + p.length → ¬ Occ y x k := fun k h1 h2 h3 => by
      refine t.1 (k - a) (by omega) ?_
      unfold Occ at h3 ⊢
      have : p ++ y ++ joinL y (q :: r) = x.drop a := e.symm
      rw [this, List.drop_drop]
      have : a + (k - a) = k := by omega
      rw [this]; exact h3
    have hle : a + p.length + y.length ≤ x.length := by
      obtain ⟨z, hz⟩ := here
      have := congrArg List.length hz
      rw [List.length_append, List.length_drop] at this
      have h0 : 0 < y.length := List.length_pos_iff.mpr hy
      omega
    cases cuts with
    | nil =>
      have e1 : f = a := hc
      exact absurd ((occ_iff _ _ hy _).mpr here) (hf _ (by omega))
    | cons c cs =>
      have h1 := (occ_iff _ _ hy _).mp hc.2.1
      have ec : c = a + p.length := by
        rcases Nat.lt_trichotomy c (a + p.length) with z | z | z
        · exact absurd h1 (none' c hc.1 z)
        · exact z
        · exact absurd ((occ_iff _ _ hy _).mpr here) (hc.2.2.1 _ (by omega) z)
      subst ec
      have hd : x.drop (a + p.length + (S y).length) = joinL y (q :: r) := by
        rw [S_len, Nat.add_assoc, ← List.drop_drop, e]
        show (p ++ y ++ joinL y (q :: r)).drop _ = _
        rw [← List.length_append, List.drop_left]
      have ih := parts_tight x y hy (q :: r) cs (a + p.length + (S y).length) f (by rw [S_len]; omega) hc.2.2.2 hf hd t.2
      show strSub (S x) a (a + p.length) :: partsFrom (S x) (S y).length (a + p.length + (S y).length) cs = S p :: (q :: r).map S
      rw [ih]
      congr 1
      apply Str.ext'
      apply Array.toList_inj.mp
      rw [strSub_toList, S_list, e]
      have : a + p.length - a = p.length := by omega
      rw [this]
      show (p ++ y ++ joinL y (q :: r)).take p.length = _
      rw [List.append_assoc, List.take_left]
      rfl
theorem kind_low {y : L} (h : ∀ c ∈ y, c < 256) (x : Str) : ¬ PySem.Builtin.Str.strKind x < PySem.Builtin.Str.strKind (S y) := by
  have h1 : PySem.Builtin.Str.strKind (S y) = 1 := by
    unfold PySem.Builtin.Str.strKind
    rw [if_pos]
    show y.toArray.all (· < 256) = true
    rw [← Array.all_toList]
    exact List.all_eq_true.mpr fun c hc => decide_eq_true (h c hc)
  have h2 : 1 ≤ PySem.Builtin.Str.strKind x := by
    unfold PySem.Builtin.Str.strKind
    split
    · omega
    split <;> omega
  omega
theorem split_tight {y : L} {ps : List L} (hy : y ≠ []) (hl : ∀ c ∈ y, c < 256) (t : Tight y ps) : Txt.split (S (joinL y ps)) (S y) = ps.map S := by
  obtain ⟨f, hG, hn⟩ := occ_tight (S (joinL y ps)) (S y) (by rw [S_len]; exact List.length_pos_iff.mpr hy)
  have key := parts_tight (joinL y ps) y hy ps _ 0 f (Nat.zero_le _) hG hn rfl t
  have one : occurrences (S (joinL y ps)) (S y) 0 (S (joinL y ps)).length ((S (joinL y ps)).length + 1) = [] → [S (joinL y ps)] = ps.map S := fun e => by
    rw [e] at key
    rw [← key]
    show _ = [strSub _ _ _]
    rw [sub_whole]
  unfold Txt.split
  by_cases h1 : (decide ((S (joinL y ps)).length < (S y).length) || decide (PySem.Builtin.Str.strKind (S (joinL y ps)) < PySem.Builtin.Str.strKind (S y))) = true
  · rw [if_pos h1]
    rw [Bool.or_eq_true, decide_eq_true_eq, decide_eq_true_eq] at h1
    rcases h1 with h1 | h1
    · refine one ?_
      rcases occ_head (S (joinL y ps)) (S y) ((S (joinL y ps)).length + 1) (by omega) with ⟨e, _⟩ | ⟨i, r, e, hi, _⟩
      · exact e
      · have := hi.1; omega
    · exact absurd h1 (kind_low hl _)
  · rw [if_neg h1]
    by_cases h2 : (occurrences (S (joinL y ps)) (S y) 0 (S (joinL y ps)).length ((S (joinL y ps)).length + 1)).isEmpty = true
    · rw [if_pos h2]
      exact one (List.isEmpty_iff.mp h2)
    · rw [if_neg h2, partsBetween_eq]
      exact key
/-! separators -/
def sp : Nat → L → Bool
  | _, [] => true
  | p, c :: r => (c != 32 || p == 44) && sp c r
theorem sp_app : ∀ (a b : L) (p : Nat), sp p (a ++ b) = (sp p a && sp (a.getLast?.getD p) b)
  | [], b, p => by simp [sp]
  | [c], b, p => by simp [sp]
  | c :: d :: r, b, p => by
    show ((c != 32 || p == 44) && sp c ((d :: r) ++ b)) = (((c != 32 || p == 44) && sp c (d :: r)) && sp (((c :: d :: r).getLast?).getD p) b)
    rw [sp_app (d :: r) b c, Bool.and_assoc]
    have : ((c :: d :: r).getLast?).getD p = ((d :: r).getLast?).getD c := by
      rw [List.getLast?_cons_cons, List.getLast?_eq_some_getLast (by simp)]
      rfl
    rw [this]
theorem sp_no : ∀ {a : L} (p : Nat), (∀ c ∈ a, c ≠ 32) → sp p a = true
  | [], _, _ => rfl
  | c :: r, p, h => by
    show ((c != 32 || p == 44) && sp c r) = true
    rw [sp_no c fun d hd => h d (List.mem_cons_of_mem _ hd)]
    simp [h c List.mem_cons_self]
theorem sp_at : ∀ {a : L} {p j : Nat}, sp p a = true → a[j + 1]? = some 32 → a[j]? = some 44
  | [], _, _, _, h => by simp at h
  | c :: r, p, j, hs, h => by
    rw [sp, Bool.and_eq_true] at hs
    cases j with
    | zero =>
      cases r with
      | nil => simp at h
      | cons d t =>
        have h1 : d = 32 := by simpa using h
        have h2 := hs.2
        rw [sp, Bool.and_eq_true, h1] at h2
        have := h2.1
        simp at this
        simp [this]
    | succ j =>
      have := sp_at (a := r) (j := j) hs.2 (by simpa using h)
      simpa using this
/-- a separator that ends with a sign that is no comma and a space -/
def Sep (y : L) (n : Nat) : Prop := y.length = n + 2 ∧ y[n + 1]? = some 32 ∧ (∃ c, y[n]? = some c ∧ c ≠ 44) ∧ 41 ∉ y
theorem sep_none {y x : L} {n p : Nat} (h : Sep y n) (hs : sp p x = true) (k : Nat) : ¬ Occ y x k := fun o => by
  obtain ⟨c, h1, h2⟩ := h.2.2.1
  have e1 := occ_at o h.2.1
  have e2 := occ_at o h1
  have := sp_at hs (j := k + n) e1
  rw [e2] at this
  exact h2 (Option.some.inj this)
theorem sep_first {y a b : L} {n p : Nat} (h : Sep y n) (hs : sp p a = true) (ha : a.getLast? = some 41) (k : Nat) (hk : k < a.length) : ¬ Occ y (a ++ y ++ b) k := fun o => by
  have hg : ∀ j, j < a.length → (a ++ y ++ b)[j]? = a[j]? := fun j hj => by rw [List.append_assoc, List.getElem?_append_left hj]
  obtain ⟨c, h1, h2⟩ := h.2.2.1
  by_cases hb : k + (n + 1) < a.length
  · have e1 := occ_at o h.2.1
    have e2 := occ_at o h1
    rw [hg _ hb] at e1
    rw [hg _ (by omega)] at e2
    have := sp_at hs (j := k + n) e1
    rw [e2] at this
    exact h2 (Option.some.inj this)
  · have hj : a.length - 1 - k < y.length := by rw [h.1]; omega
    have e1 := occ_at o (List.getElem?_eq_getElem hj)
    have e2 : k + (a.length - 1 - k) = a.length - 1 := by omega
    rw [e2, hg _ (by omega), ← List.getLast?_eq_getElem?, ha] at e1
    exact h.2.2.2 (by rw [Option.some.inj e1]; exact List.getElem_mem hj)
/-- texts of which each has its spaces behind commas and ends with a bracket -/
theorem tight_sep {y : L} {n : Nat} (h : Sep y n) : ∀ {ps : List L}, ps ≠ [] → (∀ p ∈ ps, sp 0 p = true ∧ p.getLast? = some 41) → Tight y ps
  | [], hn, _ => absurd rfl hn
  | [p], _, hp => fun k => sep_none h (hp p List.mem_cons_self).1 k
  | p :: q :: r, _, hp => ⟨fun k hk => sep_first h (hp p List.mem_cons_self).1 (hp p List.mem_cons_self).2 k hk, tight_sep h (by simp) fun z hz => hp z (List.mem_cons_of_mem _ hz)⟩
/-- texts without the separator's first sign -/
theorem tight_first {c : Nat} {y : L} : ∀ {ps : List L}, ps ≠ [] → (∀ p ∈ ps, c ∉ p) → Tight (c :: y) ps
  | [], hn, _ => absurd rfl hn
  | [p], _, hp => fun k o => by
    have := occ_at (j := 0) (c := c) o rfl
    exact hp p List.mem_cons_self (List.mem_of_getElem? this)
  | p :: q :: r, _, hp => ⟨fun k hk o => by
    have := occ_at (j := 0) (c := c) o rfl
    rw [List.append_assoc, List.getElem?_append_left (by omega)] at this
    exact hp p List.mem_cons_self (List.mem_of_getElem? this), tight_first (by simp) fun z hz => hp z (List.mem_cons_of_mem _ hz)⟩
end FL

set_option Elab.async false
set_option linter.all false
set_option maxRecDepth 100000
/-! TEXTS: partition, split, join, startswith, endswith, slices, f-strings, int(text), a text walked -/
namespace L2
open PySem PySem.Spec PyProof.Rows PySem.Builtin PySem.Builtin.Str
theorem vals_strs : ∀ l : List (Str × Tok), Vals ((l.map (·.1)).map V.str) (strValues l)
  | [] => .nil
  | p :: r => .cons ⟨p.2, rfl⟩ (vals_strs r)
theorem strs_vals : ∀ {zs : List Str} {us : List Value}, Vals (zs.map V.str) us → StrsAre us zs
  | [], _, .nil => .nil
  | z :: r, _, .cons ⟨t, e⟩ q => by subst e; exact .cons z t (strs_vals q)
section
variable {X : Cx}
def rPart : V → List V → Hp → VK → Prop := fun x vs H Q => ∃ z y, x = .str z ∧ vs = [.str y] ∧ (y.length == 0) = false ∧ z.length ≤ sizeLine ∧
  ∀ p, H p = none → Q (.ref p) (upd H p (.tup [.str (Txt.partition z y).1, .str (Txt.partition z y).2.1, .str (Txt.partition z y).2.2]))
theorem mt_partition : MtM X "str.partition" rPart := by
  intro pins s σ H x vs v us Q I rx rv h
  obtain ⟨z, y, rfl, rfl, hy, hz, q⟩ := h
  obtain ⟨t, rfl⟩ := rx
  obtain ⟨u, rfl, ru⟩ := rv.one
  obtain ⟨t', rfl⟩ := ru
  refine call_meets F.slot_str_partition (typeIs_str _ _ _) F.entry_str_partition (F.args_str_partition_2 _ _) (meets_str_partition z y t t' hy hz) ?_
  have fin : ∀ (a b c : Str) (ta tb tc : Tok) (k : Nat), (Txt.partition z y) = (a, b, c) → EP X pins σ Q (.ref s.heap.objs.size) { s with heap := s.heap.push { cls := .type "tuple", data := .seq [.str a ta, .str b tb, .str c tc].toArray }, toks := k } := fun a b c ta tb tc k e => by
    rw [e] at q
    refine ⟨.ref s.heap.objs.size, upd H s.heap.objs.size (.tup [.str a, .str b, .str c]), I.laid (t' := k) (fun b' u' e' => Heap.get?_push_of_some _ e') (Nat.le_refl _) ?_, rfl, q _ I.fresh⟩
    exact ⟨by show 3 ≤ sizeLine; decide, _, .cons ⟨ta, rfl⟩ (.cons ⟨tb, rfl⟩ (.cons ⟨tc, rfl⟩ .nil)), ⟨_, Heap.get?_push_size _ rfl, rfl, _, rfl⟩⟩
  unfold Txt.partition at fin
  revert fin
  cases occurrences z y 0 z.length 1 with
  | nil => intro fin; exact fin _ _ _ _ _ _ _ rfl
  | cons i r => intro fin; exact fin _ _ _ _ _ _ _ rfl
def rSplit : V → List V → Hp → VK → Prop := fun x vs H Q => ∃ z y, x = .str z ∧ vs = [.str y] ∧ (y.length == 0) = false ∧ z.length + 2 ≤ sizeLine ∧ ∀ p, H p = none → Q (.ref p) (upd H p (.lst ((Txt.split z y).map V.str)))
theorem mt_split : MtM X "str.split" rSplit := by
  intro pins s σ H x vs v us Q I rx rv h
  obtain ⟨z, y, rfl, rfl, hy, hz, q⟩ := h
  obtain ⟨t, rfl⟩ := rx
  obtain ⟨u, rfl, ru⟩ := rv.one
  obtain ⟨t', rfl⟩ := ru
  have fin : ∀ (l : List (Str × Tok)) (k : Nat), l.map (·.1) = Txt.split z y → l.length ≤ sizeLine → EP X pins σ Q (.ref s.heap.objs.size) { s with heap := s.heap.push { cls := .type "list", data := .seq (strValues l).toArray }, toks := k } := fun l k e hl => by
    refine ⟨.ref s.heap.objs.size, _, I.lnew (t' := k) (vals_strs l) (by simpa using hl), rfl, ?_⟩
    rw [e]
    exact q _ I.fresh
  have cnt : (partsBetween z (occurrences z y 0 z.length (z.length + 1)) y.length).length ≤ sizeLine := by
    rw [length_partsBetween]
    have := StrLaws.occ_length_le z y 0 z.length (z.length + 1)
    omega
  by_cases c1 : (decide (z.length < y.length) || decide (strKind z < strKind y)) = true
  · exact call_meets F.slot_str_split (typeIs_str _ _ _) F.entry_str_split (F.args_str_split_2 _ _) (meets_str_split_cannot_occur z y t t' c1) (fin [(z, t)] s.toks (if_pos c1).symm (by show 1 ≤ sizeLine; decide))
  · by_cases c2 : (occurrences z y 0 z.length (z.length + 1)).isEmpty = true
    · exact call_meets F.slot_str_split (typeIs_str _ _ _) F.entry_str_split (F.args_str_split_2 _ _) (meets_str_split_not_found z y t t' (Bool.eq_false_iff.mpr c1) hy c2) (fin [(z, t)] s.toks ((if_neg c1).trans (if_pos c2)).symm (by show 1 ≤ sizeLine; decide))
    · refine call_meets F.slot_str_split (typeIs_str _ _ _) F.entry_str_split (F.args_str_split_2 _ _) (meets_str_split_sep z y t t' (Bool.eq_false_iff.mpr c1) hy (Bool.eq_false_iff.mpr c2) (by omega) cnt) ?_
      have g := fin (numbered s.toks (partsBetween z (occurrences z y 0 z.length (z.length + 1)) y.length)) (s.toks + (partsBetween z (occurrences z y 0 z.length (z.length + 1)) y.length).length)
        ((numbered_texts _ _).trans ((if_neg c1).trans (if_neg c2)).symm) (by rw [← List.length_map (f := (·.1)), numbered_texts]; exact cnt)
      rw [← strsFrom_eq] at g
      exact g
def rJoin : V → List V → Hp → VK → Prop := fun x vs H Q => ∃ z p zs, x = .str z ∧ vs = [.ref p] ∧ H p = some (.lst (zs.map V.str)) ∧ (zs.map (·.length)).sum + zs.length * z.length ≤ 16777216 ∧ Q (.str (Txt.join z zs)) H
theorem mt_join : MtM X "str.join" rJoin := by
  intro pins s σ H x vs v us Q I rx rv h
  obtain ⟨z, p, zs, rfl, rfl, hH, hz, q⟩ := h
  obtain ⟨t, rfl⟩ := rx
  obtain ⟨u, rfl, ru⟩ := rv.one
  cases ru
  obtain ⟨its, r, pl, hzl⟩ := I.list (SqL.of hH)
  exact join_list pl.isList (by simpa using strs_vals r) hz fun t' k => ⟨.str _, H, I.kept (t' := k) fun b o e => e, ⟨_, rfl⟩, q⟩
def rEnds : V → List V → Hp → VK → Prop := fun x vs H Q => ∃ z y, x = .str z ∧ vs = [.str y] ∧ Q (.bl (Txt.endswith z y)) H
theorem mt_endswith : MtM X "str.endswith" rEnds := by
  intro pins s σ H x vs v us Q I rx rv h
  obtain ⟨z, y, rfl, rfl, q⟩ := h
  obtain ⟨t, rfl⟩ := rx
  obtain ⟨u, rfl, ru⟩ := rv.one
  obtain ⟨t', rfl⟩ := ru
  exact SC.endswith ⟨.bl _, H, I, rfl, q⟩
def rStarts : V → List V → Hp → VK → Prop := fun x vs H Q => ∃ z y, x = .str z ∧ vs = [.str y] ∧ Q (.bl (Txt.startswith z y)) H
theorem mt_startswith : MtM X "str.startswith" rStarts := by
  intro pins s σ H x vs v us Q I rx rv h
  obtain ⟨z, y, rfl, rfl, q⟩ := h
  obtain ⟨t, rfl⟩ := rx
  obtain ⟨u, rfl, ru⟩ := rv.one
  obtain ⟨t', rfl⟩ := ru
  exact SC.startswith ⟨.bl _, H, I, rfl, q⟩
def rSlS : V → Option Int → Option Int → Hp → VK → Prop := fun x lo hi H Q => ∃ z, x = .str z ∧ z.length ≤ sizeLine ∧ Q (.str (Txt.slice z lo hi)) H
theorem sl_str : SlR X rSlS := by
  intro pins s σ H x v vl vu lo hi sl Q I rx hs pl pu h
  obtain ⟨z, rfl, hz, q⟩ := h
  obtain ⟨t, rfl⟩ := rx
  refine ⟨"str", _, F.slot_str_getitem.lookup, typeIs_str _ _ _, ?_⟩
  have fin : ∀ t' k, EP X pins σ Q (.str (Txt.slice z lo hi) t') { s with toks := k } := fun t' k => ⟨.str _, H, I.kept (t' := k) fun b o e => e, ⟨_, rfl⟩, q⟩
  cases pl with
  | none =>
    cases pu with
    | none => exact wpAny_getItem_str_slice (l := none) (u := none) (st := none) hs rfl (post_val_or_str ⟨Nat.le_trans (Txt.slice_le z _ _) hz, fin⟩)
    | int j uj => exact wpAny_getItem_str_slice (l := none) (u := some (j, uj)) (st := none) hs rfl (post_val_or_str ⟨Nat.le_trans (Txt.slice_le z _ _) hz, fin⟩)
  | int i ui =>
    cases pu with
    | none => exact wpAny_getItem_str_slice (l := some (i, ui)) (u := none) (st := none) hs rfl (post_val_or_str ⟨Nat.le_trans (Txt.slice_le z _ _) hz, fin⟩)
    | int j uj => exact wpAny_getItem_str_slice (l := some (i, ui)) (u := some (j, uj)) (st := none) hs rfl (post_val_or_str ⟨Nat.le_trans (Txt.slice_le z _ _) hz, fin⟩)
theorem call_int_text : CallR X (.type "int") (fun xs H Q => ∃ x n, xs = [.str x] ∧ PySem.intText? x = some n ∧ x.length ≤ 640 ∧ Q (.int n) H) := by
  intro pins s σ H xs us Q I r h
  obtain ⟨x, n, rfl, hn, hl, q⟩ := h
  obtain ⟨u, rfl, ru⟩ := Vals.one r
  obtain ⟨t, rfl⟩ := ru
  exact PySem.W.KIN.call_text hn hl ⟨.int n, H, I.tok _, ⟨_, rfl⟩, q⟩
end
/-! f-strings -/
section
variable {X : Cx} {e e1 e2 : Expr} {es : List Expr} {te : TE} {t : Str → TE} {pos : Pos}
def PJ (X : Cx) (es : List Expr) (t : Str → TE) : Prop :=
  ∀ (acc : Str) (pins : List (Addr × Obj)) (s : Shared) (σ : St) (H : Hp) (Q : VK), Inv X pins σ H s → t acc σ H Q → wpAny (model X.prog X.w) X.A (joinParts acc (evalEach es X.env)) (EP X pins σ Q) X.xe s
def tJ0 : Str → TE := fun acc _ H Q => acc.length ≤ sizeLine ∧ Q (.str acc) H
def tJ1 (te : TE) (t : Str → TE) : Str → TE := fun acc σ H Q => te σ H fun x H1 => ∃ y, x = .str y ∧ (acc ++ y).length ≤ sizeLine ∧ t (acc ++ y) σ H1 Q
theorem pj_nil : PJ X [] tJ0 := fun acc pins s σ H Q I h => joinParts_nilE (joinParts_nil ⟨.str acc, H, I.tok _, ⟨_, rfl⟩, h.2⟩ h.1)
theorem pj_cons (he : PE X e te) (hr : PJ X es t) : PJ X (e :: es) (tJ1 te t) := fun acc pins s σ H Q I h => by
  refine joinParts_consE (joinParts_cons (thn (he pins s σ H _ I h) fun v s1 ⟨x, H1, I1, r1, y, ey, hz, q⟩ => ?_))
  subst ey
  obtain ⟨tk, rfl⟩ := r1
  exact ⟨hz, hr (acc ++ y) pins s1 σ H1 Q I1 q⟩
theorem pe_fstr (h : PJ X (e1 :: e2 :: es) t) : PE X (.JoinedStr (e1 :: e2 :: es) pos) (t Str.empty) := fun pins s σ H Q I hq => JoinedStr_many (h Str.empty pins s σ H Q I hq)
def tFmt (te : TE) : TE := fun σ H Q => te σ H fun x H1 => ∃ y, x = .str y ∧ y.length ≤ sizeLine ∧ Q (.str y) H1
theorem pe_fmt (h : PE X e te) : PE X (.FormattedValue e (-1) none pos) (tFmt te) := fun pins s σ H Q I hq => by
  refine FormattedValue_plain (thn (h pins s σ H _ I hq) fun v s1 ⟨x, H1, I1, r1, y, ey, hz, q⟩ => ?_)
  subst ey
  obtain ⟨tk, rfl⟩ := r1
  exact formatField_str (fun t' k => ⟨.str y, H1, I1.kept (t' := k) fun b o e => e, ⟨_, rfl⟩, q⟩) hz
end
/-! a text walked -/
def Its (x : Str) : It := ⟨fun i _ => i < x.cps.size, fun i H v H' => H' = H ∧ ∃ c, x.cps[i]? = some c ∧ v = .str ⟨#[c]⟩, fun i _ => x.cps.size ≤ i⟩
theorem turn_str {P : Program} {w : World} {K : PySem.W.Frag} {tg : Expr} (it : Addr) (x : Str) (t : Tok) : Turn P w K tg (Its x) [it] it (fun i h => h.IsStrIter it "str_ascii_iterator" x t i) where
  mem := by simp
  obj := fun i h st b hb => by
    obtain rfl : b = it := by simpa using hb
    obtain ⟨o, e, c, d⟩ := st
    exact ⟨o, e, fun v z => by rw [d] at z; cases z⟩
  keep := fun i h h' st k => let ⟨o, e, r⟩ := st; ⟨o, k it (by simp) o e, r⟩
  item := by
    intro X hP hw hK hc i pins s σ H E I hf st hg
    subst hP hw hK
    have hg : i < x.cps.size := hg
    obtain ⟨f0, f1, f2, f3, f4, f5⟩ := hf it (by simp)
    refine wpAny_pyNext_ascii_item st (c := x.cps[i]) (by simp [hg]) fun h' st' sb => ?_
    have I1 : Inv X pins σ H { s with heap := h', toks := s.toks + 1 } := I.turned (t' := s.toks + 1) (fun b o hb e => (sb.2 b hb).trans e) f0 f1 f3 f4 f5
    obtain ⟨o, e, c, d⟩ := id st'
    exact ⟨_, rfl, go_of (s := { s with heap := h', toks := s.toks + 1 }) e c d (by decide) ⟨.str ⟨#[x.cps[i]]⟩, H, I1, ⟨_, rfl⟩, ⟨rfl, _, by simp [hg], rfl⟩, st', fun b hb => (hf b hb).1⟩⟩
  done := by
    intro X hP hw hK hc i pins s σ H E I hf st hg
    subst hP hw hK
    have hg : x.cps.size ≤ i := hg
    obtain ⟨f0, f1, f2, f3, f4, f5⟩ := hf it (by simp)
    exact wpAny_pyNext_ascii_end (I.ok.hd hc) st (by simpa using hg) fun h' eb => ⟨rfl, I.turned (t' := s.toks) (fun b o hb e => eb b o hb e) f0 f1 f3 f4 f5⟩
  self := fun _ _ _ _ _ st h => wpAny_pyIter_striter_ascii st h
section
variable {X : Cx} {tg : Expr}
def iStr (te : TE) : TI := fun σ H R => te σ H fun v H1 => ∃ x, v = .str x ∧ x.cps.all (· < 128) = true ∧ R (Its x) H1
theorem pi_str {e : Expr} {te : TE} (h : PE X e te) : PI X tg e (iStr te) := by
  intro pins s σ H R I hq
  refine thn (h pins s σ H _ I hq) fun v s1 ⟨y, H1, I1, r1, x, ey, ha, q⟩ => ?_
  subst ey
  obtain ⟨t, rfl⟩ := r1
  refine wpAny_pyIter_ascii ha ?_
  refine ⟨s1.heap.objs.size, [s1.heap.objs.size], _, _, H1, rfl, I1.kept (t' := s1.toks) fun b o e => Heap.get?_push_of_some _ e, turn_str _ x t, ⟨_, Heap.get?_push_size _ rfl, rfl, rfl⟩, fun b hb => ?_, q⟩
  obtain rfl : b = s1.heap.objs.size := by simpa using hb
  exact I1.fpOk (Nat.le_refl _) (I1.hok.fresh (Nat.le_refl _))
end
end L2
namespace FL
open PySem L2
section
variable {G : Hp} {σ : St} {ta tb te : TE} {t : TA} {d : D} {ds : List D} {K : PySem.W.Frag}
theorem ev_bm {T : String} {r : V → List V → Hp → VK → Prop} {d0 : D} (hty : ∀ M H x, Rep (but H M) x d0 → tyV K T x H) (hr : ∀ M H x xs, Live M H → Rep (but H M) x d0 → Reps (but H M) xs ds → ∀ Q : VK, (∀ v H', Same H H' → Rep (but H' M) v d → Q v H') → r x xs H Q)
    (ha : EvM ta G σ d0) (ht : EvA t G σ ds) : EvM (tBM K T r ta t) G σ d :=
  fun M H s l Q k => ha M H s l _ fun x H1 s1 rx => ⟨hty M H1 x rx, ht M H1 (s.trans (s1.but M)) (l.same s1) _ fun xs H2 s2 rs =>
    hr M H2 x xs (l.same (s1.trans s2)) (rx.mono (s2.but M)) rs Q fun v H3 s3 r3 => k v H3 (s1.trans (s2.trans s3)) r3⟩
theorem ty_str {M : List Addr} {H : Hp} {x : V} {z : Str} (r : Rep (but H M) x (.str z)) : tyV K "str" x H := by rw [r.of_str]; rfl
theorem ev_part {z y a b c : Str} (hy : (y.length == 0) = false) (hz : z.length ≤ sizeLine) (e : Txt.partition z y = (a, b, c)) (ha : EvM ta G σ (.str z)) (hb : EvA t G σ [.str y]) : EvM (tBM K "str" rPart ta t) G σ (.tup [.str a, .str b, .str c]) :=
  ev_bm (fun M H x r => ty_str r) (fun M H x xs l rx rs Q k => by
    obtain ⟨u, rfl, ru⟩ := reps1 rs
    rw [rx.of_str, ru.of_str]
    refine ⟨z, y, rfl, rfl, hy, hz, fun p hp => ?_⟩
    rw [e]
    exact k _ _ (same_new hp _) (rep_new_tup l hp (.cons (.str _) (.cons (.str _) (.cons (.str _) .nil))))) ha hb
theorem reps_strT {H : Hp} : ∀ zs : List Str, Reps H (zs.map V.str) (zs.map D.str)
  | [] => .nil
  | z :: r => .cons (.str z) (reps_strT r)
theorem reps_of_strs {H : Hp} : ∀ {zs : List Str} {vs : List V}, Reps H vs (zs.map D.str) → vs = zs.map V.str
  | [], _, .nil => rfl
  | z :: r, _, .cons h q => by rw [h.of_str, reps_of_strs q]; rfl
theorem ev_split {z y : Str} {zs : List Str} (hy : (y.length == 0) = false) (hz : z.length + 2 ≤ sizeLine) (e : Txt.split z y = zs) (ha : EvM ta G σ (.str z)) (hb : EvA t G σ [.str y]) : EvM (tBM K "str" rSplit ta t) G σ (.lst (zs.map D.str)) :=
  ev_bm (fun M H x r => ty_str r) (fun M H x xs l rx rs Q k => by
    obtain ⟨u, rfl, ru⟩ := reps1 rs
    rw [rx.of_str, ru.of_str]
    refine ⟨z, y, rfl, rfl, hy, hz, fun p hp => ?_⟩
    rw [e]
    exact k _ _ (same_new hp _) (rep_new_lst l hp (reps_strT zs))) ha hb
theorem ev_join {z : Str} {zs : List Str} (hz : (zs.map (·.length)).sum + zs.length * z.length ≤ 16777216) (ha : EvM ta G σ (.str z)) (hb : EvA t G σ [.lst (zs.map D.str)]) : EvM (tBM K "str" rJoin ta t) G σ (.str (Str.join z zs)) :=
  ev_bm (fun M H x r => ty_str r) (fun M H x xs l rx rs Q k => by
    obtain ⟨u, rfl, ru⟩ := reps1 rs
    obtain ⟨p, vs, rfl, h1, h2⟩ := ru.of_lst
    rw [rx.of_str]
    refine ⟨z, p, zs, rfl, rfl, by rw [← reps_of_strs h2]; exact (but_some h1).2, hz, ?_⟩
    have e : Txt.join z zs = Str.join z zs := StrLaws.glued_eq_join z zs
    rw [e]
    exact k _ H (Same.refl _) (.str _)) ha hb
theorem ev_ends {z y : Str} (ha : EvM ta G σ (.str z)) (hb : EvA t G σ [.str y]) : EvM (tBM K "str" rEnds ta t) G σ (.bl (Txt.endswith z y)) :=
  ev_bm (fun M H x r => ty_str r) (fun M H x xs l rx rs Q k => by
    obtain ⟨u, rfl, ru⟩ := reps1 rs
    rw [rx.of_str, ru.of_str]
    exact ⟨z, y, rfl, rfl, k _ H (Same.refl _) (.bl _)⟩) ha hb
theorem ev_starts {z y : Str} (ha : EvM ta G σ (.str z)) (hb : EvA t G σ [.str y]) : EvM (tBM K "str" rStarts ta t) G σ (.bl (Txt.startswith z y)) :=
  ev_bm (fun M H x r => ty_str r) (fun M H x xs l rx rs Q k => by
    obtain ⟨u, rfl, ru⟩ := reps1 rs
    rw [rx.of_str, ru.of_str]
    exact ⟨z, y, rfl, rfl, k _ H (Same.refl _) (.bl _)⟩) ha hb
theorem ev_sliceS {z : Str} {tl th : TO} {lo hi : Option Int} (hz : z.length ≤ sizeLine) (ha : EvM ta G σ (.str z)) (hl : ∀ M H, Same G (but H M) → Live M H → ∀ Q : Option Int → Hp → Prop, (∀ H', Same H H' → Q lo H') → tl σ H Q) (hh : ∀ M H, Same G (but H M) → Live M H → ∀ Q : Option Int → Hp → Prop, (∀ H', Same H H' → Q hi H') → th σ H Q) :
    EvM (tSl rSlS ta tl th) G σ (.str (Txt.slice z lo hi)) := fun M H s l Q k => ha M H s l _ fun x H1 s1 rx => hl M H1 (s.trans (s1.but M)) (l.same s1) _ fun H2 s2 => hh M H2 (s.trans ((s1.trans s2).but M)) (l.same (s1.trans s2)) _ fun H3 s3 => by
    rw [rx.of_str]
    exact ⟨z, rfl, hz, k _ H3 (s1.trans (s2.trans s3)) (.str _)⟩
theorem evo_none {M : List Addr} {H : Hp} (Q : Option Int → Hp → Prop) (k : ∀ H', Same H H' → Q none H') : tNoPart σ H Q := k H (Same.refl _)
theorem evo_some {i : Int} (h : EvM ta G σ (.int i)) : ∀ M H, Same G (but H M) → Live M H → ∀ Q : Option Int → Hp → Prop, (∀ H', Same H H' → Q (some i) H') → tPart ta σ H Q := fun M H s l Q k => h M H s l _ fun x H1 s1 rx => ⟨i, rx.of_int, k H1 s1⟩
theorem ev_intT {x : Str} {n : Int} (hn : PySem.intText? x = some n) (hl : x.length ≤ 640) (h : EvA t G σ [.str x]) : EvM (tCB (fun xs H Q => ∃ x n, xs = [.str x] ∧ PySem.intText? x = some n ∧ x.length ≤ 640 ∧ Q (.int n) H) t) G σ (.int n) :=
  ev_cb (fun M H xs l rs Q k => by
    obtain ⟨u, rfl, ru⟩ := reps1 rs
    exact ⟨x, n, by rw [ru.of_str], hn, hl, k _ H (Same.refl _) (.int _)⟩) h
theorem ev_addS {a b : Str} (hz : a.length + b.length ≤ sizeLine) (ha : EvM ta G σ (.str a)) (hb : EvM tb G σ (.str b)) : EvM (tOp (fun x y H Q => ∃ i j, x = .str i ∧ y = .str j ∧ i.length + j.length ≤ sizeLine ∧ Q (.str (i ++ j)) H) ta tb) G σ (.str (a ++ b)) :=
  ev_op2 (fun M H x y l rx ry Q k => ⟨a, b, rx.of_str, ry.of_str, hz, k _ H (Same.refl _) (.str _)⟩) ha hb
theorem ev_inS {x : Str} {c : Nat} (ha : EvM ta G σ (.str ⟨#[c]⟩)) (hb : EvM tb G σ (.str x)) : EvM (tOp (fun x y H Q => ∃ i j, x = .str i ∧ y = .str j ∧ Q (.bl (!(Builtin.Str.occurrences j i 0 j.length 1).isEmpty)) H) ta tb) G σ (.bl (decide (c ∈ x.cps.toList))) :=
  ev_op2 (fun M H u y l rx ry Q k => ⟨⟨#[c]⟩, x, rx.of_str, ry.of_str, by rw [StrLaws.found_one]; exact k _ H (Same.refl _) (.bl _)⟩) ha hb
/-- f-strings -/
def EvJ (t : Str → TE) (G : Hp) (σ : St) (zs : List Str) : Prop := ∀ acc : Str, (zs.foldl (fun n z => n + z.length) acc.length) ≤ sizeLine → EvM (t acc) G σ (.str (zs.foldl (· ++ ·) acc))
theorem foldl_le (zs : List Str) : ∀ n : Nat, n ≤ zs.foldl (fun n z => n + z.length) n := by
  induction zs with
  | nil => intro n; exact Nat.le_refl _
  | cons z r ih => intro n; exact Nat.le_trans (Nat.le_add_right _ _) (ih _)
theorem app_len (a b : Str) : (a ++ b).length = a.length + b.length := by
  show (a.cps ++ b.cps).size = _
  rw [Array.size_append]; rfl
theorem ev_j0 : EvJ tJ0 G σ [] := fun acc hz M H s l Q k => ⟨hz, k _ H (Same.refl _) (.str _)⟩
theorem ev_j1 {z : Str} {zs : List Str} {tr : Str → TE} (ha : EvM ta G σ (.str z)) (hr : EvJ tr G σ zs) : EvJ (tJ1 ta tr) G σ (z :: zs) := fun acc hz M H s l Q k =>
  ha M H s l _ fun x H1 s1 rx => ⟨z, rx.of_str, by
    have := foldl_le zs (acc.length + z.length)
    rw [app_len]; exact Nat.le_trans this hz, hr (acc ++ z) (by rw [app_len]; exact hz) M H1 (s.trans (s1.but M)) (l.same s1) Q fun v H2 s2 r2 => k v H2 (s1.trans s2) r2⟩
theorem ev_fmt {z : Str} (hz : z.length ≤ sizeLine) (ha : EvM ta G σ (.str z)) : EvM (tFmt ta) G σ (.str z) := fun M H s l Q k => ha M H s l _ fun x H1 s1 rx => ⟨z, rx.of_str, hz, k _ H1 s1 (.str _)⟩
theorem walk_str {x : Str} (ha : x.cps.all (· < 128) = true) (h : EvM te G σ (.str x)) : Walk (iStr te) G σ (x.cps.toList.map fun c => D.str ⟨#[c]⟩) := fun M H s l R k => h M H s l _ fun v H1 s1 r1 => by
  refine ⟨x, r1.of_str, ha, k _ H1 s1 (fun j d M' H' hj hs hlv => ?_) (fun M' H' hs => ?_)⟩
  · rw [List.getElem?_map] at hj
    cases e : x.cps.toList[j]? with
    | none => rw [e] at hj; cases hj
    | some c =>
      rw [e] at hj
      obtain rfl : D.str ⟨#[c]⟩ = d := Option.some.inj hj
      have hlt : j < x.cps.toList.length := (List.getElem?_eq_some_iff.mp e).1
      refine ⟨(show j < x.cps.size by simpa using hlt), fun y H'' ⟨e1, c', e2, e3⟩ => ?_⟩
      subst e1 e3
      have : some c' = some c := by rw [← e2, ← e]; simp
      cases this
      exact ⟨Same.refl _, .str _⟩
  · show x.cps.size ≤ _
    simp
theorem evt_truT {xs : List D} (h : EvM ta G σ (.tup xs)) : EvT (fun σ H Q => ta σ H fun x H' => ∃ k, TruV K x H' k ∧ Q k H') G σ (!xs.isEmpty) := fun M H s l Q k => h M H s l _ fun v H1 s1 r1 => by
  obtain ⟨a, vs, rfl, h1, h2⟩ := r1.of_tup
  refine ⟨!xs.isEmpty, .inr (.inl ⟨vs, SqT.of (but_some h1).2, ?_⟩), k H1 s1⟩
  cases h2 <;> rfl
theorem ev_ifE {tt : TT} {b : Bool} (h : EvT tt G σ b) (h1 : b = true → EvM ta G σ d) (h2 : b = false → EvM tb G σ d) : EvM (tIf tt ta tb) G σ d := fun M H s l Q k => h M H s l _ fun H1 s1 => by
  cases b with
  | true => rw [if_pos rfl]; exact h1 rfl M H1 (s.trans (s1.but M)) (l.same s1) Q fun v H2 s2 r2 => k v H2 (s1.trans s2) r2
  | false => rw [if_neg Bool.false_ne_true]; exact h2 rfl M H1 (s.trans (s1.but M)) (l.same s1) Q fun v H2 s2 r2 => k v H2 (s1.trans s2) r2
end
section
variable {X : Cx} {N' : List Str} {scope : Scope} {cl : List (Str × Addr)} {C : Addr} {fp : List Addr} {s : Shared} {H : Hp} {e : Expr} {te : TE} {p pos : Pos}
theorem pe_strCc (B : Bl X.mg) (h : PE (cxComp X N' scope cl C fp s H) e te) (hg : Gl (cxComp X N' scope cl C fp s H) "str" := by rfl) (he : starEach [e] (cxComp X N' scope cl C fp s H).env = (false, eval e (cxComp X N' scope cl C fp s H).env) :: starEach [] (cxComp X N' scope cl C fp s H).env := by rfl) :
    PE (cxComp X N' scope cl C fp s H) (.Call (.Name "str" p) [e] [] pos) (tCB rStr (tCons te tNil)) := pe_strC (X := cxComp X N' scope cl C fp s H) B h hg he
theorem pe_intC (B : Bl X.mg) (h : PE X e te) (hg : Gl X "int" := by rfl) (he : starEach [e] X.env = (false, eval e X.env) :: starEach [] X.env := by rfl) : PE X (.Call (.Name "int" p) [e] [] pos)
    (tCB (fun xs H Q => ∃ x n, xs = [.str x] ∧ PySem.intText? x = some n ∧ x.length ≤ 640 ∧ Q (.int n) H) (tCons te tNil)) :=
  pe_callTy call_int_text hg B.int PyProof.Rows.boot_int (pa_cons h pa_nil he) (he := he)
end
end FL

set_option Elab.async false
set_option linter.all false
set_option maxRecDepth 100000
/-! MATHEMATICS of k11: how words, blanks, whole numbers, atoms and rules are written -/
namespace FL
open PySem
def low (c : Nat) : Bool := decide (97 ≤ c) && decide (c ≤ 122)
def upc (c : Nat) : Bool := decide (65 ≤ c) && decide (c ≤ 90)
def dig (c : Nat) : Bool := decide (48 ≤ c) && decide (c ≤ 57)
def wordB (l : L) : Bool := !l.isEmpty && l.all low
def blankB : L → Bool
  | [] => false
  | c :: r => upc c && r.all low
def figs (l : L) : L := if l.head? = some 45 then l.drop 1 else l
def numB (l : L) : Bool := decide (l = [48]) || (!(figs l).isEmpty && (!decide ((figs l).head? = some 48) && (figs l).all dig))
theorem small_list : (Str.ofString "abcdefghijklmnopqrstuvwxyz").cps.toList = [97, 98, 99, 100, 101, 102, 103, 104, 105, 106, 107, 108, 109, 110, 111, 112, 113, 114, 115, 116, 117, 118, 119, 120, 121, 122] := by decide +kernel
theorem great_list : (Str.ofString "ABCDEFGHIJKLMNOPQRSTUVWXYZ").cps.toList = [65, 66, 67, 68, 69, 70, 71, 72, 73, 74, 75, 76, 77, 78, 79, 80, 81, 82, 83, 84, 85, 86, 87, 88, 89, 90] := by decide +kernel
theorem figs_list : (Str.ofString "0123456789").cps.toList = [48, 49, 50, 51, 52, 53, 54, 55, 56, 57] := by decide +kernel
theorem mem_small (c : Nat) : decide (c ∈ (Str.ofString "abcdefghijklmnopqrstuvwxyz").cps.toList) = low c := by
  rw [small_list]
  unfold low
  rw [← Bool.decide_and]
  refine decide_eq_decide.mpr ⟨fun h => ?_, fun h => ?_⟩
  · simp only [List.mem_cons, List.not_mem_nil, or_false] at h; omega
  · simp only [List.mem_cons, List.not_mem_nil, or_false]; omega
theorem mem_great (c : Nat) : decide (c ∈ (Str.ofString "ABCDEFGHIJKLMNOPQRSTUVWXYZ").cps.toList) = upc c := by
  rw [great_list]
  unfold upc
  rw [← Bool.decide_and]
  refine decide_eq_decide.mpr ⟨fun h => ?_, fun h => ?_⟩
  · simp only [List.mem_cons, List.not_mem_nil, or_false] at h; omega
  · simp only [List.mem_cons, List.not_mem_nil, or_false]; omega
theorem mem_figs (c : Nat) : decide (c ∈ (Str.ofString "0123456789").cps.toList) = dig c := by
  rw [figs_list]
  unfold dig
  rw [← Bool.decide_and]
  refine decide_eq_decide.mpr ⟨fun h => ?_, fun h => ?_⟩
  · simp only [List.mem_cons, List.not_mem_nil, or_false] at h; omega
  · simp only [List.mem_cons, List.not_mem_nil, or_false]; omega
theorem low_iff {c : Nat} : low c = true ↔ 97 ≤ c ∧ c ≤ 122 := by simp [low]
theorem upc_iff {c : Nat} : upc c = true ↔ 65 ≤ c ∧ c ≤ 90 := by simp [upc]
theorem dig_iff {c : Nat} : dig c = true ↔ 48 ≤ c ∧ c ≤ 57 := by simp [dig]
/-- the figures of a number -/
def digs (n : Nat) : L := (Nat.toDigits 10 n).map Char.toNat
theorem digs_all (n : Nat) : ∀ c ∈ digs n, 48 ≤ c ∧ c ≤ 57 := fun c hc => by
  obtain ⟨ch, hch, e⟩ := List.mem_map.mp hc
  have h1 := Nat.isDigit_of_mem_toDigits (by decide) (by decide) hch
  rw [← e]
  have h2 : ch.isDigit = true := h1
  simp only [Char.isDigit, Bool.and_eq_true, decide_eq_true_eq] at h2
  have a1 : (48 : UInt32) ≤ ch.val := h2.1
  have a2 : ch.val ≤ (57 : UInt32) := h2.2
  have b1 := UInt32.le_iff_toNat_le.mp a1
  have b2 := UInt32.le_iff_toNat_le.mp a2
  exact ⟨b1, b2⟩
theorem digs_step (n : Nat) (h : 10 ≤ n) : digs n = digs (n / 10) ++ digs (n % 10) := by
  have hm : n % 10 < 10 := Nat.mod_lt n (by decide)
  have t : Nat.toDigits 10 (n / 10) ++ Nat.toDigits 10 (n % 10) = Nat.toDigits 10 (10 * (n / 10) + n % 10) := Nat.toDigits_append_toDigits (by decide) (by omega) hm
  rw [Nat.div_add_mod] at t
  unfold digs
  rw [← t, List.map_append]
theorem digs_one {n : Nat} (h : n < 10) : digs n = [48 + n] := by
  unfold digs
  rw [Nat.toDigits_of_lt_base h]
  have : n = 0 ∨ n = 1 ∨ n = 2 ∨ n = 3 ∨ n = 4 ∨ n = 5 ∨ n = 6 ∨ n = 7 ∨ n = 8 ∨ n = 9 := by omega
  rcases this with rfl | rfl | rfl | rfl | rfl | rfl | rfl | rfl | rfl | rfl <;> rfl
theorem digs_len : ∀ (k n : Nat), n < 10 ^ (k + 1) → (digs n).length ≤ k + 1
  | 0, n, h => by rw [digs_one (by simpa using h)]; simp
  | k + 1, n, h => by
    by_cases h0 : n < 10
    · rw [digs_one h0]; simp
    · rw [digs_step n (by omega), List.length_append, digs_one (Nat.mod_lt n (by decide))]
      have := digs_len k (n / 10) (by rw [Nat.pow_succ] at h; omega)
      simp; omega
theorem digs_head : ∀ (k n : Nat), n ≤ k → 0 < n → ∃ c r, digs n = c :: r ∧ 49 ≤ c
  | 0, n, h1, h2 => by omega
  | k + 1, n, h1, h2 => by
    by_cases h0 : n < 10
    · exact ⟨48 + n, [], digs_one h0, by omega⟩
    · obtain ⟨c, r, e, h⟩ := digs_head k (n / 10) (by omega) (by omega)
      exact ⟨c, r ++ digs (n % 10), by rw [digs_step n (by omega), e]; rfl, h⟩
theorem digs_zero : digs 0 = [48] := digs_one (by decide)
def numL (i : Int) : L := if i < 0 then 45 :: digs i.natAbs else digs i.natAbs
theorem num_text (i : Int) : (Str.ofString (toString i)).cps.toList = numL i := by
  rw [Str.ofString_eq_toList]
  show (toString i).toList.map Char.toNat = numL i
  cases i with
  | ofNat n =>
    show (Nat.repr n).toList.map Char.toNat = _
    rw [Nat.toList_repr]
    unfold numL
    rw [if_neg (by simp)]
    rfl
  | negSucc n =>
    show (Int.repr (Int.negSucc n)).toList.map Char.toNat = _
    unfold numL
    rw [if_pos (Int.negSucc_lt_zero n)]
    show ("-" ++ Nat.repr (n + 1)).toList.map Char.toNat = 45 :: digs (n + 1)
    rw [String.toList_append, Nat.toList_repr]
    rfl
theorem num_reads {i : Int} (h : i.natAbs < 10 ^ 30) : PySem.intText? (S (numL i)) = some i := by
  have hd : NumText.AllDigits (digs i.natAbs) := digs_all _
  have hl := digs_len 29 i.natAbs h
  have hne : digs i.natAbs ≠ [] := by
    by_cases h0 : i.natAbs = 0
    · rw [h0, digs_zero]; simp
    · obtain ⟨c, r, e, _⟩ := digs_head i.natAbs i.natAbs (Nat.le_refl _) (by omega)
      rw [e]; simp
  have hv : NumText.digitsVal (digs i.natAbs) = i.natAbs := PySem.W.KIN.val_back _
  unfold numL
  by_cases hs : i < 0
  · rw [if_pos hs]
    have := intText_neg (x := S (45 :: digs i.natAbs)) (cs := digs i.natAbs) rfl hd hne (by rw [S_len, List.length_cons]; omega)
    rw [this, hv]
    congr 1
    omega
  · rw [if_neg hs]
    have := intText_digits (x := S (digs i.natAbs)) hd hne (by rw [S_len]; omega)
    rw [this, S_list, hv]
    congr 1
    omega
theorem num_numB (i : Int) : numB (numL i) = true := by
  by_cases h0 : i.natAbs = 0
  · have : i = 0 := by omega
    subst this
    unfold numL
    rw [if_neg (by decide)]
    show numB (digs 0) = true
    rw [digs_zero]; rfl
  · obtain ⟨c, r, e, hc⟩ := digs_head i.natAbs i.natAbs (Nat.le_refl _) (by omega)
    have hall : ∀ x ∈ c :: r, 48 ≤ x ∧ x ≤ 57 := by rw [← e]; exact digs_all _
    have hf : figs (numL i) = c :: r := by
      unfold numL figs
      by_cases hs : i < 0
      · rw [if_pos hs, e]; rfl
      · rw [if_neg hs, e, if_neg]
        have := hall c List.mem_cons_self
        simp; omega
    unfold numB
    rw [hf]
    have h2 : (c :: r).all dig = true := List.all_eq_true.mpr fun x hx => dig_iff.mpr (hall x hx)
    rw [h2]
    have h3 : ¬ ((c :: r).head? = some 48) := by simp; omega
    rw [decide_eq_false h3]
    simp
theorem num_first (i : Int) : ∃ c r, numL i = c :: r ∧ (c = 45 ∨ (48 ≤ c ∧ c ≤ 57)) := by
  unfold numL
  by_cases hs : i < 0
  · rw [if_pos hs]; exact ⟨45, _, rfl, .inl rfl⟩
  · rw [if_neg hs]
    have hall := digs_all i.natAbs
    by_cases h0 : i.natAbs = 0
    · rw [h0, digs_zero]; exact ⟨48, [], rfl, .inr (by omega)⟩
    · obtain ⟨c, r, e, _⟩ := digs_head i.natAbs i.natAbs (Nat.le_refl _) (by omega)
      rw [e] at hall
      exact ⟨c, r, e, .inr (hall c List.mem_cons_self)⟩
theorem num_all (i : Int) : ∀ c ∈ numL i, c = 45 ∨ (48 ≤ c ∧ c ≤ 57) := fun c hc => by
  unfold numL at hc
  by_cases hs : i < 0
  · rw [if_pos hs] at hc
    rcases List.mem_cons.mp hc with e | e
    · exact .inl e
    · exact .inr (digs_all _ c e)
  · rw [if_neg hs] at hc
    exact .inr (digs_all _ c hc)
theorem num_len {i : Int} (h : i.natAbs < 10 ^ 30) : (numL i).length ≤ 31 := by
  have := digs_len 29 i.natAbs h
  unfold numL
  split
  · simp; omega
  · omega
/-! parts -/
def partL : D → L
  | .str x => x.cps.toList
  | .int i => numL i
  | _ => []
def goodP : D → Prop
  | .str x => (wordB x.cps.toList || blankB x.cps.toList) = true ∧ x.length ≤ 31
  | .int i => i.natAbs < 10 ^ 30
  | _ => False
theorem word_all {l : L} (h : wordB l = true) : ∀ c ∈ l, 97 ≤ c ∧ c ≤ 122 := fun c hc => by
  simp only [wordB, Bool.and_eq_true] at h
  exact low_iff.mp (List.all_eq_true.mp h.2 c hc)
theorem word_ne {l : L} (h : wordB l = true) : l ≠ [] := fun e => by rw [e] at h; cases h
theorem blank_all {l : L} (h : blankB l = true) : ∀ c ∈ l, (97 ≤ c ∧ c ≤ 122) ∨ (65 ≤ c ∧ c ≤ 90) := fun c hc => by
  cases l with
  | nil => cases hc
  | cons d r =>
    simp only [blankB, Bool.and_eq_true] at h
    rcases List.mem_cons.mp hc with e | e
    · subst e; exact .inr (upc_iff.mp h.1)
    · exact .inl (low_iff.mp (List.all_eq_true.mp h.2 c e))
theorem blank_ne {l : L} (h : blankB l = true) : l ≠ [] := fun e => by rw [e] at h; cases h
theorem part_all {d : D} (h : goodP d) : ∀ c ∈ partL d, c = 45 ∨ (48 ≤ c ∧ c ≤ 57) ∨ (97 ≤ c ∧ c ≤ 122) ∨ (65 ≤ c ∧ c ≤ 90) := fun c hc => by
  cases d with
  | str x =>
    have h1 := h.1
    rw [Bool.or_eq_true] at h1
    rcases h1 with h1 | h1
    · exact .inr (.inr (.inl (word_all h1 c hc)))
    · rcases blank_all h1 c hc with q | q
      · exact .inr (.inr (.inl q))
      · exact .inr (.inr (.inr q))
  | int i => rcases num_all i c hc with q | q
             · exact .inl q
             · exact .inr (.inl q)
  | _ => exact h.elim
theorem part_ne {d : D} (h : goodP d) : partL d ≠ [] := by
  cases d with
  | str x =>
    have h1 := h.1
    rw [Bool.or_eq_true] at h1
    rcases h1 with h1 | h1
    · exact word_ne h1
    · exact blank_ne h1
  | int i => obtain ⟨c, r, e, _⟩ := num_first i; show numL i ≠ []; rw [e]; simp
  | _ => exact h.elim
theorem part_len {d : D} (h : goodP d) : (partL d).length ≤ 31 := by
  cases d with
  | str x => rw [partL, len_list]; exact h.2
  | int i => exact num_len h
  | _ => exact h.elim
theorem part_text {d : D} (h : goodP d) : d.text = S (partL d) := by
  cases d with
  | str x => exact (S_of x).symm
  | int i => show Str.ofString (toString i) = S (numL i); rw [← num_text, S_of]
  | _ => exact h.elim
theorem part_small {d : D} (h : goodP d) : d.smallS = true := by
  cases d with
  | str x => rfl
  | int i =>
    refine decide_eq_true ?_
    have h1 : i.natAbs < 2 ^ 1920 := Nat.lt_trans h (by decide +kernel)
    by_cases h0 : i.natAbs = 0
    · rw [h0]; decide
    · exact (Nat.log2_lt h0).mpr h1
  | _ => exact h.elim
theorem part_sc {d : D} (h : goodP d) : d.sc = true := by
  cases d with
  | str x => rfl
  | int i => rfl
  | _ => exact h.elim
/-! atoms -/
def atomL (rel : L) (ps : List D) : L := rel ++ [40] ++ (joinL [44, 32] (ps.map partL) ++ [41])
structure GoodA (a : D) (rel : Str) (ps : List D) : Prop where
  eq : a = .tup (.str rel :: ps)
  word : wordB rel.cps.toList = true
  len : rel.length ≤ 31
  good : ∀ d ∈ ps, goodP d
  few : ps.length ≤ 70
theorem joinL_mem {y : L} : ∀ {ps : List L} {c : Nat}, c ∈ joinL y ps → c ∈ y ∨ ∃ p ∈ ps, c ∈ p
  | [], _, h => by cases h
  | [p], c, h => .inr ⟨p, List.mem_cons_self, h⟩
  | p :: q :: r, c, h => by
    have h : c ∈ p ++ y ++ joinL y (q :: r) := h
    rw [List.mem_append, List.mem_append] at h
    rcases h with (h | h) | h
    · exact .inr ⟨p, List.mem_cons_self, h⟩
    · exact .inl h
    · rcases joinL_mem h with z | ⟨p', h1, h2⟩
      · exact .inl z
      · exact .inr ⟨p', List.mem_cons_of_mem _ h1, h2⟩
theorem joinL_len {y : L} {B : Nat} : ∀ {ps : List L}, (∀ p ∈ ps, p.length ≤ B) → (joinL y ps).length ≤ ps.length * (B + y.length)
  | [], _ => by simp [joinL]
  | [p], h => by have := h p List.mem_cons_self; simp [joinL]; omega
  | p :: q :: r, h => by
    have h1 := h p List.mem_cons_self
    have h2 := joinL_len (y := y) (ps := q :: r) fun z hz => h z (List.mem_cons_of_mem _ hz)
    show (p ++ y ++ joinL y (q :: r)).length ≤ _
    rw [List.length_append, List.length_append]
    simp only [List.length_cons, Nat.add_mul, Nat.one_mul] at h2 ⊢
    omega
theorem sp_join : ∀ {ps : List L} (p : Nat), (∀ z ∈ ps, ∀ c ∈ z, c ≠ 32) → sp p (joinL [44, 32] ps) = true
  | [], _, _ => rfl
  | [z], p, h => sp_no p (h z List.mem_cons_self)
  | z :: q :: r, p, h => by
    show sp p (z ++ [44, 32] ++ joinL [44, 32] (q :: r)) = true
    rw [List.append_assoc, sp_app, sp_no p (h z List.mem_cons_self), Bool.true_and]
    show ((44 != 32 || _) && ((32 != 32 || 44 == 44) && sp 32 (joinL [44, 32] (q :: r)))) = true
    rw [sp_join 32 fun w hw => h w (List.mem_cons_of_mem _ hw)]
    rfl
theorem atom_sp {rel : L} {ps : List D} (hr : wordB rel = true) (hp : ∀ d ∈ ps, goodP d) : sp 0 (atomL rel ps) = true ∧ (atomL rel ps).getLast? = some 41 := by
  have h1 : ∀ z ∈ ps.map partL, ∀ c ∈ z, c ≠ 32 := fun z hz c hc => by
    obtain ⟨d, hd, rfl⟩ := List.mem_map.mp hz
    have := part_all (hp d hd) c hc
    omega
  constructor
  · unfold atomL
    have h2 : ∀ c ∈ rel ++ [40], c ≠ 32 := fun c hc => by
      rw [List.mem_append] at hc
      rcases hc with hc | hc
      · have := word_all hr c hc; omega
      · have : c = 40 := by simpa using hc
        omega
    rw [sp_app, sp_no 0 h2, sp_app, sp_join _ h1]
    simp [sp]
  · unfold atomL
    rw [← List.append_assoc, List.getLast?_append]
    rfl
theorem atom_len {rel : L} {ps : List D} (hl : rel.length ≤ 31) (hp : ∀ d ∈ ps, goodP d) (hn : ps.length ≤ 70) : (atomL rel ps).length ≤ 3000 := by
  have := joinL_len (y := [44, 32]) (B := 31) (ps := ps.map partL) fun z hz => by
    obtain ⟨d, hd, rfl⟩ := List.mem_map.mp hz
    exact part_len (hp d hd)
  have h2 : (ps.map partL).length * (31 + ([44, 32] : L).length) ≤ 70 * 33 := Nat.mul_le_mul (by simpa using hn) (by simp)
  unfold atomL
  simp only [List.length_append, List.length_cons, List.length_nil]
  omega
theorem atom_asc {rel : L} {ps : List D} (hr : wordB rel = true) (hp : ∀ d ∈ ps, goodP d) : ∀ c ∈ atomL rel ps, c < 128 := fun c hc => by
  unfold atomL at hc
  simp only [List.mem_append, List.mem_cons, List.not_mem_nil, or_false] at hc
  rcases hc with (hc | hc) | (hc | hc)
  · have := word_all hr c hc; omega
  · omega
  · rcases joinL_mem hc with z | ⟨p, h1, h2⟩
    · simp only [List.mem_cons, List.not_mem_nil, or_false] at z; omega
    · obtain ⟨d, hd, rfl⟩ := List.mem_map.mp h1
      have := part_all (hp d hd) c h2
      omega
  · omega
theorem join_S (y : L) : ∀ ps : List L, Str.join (S y) (ps.map S) = S (joinL y ps)
  | [] => rfl
  | [p] => rfl
  | p :: q :: r => by
    show S p ++ S y ++ Str.join (S y) ((q :: r).map S) = S (p ++ y ++ joinL y (q :: r))
    rw [join_S y (q :: r), S_app, S_app]
/-- the line of a rule -/
def lineL (as : List L) : L := match as with
  | [] => []
  | [h] => h
  | h :: b :: r => h ++ [32, 105, 102, 32] ++ joinL [32, 97, 110, 100, 32] (b :: r)
theorem sep_if : Sep [32, 105, 102, 32] 2 := ⟨rfl, rfl, ⟨102, rfl, by decide⟩, by decide⟩
theorem sep_and : Sep [32, 97, 110, 100, 32] 3 := ⟨rfl, rfl, ⟨100, rfl, by decide⟩, by decide⟩
theorem read_if {h b : L} {r : List L} (h1 : sp 0 h = true) (h2 : h.getLast? = some 41) : Txt.partition (S (lineL (h :: b :: r))) (S [32, 105, 102, 32]) = (S h, S [32, 105, 102, 32], S (joinL [32, 97, 110, 100, 32] (b :: r))) :=
  partition_at (by simp) fun k hk => sep_first sep_if h1 h2 k hk
theorem read_fact {h : L} (h1 : sp 0 h = true) : Txt.partition (S h) (S [32, 105, 102, 32]) = (S h, Str.empty, Str.empty) := partition_no (by simp) fun k => sep_none sep_if h1 k
theorem read_and {as : List L} (hn : as ≠ []) (h : ∀ p ∈ as, sp 0 p = true ∧ p.getLast? = some 41) : Txt.split (S (joinL [32, 97, 110, 100, 32] as)) (S [32, 97, 110, 100, 32]) = as.map S :=
  split_tight (by simp) (by simp) (tight_sep sep_and hn h)
theorem read_open {rel : L} {ps : List D} (hr : wordB rel = true) : Txt.partition (S (atomL rel ps)) (S [40]) = (S rel, S [40], S (joinL [44, 32] (ps.map partL) ++ [41])) :=
  partition_at (by simp) fun k hk o => by
    have := occ_at (j := 0) (c := 40) o rfl
    rw [List.append_assoc, List.getElem?_append_left (by omega)] at this
    have := word_all hr 40 (List.mem_of_getElem? this)
    omega
theorem read_comma {ps : List D} (hn : ps ≠ []) (hp : ∀ d ∈ ps, goodP d) : Txt.split (S (joinL [44, 32] (ps.map partL))) (S [44, 32]) = (ps.map partL).map S :=
  split_tight (by simp) (by simp) (tight_first (by simpa using hn) fun p hpm hc => by
    obtain ⟨d, hd, rfl⟩ := List.mem_map.mp hpm
    have := part_all (hp d hd) 44 hc
    omega)
theorem join_ne {ps : List D} (hn : ps ≠ []) (hp : ∀ d ∈ ps, goodP d) : joinL [44, 32] (ps.map partL) ≠ [] := by
  cases ps with
  | nil => exact absurd rfl hn
  | cons d r =>
    have h1 := part_ne (hp d List.mem_cons_self)
    cases r with
    | nil => exact h1
    | cons e t =>
      show partL d ++ [44, 32] ++ _ ≠ []
      simp
theorem cut_last (l : L) : Txt.slice (S (l ++ [41])) none (some (-1)) = S l := by
  show StrLaws.sliceText _ _ _ = _
  rw [StrLaws.sliceText_to_neg (by decide) (by rw [S_len, List.length_append, List.length_singleton]; omega), S_list, S_len]
  show S _ = S l
  congr 1
  rw [List.drop_zero, List.length_append, List.length_singleton]
  have e : ((-1 : Int) + ((l.length + 1 : Nat) : Int) - 0).toNat = l.length := by omega
  first | rw [e, List.take_left] | (rw [show ((-1 : Int) + ((l.length + 1 : Nat) : Int)).toNat = l.length by omega, List.take_left])
theorem cut_first (c : Nat) (l : L) : Txt.slice (S (c :: l)) (some 1) none = S l := by
  show StrLaws.sliceText _ _ _ = _
  rw [StrLaws.sliceText_from (by rw [S_list, List.length_cons]; omega), S_list]
  show S (((c :: l).drop 1).take _) = S l
  congr 1
  rw [List.drop_one, List.tail_cons, List.take_of_length_le]
  simp
theorem ends_close (l : L) : Txt.endswith (S (l ++ [41])) (S [41]) = true := by
  unfold Txt.endswith
  rw [Bool.and_eq_true, decide_eq_true_eq, S_len, S_len]
  refine ⟨by simp, ?_⟩
  rw [StrLaws.subAt_eq, S_list, S_list, S_len]
  simp
theorem starts_minus (l : L) : Txt.startswith (S l) (S [45]) = decide (l.head? = some 45) := by
  unfold Txt.startswith
  rw [StrLaws.subAt_eq, S_list, S_list, S_len, S_len]
  cases l with
  | nil => rfl
  | cons c r =>
    by_cases e : c = 45
    · subst e
      rw [decide_eq_true (p := (45 :: r).head? = some 45) rfl]
      simp
    · rw [decide_eq_false (p := (c :: r).head? = some 45) (by simp; exact e)]
      simp; exact e
/-! reading by function -/
def rd : D → D
  | .str z => if (wordB z.cps.toList || blankB z.cps.toList) = true then .str z else match PySem.intText? z with | some n => .int n | none => .non
  | _ => .non
theorem num_not_word (i : Int) : wordB (numL i) = false ∧ blankB (numL i) = false := by
  obtain ⟨c, r, e, hc⟩ := num_first i
  rw [e]
  constructor
  · have : low c = false := by
      cases q : low c with
      | false => rfl
      | true => have := low_iff.mp q; omega
    simp [wordB, this]
  · have : upc c = false := by
      cases q : upc c with
      | false => rfl
      | true => have := upc_iff.mp q; omega
    simp [blankB, this]
theorem rd_part {p : D} (h : goodP p) : rd (.str (S (partL p))) = p := by
  cases p with
  | str x =>
    show (if (wordB (S (x.cps.toList)).cps.toList || blankB (S (x.cps.toList)).cps.toList) = true then D.str (S x.cps.toList) else _) = _
    rw [S_of, if_pos h.1]
  | int i =>
    show (if (wordB (S (numL i)).cps.toList || blankB (S (numL i)).cps.toList) = true then D.str (S (numL i)) else _) = _
    rw [S_list, (num_not_word i).1, (num_not_word i).2, if_neg (by simp)]
    show (match PySem.intText? (S (numL i)) with | some n => D.int n | none => .non) = _
    rw [num_reads h]
  | _ => exact h.elim
def atomT : D → L
  | .tup (.str rel :: ps) => atomL rel.cps.toList ps
  | _ => []
def goodA (a : D) : Prop := ∃ rel ps, GoodA a rel ps
theorem goodA_T {a : D} (h : goodA a) : ∃ rel ps, GoodA a rel ps ∧ atomT a = atomL rel.cps.toList ps := by
  obtain ⟨rel, ps, g⟩ := h
  exact ⟨rel, ps, g, by rw [g.eq]; rfl⟩
theorem goodA_sp {a : D} (h : goodA a) : sp 0 (atomT a) = true ∧ (atomT a).getLast? = some 41 := by
  obtain ⟨rel, ps, g, e⟩ := goodA_T h
  rw [e]; exact atom_sp g.word g.good
theorem goodA_len {a : D} (h : goodA a) : (atomT a).length ≤ 3000 := by
  obtain ⟨rel, ps, g, e⟩ := goodA_T h
  rw [e]; exact atom_len (by rw [len_list]; exact g.len) g.good g.few
theorem goodA_asc {a : D} (h : goodA a) : ∀ c ∈ atomT a, c < 128 := by
  obtain ⟨rel, ps, g, e⟩ := goodA_T h
  rw [e]; exact atom_asc g.word g.good
def rdA : D → D
  | .str z => if Txt.slice (Txt.partition z (S [40])).2.2 none (some (-1)) = S [] then .tup [.str (Txt.partition z (S [40])).1] else .tup (.str (Txt.partition z (S [40])).1 :: (Txt.split (Txt.slice (Txt.partition z (S [40])).2.2 none (some (-1))) (S [44, 32])).map fun t => rd (.str t))
  | _ => .non
theorem rd_parts {ps : List D} (hp : ∀ d ∈ ps, goodP d) : ((ps.map partL).map S).map (fun t => rd (.str t)) = ps := by
  rw [List.map_map, List.map_map]
  conv => rhs; rw [← List.map_id ps]
  exact List.map_congr_left fun d hd => rd_part (hp d hd)
theorem rdA_atom {a : D} (h : goodA a) : rdA (.str (S (atomT a))) = a := by
  obtain ⟨rel, ps, g, e⟩ := goodA_T h
  rw [e]
  unfold rdA
  dsimp only
  rw [read_open g.word]
  show (if Txt.slice (S (joinL [44, 32] (ps.map partL) ++ [41])) none (some (-1)) = S [] then _ else _) = _
  rw [cut_last]
  by_cases hn : ps = []
  · subst hn
    rw [if_pos (show S (joinL [44, 32] (List.map partL [])) = S [] from rfl), g.eq]
    dsimp only
    rw [S_of]
  · rw [if_neg fun z => join_ne hn g.good (S_inj z)]
    show D.tup (.str (S rel.cps.toList) :: (Txt.split (S (joinL [44, 32] (ps.map partL))) (S [44, 32])).map fun t => rd (.str t)) = _
    rw [read_comma hn g.good, rd_parts g.good, S_of, g.eq]
def GoodR (h : D) (b : List D) : Prop := goodA h ∧ (∀ a ∈ b, goodA a) ∧ b.length ≤ 70
def lineS (h : D) (b : List D) : Str := S (lineL ((h :: b).map atomT))
theorem join_and_len {b : List D} (hb : ∀ a ∈ b, goodA a) (hn : b.length ≤ 70) : (joinL [32, 97, 110, 100, 32] (b.map atomT)).length ≤ 300000 := by
  have := joinL_len (y := [32, 97, 110, 100, 32]) (B := 3000) (ps := b.map atomT) fun z hz => by
    obtain ⟨d, hd, rfl⟩ := List.mem_map.mp hz
    exact goodA_len (hb d hd)
  have h2 : (b.map atomT).length * (3000 + ([32, 97, 110, 100, 32] : L).length) ≤ 70 * 3005 := Nat.mul_le_mul (by simpa using hn) (by simp)
  omega
theorem line_len {h : D} {b : List D} (g : GoodR h b) : (lineL ((h :: b).map atomT)).length ≤ 400000 := by
  have h1 := goodA_len g.1
  cases b with
  | nil => show (atomT h).length ≤ _; omega
  | cons c r =>
    have h2 := join_and_len g.2.1 g.2.2
    show (atomT h ++ [32, 105, 102, 32] ++ joinL [32, 97, 110, 100, 32] ((c :: r).map atomT)).length ≤ _
    simp only [List.length_append, List.length_cons, List.length_nil]
    omega
theorem sum_len_le {B : Nat} : ∀ {zs : List Str}, (∀ z ∈ zs, z.length ≤ B) → (zs.map (·.length)).sum ≤ zs.length * B
  | [], _ => by simp
  | z :: r, h => by
    have h1 := h z List.mem_cons_self
    have h2 := sum_len_le (zs := r) fun y hy => h y (List.mem_cons_of_mem _ hy)
    simp only [List.map_cons, List.sum_cons, List.length_cons, Nat.add_mul, Nat.one_mul]
    omega
theorem join_fits {z : Str} {zs : List Str} (hz : z.length ≤ 10) (hn : zs.length ≤ 100) (h : ∀ y ∈ zs, y.length ≤ 3000) : (zs.map (·.length)).sum + zs.length * z.length ≤ 16777216 := by
  have h1 := sum_len_le h
  have h2 : zs.length * 3000 ≤ 100 * 3000 := Nat.mul_le_mul_right _ hn
  have h3 : zs.length * z.length ≤ 100 * 10 := Nat.mul_le_mul hn hz
  omega
theorem asc_S {l : L} (h : ∀ c ∈ l, c < 128) : (S l).cps.all (· < 128) = true := by
  rw [← Array.all_toList]
  exact List.all_eq_true.mpr fun c hc => decide_eq_true (h c hc)
theorem part_asc {d : D} (h : goodP d) : ∀ c ∈ partL d, c < 128 := fun c hc => by have := part_all h c hc; omega
theorem line16 {n : Nat} (h : n ≤ 1000000) : n + 2 ≤ sizeLine := by rw [sizeLine_eq]; omega
theorem c_comma : Str.ofString ", " = S [44, 32] := by decide +kernel
theorem c_open : Str.ofString "(" = S [40] := by decide +kernel
theorem c_close : Str.ofString ")" = S [41] := by decide +kernel
theorem c_if : Str.ofString " if " = S [32, 105, 102, 32] := by decide +kernel
theorem c_and : Str.ofString " and " = S [32, 97, 110, 100, 32] := by decide +kernel
theorem c_empty : Str.ofString "" = S [] := by decide +kernel
theorem c_minus : Str.ofString "-" = S [45] := by decide +kernel
theorem c_nought : Str.ofString "0" = S [48] := by decide +kernel
theorem ne_S (a b : L) : decide (D.str (S a) = D.str (S b)) = decide (a = b) := by
  refine decide_eq_decide.mpr ⟨fun h => ?_, fun h => by rw [h]⟩
  injection h with h
  exact S_inj h
end FL

set_option Elab.async false
set_option linter.all false
set_option maxRecDepth 100000
set_option maxHeartbeats 4000000
namespace K11
open PySem L2 FL
def top (i : Nat) : Stmt := PySem.Challenge.pw_factloom_k11_whole_shown_and_read.main.body.getD i (.Pass ⟨0, 0, 0, 0⟩)
abbrev s_shown : Stmt := top 7
abbrev s_shown_atom : Stmt := top 8
abbrev s_read : Stmt := top 9
abbrev s_read_atom : Stmt := top 10
abbrev s_read_part : Stmt := top 11
abbrev s_has_only : Stmt := top 12
abbrev s_is_word : Stmt := top 13
abbrev s_is_written_blank : Stmt := top 14
abbrev s_is_written_number : Stmt := top 15
abbrev s_law_whole : Stmt := top 17
abbrev s_law_kinds : Stmt := top 18
abbrev s_law_same_rule : Stmt := top 19
abbrev s_law_part_by : Stmt := top 20
abbrev s_law_atom_by : Stmt := top 21
abbrev s_law_atoms_by : Stmt := top 22
abbrev s_law_written : Stmt := top 23
abbrev s_law : Stmt := top 24
section
variable {P : Program} {w : World} {K : PySem.W.Frag} {mg : Str → Option Value} {base : Heap} {f : Addr} {fd : FuncData}
/-! has_only -/
def RHasOnly : List D → D → Prop := fun ds d => ∃ (l : L) (y : Str), ds = [.str (S l), .str y] ∧ (∀ c ∈ l, c < 128) ∧ l.length ≤ 1000000 ∧ d = .bl (l.all fun c => decide (c ∈ y.cps.toList))
theorem sc_has_only : FnScope ["text", "signs"] ["text", "signs"] (defScope s_has_only) := ⟨rfl, rfl, rfl, by decide +kernel, rfl, by decide +kernel, by decide +kernel⟩
theorem ok_has_only (F : Fun K "has_only" "has_only" s_has_only f fd) (B : Bl mg) : FnOk P w K mg base CX0 1 f fd ["text", "signs"] (spR RHasOnly) := by
  refine F.ok sc_has_only (spR_len (n := 2) fun ds d ⟨l, y, e, _⟩ => by rw [e]; rfl) (fun cdv A outer s H vs Q E hr h => ?_)
  obtain ⟨M, ds, d, lv, rs, ⟨l, y, rfl, ha, hz, rfl⟩, q⟩ := h
  refine ⟨_, (pss_one (ps_ret (pe_allC B (pe_compC ["signs", "sign"] [1] 1 (pi_str (pv 0)) (fun _ _ _ _ _ => (pg_name (i := 1) (show (["signs", "sign"] : List Str).Nodup from by decide +kernel) rfl (by first | exact Or.inl rfl | exact Or.inr rfl))) (fun _ _ _ _ _ => pts_nil) (fun _ _ _ _ _ => (pe_cmpR op_in_str (pv 1) (pv 0) rfl)))))), ?_⟩
  have E0 := env_start rs ["text", "signs"]
  obtain ⟨v1, hv1, r1⟩ := E0.get 1 _ rfl
  have hlen : l.length < sizeLine := by have := line16 hz; omega
  refine s_ret lv ((ev_all (K := K) (bs := l.map fun c => decide (c ∈ y.cps.toList)) (ev_cons ((ev_comp (i := 1) (p := fun _ => true) (f := fun d => match d with | .str z => .bl (decide (z.cps.toList.headD 0 ∈ y.cps.toList)) | _ => .non) (walk_str (asc_S ha) (ev_v E0 rfl)) (fun G' v d _ _ _ => evt_yes) (fun G' v d sG hd _ r => ?_) ?_).eq ?_) ev_nil)).eq ?_) q
  · obtain ⟨c, hc, rfl⟩ := List.mem_map.mp hd
    exact ev_inS (c := c) (ev_var (by simp [capsOf]) r) (ev_var (by simp [capsOf, hv1]) (r1.mono sG))
  · rw [List.length_map]; exact hlen
  · rw [List.filter_eq_self.mpr fun _ _ => rfl, List.map_map, List.map_map]
    rfl
  · rw [List.all_map]; rfl
/-! is_word -/
def RIsWord : List D → D → Prop := fun ds d => ∃ l : L, ds = [.str (S l)] ∧ (∀ c ∈ l, c < 128) ∧ l.length ≤ 1000000 ∧ d = .bl (wordB l)
theorem ne_nil (l : L) : (!decide (D.str (S l) = D.str (Str.ofString ""))) = !l.isEmpty := by
  rw [c_empty, ne_S]
  cases l <;> simp
theorem all_small (l : L) : (l.all fun c => decide (c ∈ (Str.ofString "abcdefghijklmnopqrstuvwxyz").cps.toList)) = l.all low := by
  congr 1; funext c; exact mem_small c
theorem all_figs (l : L) : (l.all fun c => decide (c ∈ (Str.ofString "0123456789").cps.toList)) = l.all dig := by
  congr 1; funext c; exact mem_figs c
theorem sc_is_word : FnScope ["text"] ["text"] (defScope s_is_word) := ⟨rfl, rfl, rfl, by decide +kernel, rfl, by decide +kernel, by decide +kernel⟩
theorem ok_is_word (F : Fun K "is_word" "is_word" s_is_word f fd) (B : Bl mg) {t1 : Tok} (c_SMALL : mg "SMALL" = some (.str "abcdefghijklmnopqrstuvwxyz" t1) ∧ RelV (.str "abcdefghijklmnopqrstuvwxyz") (.str "abcdefghijklmnopqrstuvwxyz" t1))
    (G_has_only : Has P w K mg base 1 "has_only" ["text", "signs"] (spR RHasOnly)) : FnOk P w K mg base CX0 2 f fd ["text"] (spR RIsWord) := by
  refine F.ok sc_is_word (spR_len (n := 1) fun ds d ⟨l, e, _⟩ => by rw [e]; rfl) (fun cdv A outer s H vs Q E hr h => ?_)
  obtain ⟨M, ds, d, lv, rs, ⟨l, rfl, ha, hz, rfl⟩, q⟩ := h
  have hu := hu50 hr
  refine ⟨_, (pss_one (ps_ret (pe_and (pe_cmpR (op_neA (by exact hu)) (pv 0) pe_str (nomark _)) (pe_one (pe_own G_has_only hr (pa_cons (pv 0) (pa_cons (pe_glob rfl c_SMALL.1 c_SMALL.2) pa_nil))))))), ?_⟩
  have E0 := env_start rs ["text"]
  refine s_ret lv ((ev_and (ev_neA rfl (Nat.zero_le _) (ev_v E0 rfl) ev_str) fun _ => ev_callR ⟨l, _, rfl, ha, hz, rfl⟩ (ev_cons (ev_v E0 rfl) (ev_cons (ev_C fun _ => .str _) ev_nil))).eq ?_) q
  rw [ne_nil, all_small]
  rfl
/-! is_written_blank -/
def RIsBlk : List D → D → Prop := fun ds d => ∃ l : L, ds = [.str (S l)] ∧ (∀ c ∈ l, c < 128) ∧ l.length ≤ 1000000 ∧ d = .bl (blankB l)
theorem sc_is_written_blank : FnScope ["text"] ["text"] (defScope s_is_written_blank) := ⟨rfl, rfl, rfl, by decide +kernel, rfl, by decide +kernel, by decide +kernel⟩
theorem ok_is_written_blank (F : Fun K "is_written_blank" "is_written_blank" s_is_written_blank f fd) (B : Bl mg) {t1 t2 : Tok} (c_SMALL : mg "SMALL" = some (.str "abcdefghijklmnopqrstuvwxyz" t1) ∧ RelV (.str "abcdefghijklmnopqrstuvwxyz") (.str "abcdefghijklmnopqrstuvwxyz" t1))
    (c_GREAT : mg "GREAT" = some (.str "ABCDEFGHIJKLMNOPQRSTUVWXYZ" t2) ∧ RelV (.str "ABCDEFGHIJKLMNOPQRSTUVWXYZ") (.str "ABCDEFGHIJKLMNOPQRSTUVWXYZ" t2))
    (G_has_only : Has P w K mg base 1 "has_only" ["text", "signs"] (spR RHasOnly)) : FnOk P w K mg base CX0 2 f fd ["text"] (spR RIsBlk) := by
  refine F.ok sc_is_written_blank (spR_len (n := 1) fun ds d ⟨l, e, _⟩ => by rw [e]; rfl) (fun cdv A outer s H vs Q E hr h => ?_)
  obtain ⟨M, ds, d, lv, rs, ⟨l, rfl, ha, hz, rfl⟩, q⟩ := h
  have hu := hu50 hr
  refine ⟨_, (pss_one (ps_ret (pe_and (pe_cmpR (op_neA (by exact hu)) (pv 0) pe_str (nomark _)) (pe_and (pe_cmpR op_in_str (pe_ixS (pv 0) pe_int) (pe_glob rfl c_GREAT.1 c_GREAT.2) rfl) (pe_one (pe_own G_has_only hr (pa_cons (pe_slice sl_str (pv 0) (po_some pe_int) po_none) (pa_cons (pe_glob rfl c_SMALL.1 c_SMALL.2) pa_nil)))))))), ?_⟩
  have E0 := env_start rs ["text"]
  have hl2 := line16 hz
  cases l with
  | nil =>
    exact s_ret lv ((ev_and (c := false) (ev_neA rfl (Nat.zero_le _) (ev_v E0 rfl) ev_str) fun z => by rw [ne_nil] at z; cases z).eq (by rw [ne_nil]; rfl)) q
  | cons c r =>
    have hlr : r.length ≤ 1000000 := by rw [List.length_cons] at hz; omega
    refine s_ret lv ((ev_and (ev_neA rfl (Nat.zero_le _) (ev_v E0 rfl) ev_str) fun _ => ev_and (ev_inS (c := c) (ev_ixs (x := S (c :: r)) (by rw [S_len]; omega) atI_zero (ev_v E0 rfl) ev_int) (ev_C fun _ => .str _)) fun _ =>
      ev_callR ⟨r, _, rfl, fun d hd => ha d (List.mem_cons_of_mem _ hd), hlr, rfl⟩ (ev_cons ((ev_sliceS (lo := some 1) (hi := none) (by rw [S_len]; omega) (ev_v E0 rfl) (evo_some ev_int) (fun M' H' _ _ Q k => k H' (Same.refl _))).eq (by rw [cut_first])) (ev_cons (ev_C fun _ => .str _) ev_nil))).eq ?_) q
    rw [ne_nil, all_small, mem_great]
    rfl
/-! is_written_number -/
def RIsNum : List D → D → Prop := fun ds d => ∃ l : L, ds = [.str (S l)] ∧ (∀ c ∈ l, c < 128) ∧ l.length ≤ 1000000 ∧ d = .bl (numB l)
theorem figs_len (l : L) : (figs l).length ≤ l.length := by unfold figs; split <;> simp
theorem figs_mem {l : L} {c : Nat} (h : c ∈ figs l) : c ∈ l := by
  unfold figs at h
  split at h
  · exact List.mem_of_mem_drop h
  · exact h
theorem sc_is_written_number : FnScope ["text", "figures"] ["text"] (defScope s_is_written_number) := ⟨rfl, rfl, rfl, by decide +kernel, rfl, by decide +kernel, by decide +kernel⟩
theorem ok_is_written_number (F : Fun K "is_written_number" "is_written_number" s_is_written_number f fd) (B : Bl mg) {t1 : Tok} (c_FIGURES : mg "FIGURES" = some (.str "0123456789" t1) ∧ RelV (.str "0123456789") (.str "0123456789" t1))
    (G_has_only : Has P w K mg base 1 "has_only" ["text", "signs"] (spR RHasOnly)) : FnOk P w K mg base CX0 2 f fd ["text"] (spR RIsNum) := by
  refine F.ok sc_is_written_number (spR_len (n := 1) fun ds d ⟨l, e, _⟩ => by rw [e]; rfl) (fun cdv A outer s H vs Q E hr h => ?_)
  obtain ⟨M, ds, d, lv, rs, ⟨l, rfl, ha, hz, rfl⟩, q⟩ := h
  have hu := hu50 hr
  refine ⟨_, (pss_cons (ps_if (pt_cmpR (op_eqA (by exact hu)) (pv 0) pe_str (nomark _)) (pss_one (ps_ret pe_bl)) pss_nil)
      (pss_cons (ps_set (i := 1) sc_is_written_number.nd rfl (Or.inl rfl) (pe_ifExp (pt_val (pe_bm PySem.F.plainAttrs_str PySem.F.slot_str_startswith PySem.F.type_str_startswith mt_startswith (pv 0) (pa_cons pe_str pa_nil))) (pe_slice sl_str (pv 0) (po_some pe_int) po_none) (pv 0)))
      (pss_one (ps_ret (pe_and (pe_cmpR (op_neA (by exact hu)) (pv 1) pe_str (nomark _)) (pe_and (pe_cmpR (op_neA (by exact hu)) (pe_ixS (pv 1) pe_int) pe_str (nomark _)) (pe_one (pe_own G_has_only hr (pa_cons (pv 1) (pa_cons (pe_glob rfl c_FIGURES.1 c_FIGURES.2) pa_nil)))))))))), ?_⟩
  have E0 := env_start rs ["text", "figures"]
  have hl2 := line16 hz
  have hfl := figs_len l
  refine s_if lv E0 (evt_test (ev_eqA rfl (Nat.zero_le _) (ev_v E0 rfl) ev_str)) (fun e H1 s1 l1 E1 => ?_) (fun e H1 s1 l1 E1 => ?_)
  · rw [c_nought, ne_S] at e
    have e' := of_decide_eq_true e
    subst e'
    exact q (.bl true) H1 s1 (.bl true)
  · rw [c_nought, ne_S] at e
    refine nx ?_
    refine s_set (d := .str (S (figs l))) l1 E1 (ev_ifE (b := decide (l.head? = some 45)) (EvT.eq (evt_tB (ev_starts (ev_v E1 rfl) (ev_cons ev_str ev_nil))) (by rw [c_minus, starts_minus])) (fun h => ?_) (fun h => ?_)) fun σ2 H2 s2 l2 E2 => ?_
    · have h1 := of_decide_eq_true h
      cases l with
      | nil => cases h1
      | cons c r =>
        have hf : figs (c :: r) = r := by unfold figs; rw [if_pos h1]; rfl
        exact (ev_sliceS (lo := some 1) (hi := none) (by rw [S_len]; omega) (ev_v E1 rfl) (evo_some ev_int) (fun M' H' _ _ Q k => k H' (Same.refl _))).eq (by rw [cut_first, hf])
    · have hf : figs l = l := by unfold figs; rw [if_neg (of_decide_eq_false h)]
      rw [hf]
      exact ev_v E1 rfl
    · have hb : numB l = (!(figs l).isEmpty && (!decide ((figs l).head? = some 48) && (figs l).all dig)) := by unfold numB; rw [e]; rfl
      rw [hb] at q
      have q' : ∀ v H', Same H2 H' → Rep (but H' M) v (.bl (!(figs l).isEmpty && (!decide ((figs l).head? = some 48) && (figs l).all dig))) → Q v H' := fun v H' s3 r3 => q v H' (s1.trans (s2.trans s3)) r3
      have fa : ∀ c ∈ figs l, c < 128 := fun c hc => ha c (figs_mem hc)
      generalize figs l = g at q' E2 hfl fa
      cases g with
      | nil =>
        exact s_ret l2 ((ev_and (c := false) (ev_neA rfl (Nat.zero_le _) (ev_v E2 rfl) ev_str) fun z => by rw [ne_nil] at z; cases z).eq (by rw [ne_nil]; rfl)) q'
      | cons c r =>
        refine s_ret l2 ((ev_and (ev_neA rfl (Nat.zero_le _) (ev_v E2 rfl) ev_str) fun _ => ev_and (ev_neA rfl (Nat.zero_le _) (ev_ixs (x := S (c :: r)) (c := c) (by rw [S_len]; omega) atI_zero (ev_v E2 rfl) ev_int) ev_str) fun _ =>
          ev_callR ⟨c :: r, _, rfl, fa, by omega, rfl⟩ (ev_cons (ev_v E2 rfl) (ev_cons (ev_C fun _ => .str _) ev_nil))).eq ?_) q'
        rw [ne_nil, all_figs, c_nought]
        have h3 : decide (D.str (⟨#[c]⟩ : Str) = D.str (S [48])) = decide ((c :: r).head? = some 48) := by
          have := ne_S [c] [48]
          rw [show (⟨#[c]⟩ : Str) = S [c] from rfl, this]
          simp
        rw [h3]
/-! read_part -/
def RReadPart : List D → D → Prop := fun ds d => ∃ p, goodP p ∧ ds = [.str (S (partL p))] ∧ p = d
theorem sc_read_part : FnScope ["text"] ["text"] (defScope s_read_part) := ⟨rfl, rfl, rfl, by decide +kernel, rfl, by decide +kernel, by decide +kernel⟩
theorem ok_read_part (F : Fun K "read_part" "read_part" s_read_part f fd) (B : Bl mg) (G_is_word : Has P w K mg base 2 "is_word" ["text"] (spR RIsWord)) (G_is_written_blank : Has P w K mg base 2 "is_written_blank" ["text"] (spR RIsBlk))
    (G_is_written_number : Has P w K mg base 2 "is_written_number" ["text"] (spR RIsNum)) : FnOk P w K mg base CX0 3 f fd ["text"] (spR RReadPart) := by
  refine F.ok sc_read_part (spR_len (n := 1) fun ds d ⟨p, _, e, _⟩ => by rw [e]; rfl) (fun cdv A outer s H vs Q E hr h => ?_)
  obtain ⟨M, ds, d, lv, rs, ⟨p, hp, rfl, rfl⟩, q⟩ := h
  refine ⟨_, (pss_cons (ps_if (pw_or (pt_val (pe_own G_is_word hr (pa_cons (pv 0) pa_nil))) (pw_or1 (pt_val (pe_own G_is_written_blank hr (pa_cons (pv 0) pa_nil))))).pt (pss_one (ps_ret (pv 0))) pss_nil)
      (pss_cons (ps_if (pt_val (pe_own G_is_written_number hr (pa_cons (pv 0) pa_nil))) (pss_one (ps_ret (pe_intC B (pv 0)))) pss_nil)
      (pss_one ps_never))), ?_⟩
  have E0 := env_start rs ["text"]
  have hl := part_len hp
  have ha := part_asc hp
  refine s_if (b := wordB (partL p) || blankB (partL p)) lv E0 (evt_or (evt_tB (ev_callR ⟨partL p, rfl, ha, by omega, rfl⟩ (ev_cons (ev_v E0 rfl) ev_nil))) fun _ => evt_tB (ev_callR ⟨partL p, rfl, ha, by omega, rfl⟩ (ev_cons (ev_v E0 rfl) ev_nil))) (fun e H1 s1 l1 E1 => ?_) (fun e H1 s1 l1 E1 => ?_)
  · have e2 : D.str (S (partL p)) = p := by
      have h1 := rd_part hp
      unfold rd at h1
      dsimp only at h1
      rw [S_list, if_pos e] at h1
      exact h1
    exact s_ret l1 ((ev_v E1 rfl).eq e2) fun v H' s2 r2 => q v H' (s1.trans s2) r2
  · refine nx ?_
    cases p with
    | str x => exact absurd hp.1 (by rw [show (wordB x.cps.toList || blankB x.cps.toList) = false from e]; exact Bool.false_ne_true)
    | int i =>
      refine s_if (b := true) l1 E1 (EvT.eq (evt_tB (ev_callR ⟨numL i, rfl, ha, by show (partL (.int i)).length ≤ _; omega, rfl⟩ (ev_cons (ev_v E1 rfl) ev_nil))) (num_numB i)) (fun _ H2 s2 l2 E2 => ?_) (fun z => nomatch z)
      exact s_ret l2 (ev_intT (num_reads hp) (by rw [S_len]; have : (numL i).length ≤ 31 := hl; omega) (ev_cons (ev_v E2 rfl) ev_nil)) fun v H' s3 r3 => q v H' (s1.trans (s2.trans s3)) r3
    | _ => exact hp.elim
end
end K11

set_option Elab.async false
set_option linter.all false
set_option maxRecDepth 100000
set_option maxHeartbeats 4000000
namespace K11
open PySem L2 FL
section
variable {P : Program} {w : World} {K : PySem.W.Frag} {mg : Str → Option Value} {base : Heap} {f : Addr} {fd : FuncData}
/-! read_atom -/
def RReadAtom : List D → D → Prop := fun ds d => ∃ a, goodA a ∧ ds = [.str (S (atomT a))] ∧ a = d
theorem sc_read_atom : FnScope ["text", "pieces", "relation", "parts"] ["text"] (defScope s_read_atom) := ⟨rfl, rfl, rfl, by decide +kernel, rfl, by decide +kernel, by decide +kernel⟩
theorem ok_read_atom (F : Fun K "read_atom" "read_atom" s_read_atom f fd) (B : Bl mg) (G_is_word : Has P w K mg base 2 "is_word" ["text"] (spR RIsWord)) (G_read_part : Has P w K mg base 3 "read_part" ["text"] (spR RReadPart)) : FnOk P w K mg base CX0 4 f fd ["text"] (spR RReadAtom) := by
  refine F.ok sc_read_atom (spR_len (n := 1) fun ds d ⟨p, _, e, _⟩ => by rw [e]; rfl) (fun cdv A outer s H vs Q E hr h => ?_)
  obtain ⟨M, ds, d, lv, rs, ⟨a, ga, rfl, rfl⟩, q⟩ := h
  have hu := hu50 hr
  refine ⟨_, (pss_cons (ps_set (i := 1) sc_read_atom.nd rfl (Or.inl rfl) (pe_bm PySem.F.plainAttrs_str PySem.F.slot_str_partition PySem.F.type_str_partition mt_partition (pv 0) (pa_cons pe_str pa_nil)))
      (pss_cons (ps_set (i := 2) sc_read_atom.nd rfl (Or.inl rfl) (pe_ixS (pv 1) pe_int))
      (pss_cons (ps_if (pw_or (pt_not (pt_val (pe_own G_is_word hr (pa_cons (pv 2) pa_nil)))) (pw_or1 (pt_not (pt_val (pe_bm PySem.F.plainAttrs_str PySem.F.slot_str_endswith PySem.F.type_str_endswith mt_endswith (pe_ixS (pv 1) pe_int) (pa_cons pe_str pa_nil)))))).pt (pss_one ps_never) pss_nil)
      (pss_cons (ps_set (i := 3) sc_read_atom.nd rfl (Or.inl rfl) (pe_slice sl_str (pe_ixS (pv 1) pe_int) po_none (po_some (pe_un un_neg pe_int))))
      (pss_cons (ps_if (pt_cmpR (op_eqA (by exact hu)) (pv 3) pe_str (nomark _)) (pss_one (ps_ret (pe_tup (pa_cons (pv 2) pa_nil)))) pss_nil)
      (pss_one (ps_ret (pe_tupleC B (pe_op op_cat (pe_lst (pa_cons (pv 2) pa_nil)) (pe_compC ["part"] [] 1 (pi_seq (pe_bm PySem.F.plainAttrs_str PySem.F.slot_str_split PySem.F.type_str_split mt_split (pv 3) (pa_cons pe_str pa_nil))) (fun _ _ _ _ _ => (pg_name (i := 0) (show (["part"] : List Str).Nodup from by decide +kernel) rfl (by first | exact Or.inl rfl | exact Or.inr rfl))) (fun _ _ _ _ _ => pts_nil) (fun _ _ _ _ _ => (pe_ownc G_read_part hr (pa_cons (pv 0) pa_nil))))))))))))), ?_⟩
  have E0 := env_start rs ["text", "pieces", "relation", "parts"]
  have hlen := goodA_len ga
  obtain ⟨rel, ps, g, ea⟩ := goodA_T ga
  have hrw : ∀ c ∈ rel.cps.toList, c < 128 := fun c hc => by have := word_all g.word c hc; omega
  have hrl : rel.cps.toList.length ≤ 31 := by rw [len_list]; exact g.len
  have hjl : (joinL [44, 32] (ps.map partL) ++ [41]).length ≤ 3000 := by
    rw [ea] at hlen
    unfold atomL at hlen
    rw [List.length_append] at hlen
    omega
  have b1 : (S (atomT a)).length ≤ sizeLine := by rw [S_len]; have := line16 (n := (atomT a).length) (by omega); omega
  have b2 : (S (joinL [44, 32] (ps.map partL) ++ [41])).length ≤ sizeLine := by rw [S_len]; have := line16 (n := (joinL [44, 32] (ps.map partL) ++ [41]).length) (by omega); omega
  refine s_set lv E0 (ev_part (a := S rel.cps.toList) (b := S [40]) (c := S (joinL [44, 32] (ps.map partL) ++ [41])) rfl b1 (by rw [c_open, ea, read_open g.word]) (ev_v E0 rfl) (ev_cons ev_str ev_nil)) fun σ1 H1 s1 l1 E1 => ?_
  refine s_set l1 E1 (ev_ixt atI_zero (ev_v E1 rfl) ev_int) fun σ2 H2 s2 l2 E2 => ?_
  refine s_if (b := false) l2 E2 (evt_or (b := false) (c := false) (evt_not (b := true) (EvT.eq (evt_tB (ev_callR ⟨rel.cps.toList, rfl, hrw, by omega, rfl⟩ (ev_cons (ev_v E2 rfl) ev_nil))) g.word)) fun _ => evt_not (b := true) (EvT.eq (evt_tB (ev_ends (ev_ixt (d := .str (S (joinL [44, 32] (ps.map partL) ++ [41]))) (atI_of_nat (by decide) rfl) (ev_v E2 rfl) ev_int) (ev_cons ev_str ev_nil))) (by rw [c_close]; exact ends_close _))) (fun z => nomatch z) fun _ H3 s3 l3 E3 => ?_
  refine nx ?_
  refine s_set (d := .str (S (joinL [44, 32] (ps.map partL)))) l3 E3 ((ev_sliceS (lo := none) (hi := some (-1)) b2 (ev_ixt (d := .str (S (joinL [44, 32] (ps.map partL) ++ [41]))) (atI_of_nat (by decide) rfl) (ev_v E3 rfl) ev_int) (fun M' H' _ _ Q k => k H' (Same.refl _)) (evo_some (ev_neg ev_int))).eq (by rw [cut_last])) fun σ4 H4 s4 l4 E4 => ?_
  have sH : Same H H4 := s1.trans (s2.trans (s3.trans s4))
  refine s_if l4 E4 (evt_test (ev_eqA rfl (Nat.zero_le _) (ev_v E4 rfl) ev_str)) (fun e H5 s5 l5 E5 => ?_) (fun e H5 s5 l5 E5 => ?_)
  · rw [c_empty, ne_S] at e
    have e1 := of_decide_eq_true e
    have hn : ps = [] := Classical.byContradiction fun hn => join_ne hn g.good e1
    subst hn
    exact s_ret l5 ((ev_tup (ev_cons (ev_v E5 rfl) ev_nil)).eq (by rw [S_of, g.eq])) fun v H' s6 r6 => q v H' (sH.trans (s5.trans s6)) r6
  · rw [c_empty, ne_S] at e
    have hn : ps ≠ [] := fun z => by subst z; exact absurd rfl (of_decide_eq_false e)
    refine nx ?_
    refine s_ret l5 ((ev_tupleL (ev_cons (ev_catL (xs := [.str (S rel.cps.toList)]) (ys := ps) (by have := g.few; simp only [List.length_singleton]; omega) (ev_lst (ev_cons (ev_v E5 rfl) ev_nil)) ((ev_comp (i := 0) (p := fun _ => true) (f := rd) (walk_seqL (ev_split (zs := (ps.map partL).map S) rfl (by rw [S_len]; exact line16 (by rw [List.length_append] at hjl; omega)) (by rw [c_comma]; exact read_comma hn g.good) (ev_v E5 rfl) (ev_cons ev_str ev_nil))) (fun G' v d _ _ _ => evt_yes) (fun G' v d sG hd _ r => ?_) ?_).eq ?_)) ev_nil)).eq (by rw [S_of, g.eq]; rfl)) fun v H' s6 r6 => q v H' (sH.trans (s5.trans s6)) r6
    · obtain ⟨t, ht, rfl⟩ := List.mem_map.mp hd
      obtain ⟨t2, ht2, rfl⟩ := List.mem_map.mp ht
      obtain ⟨p, hp, rfl⟩ := List.mem_map.mp ht2
      have := rd_part (g.good p hp)
      rw [this]
      exact ev_callR ⟨p, g.good p hp, rfl, rfl⟩ (ev_cons (ev_var (by simp [capsOf]) r) ev_nil)
    · rw [List.length_map, List.length_map, List.length_map]
      exact small1000 (by have := g.few; omega)
    · rw [List.filter_eq_self.mpr fun _ _ => rfl, List.map_map]
      exact congrArg D.lst (rd_parts g.good)
/-! read -/
def RRead : List D → D → Prop := fun ds d => ∃ h b, GoodR h b ∧ ds = [.str (lineS h b)] ∧ d = .tup [h, .tup b]
theorem sc_read : FnScope ["line", "pieces", "head"] ["line"] (defScope s_read) := ⟨rfl, rfl, rfl, by decide +kernel, rfl, by decide +kernel, by decide +kernel⟩
theorem ok_read (F : Fun K "read" "read" s_read f fd) (B : Bl mg) (G_read_atom : Has P w K mg base 4 "read_atom" ["text"] (spR RReadAtom)) : FnOk P w K mg base CX0 5 f fd ["line"] (spR RRead) := by
  refine F.ok sc_read (spR_len (n := 1) fun ds d ⟨p, _, _, e, _⟩ => by rw [e]; rfl) (fun cdv A outer s H vs Q E hr h => ?_)
  obtain ⟨M, ds, d, lv, rs, ⟨h, b, g, rfl, rfl⟩, q⟩ := h
  have hu := hu50 hr
  refine ⟨_, (pss_cons (ps_set (i := 1) sc_read.nd rfl (Or.inl rfl) (pe_bm PySem.F.plainAttrs_str PySem.F.slot_str_partition PySem.F.type_str_partition mt_partition (pv 0) (pa_cons pe_str pa_nil)))
      (pss_cons (ps_set (i := 2) sc_read.nd rfl (Or.inl rfl) (pe_own G_read_atom hr (pa_cons (pe_ixS (pv 1) pe_int) pa_nil)))
      (pss_cons (ps_if (pt_cmpR (op_eqA (by exact hu)) (pe_ixS (pv 1) pe_int) pe_str (nomark _)) (pss_one (ps_ret (pe_tup (pa_cons (pv 2) (pa_cons (pe_tup pa_nil) pa_nil))))) pss_nil)
      (pss_one (ps_ret (pe_tup (pa_cons (pv 2) (pa_cons (pe_tupleC B (pe_compC ["text"] [] 1 (pi_seq (pe_bm PySem.F.plainAttrs_str PySem.F.slot_str_split PySem.F.type_str_split mt_split (pe_ixS (pv 1) pe_int) (pa_cons pe_str pa_nil))) (fun _ _ _ _ _ => (pg_name (i := 0) (show (["text"] : List Str).Nodup from by decide +kernel) rfl (by first | exact Or.inl rfl | exact Or.inr rfl))) (fun _ _ _ _ _ => pts_nil) (fun _ _ _ _ _ => (pe_ownc G_read_atom hr (pa_cons (pv 0) pa_nil))))) pa_nil)))))))), ?_⟩
  have E0 := env_start rs ["line", "pieces", "head"]
  have hlen := line_len g
  have b1 : (lineS h b).length ≤ sizeLine := by unfold lineS; rw [S_len]; have := line16 (n := (lineL ((h :: b).map atomT)).length) (by omega); omega
  have hsp := goodA_sp g.1
  cases b with
  | nil =>
    refine s_set lv E0 (ev_part (a := S (atomT h)) (b := Str.empty) (c := Str.empty) rfl b1 (by rw [c_if]; exact read_fact hsp.1) (ev_v E0 rfl) (ev_cons ev_str ev_nil)) fun σ1 H1 s1 l1 E1 => ?_
    refine s_set l1 E1 (ev_callR ⟨h, g.1, rfl, rfl⟩ (ev_cons (ev_ixt atI_zero (ev_v E1 rfl) ev_int) ev_nil)) fun σ2 H2 s2 l2 E2 => ?_
    refine s_if (b := true) l2 E2 (EvT.eq (evt_test (ev_eqA rfl (Nat.zero_le _) (ev_ixt (d := .str Str.empty) (atI_of_nat (by decide) rfl) (ev_v E2 rfl) ev_int) ev_str)) (by rw [c_empty]; exact decide_eq_true rfl)) (fun _ H3 s3 l3 E3 => ?_) (fun z => nomatch z)
    exact s_ret l3 (ev_tup (ev_cons (ev_v E3 rfl) (ev_cons (ev_tup ev_nil) ev_nil))) fun v H' s4 r4 => q v H' (s1.trans (s2.trans (s3.trans s4))) r4
  | cons c r =>
    have hjl := join_and_len g.2.1 g.2.2
    have hsps : ∀ p ∈ (c :: r).map atomT, sp 0 p = true ∧ p.getLast? = some 41 := fun p hp => by
      obtain ⟨a, ha, rfl⟩ := List.mem_map.mp hp
      exact goodA_sp (g.2.1 a ha)
    refine s_set lv E0 (ev_part (a := S (atomT h)) (b := S [32, 105, 102, 32]) (c := S (joinL [32, 97, 110, 100, 32] ((c :: r).map atomT))) rfl b1 (by rw [c_if]; exact read_if hsp.1 hsp.2) (ev_v E0 rfl) (ev_cons ev_str ev_nil)) fun σ1 H1 s1 l1 E1 => ?_
    refine s_set l1 E1 (ev_callR ⟨h, g.1, rfl, rfl⟩ (ev_cons (ev_ixt atI_zero (ev_v E1 rfl) ev_int) ev_nil)) fun σ2 H2 s2 l2 E2 => ?_
    refine s_if (b := false) l2 E2 (EvT.eq (evt_test (ev_eqA rfl (Nat.zero_le _) (ev_ixt (d := .str (S [32, 105, 102, 32])) (atI_of_nat (by decide) rfl) (ev_v E2 rfl) ev_int) ev_str)) (by rw [c_empty, ne_S]; rfl)) (fun z => nomatch z) (fun _ H3 s3 l3 E3 => ?_)
    refine nx ?_
    refine s_ret l3 (ev_tup (ev_cons (ev_v E3 rfl) (ev_cons (ev_tupleL (ev_cons ((ev_comp (i := 0) (p := fun _ => true) (f := rdA) (walk_seqL (ev_split (zs := ((c :: r).map atomT).map S) rfl (by rw [S_len]; exact line16 (by omega)) (by rw [c_and]; exact read_and (by simp) hsps) (ev_ixt (d := .str (S (joinL [32, 97, 110, 100, 32] ((c :: r).map atomT)))) (atI_of_nat (by decide) rfl) (ev_v E3 rfl) ev_int) (ev_cons ev_str ev_nil))) (fun G' v d _ _ _ => evt_yes) (fun G' v d sG hd _ r => ?_) ?_).eq (d' := .lst (c :: r)) ?_) ev_nil)) ev_nil))) fun v H' s4 r4 => q v H' (s1.trans (s2.trans (s3.trans s4))) r4
    · obtain ⟨t, ht, rfl⟩ := List.mem_map.mp hd
      obtain ⟨t2, ht2, rfl⟩ := List.mem_map.mp ht
      obtain ⟨a, ha, rfl⟩ := List.mem_map.mp ht2
      have := rdA_atom (g.2.1 a ha)
      rw [this]
      exact ev_callR ⟨a, g.2.1 a ha, rfl, rfl⟩ (ev_cons (ev_var (by simp [capsOf]) r) ev_nil)
    · rw [List.length_map, List.length_map, List.length_map]
      exact small1000 (by have := g.2.2; omega)
    · rw [List.filter_eq_self.mpr fun _ _ => rfl, List.map_map, List.map_map, List.map_map]
      refine congrArg D.lst ?_
      conv => rhs; rw [← List.map_id (c :: r)]
      exact List.map_congr_left fun a ha => rdA_atom (g.2.1 a ha)
/-! shown_atom -/
def RShownA : List D → D → Prop := fun ds d => ∃ a, goodA a ∧ ds = [a] ∧ d = .str (S (atomT a))
theorem texts_of {ps : List D} (hp : ∀ d ∈ ps, goodP d) : ps.map (fun d => D.str d.text) = ((ps.map partL).map S).map D.str := by
  rw [List.map_map, List.map_map]
  exact List.map_congr_left fun d hd => congrArg D.str (part_text (hp d hd))
theorem parts_fit {ps : List D} (hp : ∀ d ∈ ps, goodP d) (hn : ps.length ≤ 70) : ((((ps.map partL).map S).map (·.length)).sum + ((ps.map partL).map S).length * (S [44, 32]).length ≤ 16777216) :=
  join_fits (by decide) (by simp only [List.length_map]; omega) fun y hy => by
    obtain ⟨t, ht, rfl⟩ := List.mem_map.mp hy
    obtain ⟨d, hd, rfl⟩ := List.mem_map.mp ht
    rw [S_len]
    have := part_len (hp d hd)
    omega
theorem sc_shown_atom : FnScope ["atom", "relation", "parts"] ["atom"] (defScope s_shown_atom) := ⟨rfl, rfl, rfl, by decide +kernel, rfl, by decide +kernel, by decide +kernel⟩
theorem ok_shown_atom (F : Fun K "shown_atom" "shown_atom" s_shown_atom f fd) (B : Bl mg) : FnOk P w K mg base CX0 1 f fd ["atom"] (spR RShownA) := by
  refine F.ok sc_shown_atom (spR_len (n := 1) fun ds d ⟨p, _, e, _⟩ => by rw [e]; rfl) (fun cdv A outer s H vs Q E hr h => ?_)
  obtain ⟨M, ds, d, lv, rs, ⟨a, ga, rfl, rfl⟩, q⟩ := h
  refine ⟨_, (pss_cons (ps_set (i := 1) sc_shown_atom.nd rfl (Or.inl rfl) (pe_ixS (pv 0) pe_int))
      (pss_cons (ps_set (i := 2) sc_shown_atom.nd rfl (Or.inl rfl) (pe_bm PySem.F.plainAttrs_str PySem.F.slot_str_join PySem.F.type_str_join mt_join pe_str (pa_cons (pe_compC ["part"] [] 1 (pi_seq (pe_slice sl_tup (pv 0) (po_some pe_int) po_none)) (fun _ _ _ _ _ => (pg_name (i := 0) (show (["part"] : List Str).Nodup from by decide +kernel) rfl (by first | exact Or.inl rfl | exact Or.inr rfl))) (fun _ _ _ _ _ => pts_nil) (fun _ _ _ _ _ => (pe_strCc B (pv 0)))) pa_nil)))
      (pss_one (ps_ret (pe_fstr (pj_cons (pe_fmt (pv 1)) (pj_cons pe_str (pj_cons (pe_fmt (pv 2)) (pj_cons pe_str pj_nil))))))))), ?_⟩
  have hlen := goodA_len ga
  obtain ⟨rel, ps, g, ea⟩ := goodA_T ga
  rw [ea] at hlen q
  have ge := g.eq
  subst ge
  have E0 := env_start rs ["atom", "relation", "parts"]
  refine s_set lv E0 (ev_ixt atI_zero (ev_v E0 rfl) ev_int) fun σ1 H1 s1 l1 E1 => ?_
  refine s_set (d := .str (S (joinL [44, 32] (ps.map partL)))) l1 E1 ((ev_join (zs := (ps.map partL).map S) (by rw [c_comma]; exact parts_fit g.good g.few) ev_str (ev_cons ((ev_comp (i := 0) (p := fun _ => true) (f := fun d => .str d.text) (walk_seqT (ev_fromT (k := 1) (l := .str rel :: ps) (by decide) (by simp) (ev_v E1 rfl))) (fun G' v d _ _ _ => evt_yes) (fun G' v d sG hd _ r => ?_) ?_).eq ?_) ev_nil)).eq (by rw [c_comma, join_S])) fun σ2 H2 s2 l2 E2 => ?_
  · exact ev_strD (part_small (g.good d hd)) (ev_cons (ev_var (by simp [capsOf]) r) ev_nil)
  · show ps.length < _
    exact small1000 (by have := g.few; omega)
  · rw [List.filter_eq_self.mpr fun _ _ => rfl]
    exact congrArg D.lst (texts_of g.good)
  · have hjl : (joinL [44, 32] (ps.map partL)).length ≤ 3000 := by
      unfold atomL at hlen
      simp only [List.length_append] at hlen
      omega
    have hrl : rel.length ≤ 31 := g.len
    have z1 : rel.length ≤ sizeLine := by have := line16 (n := rel.length) (by omega); omega
    have z2 : (S (joinL [44, 32] (ps.map partL))).length ≤ sizeLine := by rw [S_len]; have := line16 (n := (joinL [44, 32] (ps.map partL)).length) (by omega); omega
    refine s_ret l2 ((ev_j1 (ev_fmt z1 (ev_v E2 rfl)) (ev_j1 ev_str (ev_j1 (ev_fmt z2 (ev_v E2 rfl)) (ev_j1 ev_str ev_j0))) Str.empty ?_).eq ?_) fun v H' s3 r3 => q v H' (s1.trans (s2.trans s3)) r3
    · rw [c_open, c_close]
      simp only [List.foldl_cons, List.foldl_nil, S_len]
      have h0 : Str.empty.length = 0 := rfl
      rw [h0]
      have := line16 (n := rel.length + (joinL [44, 32] (ps.map partL)).length + 10) (by omega)
      simp only [List.length_cons, List.length_nil]
      omega
    · rw [c_open, c_close]
      show D.str ((((Str.empty ++ rel) ++ S [40]) ++ S (joinL [44, 32] (ps.map partL))) ++ S [41]) = _
      rw [show Str.empty = S [] from rfl, ← S_of rel, S_app, S_app, S_app, S_app]
      unfold atomL
      rw [S_of]
      simp
/-! shown -/
def RShown : List D → D → Prop := fun ds d => ∃ h b, GoodR h b ∧ ds = [.tup [h, .tup b]] ∧ d = .str (lineS h b)
theorem sc_shown : FnScope ["rule", "head", "body"] ["rule"] (defScope s_shown) := ⟨rfl, rfl, rfl, by decide +kernel, rfl, by decide +kernel, by decide +kernel⟩
theorem atoms_fit {b : List D} (hb : ∀ a ∈ b, goodA a) (hn : b.length ≤ 70) : ((((b.map atomT).map S).map (·.length)).sum + ((b.map atomT).map S).length * (S [32, 97, 110, 100, 32]).length ≤ 16777216) :=
  join_fits (by decide) (by simp only [List.length_map]; omega) fun y hy => by
    obtain ⟨t, ht, rfl⟩ := List.mem_map.mp hy
    obtain ⟨d, hd, rfl⟩ := List.mem_map.mp ht
    rw [S_len]
    exact goodA_len (hb d hd)
theorem ok_shown (F : Fun K "shown" "shown" s_shown f fd) (B : Bl mg) (G_shown_atom : Has P w K mg base 1 "shown_atom" ["atom"] (spR RShownA)) : FnOk P w K mg base CX0 2 f fd ["rule"] (spR RShown) := by
  refine F.ok sc_shown (spR_len (n := 1) fun ds d ⟨p, _, _, e, _⟩ => by rw [e]; rfl) (fun cdv A outer s H vs Q E hr h => ?_)
  obtain ⟨M, ds, d, lv, rs, ⟨h, b, g, rfl, rfl⟩, q⟩ := h
  refine ⟨_, (pss_cons (ps_set (i := 1) sc_shown.nd rfl (Or.inl rfl) (pe_own G_shown_atom hr (pa_cons (pe_ixS (pv 0) pe_int) pa_nil)))
      (pss_cons (ps_if (pt_not (pt_truth (pe_ixS (pv 0) pe_int) (fun _ => rfl))) (pss_one (ps_ret (pv 1))) pss_nil)
      (pss_cons (ps_set (i := 2) sc_shown.nd rfl (Or.inl rfl) (pe_bm PySem.F.plainAttrs_str PySem.F.slot_str_join PySem.F.type_str_join mt_join pe_str (pa_cons (pe_compC ["atom"] [] 1 (pi_seq (pe_ixS (pv 0) pe_int)) (fun _ _ _ _ _ => (pg_name (i := 0) (show (["atom"] : List Str).Nodup from by decide +kernel) rfl (by first | exact Or.inl rfl | exact Or.inr rfl))) (fun _ _ _ _ _ => pts_nil) (fun _ _ _ _ _ => (pe_ownc G_shown_atom hr (pa_cons (pv 0) pa_nil)))) pa_nil)))
      (pss_one (ps_ret (pe_fstr (pj_cons (pe_fmt (pv 1)) (pj_cons pe_str (pj_cons (pe_fmt (pv 2)) pj_nil))))))))), ?_⟩
  have E0 := env_start rs ["rule", "head", "body"]
  refine s_set lv E0 (ev_callR ⟨h, g.1, rfl, rfl⟩ (ev_cons (ev_ixt atI_zero (ev_v E0 rfl) ev_int) ev_nil)) fun σ1 H1 s1 l1 E1 => ?_
  refine s_if l1 E1 (evt_not (evt_truT (ev_ixt (d := .tup b) (atI_of_nat (by decide) rfl) (ev_v E1 rfl) ev_int))) (fun e H2 s2 l2 E2 => ?_) (fun e H2 s2 l2 E2 => ?_)
  · have hb : b = [] := by cases b with
      | nil => rfl
      | cons c r => cases e
    subst hb
    exact s_ret l2 (ev_v E2 rfl) fun v H' s3 r3 => q v H' (s1.trans (s2.trans s3)) r3
  · refine nx ?_
    cases b with
    | nil => cases e
    | cons c r =>
      have hjl := join_and_len g.2.1 g.2.2
      have hl := goodA_len g.1
      refine s_set (d := .str (S (joinL [32, 97, 110, 100, 32] ((c :: r).map atomT)))) l2 E2 ((ev_join (zs := ((c :: r).map atomT).map S) (by rw [c_and]; exact atoms_fit g.2.1 g.2.2) ev_str (ev_cons ((ev_comp (i := 0) (p := fun _ => true) (f := fun d => .str (S (atomT d))) (walk_seqT (ev_ixt (d := .tup (c :: r)) (atI_of_nat (by decide) rfl) (ev_v E2 rfl) ev_int)) (fun G' v d _ _ _ => evt_yes) (fun G' v d sG hd _ r => ?_) ?_).eq ?_) ev_nil)).eq (by rw [c_and, join_S])) fun σ3 H3 s3 l3 E3 => ?_
      · exact ev_callR ⟨d, g.2.1 d hd, rfl, rfl⟩ (ev_cons (ev_var (by simp [capsOf]) r) ev_nil)
      · exact small1000 (by have := g.2.2; omega)
      · rw [List.filter_eq_self.mpr fun _ _ => rfl, List.map_map, List.map_map]
        rfl
      · have z1 : (S (atomT h)).length ≤ sizeLine := by rw [S_len]; have := line16 (n := (atomT h).length) (by omega); omega
        have z2 : (S (joinL [32, 97, 110, 100, 32] ((c :: r).map atomT))).length ≤ sizeLine := by rw [S_len]; have := line16 (n := (joinL [32, 97, 110, 100, 32] ((c :: r).map atomT)).length) (by omega); omega
        refine s_ret l3 ((ev_j1 (ev_fmt z1 (ev_v E3 rfl)) (ev_j1 ev_str (ev_j1 (ev_fmt z2 (ev_v E3 rfl)) ev_j0)) Str.empty ?_).eq ?_) fun v H' s4 r4 => q v H' (s1.trans (s2.trans (s3.trans s4))) r4
        · rw [c_if]
          simp only [List.foldl_cons, List.foldl_nil, S_len]
          have h0 : Str.empty.length = 0 := rfl
          rw [h0]
          have := line16 (n := (atomT h).length + (joinL [32, 97, 110, 100, 32] ((c :: r).map atomT)).length + 10) (by omega)
          simp only [List.length_cons, List.length_nil]
          omega
        · rw [c_if]
          show D.str (((Str.empty ++ S (atomT h)) ++ S [32, 105, 102, 32]) ++ S (joinL [32, 97, 110, 100, 32] ((c :: r).map atomT))) = _
          rw [show Str.empty = S [] from rfl, S_app, S_app, S_app]
          rfl
end
end K11

set_option Elab.async false
set_option linter.all false
set_option maxRecDepth 100000
set_option maxHeartbeats 4000000
namespace K11
open PySem L2 FL
section
variable {P : Program} {w : World} {K : PySem.W.Frag} {mg : Str → Option Value} {base : Heap} {f : Addr} {fd : FuncData}
/-! _law_whole -/
theorem sc_law_whole : FnScope ["_law_found"] ["_law_found"] (defScope s_law_whole) := ⟨rfl, rfl, rfl, by decide +kernel, rfl, by decide +kernel, by decide +kernel⟩
theorem ok_law_whole (F : Fun K "_law_whole" "_law_whole" s_law_whole f fd) (B : Bl mg) : FnOk P w K mg base CX0 1 f fd ["_law_found"] (spR RWhole) := by
  refine F.ok sc_law_whole (spR_len (n := 1) fun ds d ⟨x, e, _⟩ => by rw [e]; rfl) (fun cdv A outer s H vs Q E hr h => ?_)
  obtain ⟨M, ds, d, lv, rs, ⟨x, rfl, rfl⟩, q⟩ := h
  refine ⟨_, (pss_one (ps_ret (pe_and (pe_isin B (pv 0) B.int PyProof.Rows.boot_int) (pe_one (pe_not (pe_isin B (pv 0) B.bool PyProof.Rows.boot_bool)))))), ?_⟩
  have E0 := env_start rs ["_law_found"]
  exact s_ret lv (ev_and (ev_isInt (ev_v E0 rfl)) fun _ => ev_not (ev_isBool (ev_v E0 rfl))) q
/-! _law_kinds -/
def RKinds : List D → D → Prop := fun ds d => ∃ a, goodA a ∧ ds = [a, a] ∧ d = .bl true
theorem cmpbs_flat : ∀ {l : List D}, (∀ d ∈ l, d.sc = true) → cmpbs l l = true ∧ D.deps l = 0
  | [], _ => ⟨rfl, rfl⟩
  | d :: r, h => by
    have h1 := sc_cmp (h d List.mem_cons_self) (h d List.mem_cons_self)
    have h2 := cmpbs_flat (l := r) fun e he => h e (List.mem_cons_of_mem _ he)
    have h3 : d.dep = 0 := by
      have := h d List.mem_cons_self
      cases d with
      | int i => rfl
      | str i => rfl
      | _ => exact absurd this (by simp [D.sc])
    refine ⟨?_, ?_⟩
    · rw [cmpbs, h1.1, h2.1]; rfl
    · rw [D.deps, h3, h2.2]; rfl
theorem cmpb_flat {l : List D} (h : ∀ d ∈ l, d.sc = true) : cmpb (.tup l) (.tup l) = true ∧ (D.tup l).dep ≤ 40 := by
  obtain ⟨h1, h2⟩ := cmpbs_flat h
  refine ⟨by rw [cmpb]; exact h1, ?_⟩
  rw [D.dep, h2]
  decide
theorem sc_law_kinds : FnScope ["_law_found", "_law_due", "_law_k"] ["_law_found", "_law_due"] (defScope s_law_kinds) := ⟨rfl, rfl, rfl, by decide +kernel, rfl, by decide +kernel, by decide +kernel⟩
theorem ok_law_kinds (F : Fun K "_law_kinds" "_law_kinds" s_law_kinds f fd) (B : Bl mg) (G_law_whole : Has P w K mg base 1 "_law_whole" ["_law_found"] (spR RWhole)) : FnOk P w K mg base CX0 2 f fd ["_law_found", "_law_due"] (spR RKinds) := by
  refine F.ok sc_law_kinds (spR_len (n := 2) fun ds d ⟨p, _, e, _⟩ => by rw [e]; rfl) (fun cdv A outer s H vs Q E hr h => ?_)
  obtain ⟨M, ds, d, lv, rs, ⟨a, ga, rfl, rfl⟩, q⟩ := h
  have hu := hu50 hr
  refine ⟨_, (pss_cons (ps_if (pw_or (pt_not (pt_val (pe_isin B (pv 0) B.tuple PyProof.Rows.boot_tuple))) (pw_or1 (pt_cmpR (op_neA (by exact hu)) (pe_len B (pv 0)) (pe_len B (pv 1)) (nomark _)))).pt (pss_one (ps_ret pe_bl)) pss_nil)
      (pss_cons (ps_for PassesOwn.never rfl (pi_range1 rfl B.range (pa_cons (pe_len B (pv 1)) pa_nil)) (pg_name (i := 2) sc_law_kinds.nd rfl (by first | exact Or.inl rfl | exact Or.inr rfl)) (pss_one (ps_if (pt_val (pe_isin B (pe_ixS (pv 1) (pv 2)) B.str PyProof.Rows.boot_str)) (pss_one (ps_if (pt_not (pt_val (pe_isin B (pe_ixS (pv 0) (pv 2)) B.str PyProof.Rows.boot_str))) (pss_one (ps_ret pe_bl)) pss_nil)) (pss_one (ps_if (pt_not (pt_val (pe_own G_law_whole hr (pa_cons (pe_ixS (pv 0) (pv 2)) pa_nil)))) (pss_one (ps_ret pe_bl)) pss_nil)))))
      (pss_one (ps_ret (pe_cmpR (op_eqA (by exact hu)) (pv 0) (pv 1) (nomark _)))))), ?_⟩
  obtain ⟨l, ea, hsc, hln⟩ : ∃ l : List D, a = .tup l ∧ (∀ d ∈ l, d.sc = true) ∧ l.length ≤ 71 := by
    obtain ⟨rel, ps, g⟩ := ga
    refine ⟨_, g.eq, fun d hd => ?_, by have := g.few; simp only [List.length_cons]; omega⟩
    rcases List.mem_cons.mp hd with e | e
    · rw [e]; rfl
    · exact part_sc (g.good d e)
  subst ea
  have E0 := env_start rs ["_law_found", "_law_due", "_law_k"]
  refine s_if (b := false) lv E0 (evt_or (b := false) (c := false) (evt_not (b := true) (evt_tB (ev_isTuple (d := .tup l) (ev_v E0 rfl)))) fun _ => EvT.eq (evt_test (ev_neI (ev_lenT (ev_cons (ev_v E0 rfl) ev_nil)) (ev_lenT (ev_cons (ev_v E0 rfl) ev_nil)))) (by simp)) (fun z => nomatch z) fun _ H1 s1 l1 E1 => ?_
  refine nx ?_
  refine st_for (M := M) (walk_range1 (n := l.length) (by omega) (ev_cons (ev_lenT (ev_cons (ev_v E1 rfl) ev_nil)) ev_nil)) l1 fun H2 s2 => ?_
  refine ⟨fun j σ' H' => Same H2 H' ∧ EnvR (but H' M) σ' [some (.tup l), some (.tup l), none], ⟨Same.refl _, E1.same s2⟩, fun j σ' H' ⟨a, b⟩ => ⟨a.but M, (l1.same s2).same a⟩, fun j d x σ' H' H'' hd ⟨a, b⟩ s3 rx => ?_, fun σ' H' ⟨a, b⟩ => ?_⟩
  · obtain ⟨hj, rfl⟩ := range_at 0 _ j d hd
    have E3 : EnvR (but H'' M) (σ'.set 2 (some x)) [some (.tup l), some (.tup l), some (.int (0 + (j : Int)))] := (b.same s3).set 2 rx
    have l3 : Live M H'' := (l1.same (s2.trans a)).same s3
    have ix : atI l (0 + (j : Int)) = some l[j] := atI_of_nat (by omega) (by rw [show (0 + (j : Int)).toNat = j by omega]; exact List.getElem?_eq_getElem hj)
    have hm := hsc l[j] (List.getElem_mem hj)
    refine s_if (δ := [some (.tup l), some (.tup l), some (.int (0 + (j : Int)))]) l3 E3 (evt_tB (ev_isStr (ev_ixt ix (ev_v E3 rfl) (ev_v E3 rfl)))) (fun e H4 s4 l4 E4 => ?_) (fun e H4 s4 l4 E4 => ?_)
    · refine s_if (b := false) l4 E4 (evt_not (b := true) (EvT.eq (evt_tB (ev_isStr (ev_ixt ix (ev_v E4 rfl) (ev_v E4 rfl)))) e)) (fun z => nomatch z) fun _ H5 s5 l5 E5 => ?_
      exact nx ⟨a.trans (s3.trans (s4.trans s5)), E5.drop 2⟩
    · have hw : whole l[j] = true := by
        revert hm e
        generalize l[j] = z
        intro hm e
        cases z with
        | int i => rfl
        | str i => cases e
        | _ => exact absurd hm (by simp [D.sc])
      refine s_if (b := false) l4 E4 (evt_not (b := true) (EvT.eq (evt_tB (ev_callR ⟨l[j], rfl, rfl⟩ (ev_cons (ev_ixt ix (ev_v E4 rfl) (ev_v E4 rfl)) ev_nil))) hw)) (fun z => nomatch z) fun _ H5 s5 l5 E5 => ?_
      exact nx ⟨a.trans (s3.trans (s4.trans s5)), E5.drop 2⟩
  · have hc := cmpb_flat hsc
    exact s_ret ((l1.same s2).same a) ((ev_eqA hc.1 hc.2 (ev_v b rfl) (ev_v b rfl)).eq (by simp)) fun v H' s3 r3 => q v H' (s1.trans (s2.trans (a.trans s3))) r3
/-! _law_same_rule -/
def RSame : List D → D → Prop := fun ds d => ∃ h b, GoodR h b ∧ ds = [.tup [h, .tup b], h, .lst b] ∧ d = .bl true
theorem sc_law_same_rule : FnScope ["_law_found", "_law_head", "_law_body", "_law_k"] ["_law_found", "_law_head", "_law_body"] (defScope s_law_same_rule) := ⟨rfl, rfl, rfl, by decide +kernel, rfl, by decide +kernel, by decide +kernel⟩
theorem ok_law_same_rule (F : Fun K "_law_same_rule" "_law_same_rule" s_law_same_rule f fd) (B : Bl mg) (G_law_kinds : Has P w K mg base 2 "_law_kinds" ["_law_found", "_law_due"] (spR RKinds)) : FnOk P w K mg base CX0 3 f fd ["_law_found", "_law_head", "_law_body"] (spR RSame) := by
  refine F.ok sc_law_same_rule (spR_len (n := 3) fun ds d ⟨p, _, _, e, _⟩ => by rw [e]; rfl) (fun cdv A outer s H vs Q E hr h => ?_)
  obtain ⟨M, ds, d, lv, rs, ⟨h, b, g, rfl, rfl⟩, q⟩ := h
  have hu := hu50 hr
  have hbl := g.2.2
  refine ⟨_, (pss_cons (ps_if (pw_or (pt_not (pt_val (pe_isin B (pv 0) B.tuple PyProof.Rows.boot_tuple))) (pw_or (pt_cmpR (op_neA (by exact hu)) (pe_len B (pv 0)) pe_int (nomark _)) (pw_or1 (pt_not (pt_val (pe_own G_law_kinds hr (pa_cons (pe_ixS (pv 0) pe_int) (pa_cons (pv 1) pa_nil)))))))).pt (pss_one (ps_ret pe_bl)) pss_nil)
      (pss_cons (ps_if (pw_or (pt_not (pt_val (pe_isin B (pe_ixS (pv 0) pe_int) B.tuple PyProof.Rows.boot_tuple))) (pw_or1 (pt_cmpR (op_neA (by exact hu)) (pe_len B (pe_ixS (pv 0) pe_int)) (pe_len B (pv 2)) (nomark _)))).pt (pss_one (ps_ret pe_bl)) pss_nil)
      (pss_cons (ps_for PassesOwn.never rfl (pi_range1 rfl B.range (pa_cons (pe_len B (pv 2)) pa_nil)) (pg_name (i := 3) sc_law_same_rule.nd rfl (by first | exact Or.inl rfl | exact Or.inr rfl)) (pss_one (ps_if (pt_not (pt_val (pe_own G_law_kinds hr (pa_cons (pe_ixS (pe_ixS (pv 0) pe_int) (pv 3)) (pa_cons (pe_ixS (pv 2) (pv 3)) pa_nil))))) (pss_one (ps_ret pe_bl)) pss_nil)))
      (pss_one (ps_ret pe_bl))))), ?_⟩
  have E0 := env_start rs ["_law_found", "_law_head", "_law_body", "_law_k"]
  refine s_if (b := false) lv E0 (evt_or (b := false) (c := false) (evt_not (b := true) (evt_tB (ev_isTuple (d := .tup [h, .tup b]) (ev_v E0 rfl)))) fun _ => evt_or (b := false) (c := false) (EvT.eq (evt_test (ev_neI (ev_lenT (ev_cons (ev_v E0 rfl) ev_nil)) ev_int)) rfl) fun _ => evt_not (b := true) (evt_tB (ev_callR ⟨h, g.1, rfl, rfl⟩ (ev_cons (ev_ixt atI_zero (ev_v E0 rfl) ev_int) (ev_cons (ev_v E0 rfl) ev_nil))))) (fun z => nomatch z) fun _ H1 s1 l1 E1 => ?_
  refine nx ?_
  refine s_if (b := false) l1 E1 (evt_or (b := false) (c := false) (evt_not (b := true) (evt_tB (ev_isTuple (d := .tup b) (ev_ixt (atI_of_nat (by decide) rfl) (ev_v E1 rfl) ev_int)))) fun _ => EvT.eq (evt_test (ev_neI (ev_lenT (l := b) (ev_cons (ev_ixt (atI_of_nat (by decide) rfl) (ev_v E1 rfl) ev_int) ev_nil)) (ev_lenL (ev_cons (ev_v E1 rfl) ev_nil)))) (by simp)) (fun z => nomatch z) fun _ H2 s2 l2 E2 => ?_
  refine nx ?_
  refine st_for (M := M) (walk_range1 (n := b.length) (by omega) (ev_cons (ev_lenL (ev_cons (ev_v E2 rfl) ev_nil)) ev_nil)) l2 fun H3 s3 => ?_
  refine ⟨fun j σ' H' => Same H3 H' ∧ EnvR (but H' M) σ' [some (.tup [h, .tup b]), some h, some (.lst b), none], ⟨Same.refl _, E2.same s3⟩, fun j σ' H' ⟨a, c⟩ => ⟨a.but M, (l2.same s3).same a⟩, fun j d x σ' H' H'' hd ⟨a, c⟩ s4 rx => ?_, fun σ' H' ⟨a, c⟩ => ?_⟩
  · obtain ⟨hj, rfl⟩ := range_at 0 _ j d hd
    have E3 : EnvR (but H'' M) (σ'.set 3 (some x)) [some (.tup [h, .tup b]), some h, some (.lst b), some (.int (0 + (j : Int)))] := (c.same s4).set 3 rx
    have l3 : Live M H'' := (l2.same (s3.trans a)).same s4
    have ix : atI b (0 + (j : Int)) = some b[j] := atI_of_nat (by omega) (by rw [show (0 + (j : Int)).toNat = j by omega]; exact List.getElem?_eq_getElem hj)
    refine s_if (b := false) (δ := [some (.tup [h, .tup b]), some h, some (.lst b), some (.int (0 + (j : Int)))]) l3 E3 (evt_not (b := true) (evt_tB (ev_callR ⟨b[j], g.2.1 _ (List.getElem_mem hj), rfl, rfl⟩ (ev_cons (ev_ixt ix (ev_ixt (d := .tup b) (atI_of_nat (by decide) rfl) (ev_v E3 rfl) ev_int) (ev_v E3 rfl)) (ev_cons (ev_ix ix (ev_v E3 rfl) (ev_v E3 rfl)) ev_nil))))) (fun z => nomatch z) fun _ H5 s5 l5 E5 => ?_
    exact nx ⟨a.trans (s4.trans s5), E5.drop 3⟩
  · exact q (.bl true) H' (s1.trans (s2.trans (s3.trans a))) (.bl true)
end
end K11

set_option Elab.async false
set_option linter.all false
set_option maxRecDepth 100000
set_option maxHeartbeats 4000000
namespace K11
open PySem L2 FL
section
variable {P : Program} {w : World} {K : PySem.W.Frag} {mg : Str → Option Value} {base : Heap} {f : Addr} {fd : FuncData}
/-! _law_part_by -/
def tailsS : List Str := [Str.ofString "", Str.ofString "zip", Str.ofString "q"]
def preS (k : Nat) : List Str := [Str.ofString "", S [90 - k]]
def spotN (c : Int) : Nat := (c / 11 % 26).toNat
def numOf (c : Int) : Int := if (c / 9 % 200 - 100) % 8 = 3 then (c / 9 % 200 - 100) * 100000000000 else c / 9 % 200 - 100
def restD (n : Int) : List D := [.str (Str.ofString "X"), .str (Str.ofString "Yew"), .str (Str.ofString "ash"), .str (Str.ofString "if"), .str (Str.ofString "and"), .str (Str.ofString "Z"), .str (Str.ofString "less"), .int n, .int 0]
def partBy (c : Int) : D := if c % 11 = 7 then .str ((preS (spotN c)).getD (c / 858 % 2).toNat Str.empty ++ (S [97 + spotN c] ++ tailsS.getD (c / 286 % 3).toNat Str.empty)) else (restD (numOf c)).getD (c % 9).toNat .non
def RPartBy : List D → D → Prop := fun ds d => ∃ c : Int, ds = [.int c] ∧ d = partBy c
theorem at_modS {l : List Str} {n : Nat} (x : Int) (hn : 0 < n) (hl : l.length = n) : atI (l.map D.str) (x % (n : Int)) = some (.str (l.getD (x % (n : Int)).toNat Str.empty)) := by
  obtain ⟨d, h1, h2, h3⟩ := at_mod (l := l.map D.str) x hn (by rw [List.length_map]; exact hl)
  rw [h1, h3]
  have a := Int.emod_nonneg x (show (n : Int) ≠ 0 by omega)
  have b := Int.emod_lt_of_pos x (show (0 : Int) < n by omega)
  have c : (x % (n : Int)).toNat < l.length := by omega
  simp [List.getD, c]
theorem spot_lt (c : Int) : spotN c < 26 ∧ ((spotN c : Nat) : Int) = c / 11 % 26 := by
  have a := Int.emod_nonneg (c / 11) (show (26 : Int) ≠ 0 by decide)
  have b := Int.emod_lt_of_pos (c / 11) (show (0 : Int) < 26 by decide)
  unfold spotN
  omega
theorem small_at {k : Nat} (h : k < 26) : (Str.ofString "abcdefghijklmnopqrstuvwxyz").cps.toList[k]? = some (97 + k) := by
  rw [small_list]
  have : ∀ k : Nat, k < 26 → ([97, 98, 99, 100, 101, 102, 103, 104, 105, 106, 107, 108, 109, 110, 111, 112, 113, 114, 115, 116, 117, 118, 119, 120, 121, 122] : L)[k]? = some (97 + k) := by decide
  exact this k h
theorem back_list : (Str.ofString "ZYXWVUTSRQPONMLKJIHGFEDCBA").cps.toList = [90, 89, 88, 87, 86, 85, 84, 83, 82, 81, 80, 79, 78, 77, 76, 75, 74, 73, 72, 71, 70, 69, 68, 67, 66, 65] := by decide +kernel
theorem back_at {k : Nat} (h : k < 26) : (Str.ofString "ZYXWVUTSRQPONMLKJIHGFEDCBA").cps.toList[k]? = some (90 - k) := by
  rw [back_list]
  have : ∀ k : Nat, k < 26 → ([90, 89, 88, 87, 86, 85, 84, 83, 82, 81, 80, 79, 78, 77, 76, 75, 74, 73, 72, 71, 70, 69, 68, 67, 66, 65] : L)[k]? = some (90 - k) := by decide
  exact this k h
theorem tails_len (i : Nat) : (tailsS.getD i Str.empty).length ≤ 3 ∧ ∀ c ∈ (tailsS.getD i Str.empty).cps.toList, low c = true := by
  have h3 : (Str.ofString "zip").cps.toList = [122, 105, 112] := by decide +kernel
  have h4 : (Str.ofString "q").cps.toList = [113] := by decide +kernel
  have h2 : (Str.ofString "").cps.toList = [] := by decide +kernel
  match i with
  | 0 => exact ⟨by rw [← len_list]; show (Str.ofString "").cps.toList.length ≤ 3; rw [h2]; decide, fun c hc => by rw [show (tailsS.getD 0 Str.empty).cps.toList = (Str.ofString "").cps.toList from rfl, h2] at hc; cases hc⟩
  | 1 => exact ⟨by rw [← len_list]; show (Str.ofString "zip").cps.toList.length ≤ 3; rw [h3]; decide, fun c hc => by
      rw [show (tailsS.getD 1 Str.empty).cps.toList = (Str.ofString "zip").cps.toList from rfl, h3] at hc
      exact (by decide : ∀ c ∈ ([122, 105, 112] : L), low c = true) c hc⟩
  | 2 => exact ⟨by rw [← len_list]; show (Str.ofString "q").cps.toList.length ≤ 3; rw [h4]; decide, fun c hc => by
      rw [show (tailsS.getD 2 Str.empty).cps.toList = (Str.ofString "q").cps.toList from rfl, h4] at hc
      exact (by decide : ∀ c ∈ ([113] : L), low c = true) c hc⟩
  | n + 3 => exact ⟨by show Str.empty.length ≤ 3; decide, fun c hc => by cases hc⟩
theorem pre_cases (k i : Nat) : (preS k).getD i Str.empty = S [] ∨ (preS k).getD i Str.empty = S [90 - k] := by
  match i with
  | 0 => exact .inl c_empty
  | 1 => exact .inr rfl
  | n + 2 => exact .inl rfl
theorem app_list (a b : Str) : (a ++ b).cps.toList = a.cps.toList ++ b.cps.toList := by
  show (a.cps ++ b.cps).toList = _
  rw [Array.toList_append]
theorem rest_good (n : Int) (hn : n.natAbs < 10 ^ 30) : ∀ d ∈ restD n, goodP d := fun d hd => by
  unfold restD at hd
  simp only [List.mem_cons, List.not_mem_nil, or_false] at hd
  rcases hd with rfl | rfl | rfl | rfl | rfl | rfl | rfl | rfl | rfl
  · exact ⟨by decide +kernel, by decide +kernel⟩
  · exact ⟨by decide +kernel, by decide +kernel⟩
  · exact ⟨by decide +kernel, by decide +kernel⟩
  · exact ⟨by decide +kernel, by decide +kernel⟩
  · exact ⟨by decide +kernel, by decide +kernel⟩
  · exact ⟨by decide +kernel, by decide +kernel⟩
  · exact ⟨by decide +kernel, by decide +kernel⟩
  · exact hn
  · show (0 : Int).natAbs < 10 ^ 30
    decide
theorem num_small (c : Int) : (numOf c).natAbs < 10 ^ 30 := by
  have a := Int.emod_nonneg (c / 9) (show (200 : Int) ≠ 0 by decide)
  have b := Int.emod_lt_of_pos (c / 9) (show (0 : Int) < 200 by decide)
  have e : (10 : Nat) ^ 30 = 1000000000000000000000000000000 := by decide
  unfold numOf
  rw [e]
  split <;> omega
theorem partBy_good (c : Int) : goodP (partBy c) := by
  unfold partBy
  split
  · have hk := (spot_lt c).1
    obtain ⟨t1, t2⟩ := tails_len (c / 286 % 3).toNat
    have hw : (S [97 + spotN c] ++ tailsS.getD (c / 286 % 3).toNat Str.empty).cps.toList = (97 + spotN c) :: (tailsS.getD (c / 286 % 3).toNat Str.empty).cps.toList := by rw [app_list, S_list]; rfl
    have hlow : ((97 + spotN c) :: (tailsS.getD (c / 286 % 3).toNat Str.empty).cps.toList).all low = true := List.all_eq_true.mpr fun x hx => by
      rcases List.mem_cons.mp hx with e | e
      · rw [e]; exact low_iff.mpr (by omega)
      · exact t2 x e
    rcases pre_cases (spotN c) (c / 858 % 2).toNat with e | e
    · rw [e]
      refine ⟨?_, ?_⟩
      · rw [app_list, S_list, List.nil_append, hw]
        have : wordB ((97 + spotN c) :: (tailsS.getD (c / 286 % 3).toNat Str.empty).cps.toList) = true := by
          show (true && _) = true
          rw [hlow]; rfl
        rw [this]; rfl
      · rw [← len_list, app_list, S_list, List.nil_append, hw, List.length_cons, len_list]
        omega
    · rw [e]
      refine ⟨?_, ?_⟩
      · rw [app_list, S_list, hw]
        have : blankB ([90 - spotN c] ++ (97 + spotN c) :: (tailsS.getD (c / 286 % 3).toNat Str.empty).cps.toList) = true := by
          show (upc (90 - spotN c) && _) = true
          rw [upc_iff.mpr (by omega)]
          exact hlow
        rw [this, Bool.or_true]
      · rw [← len_list, app_list, S_list, hw]
        simp only [List.length_append, List.length_cons, List.length_nil, len_list]
        omega
  · obtain ⟨d, _, h2, h3⟩ := at_mod (l := restD (numOf c)) (n := 9) c (by decide) rfl
    have h3' : d = (restD (numOf c)).getD (c % 9).toNat .non := h3
    rw [← h3']
    exact rest_good _ (num_small c) d h2
end
end K11

set_option Elab.async false
set_option linter.all false
set_option maxRecDepth 100000
set_option maxHeartbeats 4000000
namespace K11
open PySem L2 FL
section
variable {P : Program} {w : World} {K : PySem.W.Frag} {mg : Str → Option Value} {base : Heap} {f : Addr} {fd : FuncData}
theorem sc_law_part_by : FnScope ["_law_cell", "_law_spot", "_law_word", "_law_number"] ["_law_cell"] (defScope s_law_part_by) := ⟨rfl, rfl, rfl, by decide +kernel, rfl, by decide +kernel, by decide +kernel⟩
theorem ok_law_part_by (F : Fun K "_law_part_by" "_law_part_by" s_law_part_by f fd) (B : Bl mg) : FnOk P w K mg base CX0 1 f fd ["_law_cell"] (spR RPartBy) := by
  refine F.ok sc_law_part_by (spR_len (n := 1) fun ds d ⟨p, e, _⟩ => by rw [e]; rfl) (fun cdv A outer s H vs Q E hr h => ?_)
  obtain ⟨M, ds, d, lv, rs, ⟨c, rfl, rfl⟩, q⟩ := h
  have hu := hu50 hr
  refine ⟨_, (pss_cons (ps_if (pt_cmpR (op_eqA (by exact hu)) (pe_op op_mod (pv 0) pe_int) pe_int (nomark _)) (pss_cons (ps_set (i := 1) sc_law_part_by.nd rfl (Or.inl rfl) (pe_op op_mod (pe_op op_fdiv (pv 0) pe_int) pe_int))
      (pss_cons (ps_set (i := 2) sc_law_part_by.nd rfl (Or.inl rfl) (pe_op op_add_str (pe_ixS pe_str (pv 1)) (pe_ixS (pe_lst (pa_cons pe_str (pa_cons pe_str (pa_cons pe_str pa_nil)))) (pe_op op_mod (pe_op op_fdiv (pv 0) pe_int) pe_int))))
      (pss_one (ps_ret (pe_op op_add_str (pe_ixS (pe_lst (pa_cons pe_str (pa_cons (pe_ixS pe_str (pv 1)) pa_nil))) (pe_op op_mod (pe_op op_fdiv (pv 0) pe_int) pe_int)) (pv 2)))))) pss_nil)
      (pss_cons (ps_set (i := 3) sc_law_part_by.nd rfl (Or.inl rfl) (pe_op op_sub (pe_op op_mod (pe_op op_fdiv (pv 0) pe_int) pe_int) pe_int))
      (pss_cons (ps_if (pt_cmpR (op_eqA (by exact hu)) (pe_op op_mod (pv 3) pe_int) pe_int (nomark _)) (pss_one (ps_set (i := 3) sc_law_part_by.nd rfl (Or.inl rfl) (pe_op op_mul (pv 3) pe_int))) pss_nil)
      (pss_one (ps_ret (pe_ixS (pe_lst (pa_cons pe_str (pa_cons pe_str (pa_cons pe_str (pa_cons pe_str (pa_cons pe_str (pa_cons pe_str (pa_cons pe_str (pa_cons (pv 3) (pa_cons pe_int pa_nil)))))))))) (pe_op op_mod (pv 0) pe_int))))))), ?_⟩
  have E0 := env_start rs ["_law_cell", "_law_spot", "_law_word", "_law_number"]
  have hk := spot_lt c
  have hsz : ∀ n : Nat, n ≤ 1000 → n ≤ sizeLine := fun n h => by have := line16 (n := n) (by omega); omega
  refine s_if lv E0 (evt_test (ev_eqI (ev_mod (by decide) (ev_v E0 rfl) ev_int) ev_int)) (fun e H1 s1 l1 E1 => ?_) (fun e H1 s1 l1 E1 => ?_)
  · have e' := of_decide_eq_true e
    have hp : partBy c = .str ((preS (spotN c)).getD (c / 858 % 2).toNat Str.empty ++ (S [97 + spotN c] ++ tailsS.getD (c / 286 % 3).toNat Str.empty)) := if_pos e'
    rw [hp] at q
    have t1 := (tails_len (c / 286 % 3).toNat).1
    have ixa : atI (Str.ofString "abcdefghijklmnopqrstuvwxyz").cps.toList (c / 11 % 26) = some (97 + spotN c) := atI_of_nat (by omega) (small_at hk.1)
    have ixz : atI (Str.ofString "ZYXWVUTSRQPONMLKJIHGFEDCBA").cps.toList (c / 11 % 26) = some (90 - spotN c) := atI_of_nat (by omega) (back_at hk.1)
    refine s_set l1 E1 (ev_mod (by decide) (ev_fdiv ⟨by decide, by decide⟩ (ev_v E1 rfl) ev_int) ev_int) fun σ2 H2 s2 l2 E2 => ?_
    refine s_set (d := .str (S [97 + spotN c] ++ tailsS.getD (c / 286 % 3).toNat Str.empty)) l2 E2 (ev_addS (by rw [S_len]; exact hsz _ (by simp only [List.length_singleton]; omega)) (ev_ixs (c := 97 + spotN c) (hsz _ (by decide +kernel)) ixa ev_str (ev_v E2 rfl)) (ev_ix (at_modS (l := tailsS) (n := 3) (c / 286) (by decide) rfl) (ev_lst (ds := tailsS.map D.str) (ev_cons ev_str (ev_cons ev_str (ev_cons ev_str ev_nil))) (hz := by show 3 ≤ sizeLine; decide)) (ev_mod (by decide) (ev_fdiv ⟨by decide, by decide⟩ (ev_v E2 rfl) ev_int) ev_int))) fun σ3 H3 s3 l3 E3 => ?_
    refine s_ret l3 (ev_addS (a := (preS (spotN c)).getD (c / 858 % 2).toNat Str.empty) ?_ (ev_ix (at_modS (l := preS (spotN c)) (n := 2) (c / 858) (by decide) rfl) (ev_lst (ds := (preS (spotN c)).map D.str) (ev_cons ev_str (ev_cons (ev_ixs (c := 90 - spotN c) (hsz _ (by decide +kernel)) ixz ev_str (ev_v E3 rfl)) ev_nil)) (hz := by show 2 ≤ sizeLine; decide)) (ev_mod (by decide) (ev_fdiv ⟨by decide, by decide⟩ (ev_v E3 rfl) ev_int) ev_int)) (ev_v E3 rfl)) fun v H' s4 r4 => q v H' (s1.trans (s2.trans (s3.trans s4))) r4
    rw [app_len, S_len]
    refine hsz _ ?_
    rcases pre_cases (spotN c) (c / 858 % 2).toNat with e2 | e2 <;> rw [e2, S_len] <;> simp only [List.length_singleton, List.length_nil] <;> omega
  · have e' := of_decide_eq_false e
    have hp : partBy c = (restD (numOf c)).getD (c % 9).toNat .non := if_neg e'
    rw [hp] at q
    refine nx ?_
    refine s_set l1 E1 (ev_sub (ev_mod (by decide) (ev_fdiv ⟨by decide, by decide⟩ (ev_v E1 rfl) ev_int) ev_int) ev_int) fun σ2 H2 s2 l2 E2 => ?_
    obtain ⟨d, h1, h2, h3⟩ := at_mod (l := restD (numOf c)) (n := 9) c (by decide) rfl
    have h3' : d = (restD (numOf c)).getD (c % 9).toNat .non := h3
    rw [← h3'] at q
    refine s_ifK (fun σ' H' => Same H2 H' ∧ Live M H' ∧ EnvR (but H' M) σ' [some (.int c), none, none, some (.int (numOf c))]) l2 E2 (evt_test (ev_eqI (ev_mod (by decide) (ev_v E2 rfl) ev_int) ev_int)) (fun hk e2 H3 s3 l3 E3 => ?_) (fun hk e2 H3 s3 l3 E3 => ?_) (fun σ3 H3 ⟨s3, l3, E3⟩ => ?_)
    · have hn : numOf c = (c / 9 % 200 - 100) * 100000000000 := if_pos (of_decide_eq_true e2)
      refine s_set l3 E3 (ev_mul (.inr ⟨by decide, by decide⟩) (ev_v E3 rfl) ev_int) fun σ4 H4 s4 l4 E4 => hk _ _ ⟨s3.trans s4, l4, ?_⟩
      rw [hn]
      exact E4
    · have hn : numOf c = c / 9 % 200 - 100 := if_neg (of_decide_eq_false e2)
      refine nx (hk _ _ ⟨s3, l3, ?_⟩)
      rw [hn]
      exact E3
    · exact s_ret l3 (ev_ix h1 (ev_lst (ds := restD (numOf c)) (ev_cons ev_str (ev_cons ev_str (ev_cons ev_str (ev_cons ev_str (ev_cons ev_str (ev_cons ev_str (ev_cons ev_str (ev_cons (ev_v E3 rfl) (ev_cons ev_int ev_nil))))))))) (hz := by show 9 ≤ sizeLine; decide)) (ev_mod (by decide) (ev_v E3 rfl) ev_int)) fun v H' s4 r4 => q v H' (s1.trans (s2.trans (s3.trans s4))) r4
end
end K11

set_option Elab.async false
set_option linter.all false
set_option maxRecDepth 100000
set_option maxHeartbeats 4000000
namespace K11
open PySem L2 FL
section
variable {P : Program} {w : World} {K : PySem.W.Frag} {mg : Str → Option Value} {base : Heap} {f : Addr} {fd : FuncData}
/-! _law_atom_by -/
def relsS (c : Int) : List Str := [Str.ofString "road", Str.ofString "rain", Str.ofString "less", Str.ofString "if", Str.ofString "and", Str.ofString "a", S [97 + (c / 7 % 26).toNat]]
def relBy (c : Int) : Str := (relsS c).getD (c % 7).toNat Str.empty
def atomBy (c : Int) (cs : List Int) : D := .tup (.str (relBy c) :: cs.map partBy)
def RAtomBy : List D → D → Prop := fun ds d => ∃ c cs, ds = [.lst ((c :: cs).map D.int)] ∧ cs.length ≤ 70 ∧ d = atomBy c cs
theorem rel_good (c : Int) : wordB (relBy c).cps.toList = true ∧ (relBy c).length ≤ 31 := by
  have a := Int.emod_nonneg (c / 7) (show (26 : Int) ≠ 0 by decide)
  have b := Int.emod_lt_of_pos (c / 7) (show (0 : Int) < 26 by decide)
  have a2 := Int.emod_nonneg c (show (7 : Int) ≠ 0 by decide)
  have b2 := Int.emod_lt_of_pos c (show (0 : Int) < 7 by decide)
  unfold relBy
  have : (c % 7).toNat < 7 := by omega
  generalize (c % 7).toNat = i at this
  match i, this with
  | 0, _ => exact (by decide +kernel : wordB (Str.ofString "road").cps.toList = true ∧ (Str.ofString "road").length ≤ 31)
  | 1, _ => exact (by decide +kernel : wordB (Str.ofString "rain").cps.toList = true ∧ (Str.ofString "rain").length ≤ 31)
  | 2, _ => exact (by decide +kernel : wordB (Str.ofString "less").cps.toList = true ∧ (Str.ofString "less").length ≤ 31)
  | 3, _ => exact (by decide +kernel : wordB (Str.ofString "if").cps.toList = true ∧ (Str.ofString "if").length ≤ 31)
  | 4, _ => exact (by decide +kernel : wordB (Str.ofString "and").cps.toList = true ∧ (Str.ofString "and").length ≤ 31)
  | 5, _ => exact (by decide +kernel : wordB (Str.ofString "a").cps.toList = true ∧ (Str.ofString "a").length ≤ 31)
  | 6, _ =>
    show wordB (S [97 + (c / 7 % 26).toNat]).cps.toList = true ∧ (S [97 + (c / 7 % 26).toNat]).length ≤ 31
    rw [S_list, S_len]
    refine ⟨?_, by simp⟩
    show (true && (low _ && true)) = true
    rw [low_iff.mpr (by omega)]
    rfl
theorem atomBy_good (c : Int) (cs : List Int) (h : cs.length ≤ 70) : goodA (atomBy c cs) :=
  ⟨relBy c, cs.map partBy, rfl, (rel_good c).1, (rel_good c).2, fun d hd => by obtain ⟨x, _, rfl⟩ := List.mem_map.mp hd; exact partBy_good x, by rw [List.length_map]; exact h⟩
theorem sc_law_atom_by : FnScope ["_law_cells", "_law_words"] ["_law_cells"] (defScope s_law_atom_by) := ⟨rfl, rfl, rfl, by decide +kernel, rfl, by decide +kernel, by decide +kernel⟩
theorem ok_law_atom_by (F : Fun K "_law_atom_by" "_law_atom_by" s_law_atom_by f fd) (B : Bl mg) (G_law_part_by : Has P w K mg base 1 "_law_part_by" ["_law_cell"] (spR RPartBy)) : FnOk P w K mg base CX0 2 f fd ["_law_cells"] (spR RAtomBy) := by
  refine F.ok sc_law_atom_by (spR_len (n := 1) fun ds d ⟨c, cs, e, _⟩ => by rw [e]; rfl) (fun cdv A outer s H vs Q E hr h => ?_)
  obtain ⟨M, ds, d, lv, rs, ⟨c, cs, rfl, hl, rfl⟩, q⟩ := h
  refine ⟨_, (pss_cons (ps_set (i := 1) sc_law_atom_by.nd rfl (Or.inl rfl) (pe_lst (pa_cons pe_str (pa_cons pe_str (pa_cons pe_str (pa_cons pe_str (pa_cons pe_str (pa_cons pe_str (pa_cons (pe_ixS pe_str (pe_op op_mod (pe_op op_fdiv (pe_ixS (pv 0) pe_int) pe_int) pe_int)) pa_nil)))))))))
      (pss_one (ps_ret (pe_tupleC B (pe_op op_cat (pe_lst (pa_cons (pe_ixS (pv 1) (pe_op op_mod (pe_ixS (pv 0) pe_int) pe_int)) pa_nil)) (pe_compC ["_law_cell"] [] 1 (pi_seq (pe_slice sl_list (pv 0) (po_some pe_int) po_none)) (fun _ _ _ _ _ => (pg_name (i := 0) (show (["_law_cell"] : List Str).Nodup from by decide +kernel) rfl (by first | exact Or.inl rfl | exact Or.inr rfl))) (fun _ _ _ _ _ => pts_nil) (fun _ _ _ _ _ => (pe_ownc G_law_part_by hr (pa_cons (pv 0) pa_nil))))))))), ?_⟩
  have E0 := env_start rs ["_law_cells", "_law_words"]
  have a := Int.emod_nonneg (c / 7) (show (26 : Int) ≠ 0 by decide)
  have b := Int.emod_lt_of_pos (c / 7) (show (0 : Int) < 26 by decide)
  have ixa : atI (Str.ofString "abcdefghijklmnopqrstuvwxyz").cps.toList (c / 7 % 26) = some (97 + (c / 7 % 26).toNat) := atI_of_nat a (small_at (by omega))
  refine s_set lv E0 (ev_lst (ds := (relsS c).map D.str) (ev_cons ev_str (ev_cons ev_str (ev_cons ev_str (ev_cons ev_str (ev_cons ev_str (ev_cons ev_str (ev_cons (ev_ixs (c := 97 + (c / 7 % 26).toNat) (by decide +kernel) ixa ev_str (ev_mod (by decide) (ev_fdiv ⟨by decide, by decide⟩ (ev_ix atI_zero (ev_v E0 rfl) ev_int) ev_int) ev_int)) ev_nil))))))) (hz := by show 7 ≤ sizeLine; decide)) fun σ1 H1 s1 l1 E1 => ?_
  refine s_ret l1 ((ev_tupleL (ev_cons (ev_catL (xs := [.str (relBy c)]) (ys := cs.map partBy) (by simp only [List.length_singleton, List.length_map]; omega) (ev_lst (ev_cons (ev_ix (at_modS (l := relsS c) (n := 7) c (by decide) rfl) (ev_v E1 rfl) (ev_mod (by decide) (ev_ix (d := .int c) atI_zero (ev_v E1 rfl) ev_int) ev_int)) ev_nil)) ((ev_comp (i := 0) (p := fun _ => true) (f := fun d => match d with | .int x => partBy x | _ => .non) (walk_seqL (ev_from (k := 1) (ev_v E1 rfl))) (fun G' v d _ _ _ => evt_yes) (fun G' v d sG hd _ r => ?_) ?_).eq ?_)) ev_nil)).eq rfl) fun v H' s2 r2 => q v H' (s1.trans s2) r2
  · have hd : d ∈ cs.map D.int := hd
    obtain ⟨x, hx, rfl⟩ := List.mem_map.mp hd
    exact ev_callR ⟨x, rfl, rfl⟩ (ev_cons (ev_var (by simp [capsOf]) r) ev_nil)
  · show (cs.map D.int).length < _
    rw [List.length_map]
    exact small1000 (by omega)
  · rw [List.filter_eq_self.mpr fun _ _ => rfl]
    show D.lst ((cs.map D.int).map _) = _
    rw [List.map_map]
    rfl
end
end K11

set_option Elab.async false
set_option linter.all false
set_option maxRecDepth 100000
set_option maxHeartbeats 4000000
namespace K11
open PySem L2 FL
section
variable {P : Program} {w : World} {K : PySem.W.Frag} {mg : Str → Option Value} {base : Heap} {f : Addr} {fd : FuncData}
/-! _law_atoms_by -/
def atomOf : List Int → D
  | [] => .non
  | c :: cs => atomBy c cs
def stepA (st : List D × List Int) (c : Int) : List D × List Int := if c % 4 = 0 then (st.1 ++ [atomOf (st.2 ++ [c / 4])], []) else (st.1, st.2 ++ [c / 4])
def foldA (ns : List Int) : List D × List Int := ns.foldl stepA ([], [])
def atomsBy (ns : List Int) : List D := (foldA ns).1 ++ [atomOf ((foldA ns).2 ++ [(ns.length : Int)])]
theorem atomOf_good {l : List Int} (h : l ≠ []) (h2 : l.length ≤ 71) : goodA (atomOf l) := by
  cases l with
  | nil => exact absurd rfl h
  | cons c cs => exact atomBy_good c cs (by rw [List.length_cons] at h2; omega)
theorem fold_bound : ∀ (ns : List Int) (st : List D × List Int) (k : Nat), st.1.length + st.2.length ≤ k → (∀ a ∈ st.1, goodA a) → k + ns.length ≤ 63 → (ns.foldl stepA st).1.length + (ns.foldl stepA st).2.length ≤ k + ns.length ∧ ∀ a ∈ (ns.foldl stepA st).1, goodA a
  | [], st, k, h1, h2, _ => ⟨h1, h2⟩
  | c :: r, st, k, h1, h2, h3 => by
    rw [List.length_cons] at h3
    have hs : (stepA st c).1.length + (stepA st c).2.length ≤ k + 1 ∧ ∀ a ∈ (stepA st c).1, goodA a := by
      unfold stepA
      split
      · refine ⟨by simp only [List.length_append, List.length_singleton, List.length_nil]; omega, fun a ha => ?_⟩
        rcases List.mem_append.mp ha with z | z
        · exact h2 a z
        · rw [List.mem_singleton.mp z]
          exact atomOf_good (by simp) (by simp only [List.length_append, List.length_singleton]; omega)
      · exact ⟨by simp only [List.length_append, List.length_singleton]; omega, h2⟩
    have := fold_bound r (stepA st c) (k + 1) hs.1 hs.2 (by omega)
    rw [List.foldl_cons]
    refine ⟨by rw [List.length_cons]; omega, this.2⟩
theorem foldA_bound {ns : List Int} (h : ns.length ≤ 63) : (foldA ns).1.length + (foldA ns).2.length ≤ ns.length ∧ ∀ a ∈ (foldA ns).1, goodA a := by
  have := fold_bound ns ([], []) 0 (Nat.le_refl _) (fun a h => nomatch h) (by omega)
  rw [Nat.zero_add] at this
  exact this
theorem foldA_take {ns : List Int} {j : Nat} {c : Int} (h : ns[j]? = some c) : foldA (ns.take (j + 1)) = stepA (foldA (ns.take j)) c := by
  unfold foldA
  rw [List.take_add_one, h, List.foldl_append]
  rfl
theorem atomsBy_good {ns : List Int} (h : ns.length ≤ 63) : ∃ h' b, atomsBy ns = h' :: b ∧ GoodR h' b := by
  obtain ⟨h1, h2⟩ := foldA_bound h
  have hg : ∀ a ∈ atomsBy ns, goodA a := fun a ha => by
    rcases List.mem_append.mp ha with z | z
    · exact h2 a z
    · rw [List.mem_singleton.mp z]
      exact atomOf_good (by simp) (by simp only [List.length_append, List.length_singleton]; omega)
  have hl : (atomsBy ns).length ≤ 64 := by unfold atomsBy; simp only [List.length_append, List.length_singleton]; omega
  cases e : atomsBy ns with
  | nil => exact absurd (congrArg List.length e) (by unfold atomsBy; simp)
  | cons a b =>
    rw [e] at hg hl
    exact ⟨a, b, rfl, hg a List.mem_cons_self, fun x hx => hg x (List.mem_cons_of_mem _ hx), by rw [List.length_cons] at hl; omega⟩
theorem same_loop {H1 H' H'' : Hp} {L : List Addr} {a : Addr} (S' : Same (but H1 L) (but H' L)) (ha : a ∈ L ∨ H1 a = none) (k : ∀ b o, b ≠ a → H' b = some o → H'' b = some o) : Same (but H1 L) (but H'' L) := fun b o e => by
  obtain ⟨h1, h2⟩ := but_some e
  have h3 := (but_some (S' b o e)).2
  rw [but_out h1]
  refine k b o (fun z => ?_) h3
  rcases ha with q | q
  · exact h1 (by rw [z]; exact q)
  · rw [z, q] at h2; cases h2
def AInv (H H2 : Hp) (M : List Addr) (p0 q : Addr) (cells : D) (st : List D × List Int) (σ' : St) (H' : Hp) : Prop :=
  ∃ p us vs, σ'[1]? = some (some (.ref q)) ∧ σ'[2]? = some (some (.ref p)) ∧ p ∉ q :: M ∧ H' q = some (.lst us) ∧ Reps (but H' (p :: q :: M)) us st.1 ∧ H' p = some (.lst vs) ∧ Reps (but H' (p :: q :: M)) vs (st.2.map D.int) ∧ Live (p :: q :: M) H' ∧
    EnvR (but H' (p :: q :: M)) σ' [some cells, none, none, none] ∧ Same H H' ∧ (∀ b o, H b = some o → b ≠ p) ∧ (p = p0 ∨ H2 p = none) ∧ Same (but H2 (p0 :: q :: M)) (but H' (p0 :: q :: M)) ∧ Live (p0 :: q :: M) H'
def RAtomsBy : List D → D → Prop := fun ds d => ∃ ns : List Int, ns.length ≤ 63 ∧ ds = [.lst (ns.map D.int)] ∧ d = .lst (atomsBy ns)
theorem live_app {L : List Addr} {H H' : Hp} {a : Addr} {o : HO} (l : Live L H) (k : ∀ b o, b ≠ a → H b = some o → H' b = some o) (h : H' a = some o) : Live L H' := fun b hb z => by
  by_cases e : b = a
  · subst e; rw [h] at z; cases z
  · cases q : H b with
    | none => exact l b hb q
    | some u => rw [k b u e q] at z; cases z
theorem same_app {H H' H'' : Hp} {a : Addr} (s : Same H H') (ha : ∀ b o, H b = some o → b ≠ a) (k : ∀ b o, b ≠ a → H' b = some o → H'' b = some o) : Same H H'' := fun b o e => k b o (ha b o e) (s b o e)
theorem sc_law_atoms_by : FnScope ["_law_cells", "_law_atoms", "_law_row", "_law_cell"] ["_law_cells"] (defScope s_law_atoms_by) := ⟨rfl, rfl, rfl, by decide +kernel, rfl, by decide +kernel, by decide +kernel⟩
theorem ok_law_atoms_by (F : Fun K "_law_atoms_by" "_law_atoms_by" s_law_atoms_by f fd) (B : Bl mg) (G_law_atom_by : Has P w K mg base 2 "_law_atom_by" ["_law_cells"] (spR RAtomBy)) : FnOk P w K mg base CX0 3 f fd ["_law_cells"] (spR RAtomsBy) := by
  refine F.ok sc_law_atoms_by (spR_len (n := 1) fun ds d ⟨ns, _, e, _⟩ => by rw [e]; rfl) (fun cdv A outer s H vs Q E hr h => ?_)
  obtain ⟨M, ds, d, lv, rs, ⟨ns, h63, rfl, rfl⟩, fin⟩ := h
  have hu := hu50 hr
  refine ⟨_, (pss_cons (ps_set (i := 1) sc_law_atoms_by.nd rfl (Or.inl rfl) (pe_lst pa_nil))
      (pss_cons (ps_set (i := 2) sc_law_atoms_by.nd rfl (Or.inl rfl) (pe_lst pa_nil))
      (pss_cons (ps_for PassesOwn.never rfl (pi_seq (pv 0)) (pg_name (i := 3) sc_law_atoms_by.nd rfl (by first | exact Or.inl rfl | exact Or.inr rfl)) (pss_cons (ps_append (pv 2) (pe_op op_fdiv (pv 3) pe_int))
      (pss_one (ps_if (pt_cmpR (op_eqA (by exact hu)) (pe_op op_mod (pv 3) pe_int) pe_int (nomark _)) (pss_cons (ps_append (pv 1) (pe_own G_law_atom_by hr (pa_cons (pv 2) pa_nil)))
      (pss_one (ps_set (i := 2) sc_law_atoms_by.nd rfl (Or.inl rfl) (pe_lst pa_nil)))) pss_nil))))
      (pss_cons (ps_append (pv 2) (pe_len B (pv 0)))
      (pss_cons (ps_append (pv 1) (pe_own G_law_atom_by hr (pa_cons (pv 2) pa_nil)))
      (pss_one (ps_ret (pv 1)))))))), ?_⟩
  have E0 := env_start rs ["_law_cells", "_law_atoms", "_law_row", "_law_cell"]
  refine s_new lv E0 (by simp) ev_nil (Nat.zero_le _) fun q us0 σ1 H1 o1 i1 nq h1 r1 l1 k1 E1 => ?_
  refine s_new l1 E1 (by simp) ev_nil (Nat.zero_le _) fun p0 vs0 σ2 H2 o2 i2 np h2 r2 l2 k2 E2 => ?_
  have i21 : σ2[1]? = some (some (.ref q)) := (o2 1 (by decide)).trans i1
  obtain ⟨neqp, h2q⟩ := k2 _ _ h1
  have sH2 : Same H H2 := fun b o e => (k2 _ _ (k1 b o e).2).2
  have hq0 : ∀ b o, H b = some o → b ≠ q := fun b o e => (k1 b o e).1
  have hp00 : ∀ b o, H b = some o → b ≠ p0 := fun b o e => (k2 _ _ (k1 b o e).2).1
  have r2q : Reps (but H2 (p0 :: q :: M)) us0 [] := by cases r1; exact .nil
  refine st_for (M := p0 :: q :: M) (ds := ns.map D.int) (walk_seqL (ev_v E2 rfl)) l2 fun H3 s3 => ?_
  refine ⟨fun j σ' H' => AInv H H3 M p0 q (.lst (ns.map D.int)) (foldA (ns.take j)) σ' H', ?_, fun j σ' H' ⟨_, _, _, _, _, _, _, _, _, _, _, _, _, _, _, x, y⟩ => ⟨x, y⟩, ?_, ?_⟩
  · exact ⟨p0, us0, vs0, i21, i2, np, s3 _ _ h2q, r2q.mono (s3.but _), s3 _ _ h2, r2.mono (s3.but _), l2.same s3, E2.same s3, sH2.trans s3, hp00, .inl rfl, Same.refl _, l2.same s3⟩
  · rintro j d x σ' H' H'' hd ⟨p, us, vs, i1', i2', hpn, hq', rq', hp', rp', l', E', sH', hp0', hor, S', L'⟩ s4 rx
    obtain ⟨c, hc, rfl⟩ : ∃ c, ns[j]? = some c ∧ d = .int c := by
      rw [List.getElem?_map] at hd
      cases e : ns[j]? with
      | none => rw [e] at hd; cases hd
      | some y => rw [e] at hd; exact ⟨y, rfl, (Option.some.inj hd).symm⟩
    have hx := rx.of_int
    subst hx
    have hjl : j < ns.length := (List.getElem?_eq_some_iff.mp hc).1
    obtain ⟨bd, bg⟩ := foldA_bound (ns := ns.take j) (by rw [List.length_take]; omega)
    rw [List.length_take, Nat.min_eq_left (by omega)] at bd
    have hs0 := foldA_take hc
    generalize foldA (ns.take j) = st at bd bg rq' rp' hs0
    have E3 : EnvR (but H'' (p :: q :: M)) (σ'.set 3 (some (.int c))) [some (.lst (ns.map D.int)), none, none, some (.int c)] := (E'.same s4).set 3 (.int c)
    have i13 : (σ'.set 3 (some (.int c)))[1]? = some (some (.ref q)) := (List.getElem?_set_ne (by decide)).trans i1'
    have i23 : (σ'.set 3 (some (.int c)))[2]? = some (some (.ref p)) := (List.getElem?_set_ne (by decide)).trans i2'
    have hqp : q ≠ p := fun z => hpn (by rw [z]; exact List.mem_cons_self)
    refine s_app (l'.same s4) E3 (by simp) i23 (s4 _ _ hp') (rp'.mono (s4.but _)) (by rw [List.length_map]; exact small1000 (by omega)) (ev_fdiv ⟨by decide, by decide⟩ (ev_v E3 rfl) ev_int) fun v H5 k5 l5 h5 r5 E5 => ?_
    have h5q : H5 q = some (.lst us) := k5 _ _ hqp (s4 _ _ hq')
    have r5q : Reps (but H5 (p :: q :: M)) us st.1 := rq'.mono (s4.but _ |>.trans (hide_same (by simp) k5))
    have s5 : Same H H5 := same_app (sH'.trans s4) hp0' k5
    have hor' : p ∈ p0 :: q :: M ∨ H3 p = none := hor.imp (fun z => by rw [z]; exact List.mem_cons_self) id
    have S5 : Same (but H3 (p0 :: q :: M)) (but H5 (p0 :: q :: M)) := same_loop (S'.trans (s4.but _)) hor' k5
    have L5 : Live (p0 :: q :: M) H5 := live_app (L'.same s4) k5 h5
    have r5' : Reps (but H5 (p :: q :: M)) (vs ++ [v]) ((st.2 ++ [c / 4]).map D.int) := by rw [List.map_append]; exact r5
    refine s_if l5 E5 (evt_test (ev_eqI (ev_mod (by decide) (ev_v E5 rfl) ev_int) ev_int)) (fun e H6 s6 l6 E6 => ?_) (fun e H6 s6 l6 E6 => ?_)
    · have hst : stepA st c = (st.1 ++ [atomOf (st.2 ++ [c / 4])], []) := if_pos (of_decide_eq_true e)
      obtain ⟨c0, cs, ec⟩ : ∃ c0 cs, st.2 ++ [c / 4] = c0 :: cs := by
        cases z : st.2 ++ [c / 4] with
        | nil => simp at z
        | cons a b => exact ⟨a, b, rfl⟩
      have hcl : cs.length ≤ 70 := by
        have := congrArg List.length ec
        rw [List.length_append, List.length_singleton, List.length_cons] at this
        omega
      have E7 := env_show (M := q :: M) (i := 2) hpn (by simp) i23 (s6 _ _ h5) (r5'.mono (s6.but _)) E6
      have l7 : Live (q :: M) H6 := fun b hb => l6 b (List.mem_cons_of_mem _ hb)
      have r7q : Reps (but H6 (q :: M)) us st.1 := r5q.mono ((s6.but _).trans (but_mono fun b hb => List.mem_cons_of_mem _ hb))
      rw [ec] at E7 hst
      refine s_app l7 E7 (by simp) i13 (s6 _ _ h5q) r7q (by exact small1000 (by omega)) (ev_callR ⟨c0, cs, rfl, hcl, rfl⟩ (ev_cons (ev_v E7 rfl) ev_nil)) fun v8 H8 k8 l8 h8 r8 E8 => ?_
      refine s_new l8 E8 (by simp) ev_nil (Nat.zero_le _) fun p' vs9 σ9 H9 o9 i9 np9 h9 r9 l9 k9 E9 => ?_
      have hn8 : H8 p' = none := by
        cases z : H8 p' with
        | none => rfl
        | some o => exact absurd rfl (k9 _ _ z).1
      have s89 : Same H8 H9 := fun b o e => (k9 b o e).2
      have S8 : Same (but H3 (p0 :: q :: M)) (but H8 (p0 :: q :: M)) := same_loop (S5.trans (s6.but _)) (.inl (by simp)) k8
      have L8 : Live (p0 :: q :: M) H8 := live_app (L5.same s6) k8 h8
      have sH8 : Same H H8 := same_app (s5.trans s6) hq0 k8
      show AInv H H3 M p0 q (.lst (ns.map D.int)) (foldA (ns.take (j + 1))) _ _
      rw [hs0, hst]
      refine ⟨p', us ++ [v8], vs9, (o9 1 (by decide)).trans i13, i9, np9, s89 _ _ h8, r8.mono (sub_hide hn8 s89), h9, r9, l9, E9.drop 3, sH8.trans s89, fun b o e => (k9 b o (sH8 b o e)).1, .inr ?_, S8.trans (s89.but _), L8.same s89⟩
      cases z : H3 p' with
      | none => rfl
      | some o =>
        by_cases hb : p' ∈ p0 :: q :: M
        · exact absurd hn8 (L8 p' hb)
        · have := (but_some (S8 p' o (by rw [but_out hb]; exact z))).2
          rw [hn8] at this; cases this
    · have hst : stepA st c = (st.1, st.2 ++ [c / 4]) := if_neg (of_decide_eq_false e)
      refine nx ?_
      show AInv H H3 M p0 q (.lst (ns.map D.int)) (foldA (ns.take (j + 1))) _ _
      rw [hs0, hst]
      exact ⟨p, us, vs ++ [v], i13, i23, hpn, s6 _ _ h5q, r5q.mono (s6.but _), s6 _ _ h5, r5'.mono (s6.but _), l6, E6.drop 3, s5.trans s6, hp0', hor, S5.trans (s6.but _), L5.same s6⟩
  · rintro σ' H' ⟨p, us, vs, i1', i2', hpn, hq', rq', hp', rp', l', E', sH', hp0', hor, S', L'⟩
    rw [List.length_map, List.take_of_length_le (Nat.le_refl _)] at rq' rp'
    obtain ⟨bd, bg⟩ := foldA_bound (ns := ns) h63
    have hab : atomsBy ns = (foldA ns).1 ++ [atomOf ((foldA ns).2 ++ [(ns.length : Int)])] := rfl
    rw [hab] at fin
    generalize foldA ns = st at bd bg rq' rp' fin
    have hqp : q ≠ p := fun z => hpn (by rw [z]; exact List.mem_cons_self)
    refine s_app l' E' (by simp) i2' hp' rp' (by rw [List.length_map]; exact small1000 (by omega)) ((ev_lenL (ev_cons (ev_v E' rfl) ev_nil)).eq (d' := .int (ns.length : Int)) (by simp)) fun v H5 k5 l5 h5 r5 E5 => ?_
    have h5q : H5 q = some (.lst us) := k5 _ _ hqp hq'
    have r5q : Reps (but H5 (p :: q :: M)) us st.1 := rq'.mono (hide_same (by simp) k5)
    have s5 : Same H H5 := same_app sH' hp0' k5
    have r5' : Reps (but H5 (p :: q :: M)) (vs ++ [v]) ((st.2 ++ [(ns.length : Int)]).map D.int) := by rw [List.map_append]; exact r5
    obtain ⟨c0, cs, ec⟩ : ∃ c0 cs, st.2 ++ [(ns.length : Int)] = c0 :: cs := by
      cases z : st.2 ++ [(ns.length : Int)] with
      | nil => simp at z
      | cons a b => exact ⟨a, b, rfl⟩
    have hcl : cs.length ≤ 70 := by
      have := congrArg List.length ec
      rw [List.length_append, List.length_singleton, List.length_cons] at this
      omega
    have E7 := env_show (M := q :: M) (i := 2) hpn (by simp) i2' h5 r5' E5
    have l7 : Live (q :: M) H5 := fun b hb => l5 b (List.mem_cons_of_mem _ hb)
    have r7q : Reps (but H5 (q :: M)) us st.1 := r5q.mono (but_mono fun b hb => List.mem_cons_of_mem _ hb)
    rw [ec] at E7 fin
    refine s_app l7 E7 (by simp) i1' h5q r7q (by exact small1000 (by omega)) (ev_callR ⟨c0, cs, rfl, hcl, rfl⟩ (ev_cons (ev_v E7 rfl) ev_nil)) fun v8 H8 k8 l8 h8 r8 E8 => ?_
    have sH8 : Same H H8 := same_app s5 hq0 k8
    have E9 := env_show (M := M) (i := 1) nq (by simp) i1' h8 r8 E8
    have l9 : Live M H8 := fun b hb => l8 b (List.mem_cons_of_mem _ hb)
    exact s_ret l9 (ev_v E9 rfl) fun v H' s9 r9 => fin v H' (sH8.trans s9) r9
/-! _law_written -/
def RWritten : List D → D → Prop := fun ds d => ∃ h b, GoodR h b ∧ ds = [.lst (h :: b)] ∧ d = .str (lineS h b)
theorem sc_law_written : FnScope ["_law_atoms", "_law_texts", "_law_atom"] ["_law_atoms"] (defScope s_law_written) := ⟨rfl, rfl, rfl, by decide +kernel, rfl, by decide +kernel, by decide +kernel⟩
theorem ok_law_written (F : Fun K "_law_written" "_law_written" s_law_written f fd) (B : Bl mg) : FnOk P w K mg base CX0 1 f fd ["_law_atoms"] (spR RWritten) := by
  refine F.ok sc_law_written (spR_len (n := 1) fun ds d ⟨_, _, _, e, _⟩ => by rw [e]; rfl) (fun cdv A outer s H vs Q E hr h => ?_)
  obtain ⟨M, ds, d, lv, rs, ⟨h, b, g, rfl, rfl⟩, fin⟩ := h
  have hu := hu50 hr
  refine ⟨_, (pss_cons (ps_set (i := 1) sc_law_written.nd rfl (Or.inl rfl) (pe_lst pa_nil))
      (pss_cons (ps_for PassesOwn.never rfl (pi_seq (pv 0)) (pg_name (i := 2) sc_law_written.nd rfl (by first | exact Or.inl rfl | exact Or.inr rfl)) (pss_one (ps_append (pv 1) (pe_op op_add_str (pe_op op_add_str (pe_op op_add_str (pe_ixS (pv 2) pe_int) pe_str) (pe_bm PySem.F.plainAttrs_str PySem.F.slot_str_join PySem.F.type_str_join mt_join pe_str (pa_cons (pe_compC ["_law_part"] [] 1 (pi_seq (pe_slice sl_tup (pv 2) (po_some pe_int) po_none)) (fun _ _ _ _ _ => (pg_name (i := 0) (show (["_law_part"] : List Str).Nodup from by decide +kernel) rfl (by first | exact Or.inl rfl | exact Or.inr rfl))) (fun _ _ _ _ _ => pts_nil) (fun _ _ _ _ _ => (pe_strCc B (pv 0)))) pa_nil))) pe_str))))
      (pss_cons (ps_if (pt_cmpR (op_eqA (by exact hu)) (pe_len B (pv 1)) pe_int (nomark _)) (pss_one (ps_ret (pe_ixS (pv 1) pe_int))) pss_nil)
      (pss_one (ps_ret (pe_op op_add_str (pe_op op_add_str (pe_ixS (pv 1) pe_int) pe_str) (pe_bm PySem.F.plainAttrs_str PySem.F.slot_str_join PySem.F.type_str_join mt_join pe_str (pa_cons (pe_slice sl_list (pv 1) (po_some pe_int) po_none) pa_nil)))))))), ?_⟩
  have E0 := env_start rs ["_law_atoms", "_law_texts", "_law_atom"]
  have hg : ∀ a ∈ h :: b, goodA a := fun a ha => by
    rcases List.mem_cons.mp ha with e | e
    · rw [e]; exact g.1
    · exact g.2.1 a e
  have hbl := g.2.2
  have hsz : ∀ n : Nat, n ≤ 1000000 → n ≤ sizeLine := fun n h => by have := line16 h; omega
  refine s_new lv E0 (by simp) ev_nil (Nat.zero_le _) fun q us0 σ1 H1 o1 i1 nq h1 r1 l1 k1 E1 => ?_
  have hq0 : ∀ b o, H b = some o → b ≠ q := fun b o e => (k1 b o e).1
  have sH1 : Same H H1 := fun b o e => (k1 b o e).2
  refine st_for (M := q :: M) (ds := h :: b) (walk_seqL (ev_v E1 rfl)) l1 fun H2 s2 => ?_
  refine ⟨fun j σ' H' => ∃ us, σ'[1]? = some (some (.ref q)) ∧ H' q = some (.lst us) ∧ Reps (but H' (q :: M)) us (((h :: b).take j).map fun a => .str (S (atomT a))) ∧ Live (q :: M) H' ∧ EnvR (but H' (q :: M)) σ' [some (.lst (h :: b)), none, none] ∧ Same H H' ∧ Same (but H2 (q :: M)) (but H' (q :: M)), ?_, fun j σ' H' ⟨_, _, _, _, x, _, _, y⟩ => ⟨y, x⟩, ?_, ?_⟩
  · exact ⟨us0, i1, s2 _ _ h1, by cases r1; exact .nil, l1.same s2, E1.same s2, sH1.trans s2, Same.refl _⟩
  · rintro j d x σ' H' H'' hd ⟨us, i1', hq', rq', l', E', sH', S'⟩ s4 rx
    have ga := hg d (List.mem_of_getElem? hd)
    have hj : j < (h :: b).length := (List.getElem?_eq_some_iff.mp hd).1
    have hlen := goodA_len ga
    obtain ⟨rel, ps, gd, ea⟩ := goodA_T ga
    have E3 : EnvR (but H'' (q :: M)) (σ'.set 2 (some x)) [some (.lst (h :: b)), none, some d] := (E'.same s4).set 2 rx
    have i13 : (σ'.set 2 (some x))[1]? = some (some (.ref q)) := (List.getElem?_set_ne (by decide)).trans i1'
    have hrl : rel.length ≤ 31 := gd.len
    have hjl : (joinL [44, 32] (ps.map partL)).length ≤ 3000 := by
      rw [ea] at hlen
      unfold atomL at hlen
      simp only [List.length_append] at hlen
      omega
    have ed := gd.eq
    subst ed
    refine s_app (l'.same s4) E3 (by simp) i13 (s4 _ _ hq') (rq'.mono (s4.but _)) (by rw [List.length_map, List.length_take]; exact small1000 (by simp only [List.length_cons] at hj ⊢; omega))
      ((ev_addS ?_ (ev_addS ?_ (ev_addS ?_ (ev_ixt atI_zero (ev_v E3 rfl) ev_int) ev_str) (ev_join (zs := (ps.map partL).map S) (by rw [c_comma]; exact parts_fit gd.good gd.few) ev_str (ev_cons ((ev_comp (i := 0) (p := fun _ => true) (f := fun d => .str d.text) (walk_seqT (ev_fromT (k := 1) (l := .str rel :: ps) (by decide) (by simp) (ev_v E3 rfl))) (fun G' v d _ _ _ => evt_yes) (fun G' v d sG hd _ r => ?_) ?_).eq ?_) ev_nil))) ev_str).eq (d' := .str (S (atomT (.tup (.str rel :: ps))))) ?_) fun v H5 k5 l5 h5 r5 E5 => ?_
    · rw [c_comma, join_S, c_open, c_close, app_len, app_len]
      simp only [S_len, List.length_singleton]
      exact hsz _ (by omega)
    · rw [c_comma, join_S, c_open, app_len]
      simp only [S_len, List.length_singleton]
      exact hsz _ (by omega)
    · rw [c_open]
      simp only [S_len, List.length_singleton]
      exact hsz _ (by omega)
    · exact ev_strD (part_small (gd.good d hd)) (ev_cons (ev_var (by simp [capsOf]) r) ev_nil)
    · show ps.length < _
      exact small1000 (by have := gd.few; omega)
    · rw [List.filter_eq_self.mpr fun _ _ => rfl]
      exact congrArg D.lst (texts_of gd.good)
    · rw [c_comma, join_S, c_open, c_close, ea, ← S_of rel, S_app, S_app, S_app]
      unfold atomL
      rw [S_of]
      simp
    · refine ⟨us ++ [v], i13, h5, ?_, l5, E5.drop 2, same_app (sH'.trans s4) hq0 k5, same_loop (S'.trans (s4.but _)) (.inl (by simp)) k5⟩
      rw [List.take_add_one, hd, List.map_append]
      exact r5
  · rintro σ' H' ⟨us, i1', hq', rq', l', E', sH', S'⟩
    rw [List.take_of_length_le (Nat.le_refl _)] at rq'
    have E7 := env_show (M := M) (i := 1) nq (by simp) i1' hq' rq' E'
    have l7 : Live M H' := fun b hb => l' b (List.mem_cons_of_mem _ hb)
    have hj := join_and_len g.2.1 g.2.2
    have hl1 := goodA_len g.1
    refine s_if l7 E7 (evt_test (ev_eqI (ev_lenL (ev_cons (ev_v E7 rfl) ev_nil)) ev_int)) (fun e H8 s8 l8 E8 => ?_) (fun e H8 s8 l8 E8 => ?_)
    · have e' := of_decide_eq_true e
      have hb : b = [] := by
        cases b with
        | nil => rfl
        | cons c r => simp at e'; omega
      subst hb
      exact s_ret l8 ((ev_ix atI_zero (ev_v E8 rfl) ev_int).eq (d' := .str (lineS h [])) rfl) fun v H9 s9 r9 => fin v H9 (sH'.trans (s8.trans s9)) r9
    · have e' := of_decide_eq_false e
      refine nx ?_
      cases b with
      | nil => exact absurd rfl e'
      | cons c r =>
        refine s_ret l8 ((ev_addS ?_ (ev_addS ?_ (ev_ix (d := .str (S (atomT h))) atI_zero (ev_v E8 rfl) ev_int) ev_str) (ev_join (zs := ((c :: r).map atomT).map S) (by rw [c_and]; exact atoms_fit g.2.1 g.2.2) ev_str (ev_cons ((ev_from (k := 1) (ev_v E8 rfl)).eq ?_) ev_nil))).eq ?_) fun v H9 s9 r9 => fin v H9 (sH'.trans (s8.trans s9)) r9
        · rw [c_and, join_S, c_if, app_len]
          simp only [S_len]
          exact hsz _ (by simp only [List.length_cons, List.length_nil]; omega)
        · rw [c_if]
          simp only [S_len]
          exact hsz _ (by simp only [List.length_cons, List.length_nil]; omega)
        · show D.lst (List.map (fun a => D.str (S (atomT a))) (c :: r)) = _
          rw [List.map_map, List.map_map]
          rfl
        · rw [c_and, join_S, c_if, S_app, S_app]
          rfl
end
end K11

set_option Elab.async false
set_option linter.all false
set_option maxRecDepth 100000
set_option maxHeartbeats 4000000
namespace K11
open PySem L2 FL
section
variable {P : Program} {w : World} {K : PySem.W.Frag} {mg : Str → Option Value} {base : Heap} {f : Addr} {fd : FuncData}
/-! law -/
abbrev Nlaw : List Str := ["_law_script", "_law_atoms", "_law_head", "_law_body", "_law_line"]
theorem sc_law : FnScope Nlaw ["_law_script"] (defScope s_law) := ⟨rfl, rfl, rfl, by decide +kernel, rfl, by decide +kernel, by decide +kernel⟩
theorem ok_law (F : Fun K "law" "law" s_law f fd) (B : Bl mg) (G_law_atoms_by : Has P w K mg base 3 "_law_atoms_by" ["_law_cells"] (spR RAtomsBy)) (G_shown : Has P w K mg base 2 "shown" ["rule"] (spR RShown)) (G_law_written : Has P w K mg base 1 "_law_written" ["_law_atoms"] (spR RWritten))
    (G_law_same_rule : Has P w K mg base 3 "_law_same_rule" ["_law_found", "_law_head", "_law_body"] (spR RSame)) (G_read : Has P w K mg base 5 "read" ["line"] (spR RRead)) : FnOk P w K mg base CX0 8 f fd ["_law_script"] (spLaw K) := by
  refine F.ok sc_law (fun vs H Q E h => ?_) (fun cdv A outer s H vs Q E hr h => ?_)
  · obtain ⟨a, ns, rfl, _⟩ := h
    rfl
  obtain ⟨a, ns, rfl, hS, h63, q⟩ := h
  have hu := hu50 hr
  refine ⟨_, (pss_cons (ps_set (i := 0) sc_law.nd rfl (Or.inl rfl) (pe_slice sl_list (pv 0) po_none (po_some pe_int)))
      (pss_cons (ps_set (i := 1) sc_law.nd rfl (Or.inl rfl) (pe_own G_law_atoms_by hr (pa_cons (pv 0) pa_nil)))
      (pss_cons (ps_set (i := 2) sc_law.nd rfl (Or.inl rfl) (pe_ixS (pv 1) pe_int))
      (pss_cons (ps_set (i := 3) sc_law.nd rfl (Or.inl rfl) (pe_slice sl_list (pv 1) (po_some pe_int) po_none))
      (pss_cons (ps_set (i := 4) sc_law.nd rfl (Or.inl rfl) (pe_own G_shown hr (pa_cons (pe_tup (pa_cons (pv 2) (pa_cons (pe_tupleC B (pv 3)) pa_nil))) pa_nil)))
      (pss_cons (ps_if (pw_or (pt_not (pt_val (pe_isin B (pv 4) B.str PyProof.Rows.boot_str))) (pw_or1 (pt_cmpR (op_neA (by exact hu)) (pv 4) (pe_own G_law_written hr (pa_cons (pv 1) pa_nil)) (nomark _)))).pt (pss_one (ps_ret pe_bl)) pss_nil)
      (pss_one (ps_ret (pe_own G_law_same_rule hr (pa_cons (pe_own G_read hr (pa_cons (pv 4) pa_nil)) (pa_cons (pv 2) (pa_cons (pv 3) pa_nil)))))))))))), ?_⟩
  refine ⟨_, rfl, 500, rfl, a, _, rfl, hS, fun p hp => ?_⟩
  rw [cut500 h63]
  have E1 := env_law (H := H) (p := p) (ns := ns) Nlaw a 4 rfl
  obtain ⟨h, b, eh, g⟩ := atomsBy_good h63
  refine s_set Live.nil E1 (ev_callR ⟨ns, h63, rfl, rfl⟩ (ev_cons (ev_v E1 rfl) ev_nil)) fun σ2 H2 s2 l2 E2 => ?_
  rw [eh] at E2
  refine s_set l2 E2 (ev_ix atI_zero (ev_v E2 rfl) ev_int) fun σ3 H3 s3 l3 E3 => ?_
  refine s_set (d := .lst b) l3 E3 ((ev_from (k := 1) (l := h :: b) (ev_v E3 rfl)).eq rfl) fun σ4 H4 s4 l4 E4 => ?_
  refine s_set l4 E4 (ev_callR ⟨h, b, g, rfl, rfl⟩ (ev_cons (ev_tup (ev_cons (ev_v E4 rfl) (ev_cons (ev_tupleL (ev_cons (ev_v E4 rfl) ev_nil)) ev_nil))) ev_nil)) fun σ5 H5 s5 l5 E5 => ?_
  refine s_if (b := false) l5 E5 (evt_or (b := false) (c := false) (evt_not (b := true) (evt_tB (ev_isStr (d := .str (lineS h b)) (ev_v E5 rfl)))) fun _ => EvT.eq (evt_test (ev_neA rfl (Nat.zero_le _) (ev_v E5 rfl) (ev_callR ⟨h, b, g, rfl, rfl⟩ (ev_cons (ev_v E5 rfl) ev_nil)))) (by simp)) (fun z => nomatch z) fun _ H6 s6 l6 E6 => ?_
  refine nx ?_
  exact s_ret l6 (ev_callR ⟨h, b, g, rfl, rfl⟩ (ev_cons (ev_callR ⟨h, b, g, rfl, rfl⟩ (ev_cons (ev_v E6 rfl) ev_nil)) (ev_cons (ev_v E6 rfl) (ev_cons (ev_v E6 rfl) ev_nil)))) fun v H' s7 r7 => by
    rw [r7.of_bl]
    exact q H'
end
end K11

set_option Elab.async false
set_option linter.all false
set_option maxRecDepth 100000
set_option maxHeartbeats 4000000
namespace K11
open PySem L2 FL
/-! the top -/
theorem all_mk {l : PySem.W.OpenLaw} {w : World} {K : PySem.W.Frag} {h : Heap} {mg : Str → Option Value} {fa f_shown f_shown_atom f_read f_read_atom f_read_part f_has_only f_is_word f_is_written_blank f_is_written_number f_law_whole f_law_kinds f_law_same_rule f_law_part_by f_law_atom_by f_law_atoms_by f_law_written f_law : Addr} (X : K.In h) (G : h.Ns mainGlobals mg) (hfa : mg "law" = some (.ref fa))
    {od_shown an_shown od_shown_atom an_shown_atom od_read an_read od_read_atom an_read_atom od_read_part an_read_part od_has_only an_has_only od_is_word an_is_word od_is_written_blank an_is_written_blank od_is_written_number an_is_written_number od_law_whole an_law_whole od_law_kinds an_law_kinds od_law_same_rule an_law_same_rule od_law_part_by an_law_part_by od_law_atom_by an_law_atom_by od_law_atoms_by an_law_atoms_by od_law_written an_law_written od_law an_law : Option Addr} {sl_shown sl_shown_atom sl_read sl_read_atom sl_read_part sl_has_only sl_is_word sl_is_written_blank sl_is_written_number sl_law_whole sl_law_kinds sl_law_same_rule sl_law_part_by sl_law_atom_by sl_law_atoms_by sl_law_written sl_law : Array (Option Value)} {oc_shown kV_shown dc_shown pm_shown cd_shown ct_shown oc_shown_atom kV_shown_atom dc_shown_atom pm_shown_atom cd_shown_atom ct_shown_atom oc_read kV_read dc_read pm_read cd_read ct_read oc_read_atom kV_read_atom dc_read_atom pm_read_atom cd_read_atom ct_read_atom oc_read_part kV_read_part dc_read_part pm_read_part cd_read_part ct_read_part oc_has_only kV_has_only dc_has_only pm_has_only cd_has_only ct_has_only oc_is_word kV_is_word dc_is_word pm_is_word cd_is_word ct_is_word oc_is_written_blank kV_is_written_blank dc_is_written_blank pm_is_written_blank cd_is_written_blank ct_is_written_blank oc_is_written_number kV_is_written_number dc_is_written_number pm_is_written_number cd_is_written_number ct_is_written_number oc_law_whole kV_law_whole dc_law_whole pm_law_whole cd_law_whole ct_law_whole oc_law_kinds kV_law_kinds dc_law_kinds pm_law_kinds cd_law_kinds ct_law_kinds oc_law_same_rule kV_law_same_rule dc_law_same_rule pm_law_same_rule cd_law_same_rule ct_law_same_rule oc_law_part_by kV_law_part_by dc_law_part_by pm_law_part_by cd_law_part_by ct_law_part_by oc_law_atom_by kV_law_atom_by dc_law_atom_by pm_law_atom_by cd_law_atom_by ct_law_atom_by oc_law_atoms_by kV_law_atoms_by dc_law_atoms_by pm_law_atoms_by cd_law_atoms_by ct_law_atoms_by oc_law_written kV_law_written dc_law_written pm_law_written cd_law_written ct_law_written oc_law kV_law dc_law pm_law cd_law ct_law : Value} {t_SMALL t_GREAT t_FIGURES : Tok}
    (a_shown : PySem.W.nsIn K mainGlobals "shown" = some (some (.ref f_shown))) (l_shown : K.lookup f_shown = some ⟨oc_shown, od_shown, .func (PySem.W.fnOf "shown" "shown" (defArgs s_shown) (defBody s_shown) (defScope s_shown) .none kV_shown dc_shown pm_shown an_shown cd_shown ct_shown), sl_shown⟩) (c_shown : PySem.W.codeIn K cd_shown "shown" = true) (k_shown : PySem.W.keepIn K (.ref f_shown) = true)
    (a_shown_atom : PySem.W.nsIn K mainGlobals "shown_atom" = some (some (.ref f_shown_atom))) (l_shown_atom : K.lookup f_shown_atom = some ⟨oc_shown_atom, od_shown_atom, .func (PySem.W.fnOf "shown_atom" "shown_atom" (defArgs s_shown_atom) (defBody s_shown_atom) (defScope s_shown_atom) .none kV_shown_atom dc_shown_atom pm_shown_atom an_shown_atom cd_shown_atom ct_shown_atom), sl_shown_atom⟩) (c_shown_atom : PySem.W.codeIn K cd_shown_atom "shown_atom" = true) (k_shown_atom : PySem.W.keepIn K (.ref f_shown_atom) = true)
    (a_read : PySem.W.nsIn K mainGlobals "read" = some (some (.ref f_read))) (l_read : K.lookup f_read = some ⟨oc_read, od_read, .func (PySem.W.fnOf "read" "read" (defArgs s_read) (defBody s_read) (defScope s_read) .none kV_read dc_read pm_read an_read cd_read ct_read), sl_read⟩) (c_read : PySem.W.codeIn K cd_read "read" = true) (k_read : PySem.W.keepIn K (.ref f_read) = true)
    (a_read_atom : PySem.W.nsIn K mainGlobals "read_atom" = some (some (.ref f_read_atom))) (l_read_atom : K.lookup f_read_atom = some ⟨oc_read_atom, od_read_atom, .func (PySem.W.fnOf "read_atom" "read_atom" (defArgs s_read_atom) (defBody s_read_atom) (defScope s_read_atom) .none kV_read_atom dc_read_atom pm_read_atom an_read_atom cd_read_atom ct_read_atom), sl_read_atom⟩) (c_read_atom : PySem.W.codeIn K cd_read_atom "read_atom" = true) (k_read_atom : PySem.W.keepIn K (.ref f_read_atom) = true)
    (a_read_part : PySem.W.nsIn K mainGlobals "read_part" = some (some (.ref f_read_part))) (l_read_part : K.lookup f_read_part = some ⟨oc_read_part, od_read_part, .func (PySem.W.fnOf "read_part" "read_part" (defArgs s_read_part) (defBody s_read_part) (defScope s_read_part) .none kV_read_part dc_read_part pm_read_part an_read_part cd_read_part ct_read_part), sl_read_part⟩) (c_read_part : PySem.W.codeIn K cd_read_part "read_part" = true) (k_read_part : PySem.W.keepIn K (.ref f_read_part) = true)
    (a_has_only : PySem.W.nsIn K mainGlobals "has_only" = some (some (.ref f_has_only))) (l_has_only : K.lookup f_has_only = some ⟨oc_has_only, od_has_only, .func (PySem.W.fnOf "has_only" "has_only" (defArgs s_has_only) (defBody s_has_only) (defScope s_has_only) .none kV_has_only dc_has_only pm_has_only an_has_only cd_has_only ct_has_only), sl_has_only⟩) (c_has_only : PySem.W.codeIn K cd_has_only "has_only" = true) (k_has_only : PySem.W.keepIn K (.ref f_has_only) = true)
    (a_is_word : PySem.W.nsIn K mainGlobals "is_word" = some (some (.ref f_is_word))) (l_is_word : K.lookup f_is_word = some ⟨oc_is_word, od_is_word, .func (PySem.W.fnOf "is_word" "is_word" (defArgs s_is_word) (defBody s_is_word) (defScope s_is_word) .none kV_is_word dc_is_word pm_is_word an_is_word cd_is_word ct_is_word), sl_is_word⟩) (c_is_word : PySem.W.codeIn K cd_is_word "is_word" = true) (k_is_word : PySem.W.keepIn K (.ref f_is_word) = true)
    (a_is_written_blank : PySem.W.nsIn K mainGlobals "is_written_blank" = some (some (.ref f_is_written_blank))) (l_is_written_blank : K.lookup f_is_written_blank = some ⟨oc_is_written_blank, od_is_written_blank, .func (PySem.W.fnOf "is_written_blank" "is_written_blank" (defArgs s_is_written_blank) (defBody s_is_written_blank) (defScope s_is_written_blank) .none kV_is_written_blank dc_is_written_blank pm_is_written_blank an_is_written_blank cd_is_written_blank ct_is_written_blank), sl_is_written_blank⟩) (c_is_written_blank : PySem.W.codeIn K cd_is_written_blank "is_written_blank" = true) (k_is_written_blank : PySem.W.keepIn K (.ref f_is_written_blank) = true)
    (a_is_written_number : PySem.W.nsIn K mainGlobals "is_written_number" = some (some (.ref f_is_written_number))) (l_is_written_number : K.lookup f_is_written_number = some ⟨oc_is_written_number, od_is_written_number, .func (PySem.W.fnOf "is_written_number" "is_written_number" (defArgs s_is_written_number) (defBody s_is_written_number) (defScope s_is_written_number) .none kV_is_written_number dc_is_written_number pm_is_written_number an_is_written_number cd_is_written_number ct_is_written_number), sl_is_written_number⟩) (c_is_written_number : PySem.W.codeIn K cd_is_written_number "is_written_number" = true) (k_is_written_number : PySem.W.keepIn K (.ref f_is_written_number) = true)
    (a_law_whole : PySem.W.nsIn K mainGlobals "_law_whole" = some (some (.ref f_law_whole))) (l_law_whole : K.lookup f_law_whole = some ⟨oc_law_whole, od_law_whole, .func (PySem.W.fnOf "_law_whole" "_law_whole" (defArgs s_law_whole) (defBody s_law_whole) (defScope s_law_whole) .none kV_law_whole dc_law_whole pm_law_whole an_law_whole cd_law_whole ct_law_whole), sl_law_whole⟩) (c_law_whole : PySem.W.codeIn K cd_law_whole "_law_whole" = true) (k_law_whole : PySem.W.keepIn K (.ref f_law_whole) = true)
    (a_law_kinds : PySem.W.nsIn K mainGlobals "_law_kinds" = some (some (.ref f_law_kinds))) (l_law_kinds : K.lookup f_law_kinds = some ⟨oc_law_kinds, od_law_kinds, .func (PySem.W.fnOf "_law_kinds" "_law_kinds" (defArgs s_law_kinds) (defBody s_law_kinds) (defScope s_law_kinds) .none kV_law_kinds dc_law_kinds pm_law_kinds an_law_kinds cd_law_kinds ct_law_kinds), sl_law_kinds⟩) (c_law_kinds : PySem.W.codeIn K cd_law_kinds "_law_kinds" = true) (k_law_kinds : PySem.W.keepIn K (.ref f_law_kinds) = true)
    (a_law_same_rule : PySem.W.nsIn K mainGlobals "_law_same_rule" = some (some (.ref f_law_same_rule))) (l_law_same_rule : K.lookup f_law_same_rule = some ⟨oc_law_same_rule, od_law_same_rule, .func (PySem.W.fnOf "_law_same_rule" "_law_same_rule" (defArgs s_law_same_rule) (defBody s_law_same_rule) (defScope s_law_same_rule) .none kV_law_same_rule dc_law_same_rule pm_law_same_rule an_law_same_rule cd_law_same_rule ct_law_same_rule), sl_law_same_rule⟩) (c_law_same_rule : PySem.W.codeIn K cd_law_same_rule "_law_same_rule" = true) (k_law_same_rule : PySem.W.keepIn K (.ref f_law_same_rule) = true)
    (a_law_part_by : PySem.W.nsIn K mainGlobals "_law_part_by" = some (some (.ref f_law_part_by))) (l_law_part_by : K.lookup f_law_part_by = some ⟨oc_law_part_by, od_law_part_by, .func (PySem.W.fnOf "_law_part_by" "_law_part_by" (defArgs s_law_part_by) (defBody s_law_part_by) (defScope s_law_part_by) .none kV_law_part_by dc_law_part_by pm_law_part_by an_law_part_by cd_law_part_by ct_law_part_by), sl_law_part_by⟩) (c_law_part_by : PySem.W.codeIn K cd_law_part_by "_law_part_by" = true) (k_law_part_by : PySem.W.keepIn K (.ref f_law_part_by) = true)
    (a_law_atom_by : PySem.W.nsIn K mainGlobals "_law_atom_by" = some (some (.ref f_law_atom_by))) (l_law_atom_by : K.lookup f_law_atom_by = some ⟨oc_law_atom_by, od_law_atom_by, .func (PySem.W.fnOf "_law_atom_by" "_law_atom_by" (defArgs s_law_atom_by) (defBody s_law_atom_by) (defScope s_law_atom_by) .none kV_law_atom_by dc_law_atom_by pm_law_atom_by an_law_atom_by cd_law_atom_by ct_law_atom_by), sl_law_atom_by⟩) (c_law_atom_by : PySem.W.codeIn K cd_law_atom_by "_law_atom_by" = true) (k_law_atom_by : PySem.W.keepIn K (.ref f_law_atom_by) = true)
    (a_law_atoms_by : PySem.W.nsIn K mainGlobals "_law_atoms_by" = some (some (.ref f_law_atoms_by))) (l_law_atoms_by : K.lookup f_law_atoms_by = some ⟨oc_law_atoms_by, od_law_atoms_by, .func (PySem.W.fnOf "_law_atoms_by" "_law_atoms_by" (defArgs s_law_atoms_by) (defBody s_law_atoms_by) (defScope s_law_atoms_by) .none kV_law_atoms_by dc_law_atoms_by pm_law_atoms_by an_law_atoms_by cd_law_atoms_by ct_law_atoms_by), sl_law_atoms_by⟩) (c_law_atoms_by : PySem.W.codeIn K cd_law_atoms_by "_law_atoms_by" = true) (k_law_atoms_by : PySem.W.keepIn K (.ref f_law_atoms_by) = true)
    (a_law_written : PySem.W.nsIn K mainGlobals "_law_written" = some (some (.ref f_law_written))) (l_law_written : K.lookup f_law_written = some ⟨oc_law_written, od_law_written, .func (PySem.W.fnOf "_law_written" "_law_written" (defArgs s_law_written) (defBody s_law_written) (defScope s_law_written) .none kV_law_written dc_law_written pm_law_written an_law_written cd_law_written ct_law_written), sl_law_written⟩) (c_law_written : PySem.W.codeIn K cd_law_written "_law_written" = true) (k_law_written : PySem.W.keepIn K (.ref f_law_written) = true)
    (a_law : PySem.W.nsIn K mainGlobals "law" = some (some (.ref f_law))) (l_law : K.lookup f_law = some ⟨oc_law, od_law, .func (PySem.W.fnOf "law" "law" (defArgs s_law) (defBody s_law) (defScope s_law) .none kV_law dc_law pm_law an_law cd_law ct_law), sl_law⟩) (c_law : PySem.W.codeIn K cd_law "law" = true) (k_law : PySem.W.keepIn K (.ref f_law) = true)
    (u_SMALL : PySem.W.nsIn K mainGlobals "SMALL" = some (some (.str "abcdefghijklmnopqrstuvwxyz" t_SMALL)))
    (u_GREAT : PySem.W.nsIn K mainGlobals "GREAT" = some (some (.str "ABCDEFGHIJKLMNOPQRSTUVWXYZ" t_GREAT)))
    (u_FIGURES : PySem.W.nsIn K mainGlobals "FIGURES" = some (some (.str "0123456789" t_FIGURES)))
    (z_len : PySem.W.nsIn K mainGlobals "len" = some none) (z_isinstance : PySem.W.nsIn K mainGlobals "isinstance" = some none) (z_range : PySem.W.nsIn K mainGlobals "range" = some none) (z_int : PySem.W.nsIn K mainGlobals "int" = some none) (z_str : PySem.W.nsIn K mainGlobals "str" = some none) (z_bool : PySem.W.nsIn K mainGlobals "bool" = some none) (z_list : PySem.W.nsIn K mainGlobals "list" = some none) (z_tuple : PySem.W.nsIn K mainGlobals "tuple" = some none) (z_dict : PySem.W.nsIn K mainGlobals "dict" = some none) (z_zip : PySem.W.nsIn K mainGlobals "zip" = some none) (z_enumerate : PySem.W.nsIn K mainGlobals "enumerate" = some none) (z_all : PySem.W.nsIn K mainGlobals "all" = some none) (z_reversed : PySem.W.nsIn K mainGlobals "reversed" = some none) :
    ∃ fd : FuncData, (∀ (s : Shared) (v : Value), BindsTo s fd ⟨[v], []⟩ [("_law_script", v)]) ∧ ∀ base : Heap, K.In base → base.Ns mainGlobals mg → FnOk l.prog w K mg base CX0 8 fa fd ["_law_script"] (spLaw K) := by
  have e := hfa.symm.trans (PySem.W.mg_of X G a_law)
  cases e
  have B : Bl mg := ⟨PySem.W.mg_none_of X G z_len, PySem.W.mg_none_of X G z_isinstance, PySem.W.mg_none_of X G z_range, PySem.W.mg_none_of X G z_int, PySem.W.mg_none_of X G z_str, PySem.W.mg_none_of X G z_bool, PySem.W.mg_none_of X G z_list, PySem.W.mg_none_of X G z_tuple, PySem.W.mg_none_of X G z_dict, PySem.W.mg_none_of X G z_zip, PySem.W.mg_none_of X G z_enumerate, PySem.W.mg_none_of X G z_all, PySem.W.mg_none_of X G z_reversed⟩
  have F_shown := fun_mk (st := s_shown) l_shown c_shown k_shown
  have b_shown := F_shown.binds (ps := ["rule"]) fun _ _ _ _ _ _ us hl => match us, hl with | [_], _ => rfl
  have m_shown := PySem.W.mg_of X G a_shown
  have F_shown_atom := fun_mk (st := s_shown_atom) l_shown_atom c_shown_atom k_shown_atom
  have b_shown_atom := F_shown_atom.binds (ps := ["atom"]) fun _ _ _ _ _ _ us hl => match us, hl with | [_], _ => rfl
  have m_shown_atom := PySem.W.mg_of X G a_shown_atom
  have F_read := fun_mk (st := s_read) l_read c_read k_read
  have b_read := F_read.binds (ps := ["line"]) fun _ _ _ _ _ _ us hl => match us, hl with | [_], _ => rfl
  have m_read := PySem.W.mg_of X G a_read
  have F_read_atom := fun_mk (st := s_read_atom) l_read_atom c_read_atom k_read_atom
  have b_read_atom := F_read_atom.binds (ps := ["text"]) fun _ _ _ _ _ _ us hl => match us, hl with | [_], _ => rfl
  have m_read_atom := PySem.W.mg_of X G a_read_atom
  have F_read_part := fun_mk (st := s_read_part) l_read_part c_read_part k_read_part
  have b_read_part := F_read_part.binds (ps := ["text"]) fun _ _ _ _ _ _ us hl => match us, hl with | [_], _ => rfl
  have m_read_part := PySem.W.mg_of X G a_read_part
  have F_has_only := fun_mk (st := s_has_only) l_has_only c_has_only k_has_only
  have b_has_only := F_has_only.binds (ps := ["text", "signs"]) fun _ _ _ _ _ _ us hl => match us, hl with | [_, _], _ => rfl
  have m_has_only := PySem.W.mg_of X G a_has_only
  have F_is_word := fun_mk (st := s_is_word) l_is_word c_is_word k_is_word
  have b_is_word := F_is_word.binds (ps := ["text"]) fun _ _ _ _ _ _ us hl => match us, hl with | [_], _ => rfl
  have m_is_word := PySem.W.mg_of X G a_is_word
  have F_is_written_blank := fun_mk (st := s_is_written_blank) l_is_written_blank c_is_written_blank k_is_written_blank
  have b_is_written_blank := F_is_written_blank.binds (ps := ["text"]) fun _ _ _ _ _ _ us hl => match us, hl with | [_], _ => rfl
  have m_is_written_blank := PySem.W.mg_of X G a_is_written_blank
  have F_is_written_number := fun_mk (st := s_is_written_number) l_is_written_number c_is_written_number k_is_written_number
  have b_is_written_number := F_is_written_number.binds (ps := ["text"]) fun _ _ _ _ _ _ us hl => match us, hl with | [_], _ => rfl
  have m_is_written_number := PySem.W.mg_of X G a_is_written_number
  have F_law_whole := fun_mk (st := s_law_whole) l_law_whole c_law_whole k_law_whole
  have b_law_whole := F_law_whole.binds (ps := ["_law_found"]) fun _ _ _ _ _ _ us hl => match us, hl with | [_], _ => rfl
  have m_law_whole := PySem.W.mg_of X G a_law_whole
  have F_law_kinds := fun_mk (st := s_law_kinds) l_law_kinds c_law_kinds k_law_kinds
  have b_law_kinds := F_law_kinds.binds (ps := ["_law_found", "_law_due"]) fun _ _ _ _ _ _ us hl => match us, hl with | [_, _], _ => rfl
  have m_law_kinds := PySem.W.mg_of X G a_law_kinds
  have F_law_same_rule := fun_mk (st := s_law_same_rule) l_law_same_rule c_law_same_rule k_law_same_rule
  have b_law_same_rule := F_law_same_rule.binds (ps := ["_law_found", "_law_head", "_law_body"]) fun _ _ _ _ _ _ us hl => match us, hl with | [_, _, _], _ => rfl
  have m_law_same_rule := PySem.W.mg_of X G a_law_same_rule
  have F_law_part_by := fun_mk (st := s_law_part_by) l_law_part_by c_law_part_by k_law_part_by
  have b_law_part_by := F_law_part_by.binds (ps := ["_law_cell"]) fun _ _ _ _ _ _ us hl => match us, hl with | [_], _ => rfl
  have m_law_part_by := PySem.W.mg_of X G a_law_part_by
  have F_law_atom_by := fun_mk (st := s_law_atom_by) l_law_atom_by c_law_atom_by k_law_atom_by
  have b_law_atom_by := F_law_atom_by.binds (ps := ["_law_cells"]) fun _ _ _ _ _ _ us hl => match us, hl with | [_], _ => rfl
  have m_law_atom_by := PySem.W.mg_of X G a_law_atom_by
  have F_law_atoms_by := fun_mk (st := s_law_atoms_by) l_law_atoms_by c_law_atoms_by k_law_atoms_by
  have b_law_atoms_by := F_law_atoms_by.binds (ps := ["_law_cells"]) fun _ _ _ _ _ _ us hl => match us, hl with | [_], _ => rfl
  have m_law_atoms_by := PySem.W.mg_of X G a_law_atoms_by
  have F_law_written := fun_mk (st := s_law_written) l_law_written c_law_written k_law_written
  have b_law_written := F_law_written.binds (ps := ["_law_atoms"]) fun _ _ _ _ _ _ us hl => match us, hl with | [_], _ => rfl
  have m_law_written := PySem.W.mg_of X G a_law_written
  have F_law := fun_mk (st := s_law) l_law c_law k_law
  have c_SMALL : mg "SMALL" = some (.str "abcdefghijklmnopqrstuvwxyz" t_SMALL) ∧ RelV (.str "abcdefghijklmnopqrstuvwxyz") (.str "abcdefghijklmnopqrstuvwxyz" t_SMALL) := ⟨PySem.W.mg_of X G u_SMALL, ⟨_, rfl⟩⟩
  have c_GREAT : mg "GREAT" = some (.str "ABCDEFGHIJKLMNOPQRSTUVWXYZ" t_GREAT) ∧ RelV (.str "ABCDEFGHIJKLMNOPQRSTUVWXYZ") (.str "ABCDEFGHIJKLMNOPQRSTUVWXYZ" t_GREAT) := ⟨PySem.W.mg_of X G u_GREAT, ⟨_, rfl⟩⟩
  have c_FIGURES : mg "FIGURES" = some (.str "0123456789" t_FIGURES) ∧ RelV (.str "0123456789") (.str "0123456789" t_FIGURES) := ⟨PySem.W.mg_of X G u_FIGURES, ⟨_, rfl⟩⟩
  refine ⟨PySem.W.fnOf "law" "law" (defArgs s_law) (defBody s_law) (defScope s_law) .none kV_law dc_law pm_law an_law cd_law ct_law, fun s v => .of_eq rfl, fun base _ _ => ?_⟩
  have G1 : Has l.prog w K mg base 1 "has_only" ["text", "signs"] (spR RHasOnly) := ⟨f_has_only, _, ok_has_only F_has_only B, b_has_only, k_has_only, m_has_only⟩
  have G2 : Has l.prog w K mg base 2 "is_word" ["text"] (spR RIsWord) := ⟨f_is_word, _, ok_is_word F_is_word B c_SMALL G1, b_is_word, k_is_word, m_is_word⟩
  have G3 : Has l.prog w K mg base 2 "is_written_blank" ["text"] (spR RIsBlk) := ⟨f_is_written_blank, _, ok_is_written_blank F_is_written_blank B c_SMALL c_GREAT G1, b_is_written_blank, k_is_written_blank, m_is_written_blank⟩
  have G4 : Has l.prog w K mg base 2 "is_written_number" ["text"] (spR RIsNum) := ⟨f_is_written_number, _, ok_is_written_number F_is_written_number B c_FIGURES G1, b_is_written_number, k_is_written_number, m_is_written_number⟩
  have G5 : Has l.prog w K mg base 3 "read_part" ["text"] (spR RReadPart) := ⟨f_read_part, _, ok_read_part F_read_part B G2 G3 G4, b_read_part, k_read_part, m_read_part⟩
  have G6 : Has l.prog w K mg base 4 "read_atom" ["text"] (spR RReadAtom) := ⟨f_read_atom, _, ok_read_atom F_read_atom B G2 G5, b_read_atom, k_read_atom, m_read_atom⟩
  have G7 : Has l.prog w K mg base 5 "read" ["line"] (spR RRead) := ⟨f_read, _, ok_read F_read B G6, b_read, k_read, m_read⟩
  have G8 : Has l.prog w K mg base 1 "shown_atom" ["atom"] (spR RShownA) := ⟨f_shown_atom, _, ok_shown_atom F_shown_atom B, b_shown_atom, k_shown_atom, m_shown_atom⟩
  have G9 : Has l.prog w K mg base 2 "shown" ["rule"] (spR RShown) := ⟨f_shown, _, ok_shown F_shown B G8, b_shown, k_shown, m_shown⟩
  have W1 : Has l.prog w K mg base 1 "_law_whole" ["_law_found"] (spR RWhole) := ⟨f_law_whole, _, ok_law_whole F_law_whole B, b_law_whole, k_law_whole, m_law_whole⟩
  have W2 : Has l.prog w K mg base 2 "_law_kinds" ["_law_found", "_law_due"] (spR RKinds) := ⟨f_law_kinds, _, ok_law_kinds F_law_kinds B W1, b_law_kinds, k_law_kinds, m_law_kinds⟩
  have W3 : Has l.prog w K mg base 3 "_law_same_rule" ["_law_found", "_law_head", "_law_body"] (spR RSame) := ⟨f_law_same_rule, _, ok_law_same_rule F_law_same_rule B W2, b_law_same_rule, k_law_same_rule, m_law_same_rule⟩
  have W4 : Has l.prog w K mg base 1 "_law_part_by" ["_law_cell"] (spR RPartBy) := ⟨f_law_part_by, _, ok_law_part_by F_law_part_by B, b_law_part_by, k_law_part_by, m_law_part_by⟩
  have W5 : Has l.prog w K mg base 2 "_law_atom_by" ["_law_cells"] (spR RAtomBy) := ⟨f_law_atom_by, _, ok_law_atom_by F_law_atom_by B W4, b_law_atom_by, k_law_atom_by, m_law_atom_by⟩
  have W6 : Has l.prog w K mg base 3 "_law_atoms_by" ["_law_cells"] (spR RAtomsBy) := ⟨f_law_atoms_by, _, ok_law_atoms_by F_law_atoms_by B W5, b_law_atoms_by, k_law_atoms_by, m_law_atoms_by⟩
  have W7 : Has l.prog w K mg base 1 "_law_written" ["_law_atoms"] (spR RWritten) := ⟨f_law_written, _, ok_law_written F_law_written B, b_law_written, k_law_written, m_law_written⟩
  exact ok_law F_law B W6 G9 W7 W3 G7
theorem walk {l : PySem.W.OpenLaw} {q : Program} {loose : List Str} {XP : (Str → Option Value) → Heap → Prop} {YP : World → Heap → Prop} {d : DefRec} {K : Params → PySem.W.Frag} (hn : l.most = some 63) (hdf : d.params.defaults = [])
    (hY : ∀ (w : World) (h : Heap), YP w h → (K w.params).In h)
    (F : ∀ (w : World) (mg : Str → Option Value) (fa : Addr) (h : Heap), (K w.params).In h → h.Ns mainGlobals mg → mg d.name = some (.ref fa) →
      ∃ fd : FuncData, (∀ (s : Shared) (u : Value), BindsTo s fd ⟨[u], []⟩ [("_law_script", u)]) ∧ ∀ base : Heap, (K w.params).In base → base.Ns mainGlobals mg → FnOk l.prog w (K w.params) mg base CX0 8 fa fd ["_law_script"] (spLaw (K w.params))) :
    PySem.W.WalkO q loose XP YP l.row.toRowW d [] (fun f vs => PySem.call f vs) :=
  L2.walk_of (n := 63) (k := 8) (x := "_law_script") (CX := fun _ => CX0) (sp := fun w => spLaw (K w.params)) hn (by decide) hdf ⟨rfl, by decide, by decide⟩ hY F (fun _ _ a ns hl _ hS => ⟨a, ns, rfl, hS, hl, fun _ => rfl⟩) fun _ _ _ _ _ z => z
end K11
open PySem PySem.W PyProof.Rows
set_option maxRecDepth 100000 in
set_option maxHeartbeats 0 in
theorem PySem.Challenge.cw_factloom_k11_whole_shown_and_read_holds : PySem.Challenge.rw_factloom_k11_whole_shown_and_read.Holds := by
  w_on; o_law; k_head; (case hw => w_witness2)
  k_fill
  refine K11.walk (l := PySem.Challenge.rw_factloom_k11_whole_shown_and_read) rfl rfl (fun w h Y => PySem.W.kIn_of Y) ?F
  case F =>
    intro w mg fa h KX G hmg
    refine' K11.all_mk KX G hmg ?a_shown ?l_shown ?c_shown ?k_shown ?a_shown_atom ?l_shown_atom ?c_shown_atom ?k_shown_atom ?a_read ?l_read ?c_read ?k_read ?a_read_atom ?l_read_atom ?c_read_atom ?k_read_atom ?a_read_part ?l_read_part ?c_read_part ?k_read_part ?a_has_only ?l_has_only ?c_has_only ?k_has_only ?a_is_word ?l_is_word ?c_is_word ?k_is_word ?a_is_written_blank ?l_is_written_blank ?c_is_written_blank ?k_is_written_blank ?a_is_written_number ?l_is_written_number ?c_is_written_number ?k_is_written_number ?a_law_whole ?l_law_whole ?c_law_whole ?k_law_whole ?a_law_kinds ?l_law_kinds ?c_law_kinds ?k_law_kinds ?a_law_same_rule ?l_law_same_rule ?c_law_same_rule ?k_law_same_rule ?a_law_part_by ?l_law_part_by ?c_law_part_by ?k_law_part_by ?a_law_atom_by ?l_law_atom_by ?c_law_atom_by ?k_law_atom_by ?a_law_atoms_by ?l_law_atoms_by ?c_law_atoms_by ?k_law_atoms_by ?a_law_written ?l_law_written ?c_law_written ?k_law_written ?a_law ?l_law ?c_law ?k_law ?u_SMALL ?u_GREAT ?u_FIGURES ?z_len ?z_isinstance ?z_range ?z_int ?z_str ?z_bool ?z_list ?z_tuple ?z_dict ?z_zip ?z_enumerate ?z_all ?z_reversed
    (case a_shown => k_is)
    (case l_shown => k_is)
    (case c_shown => k_is)
    (case k_shown => k_is)
    (case a_shown_atom => k_is)
    (case l_shown_atom => k_is)
    (case c_shown_atom => k_is)
    (case k_shown_atom => k_is)
    (case a_read => k_is)
    (case l_read => k_is)
    (case c_read => k_is)
    (case k_read => k_is)
    (case a_read_atom => k_is)
    (case l_read_atom => k_is)
    (case c_read_atom => k_is)
    (case k_read_atom => k_is)
    (case a_read_part => k_is)
    (case l_read_part => k_is)
    (case c_read_part => k_is)
    (case k_read_part => k_is)
    (case a_has_only => k_is)
    (case l_has_only => k_is)
    (case c_has_only => k_is)
    (case k_has_only => k_is)
    (case a_is_word => k_is)
    (case l_is_word => k_is)
    (case c_is_word => k_is)
    (case k_is_word => k_is)
    (case a_is_written_blank => k_is)
    (case l_is_written_blank => k_is)
    (case c_is_written_blank => k_is)
    (case k_is_written_blank => k_is)
    (case a_is_written_number => k_is)
    (case l_is_written_number => k_is)
    (case c_is_written_number => k_is)
    (case k_is_written_number => k_is)
    (case a_law_whole => k_is)
    (case l_law_whole => k_is)
    (case c_law_whole => k_is)
    (case k_law_whole => k_is)
    (case a_law_kinds => k_is)
    (case l_law_kinds => k_is)
    (case c_law_kinds => k_is)
    (case k_law_kinds => k_is)
    (case a_law_same_rule => k_is)
    (case l_law_same_rule => k_is)
    (case c_law_same_rule => k_is)
    (case k_law_same_rule => k_is)
    (case a_law_part_by => k_is)
    (case l_law_part_by => k_is)
    (case c_law_part_by => k_is)
    (case k_law_part_by => k_is)
    (case a_law_atom_by => k_is)
    (case l_law_atom_by => k_is)
    (case c_law_atom_by => k_is)
    (case k_law_atom_by => k_is)
    (case a_law_atoms_by => k_is)
    (case l_law_atoms_by => k_is)
    (case c_law_atoms_by => k_is)
    (case k_law_atoms_by => k_is)
    (case a_law_written => k_is)
    (case l_law_written => k_is)
    (case c_law_written => k_is)
    (case k_law_written => k_is)
    (case a_law => k_is)
    (case l_law => k_is)
    (case c_law => k_is)
    (case k_law => k_is)
    (case u_SMALL => k_is)
    (case u_GREAT => k_is)
    (case u_FIGURES => k_is)
    (case z_len => k_is)
    (case z_isinstance => k_is)
    (case z_range => k_is)
    (case z_int => k_is)
    (case z_str => k_is)
    (case z_bool => k_is)
    (case z_list => k_is)
    (case z_tuple => k_is)
    (case z_dict => k_is)
    (case z_zip => k_is)
    (case z_enumerate => k_is)
    (case z_all => k_is)
    (case z_reversed => k_is)
