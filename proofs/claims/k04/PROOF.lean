import PyProof.Rows.All
import Wide.All
import OpenK.AllK
import Wide.FinOn
import Lean
import PyProof.EqAt
import PyProof.EqKinds
import PyProof.TupleCall
import PyProof.CompFree
import PyProof.AttrMissHeap
import PyProof.ListNew
import PyProof.DictUpdate
import PyProof.DictList
import PyProof.FactsAll.dict_1
import PyProof.Rows.DictSet
import PyProof.Seq
import PyProof.TupleIter
import KE.KDictOf
import PyProof.NeKinds
import PyProof.ZipIter
import PyProof.EnumIter
import PyProof.EnumFor
import PyProof.EnumMake
import KE.KRevIter
import KE.KDictLaws
import PyProof.DictRoadsH
import KE.KDictList
import PyProof.ConsumeWalk
import PyProof.DictTruth
import PyProof.StrLawsTight
import PyProof.Rows.StrNews2
import KE.KIntText
import PyProof.Rows.FStrParts
import PyProof.StrWalks
import OpenK.KRaise
import OpenK.KOwn
import KE.KTryMore
import PyProof.StationsW
import KE.KIsAll
import PyProof.ExcArgsOwn
import PySem.Challenge.RW_factloom_k04_sound_rules

set_option Elab.async false
set_option linter.all false
set_option maxRecDepth 100000
namespace L2
open PySem PySem.Spec PyProof.Rows

abbrev Key := Sum Int Str
def keyIs : Key → Value → Bool
  | .inl k, v => Value.isInt k v
  | .inr x, v => Value.isStrOf x v
def keyH (w : World) : Key → Int
  | .inl k => hashInt k
  | .inr x => hashStr w x
theorem keyIs_shape : ∀ {k : Key} {v : Value}, keyIs k v = true → (∃ i t, k = Sum.inl i ∧ v = Value.int i t) ∨ (∃ x t, k = Sum.inr x ∧ v = Value.str x t)
  | .inl i, v, h => by
    obtain ⟨t, e⟩ := Value.isInt_shape (k := i) (v := v) h
    exact .inl ⟨i, t, rfl, e⟩
  | .inr x, v, h => by
    obtain ⟨t, e⟩ := Value.isStrOf_shape (x := x) (v := v) h
    exact .inr ⟨x, t, rfl, e⟩
theorem keyIs_int (i : Int) (t : Tok) : keyIs (.inl i) (.int i t) = true := by simp [keyIs, Value.isInt]
theorem keyIs_str (x : Str) (t : Tok) : keyIs (.inr x) (.str x t) = true := by simp [keyIs, Value.isStrOf]
theorem key_ll (a b : Int) : decide ((Sum.inl a : Key) = Sum.inl b) = (a == b) := by
  by_cases e : a = b
  · subst e; simp
  · have h : ¬ (Sum.inl a : Key) = Sum.inl b := fun q => e (Sum.inl.inj q)
    rw [decide_eq_false h]
    exact (beq_eq_false_iff_ne.mpr e).symm
theorem key_rr (a b : Str) : decide ((Sum.inr a : Key) = Sum.inr b) = decide (a = b) := by
  by_cases e : a = b
  · subst e; simp
  · have h : ¬ (Sum.inr a : Key) = Sum.inr b := fun q => e (Sum.inr.inj q)
    rw [decide_eq_false h, decide_eq_false e]
theorem key_lr (a : Int) (b : Str) : decide ((Sum.inl a : Key) = Sum.inr b) = false := decide_eq_false (fun q => nomatch q)
theorem key_rl (a : Str) (b : Int) : decide ((Sum.inr a : Key) = Sum.inl b) = false := decide_eq_false (fun q => nomatch q)

def mixKind (prog : Program) (w : World) : PySem.KeyKind prog w Key where
  is := keyIs
  hash := keyH w
  inj := fun v a b ha hb => by
    rcases keyIs_shape ha with ⟨i, t, rfl, rfl⟩ | ⟨x, t, rfl, rfl⟩
    · rcases keyIs_shape hb with ⟨j, u, rfl, e⟩ | ⟨y, u, rfl, e⟩
      · injection e with e1 _; rw [e1]
      · exact nomatch e
    · rcases keyIs_shape hb with ⟨j, u, rfl, e⟩ | ⟨y, u, rfl, e⟩
      · exact nomatch e
      · injection e with e1 _; rw [e1]
  byValue := fun k v h => by
    rcases keyIs_shape h with ⟨i, t, rfl, rfl⟩ | ⟨x, t, rfl, rfl⟩ <;> rfl
  pyHash := fun hv h => by
    rcases keyIs_shape hv with ⟨i, t, rfl, rfl⟩ | ⟨x, t, rfl, rfl⟩
    · exact wpAny_pyHash_int h
    · exact wpAny_pyHash_str h
  eqBool := fun hu hv h => by
    rcases keyIs_shape hu with ⟨i, t, rfl, rfl⟩ | ⟨x, t, rfl, rfl⟩
    · rcases keyIs_shape hv with ⟨j, u, rfl, rfl⟩ | ⟨y, u, rfl, rfl⟩
      · rw [key_ll] at h; exact wpAny_eqBool_int h
      · rw [key_lr] at h; exact SeqAt.EqAt.int_str i t y u _ _ _ _ h
    · rcases keyIs_shape hv with ⟨j, u, rfl, rfl⟩ | ⟨y, u, rfl, rfl⟩
      · rw [key_rl] at h; exact SeqAt.EqAt.str_int x t j u _ _ _ _ h
      · rw [key_rr] at h; exact wpAny_eqBool_str h
  «strs» := fun k x t v h => by
    rcases keyIs_shape h with ⟨i, u, rfl, e⟩ | ⟨y, u, rfl, e⟩
    · exact nomatch e
    · injection e with e1 _
      subst e1
      cases v <;> rfl

theorem mixKind_is (prog : Program) (w : World) (k : Key) (v : Value) : (mixKind prog w).is k v = keyIs k v := rfl
theorem mixKind_int (prog : Program) (w : World) (i : Int) (t : Tok) : (mixKind prog w).is (.inl i) (.int i t) = true := keyIs_int i t
theorem mixKind_str (prog : Program) (w : World) (x : Str) (t : Tok) : (mixKind prog w).is (.inr x) (.str x t) = true := keyIs_str x t
end L2

namespace L2
open PySem PySem.Spec PyProof.Rows

inductive V where
  | non | bl (b : Bool) | int (i : Int) | str (x : Str) | byt (b : Array UInt8) | flt (b : UInt64) | ref (a : Addr) | ty (n : String)
  deriving DecidableEq

def RelV : V → Value → Prop
  | .non, u => u = Value.none
  | .bl b, u => u = Value.bool b
  | .int i, u => ∃ t, u = Value.int i t
  | .str x, u => ∃ t, u = Value.str x t
  | .byt b, u => ∃ t, u = Value.bytes b t
  | .flt b, u => ∃ t, u = Value.float b t
  | .ref a, u => u = Value.ref a
  | .ty n, u => u = Value.type n

abbrev Vals : List V → List Value → Prop := Paired RelV
theorem Vals.length {xs : List V} {us : List Value} (r : Vals xs us) : xs.length = us.length := Paired.length r
theorem Vals.get : ∀ {xs : List V} {us : List Value} {i : Nat} {x : V}, Vals xs us → xs[i]? = some x → ∃ u, us[i]? = some u ∧ RelV x u
  | _, _, _, _, .nil, e => by simp at e
  | _, _, 0, _, .cons r _, e => by simp at e; subst e; exact ⟨_, rfl, r⟩
  | _, _, i + 1, x, .cons _ t, e => by
    obtain ⟨u, h1, h2⟩ := Vals.get (i := i) (x := x) t (by simpa using e)
    exact ⟨u, by simpa using h1, h2⟩
theorem Vals.set {x : V} {u : Value} (r : RelV x u) : ∀ {xs : List V} {us : List Value} (i : Nat), Vals xs us → Vals (xs.set i x) (us.set i u)
  | _, _, _, .nil => .nil
  | _, _, 0, .cons _ t => .cons r t
  | _, _, i + 1, .cons q t => .cons q (Vals.set r i t)
theorem Vals.append : ∀ {xs ys : List V} {us ws : List Value}, Vals xs us → Vals ys ws → Vals (xs ++ ys) (us ++ ws)
  | _, _, _, _, .nil, s => s
  | _, _, _, _, .cons r t, s => .cons r (Vals.append t s)
theorem Vals.take : ∀ {xs : List V} {us : List Value} (n : Nat), Vals xs us → Vals (xs.take n) (us.take n)
  | _, _, 0, _ => .nil
  | _, _, _ + 1, .nil => .nil
  | _, _, n + 1, .cons r t => .cons r (Vals.take n t)
theorem Vals.drop : ∀ {xs : List V} {us : List Value} (n : Nat), Vals xs us → Vals (xs.drop n) (us.drop n)
  | _, _, 0, r => r
  | _, _, _ + 1, .nil => .nil
  | _, _, n + 1, .cons _ t => Vals.drop n t
theorem Vals.none_of : ∀ {xs : List V} {us : List Value} {i : Nat}, Vals xs us → xs[i]? = none → us[i]? = none := fun {xs us i} r e => by
  have h1 := r.length
  have h2 : xs.length ≤ i := List.getElem?_eq_none_iff.mp e
  exact List.getElem?_eq_none_iff.mpr (by omega)

def RelO : Option V → Option Value → Prop
  | some v, some u => RelV v u
  | none, none => True
  | _, _ => False
def KV {κ : Type} : List (κ × V) → List (κ × Value) → Prop := Paired fun (p : κ × V) (q : κ × Value) => p.1 = q.1 ∧ RelV p.2 q.2

def kV : Key → V
  | .inl i => .int i
  | .inr x => .str x

inductive HO where
  /-- a list -/
  | lst (xs : List V)
  /-- a tuple (never changes) -/
  | tup (xs : List V)
  /-- a dict whose keys are ints and texts; one whose keys are tuples of ints and texts (the empty one is both) -/
  | dK (kvs : List (Key × V)) | dT (kvs : List (List Key × V))
  /-- a set of ints: its members, its size -/
  | set (S : Int → Bool) (n : Nat)
  /-- an instance of the class at C, its dict at dx, its attributes -/
  | ins (C dx : Addr) (fs : List (Str × V))
  /-- the dict of the instance at x -/
  | own (x : Addr)
  /-- the dict of an exception -/
  | xd (fs : List (Str × V))
  /-- a bound method, f of x -/
  | met (f x : Addr)
  /-- a range object lo, lo + 1, .. below hi -/
  | rng (lo hi : Int)
  /-- a thing that is known to the object (the script; a dict while a loop walks it): read, never written while it is so -/
  | frz (o : Obj) (u : HO)
  /-- a code object's table -/
  | tbl (ps : Array Value)
  /-- any other thing, by what is true of its one object (a def of one's own: SetO a S n := HO.ext fun h => ..) -/
  | ext (φ : Heap → Prop)

abbrev Hp := Addr → Option HO
def upd (H : Hp) (a : Addr) (o : HO) : Hp := fun b => if b = a then some o else H b
theorem upd_same {H : Hp} {a : Addr} {o : HO} : upd H a o a = some o := by unfold upd; rw [if_pos rfl]
theorem upd_ne {H : Hp} {a b : Addr} {o : HO} (h : b ≠ a) : upd H a o b = H b := by unfold upd; rw [if_neg h]
theorem ne_of {H : Hp} {a b : Addr} {o u : HO} (h : H a = some o) (h' : H b = some u) (d : o ≠ u) : a ≠ b := by
  intro e; subst e; rw [h] at h'; exact d (Option.some.inj h')
theorem ne_of_none {H : Hp} {a b : Addr} {o : HO} (h : H a = some o) (h' : H b = none) : a ≠ b := by
  intro e; subst e; rw [h] at h'; cases h'

section
variable (P : Program) (w : World)
def ObjOk (H : Hp) (h : Heap) (a : Addr) : HO → Prop
  | .lst xs => xs.length ≤ sizeLine ∧ ∃ (its : List Value) (n : Nat), Vals xs its ∧ h.get? a = some { cls := .type "list", data := .seq its.toArray n }
  | .tup xs => xs.length ≤ sizeLine ∧ ∃ its : List Value, Vals xs its ∧ IsTup h a its.toArray
  | .dK kvs => kvs.length ≤ sizeLine ∧ (a == sysModules) = false ∧ ∃ vs, KV kvs vs ∧ h.DictOf (mixKind P w) a vs
  | .dT kvs => kvs.length ≤ sizeLine ∧ (a == sysModules) = false ∧ ∃ xs : List (List Key × Addr × Value),
      Paired (fun (p : List Key × V) (q : List Key × Addr × Value) => p.1 = q.1 ∧ H q.2.1 = some (.tup (p.1.map kV)) ∧ RelV p.2 q.2.2) kvs xs ∧
      ∃ o es ep, h.get? a = some o ∧ o.ExactDict ∧ o.data = .dict es ep ∧ es.toList = xs.map (entryOfKey (tupleKind (mixKind P w))) ∧ (xs.map (·.1)).Nodup
  | .set S n => h.SetOf (intKind P w) a S n
  | .ins C dx fs => H dx = some (.own a) ∧ fs.length ≤ 1000 ∧ dx ≠ a ∧ h.get? a = some (PySem.W.instObj C dx) ∧
      ∃ mA, h.Ns1 dx mA ∧ (∀ f, RelO (fs.lookup f) (mA f)) ∧ PySem.Within mA (fs.map (·.1))
  | .own _ => ∃ o, h.get? a = some o
  | .xd fs => ∃ mA, h.Ns1 a mA ∧ ∀ f, RelO (fs.lookup f) (mA f)
  | .rng lo hi => ∃ t u v, h.get? a = some { cls := .type "range", data := .fields #[.int lo t, .int hi u, .int 1 v] }
  | .frz o u => h.get? a = some o ∧ ObjOk H h a u
  | .tbl ps => h.get? a = some { cls := .none, data := .fields ps }
  | .met f x => h.get? a = some (PySem.W.methodObj (.ref f) (.ref x))
  | .ext φ => φ h ∧ (∃ o, h.get? a = some o) ∧ ∀ h1 h2 : Heap, φ h1 → (∀ o, h1.get? a = some o → h2.get? a = some o) → φ h2
def HOk (H : Hp) (h : Heap) : Prop := ∀ a o, H a = some o → ObjOk P w H h a o
end

section
variable {P : Program} {w : World} {H H' : Hp} {h h' : Heap} {a : Addr} {o : HO}
theorem ObjOk.lt (x : ObjOk P w H h a o) : a < h.objs.size := by
  cases o with
  | lst xs => obtain ⟨_, _, _, _, e⟩ := x; exact Heap.lt_size e
  | tup xs => obtain ⟨_, _, _, p⟩ := x; exact p.lt
  | dK kvs => obtain ⟨_, _, _, _, o, _, _, e, _⟩ := x; exact Heap.lt_size e
  | dT kvs => obtain ⟨_, _, _, _, o, _, _, e, _⟩ := x; exact Heap.lt_size e
  | set S n => obtain ⟨o, _, _, _, e, _⟩ := x; exact Heap.lt_size e
  | ins C dx fs => obtain ⟨_, _, _, e, _⟩ := x; exact Heap.lt_size e
  | own y => obtain ⟨_, e⟩ := x; exact Heap.lt_size e
  | xd fs => obtain ⟨_, ⟨_, _, _, e, _⟩, _⟩ := x; exact Heap.lt_size e
  | rng lo hi => obtain ⟨_, _, _, e⟩ := x; exact Heap.lt_size e
  | frz ob u => obtain ⟨e, _⟩ := x; exact Heap.lt_size e
  | tbl ps => exact Heap.lt_size (show h.get? a = some _ from x)
  | met f y => exact Heap.lt_size (show h.get? a = some _ from x)
  | ext φ => obtain ⟨_, ⟨_, e⟩, _⟩ := x; exact Heap.lt_size e
theorem Paired.mapP {α β : Type} {F G : α → β → Prop} : ∀ {l₁ : List α} {l₂ : List β}, Paired F l₁ l₂ → (∀ a b, F a b → G a b) → Paired G l₁ l₂
  | _, _, .nil, _ => .nil
  | _, _, .cons r t, f => .cons (f _ _ r) (Paired.mapP t f)
theorem ObjOk.stay (x : ObjOk P w H h a o) (k : ∀ b u, (b = a ∨ H b = some (.own a)) → h.get? b = some u → h'.get? b = some u)
    (ho : ∀ b, H b = some (.own a) → H' b = some (.own a)) (ht : ∀ b xs, H b = some (.tup xs) → H' b = some (.tup xs)) : ObjOk P w H' h' a o := by
  induction o with
  | lst xs => obtain ⟨z, its, n, r, e⟩ := x; exact ⟨z, its, n, r, k _ _ (.inl rfl) e⟩
  | tup xs => obtain ⟨z, its, r, ob, e, c⟩ := x; exact ⟨z, its, r, ob, k _ _ (.inl rfl) e, c⟩
  | dK kvs => obtain ⟨z, y, vs, r, ob, es, ep, e, c⟩ := x; exact ⟨z, y, vs, r, ob, es, ep, k _ _ (.inl rfl) e, c⟩
  | dT kvs =>
    obtain ⟨z, y, xs, r, ob, es, ep, e, c⟩ := x
    exact ⟨z, y, xs, Paired.mapP r fun p q z => ⟨z.1, ht _ _ z.2.1, z.2.2⟩, ob, es, ep, k _ _ (.inl rfl) e, c⟩
  | set S n => obtain ⟨ob, es, ep, t, e, c⟩ := x; exact ⟨ob, es, ep, t, k _ _ (.inl rfl) e, c⟩
  | ins C dx fs =>
    obtain ⟨d, z, ne, e, mA, ⟨od, es, ep, e2, c⟩, r⟩ := x
    exact ⟨ho _ d, z, ne, k _ _ (.inl rfl) e, mA, ⟨od, es, ep, k _ _ (.inr d) e2, c⟩, r⟩
  | own y => obtain ⟨ob, e⟩ := x; exact ⟨ob, k _ _ (.inl rfl) e⟩
  | xd fs => obtain ⟨mA, ⟨od, es, ep, e, c⟩, r⟩ := x; exact ⟨mA, ⟨od, es, ep, k _ _ (.inl rfl) e, c⟩, r⟩
  | rng lo hi => obtain ⟨t, u, v, e⟩ := x; exact ⟨t, u, v, k _ _ (.inl rfl) e⟩
  | frz ob u ih => obtain ⟨e, q⟩ := x; exact ⟨k _ _ (.inl rfl) e, ih q⟩
  | tbl ps =>
    have e : h.get? a = some { cls := .none, data := .fields ps } := x
    show h'.get? a = some { cls := .none, data := .fields ps }
    exact k a _ (.inl rfl) e
  | met f y =>
    have e : h.get? a = some (PySem.W.methodObj (.ref f) (.ref y)) := x
    show h'.get? a = some (PySem.W.methodObj (.ref f) (.ref y))
    exact k a _ (.inl rfl) e
  | ext φ => obtain ⟨p, ⟨o, e⟩, st⟩ := x; exact ⟨st _ _ p fun o q => k _ _ (.inl rfl) q, ⟨o, k _ _ (.inl rfl) e⟩, st⟩
theorem HOk.lt (x : HOk P w H h) (e : H a = some o) : a < h.objs.size := (x a o e).lt
theorem HOk.fresh (x : HOk P w H h) (e : h.objs.size ≤ a) : H a = none := by
  cases q : H a with
  | none => rfl
  | some u => exact absurd (Nat.lt_of_lt_of_le (x.lt q) e) (Nat.lt_irrefl _)
theorem HOk.kept (x : HOk P w H h) (k : ∀ b u, h.get? b = some u → h'.get? b = some u) : HOk P w H h' := fun a o e =>
  (x a o e).stay (fun b u _ q => k b u q) (fun _ q => q) fun _ _ q => q
theorem HOk.laid (x : HOk P w H h) (k : ∀ b u, h.get? b = some u → h'.get? b = some u) (hp : h.objs.size ≤ a) (new : ObjOk P w (upd H a o) h' a o) : HOk P w (upd H a o) h' := fun b u e => by
  have hn := x.fresh hp
  by_cases hb : b = a
  · subst hb; rw [upd_same] at e; cases e; exact new
  · rw [upd_ne hb] at e
    exact (x b u e).stay (fun c v _ q => k c v q) (fun c q => by rw [upd_ne (ne_of_none q hn)]; exact q) fun c xs q => by rw [upd_ne (ne_of_none q hn)]; exact q
end

def Rd (H : Hp) (a : Addr) (u : HO) : Prop := H a = some u ∨ ∃ o, H a = some (.frz o u)
theorem Rd.of {H : Hp} {a : Addr} {u : HO} (h : H a = some u) : Rd H a u := .inl h
theorem Rd.ok {P : Program} {w : World} {H : Hp} {h : Heap} {a : Addr} {u : HO} (r : Rd H a u) (x : HOk P w H h) : ObjOk P w H h a u := by
  rcases r with r | ⟨o, r⟩
  · exact x a u r
  · obtain ⟨_, q⟩ := x a _ r
    exact q
def Mut : Option HO → Prop
  | some (.lst _) => True
  | some (.dK _) => True
  | some (.dT _) => True
  | some (.set _ _) => True
  | some (.ins _ _ _) => True
  | some (.ext _) => True
  | _ => False
section
variable {P : Program} {w : World} {H : Hp} {h h' : Heap} {x e : Addr} {o' : HO}
theorem HOk.write (ok : HOk P w H h) (mu : Mut (H x)) (he : e = x ∨ H e = some (.own x)) (k : ∀ b u, b ≠ e → h.get? b = some u → h'.get? b = some u) (heo : ∃ u, h'.get? e = some u)
    (new : ObjOk P w (upd H x o') h' x o') : HOk P w (upd H x o') h' := fun b u q => by
  have nown : ∀ c y, H c = some (.own y) → c ≠ x := fun c y r z => by subst z; rw [r] at mu; exact mu
  have ntup : ∀ c xs, H c = some (.tup xs) → c ≠ x := fun c xs r z => by subst z; rw [r] at mu; exact mu
  by_cases hb : b = x
  · subst hb; rw [upd_same] at q; cases q; exact new
  · rw [upd_ne hb] at q
    by_cases hbe : b = e
    · have q' : H b = some (.own x) := by
        rcases he with z | z
        · exact absurd (hbe.trans z) hb
        · rw [hbe]; exact z
      rw [q] at q'; cases q'
      obtain ⟨v, hv⟩ := heo
      exact ⟨v, by rw [hbe]; exact hv⟩
    · refine (ok b u q).stay (fun c v hc r => k c v ?_ r) (fun c r => by rw [upd_ne (nown c b r)]; exact r) fun c xs r => by rw [upd_ne (ntup c xs r)]; exact r
      rcases hc with rfl | hc
      · exact hbe
      · rintro rfl
        rcases he with z | z
        · exact nown c b hc z
        · rw [hc] at z; cases z; exact hb rfl
end

structure Un (fs ex : List Addr) (H H' : Hp) (h h' : Heap) : Prop where
  keep : ∀ b o, h.get? b = some o → H b = none → b ∉ fs → b ∉ ex → h'.get? b = some o
  slot : ∀ b o, h.get? b = some o → H b = none → b ∈ fs → b ∉ ex → ∃ sl, h'.get? b = some { o with slots := sl }
  free : ∀ b o, h.get? b = some o → H b = none → b ∉ ex → H' b = none
  there : ∀ b o, h.get? b = some o → b ∉ ex → ∃ o', h'.get? b = some o'
  tups : ∀ b xs, H b = some (.tup xs) → H' b = some (.tup xs)
  frzs : ∀ b o u, H b = some (.frz o u) → H' b = some (.frz o u)
  tbls : ∀ b ps, H b = some (.tbl ps) → ∃ more, H' b = some (.tbl (ps ++ more))
section
variable {fs fs' ex ex' : List Addr} {H H1 H2 : Hp} {h h1 h2 h' : Heap} {a x e : Addr} {o : HO}
theorem Un.any (u : Un fs ex H H1 h h1) {b : Addr} {ob : Obj} (q : h.get? b = some ob) (n : H b = none) (hx : b ∉ ex) : ∃ sl, h1.get? b = some { ob with slots := sl } := by
  by_cases hb : b ∈ fs
  · exact u.slot b ob q n hb hx
  · exact ⟨ob.slots, u.keep b ob q n hb hx⟩
theorem Un.trans (a : Un fs ex H H1 h h1) (b : Un fs ex H1 H2 h1 h2) : Un fs ex H H2 h h2 where
  keep := fun c ob q n hc hx => b.keep c ob (a.keep c ob q n hc hx) (a.free c ob q n hx) hc hx
  slot := fun c ob q n hc hx => by
    obtain ⟨sl, e1⟩ := a.slot c ob q n hc hx
    obtain ⟨sl', e2⟩ := b.slot c _ e1 (a.free c ob q n hx) hc hx
    exact ⟨sl', e2⟩
  free := fun c ob q n hx => by
    obtain ⟨o', e1⟩ := a.there c ob q hx
    exact b.free c o' e1 (a.free c ob q n hx) hx
  there := fun c ob q hx => by
    obtain ⟨o', e1⟩ := a.there c ob q hx
    exact b.there c o' e1 hx
  tups := fun c xs q => b.tups c xs (a.tups c xs q)
  frzs := fun c ob xs q => b.frzs c ob xs (a.frzs c ob xs q)
  tbls := fun c ps q => by
    obtain ⟨m1, e1⟩ := a.tbls c ps q
    obtain ⟨m2, e2⟩ := b.tbls c _ e1
    exact ⟨m1 ++ m2, by rw [e2, Array.append_assoc]⟩
theorem Un.kept (k : ∀ b u, h.get? b = some u → h'.get? b = some u) : Un fs ex H H h h' :=
  ⟨fun b ob q _ _ _ => k b ob q, fun b ob q _ _ _ => ⟨ob.slots, k b ob q⟩, fun _ _ _ n _ => n, fun b ob q _ => ⟨ob, k b ob q⟩, fun _ _ q => q, fun _ _ _ q => q, fun _ ps q => ⟨#[], by rw [q]; simp⟩⟩
theorem Un.refl : Un fs ex H H h h := Un.kept fun _ _ q => q
theorem Un.laid (k : ∀ b u, h.get? b = some u → h'.get? b = some u) (hp : h.objs.size ≤ a) (hn : H a = none) : Un fs ex H (upd H a o) h h' where
  keep := fun b u q _ _ _ => k b u q
  slot := fun b u q _ _ _ => ⟨u.slots, k b u q⟩
  free := fun b u q n _ => by rw [upd_ne (Nat.ne_of_lt (Nat.lt_of_lt_of_le (Heap.lt_size q) hp))]; exact n
  there := fun b u q _ => ⟨u, k b u q⟩
  tups := fun b xs q => by rw [upd_ne (ne_of_none q hn)]; exact q
  frzs := fun b u xs q => by rw [upd_ne (ne_of_none q hn)]; exact q
  tbls := fun b ps q => ⟨#[], by rw [upd_ne (ne_of_none q hn), q]; simp⟩
theorem Un.write (mu : Mut (H x)) (he : e = x ∨ H e = some (.own x)) (k : ∀ b u, b ≠ e → h.get? b = some u → h'.get? b = some u) (heo : ∃ u, h'.get? e = some u) : Un fs ex H (upd H x o) h h' := by
  have hx : ∀ b, H b = none → b ≠ x := fun b n z => by subst z; rw [n] at mu; exact mu
  have hb : ∀ b, H b = none → b ≠ e := fun b n z => by
    subst z
    rcases he with r | r
    · exact hx b n r
    · rw [n] at r; cases r
  have hm : ∀ b u, H b = some u → ¬ Mut (some u) → b ≠ x := fun b u q nm z => by subst z; rw [q] at mu; exact nm mu
  refine ⟨fun b u q n _ _ => k b u (hb b n) q, fun b u q n _ _ => ⟨u.slots, k b u (hb b n) q⟩, fun b u q n _ => by rw [upd_ne (hx b n)]; exact n, fun b u q _ => ?_,
    fun b xs q => by rw [upd_ne (hm b _ q fun z => z)]; exact q, fun b u xs q => by rw [upd_ne (hm b _ q fun z => z)]; exact q, fun b ps q => ⟨#[], by rw [upd_ne (hm b _ q fun z => z), q]; simp⟩⟩
  by_cases hbe : b = e
  · subst hbe; exact heo
  · exact ⟨u, k b u hbe q⟩
theorem Un.mono (u : Un fs ex H H1 h h1) (hs : ∀ b ∈ fs, b ∈ fs') (hx : ∀ b ∈ ex, b ∈ ex') : Un fs' ex' H H1 h h1 :=
  ⟨fun b ob q n hb he => u.keep b ob q n (fun z => hb (hs b z)) fun z => he (hx b z), fun _ _ q n _ he => u.any q n fun z => he (hx _ z), fun b ob q n he => u.free b ob q n fun z => he (hx b z), fun b ob q he => u.there b ob q fun z => he (hx b z), u.tups, u.frzs, u.tbls⟩
end

def trk (h : Heap) (H : Hp) : List Addr := (List.range h.objs.size).filter fun a => (H a).isSome
def hidT (h : Heap) (H : Hp) : Heap := PySem.W.hideAll h (trk h H)
theorem hidT_size (h : Heap) (H : Hp) : (hidT h H).objs.size = h.objs.size := PySem.W.hideAll_size _ _
theorem hidT_get {h : Heap} {H : Hp} {b : Addr} {o : Obj} (e : h.get? b = some o) (n : H b = none) : (hidT h H).get? b = some o :=
  PySem.W.hideAll_get _ e fun hm => by
    have q : (H b).isSome = true := (List.mem_filter.mp hm).2
    rw [n] at q; simp at q
theorem of_hidT {h : Heap} {H : Hp} {b : Addr} {o : Obj} (e : (hidT h H).get? b = some o) : h.get? b = some o ∧ H b = none := by
  have e' : h.get? b = some o := PySem.W.of_hideAll (trk h H) e
  refine ⟨e', ?_⟩
  cases q : H b with
  | none => rfl
  | some x =>
    have hm : b ∈ trk h H := List.mem_filter.mpr ⟨List.mem_range.mpr (Heap.lt_size e'), by simp [q]⟩
    have z : (hidT h H).get? b = none := PySem.W.hideAll_none (trk h H) hm
    rw [z] at e; cases e

def allNews (g h : Heap) (L : Addr) : List (Addr × Obj) := (List.range h.objs.size).filterMap fun a => if a = L ∨ (g.get? a).isSome = true then none else (h.get? a).map fun o => (a, o)
def rest (g h : Heap) (L d : Addr) : List (Addr × Obj) := (allNews g h L).filter fun p => decide (p.1 ≠ d)
end L2

namespace L2
open PySem PySem.Spec PyProof.Rows

structure Mod (K : PySem.W.Frag) (mg : Str → Option Value) (base : Heap) : Prop where
  kin : K.In base
  glob : base.Ns mainGlobals mg
  blt : ∃ mb, base.Ns builtinsNs mb ∧ ∀ x : Str, x ≠ "__name__" → mb x = bootBuiltins x
  nolimit : base.NoLimit

structure Cx where
  prog : Program
  w : World
  K : PySem.W.Frag
  mg : Str → Option Value
  base : Heap
  A : Around
  N : List Str
  s₀ : Shared
  H₀ : Hp
  env : Env
  outer : List Env
  stack : List Env
  ex : List Addr
  fn : Str → Bool
  calm : Bool
  pn : List (Addr × Obj)
  xe : Value → Shared → Prop
def frs (l : List Env) : List Addr := l.filterMap (·.frame)
abbrev Cx.fs (X : Cx) : List Addr := frs X.outer

def Vis (sc : Scope) (x : Str) : Prop := sc.names.lookup x = some .local ∨ sc.names.lookup x = some .cell ∨ sc.names.lookup x = some .free
def Loc (sc : Scope) (x : Str) : Prop := sc.names.lookup x = some .local ∨ sc.names.lookup x = some .cell
def Look (env : Env) (h : Heap) (m : Str → Option Value) (x : Str) (u : Value) : Prop :=
  (env.kindOf x = some .local ∧ m x = some u) ∨ ((env.kindOf x = some .cell ∨ env.kindOf x = some .free) ∧ ∃ c, env.cells.lookup x = some c ∧ h.IsCell c (some u))

structure Cx.Ok (X : Cx) : Prop where
  mod : Mod X.K X.mg X.base
  kind : X.env.scope.kind = .function
  glob : X.env.globals = mainGlobals
  blt : X.env.builtins = builtinsNs
  above : X.s₀.heap.objs.size ≤ X.env.locals
  inj : ∀ x y c, X.env.cells.lookup x = some c → X.env.cells.lookup y = some c → x = y
  has : ∀ x, (X.env.kindOf x = some .cell ∨ X.env.kindOf x = some .free) → ∃ c, X.env.cells.lookup x = some c
  cab : ∀ x c, X.fn x = true → X.env.cells.lookup x = some c → X.s₀.heap.objs.size ≤ c
  hd : X.calm = true → X.A.handled = none
  frames : X.A.frames = some X.stack
  stk : X.stack = X.outer ∨ (X.stack = X.env :: X.outer ∧ X.env.frame = some X.env.locals)
  exf : ∀ b ∈ X.ex, b ≠ X.env.locals ∧ ∀ x c, X.env.cells.lookup x = some c → c ≠ b
  bs : ∀ b o, X.base.get? b = some o → X.s₀.heap.get? b = some o ∧ X.H₀ b = none
  bsz : X.base.objs.size ≤ X.s₀.heap.objs.size
  noex : ∀ b o, X.base.get? b = some o → b ∉ X.ex
  exfs : ∀ b ∈ X.ex, b ∉ X.fs
  funs : X.s₀.heap.FunFrames X.base X.outer
  frf : ∀ b ∈ X.fs, X.H₀ b = none

structure Inv (X : Cx) (pins : List (Addr × Obj)) (σ : List (Option V)) (H : Hp) (s : Shared) : Prop where
  ok : X.Ok
  os : s.os = X.s₀.os
  bare : AllBare s.gens
  base : Un X.fs X.ex X.H₀ H X.s₀.heap s.heap
  loc : ∃ m, s.heap.Ns X.env.locals m ∧ ∀ (i : Nat) (x : Str) (v : V), X.N[i]? = some x → σ[i]? = some (some v) → Vis X.env.scope x → ∃ u, RelV v u ∧ Look X.env s.heap m x u
  cell : ∀ x c, X.env.cells.lookup x = some c → ∃ v, s.heap.IsCell c v
  free : H X.env.locals = none
  freeC : ∀ x c, X.env.cells.lookup x = some c → H c = none
  pin : ∀ p ∈ X.pn ++ pins, s.heap.get? p.1 = some p.2 ∧ H p.1 = none ∧ p.1 ≠ X.env.locals ∧ p.1 ∉ X.fs ∧ ∀ v, p.2.data ≠ .cell v
  hok : HOk X.prog X.w H s.heap
  len : σ.length = X.N.length

section
variable {X : Cx} {pins : List (Addr × Obj)} {σ : List (Option V)} {H H' : Hp} {s : Shared} {h' : Heap}

theorem Cx.Ok.nofr (ok : X.Ok) {b : Addr} {o : Obj} (e : X.base.get? b = some o) : b ∉ X.fs := fun hb => by
  have := (ok.funs.mem hb).1
  rw [e] at this; cases this
theorem Inv.bs (I : Inv X pins σ H s) : ∀ b o, X.base.get? b = some o → s.heap.get? b = some o ∧ H b = none := fun b o e =>
  ⟨I.base.keep b o (I.ok.bs b o e).1 (I.ok.bs b o e).2 (I.ok.nofr e) (I.ok.noex b o e), I.base.free b o (I.ok.bs b o e).1 (I.ok.bs b o e).2 (I.ok.noex b o e)⟩
theorem Inv.bk (I : Inv X pins σ H s) : ∀ b o, X.base.get? b = some o → s.heap.get? b = some o := fun b o e => (I.bs b o e).1
theorem Inv.mod (I : Inv X pins σ H s) : Mod X.K X.mg X.base := I.ok.mod
theorem Inv.kIn (I : Inv X pins σ H s) : X.K.In s.heap := I.ok.mod.kin.keeps I.bk
theorem Inv.nolimit (I : Inv X pins σ H s) : s.heap.NoLimit := I.ok.mod.nolimit.keeps I.bk
theorem Inv.fr (I : Inv X pins σ H s) : ∃ m, Fr X.base X.env.locals s.heap m :=
  let ⟨m, hn, _⟩ := I.loc
  ⟨m, hn, I.bk, Nat.le_trans I.ok.bsz I.ok.above⟩
theorem Inv.lt (I : Inv X pins σ H s) : X.env.locals < s.heap.objs.size := let ⟨_, hn, _⟩ := I.loc; hn.lt
theorem Inv.sz (I : Inv X pins σ H s) : X.s₀.heap.objs.size ≤ s.heap.objs.size := Nat.le_trans I.ok.above (Nat.le_of_lt I.lt)
theorem Inv.nofs (I : Inv X pins σ H s) {a : Addr} (h : s.heap.objs.size ≤ a) : a ∉ X.fs := fun hb => by
  obtain ⟨_, o, ho, _⟩ := I.ok.funs.mem hb
  exact absurd (Nat.lt_of_lt_of_le (Heap.lt_size ho) (Nat.le_trans I.sz h)) (Nat.lt_irrefl _)
theorem Inv.cne (I : Inv X pins σ H s) : ∀ x c, X.env.cells.lookup x = some c → c ≠ X.env.locals := fun x c e z => by
  obtain ⟨v, o, ho, hd⟩ := I.cell x c e
  obtain ⟨m, ⟨o', es, ep, ho', hd', _⟩, _⟩ := I.loc
  rw [z, ho'] at ho; cases ho; rw [hd'] at hd; cases hd
theorem Inv.funs (I : Inv X pins σ H s) : s.heap.FunFrames X.base X.outer := by
  have all : ∀ (l : List Env), (∀ b ∈ frs l, b ∈ X.fs) → X.s₀.heap.FunFrames X.base l → s.heap.FunFrames X.base l := by
    intro l
    induction l with
    | nil => intro _ _; trivial
    | cons env r ih =>
      intro hs hl
      obtain ⟨hk, ⟨L, o, hf, hn, ho, hd⟩, hr⟩ := hl
      have hL : L ∈ X.fs := hs L (by unfold frs; rw [List.filterMap_cons, hf]; exact List.mem_cons_self)
      obtain ⟨sl, e⟩ := I.base.slot L o ho (I.ok.frf L hL) hL fun z => I.ok.exfs L z hL
      exact ⟨hk, ⟨L, _, hf, hn, e, hd⟩, ih (fun b hb => hs b (by unfold frs; rw [List.filterMap_cons, hf]; exact List.mem_cons_of_mem _ hb)) hr⟩
  exact all X.outer (fun _ hb => hb) I.ok.funs

theorem Inv.stack (I : Inv X pins σ H s) : s.heap.FunFrames X.base X.stack := by
  rcases I.ok.stk with e | ⟨e, hf⟩
  · rw [e]; exact I.funs
  · rw [e]
    obtain ⟨m, hn, _⟩ := I.loc
    refine .cons (by rw [I.ok.kind]; decide) hf hn ?_ I.funs
    exact Heap.get?_none_of_le (Nat.le_trans I.ok.bsz I.ok.above)
theorem Inv.stkSub (I : Inv X pins σ H s) : ∀ b ∈ frs X.stack, b ∈ X.env.locals :: X.fs := fun b hb => by
  rcases I.ok.stk with e | ⟨e, hf⟩
  · rw [e] at hb; exact List.mem_cons_of_mem _ hb
  · rw [e] at hb
    unfold frs at hb
    rw [List.filterMap_cons, hf] at hb
    exact hb
theorem Inv.stkFree (I : Inv X pins σ H s) : ∀ b ∈ frs X.stack, H b = none := fun b hb => by
  rcases List.mem_cons.mp (I.stkSub b hb) with e | hb
  · rw [e]; exact I.free
  · obtain ⟨_, o, ho, _⟩ := I.ok.funs.mem hb
    exact I.base.free b o ho (I.ok.frf b hb) fun z => I.ok.exfs b z hb

theorem Inv.step {g' : Array GenState} {t' : Nat} {d' : Drawn} {ch : List Addr} (I : Inv X pins σ H s)
    (hch : ∀ b ∈ ch, (b ∈ X.ex ∨ X.s₀.heap.objs.size ≤ b) ∧ b ≠ X.env.locals ∧ (∀ x c, X.env.cells.lookup x = some c → c ≠ b) ∧ ∀ p ∈ X.pn ++ pins, p.1 ≠ b)
    (keep : ∀ b o, b ≠ X.env.locals → b ∉ X.fs → b ∉ ch → s.heap.get? b = some o → H b = none → h'.get? b = some o)
    (slot : ∀ b o, b ≠ X.env.locals → b ∈ X.fs → b ∉ ch → s.heap.get? b = some o → H b = none → ∃ sl, h'.get? b = some { o with slots := sl }) (free : ∀ b o, b ∉ ch → s.heap.get? b = some o → H b = none → H' b = none)
    (there : ∀ b o, b ∉ ch → s.heap.get? b = some o → ∃ o', h'.get? b = some o')
    (tups : ∀ b xs, H b = some (.tup xs) → H' b = some (.tup xs)) (frzs : ∀ b o u, H b = some (.frz o u) → H' b = some (.frz o u)) (tbls : ∀ b ps, H b = some (.tbl ps) → ∃ more, H' b = some (.tbl (ps ++ more)))
    (ns : ∀ m, s.heap.Ns X.env.locals m → h'.Ns X.env.locals m) (hok : HOk X.prog X.w H' h') (hg : AllBare g') :
    Inv X pins σ H' { s with heap := h', gens := g', drawn := d', toks := t' } := by
  have neL : ∀ b o, X.s₀.heap.get? b = some o → b ≠ X.env.locals := fun b o e => Nat.ne_of_lt (Nat.lt_of_lt_of_le (Heap.lt_size e) I.ok.above)
  have neC : ∀ b o, X.s₀.heap.get? b = some o → b ∉ X.ex → b ∉ ch := fun b o e hx hb => by
    rcases (hch b hb).1 with z | z
    · exact hx z
    · exact absurd (Nat.lt_of_lt_of_le (Heap.lt_size e) z) (Nat.lt_irrefl _)
  have cellK : ∀ x c, X.env.cells.lookup x = some c → ∀ v, s.heap.IsCell c v → h'.IsCell c v := fun x c e v ⟨o, ho, hd⟩ => by
    have nch : c ∉ ch := fun z => (hch c z).2.2.1 x c e rfl
    by_cases hc : c ∈ X.fs
    · obtain ⟨sl, q⟩ := slot c o (I.cne x c e) hc nch ho (I.freeC x c e)
      exact ⟨_, q, hd⟩
    · exact ⟨o, keep c o (I.cne x c e) hc nch ho (I.freeC x c e), hd⟩
  refine ⟨I.ok, I.os, hg, ⟨fun b o e n hb hx => ?_, fun b o e n hb hx => ?_, fun b o e n hx => ?_, fun b o e hx => ?_, fun b xs e => tups b xs (I.base.tups b xs e), fun b o xs e => frzs b o xs (I.base.frzs b o xs e), fun b ps e => ?_⟩, ?_, fun x c e => ?_, ?_, fun x c e => ?_, fun p hp => ?_, hok, I.len⟩
  · exact keep b o (neL b o e) hb (neC b o e hx) (I.base.keep b o e n hb hx) (I.base.free b o e n hx)
  · obtain ⟨sl, e1⟩ := I.base.slot b o e n hb hx
    obtain ⟨sl', e2⟩ := slot b _ (neL b o e) hb (neC b o e hx) e1 (I.base.free b o e n hx)
    exact ⟨sl', e2⟩
  · obtain ⟨o', e1⟩ := I.base.there b o e hx
    exact free b o' (neC b o e hx) e1 (I.base.free b o e n hx)
  · obtain ⟨o', e1⟩ := I.base.there b o e hx
    exact there b o' (neC b o e hx) e1
  · obtain ⟨m1, e1⟩ := I.base.tbls b ps e
    obtain ⟨m2, e2⟩ := tbls b _ e1
    exact ⟨m1 ++ m2, by rw [e2, Array.append_assoc]⟩
  · obtain ⟨m, hn, hl⟩ := I.loc
    refine ⟨m, ns m hn, fun i x v e1 e2 e3 => ?_⟩
    obtain ⟨u, r, l⟩ := hl i x v e1 e2 e3
    refine ⟨u, r, ?_⟩
    rcases l with l | ⟨k, c, e, z⟩
    · exact .inl l
    · exact .inr ⟨k, c, e, cellK x c e _ z⟩
  · obtain ⟨v, z⟩ := I.cell x c e
    exact ⟨v, cellK x c e v z⟩
  · obtain ⟨m, ⟨o, _, _, ho, _⟩, _⟩ := I.loc
    exact free _ o (fun z => (hch _ z).2.1 rfl) ho I.free
  · obtain ⟨v, o, ho, hd⟩ := I.cell x c e
    exact free c o (fun z => (hch c z).2.2.1 x c e rfl) ho (I.freeC x c e)
  · obtain ⟨e, n, ne, nf, d⟩ := I.pin p hp
    have nch : p.1 ∉ ch := fun z => (hch p.1 z).2.2.2 p hp rfl
    exact ⟨keep p.1 p.2 ne nf nch e n, free p.1 p.2 nch e n, ne, nf, d⟩
theorem Inv.un {t' : Nat} (I : Inv X pins σ H s) (u : Un X.fs [] H H' s.heap h') (hok : HOk X.prog X.w H' h') : Inv X pins σ H' { s with heap := h', toks := t' } := by
  obtain ⟨m, ⟨o, es, ep, ho, r⟩, _⟩ := id I.loc
  obtain ⟨sl, hL⟩ := u.any ho I.free (by simp)
  exact I.step (g' := s.gens) (d' := s.drawn) (ch := []) (fun _ z => nomatch z) (fun b o _ hb _ e n => u.keep b o e n hb (by simp)) (fun b o _ hb _ e n => u.slot b o e n hb (by simp)) (fun b o _ e n => u.free b o e n (by simp)) (fun b o _ e => u.there b o e (by simp)) u.tups u.frzs u.tbls (fun m' hm => by
    obtain ⟨o', es', ep', ho', r'⟩ := hm
    rw [ho] at ho'; cases ho'
    exact ⟨_, es', ep', hL, r'⟩) hok I.bare
theorem Inv.call {g' : Array GenState} {t' : Nat} {d' : Drawn} {ch : List Addr} (I : Inv X pins σ H s) (u : Un (frs X.stack) ch H H' s.heap h') (hok : HOk X.prog X.w H' h') (hg : AllBare g')
    (hch : ∀ b ∈ ch, (b ∈ X.ex ∨ X.s₀.heap.objs.size ≤ b) ∧ b ≠ X.env.locals ∧ (∀ x c, X.env.cells.lookup x = some c → c ≠ b) ∧ ∀ p ∈ X.pn ++ pins, p.1 ≠ b) :
    Inv X pins σ H' { s with heap := h', gens := g', drawn := d', toks := t' } := by
  obtain ⟨m, ⟨o, es, ep, ho, r⟩, _⟩ := id I.loc
  obtain ⟨sl, hL⟩ := u.any ho I.free fun z => (hch _ z).2.1 rfl
  exact I.step (ch := ch) hch (fun b o hL hb hc e n => u.keep b o e n (fun z => (List.mem_cons.mp (I.stkSub b z)).elim hL hb) hc) (fun b o _ _ hc e n => u.any e n hc) (fun b o hc e n => u.free b o e n hc) (fun b o hc e => u.there b o e hc) u.tups u.frzs u.tbls (fun m' hm => by
    obtain ⟨o', es', ep', ho', r'⟩ := hm
    rw [ho] at ho'; cases ho'
    exact ⟨_, es', ep', hL, r'⟩) hok hg
theorem Inv.turned {t' : Nat} {it : Addr} (I : Inv X pins σ H s) (k : ∀ b o, b ≠ it → s.heap.get? b = some o → h'.get? b = some o) (hn : H it = none) (hL : it ≠ X.env.locals)
    (h1 : it ∈ X.ex ∨ X.s₀.heap.objs.size ≤ it) (h2 : ∀ x c, X.env.cells.lookup x = some c → c ≠ it) (h3 : ∀ p ∈ X.pn ++ pins, p.1 ≠ it) : Inv X pins σ H { s with heap := h', toks := t' } := by
  have nit : ∀ b u, H b = some u → b ≠ it := fun b u e z => by rw [z, hn] at e; cases e
  refine I.step (g' := s.gens) (d' := s.drawn) (ch := [it]) (fun b hb => ?_) (fun b o _ _ hc e _ => k b o (fun z => hc (by simp [z])) e) (fun b o _ _ hc e _ => ⟨o.slots, k b o (fun z => hc (by simp [z])) e⟩) (fun _ _ _ _ n => n)
    (fun b o hc e => ⟨o, k b o (fun z => hc (by simp [z])) e⟩) (fun _ _ e => e) (fun _ _ _ e => e) (fun b ps e => ⟨#[], by rw [e]; simp⟩) (fun m hm => ?_) (fun b u e => ?_) I.bare
  · have e : b = it := by simpa using hb
    subst e
    exact ⟨h1, hL, h2, h3⟩
  · obtain ⟨o, es, ep, ho, r⟩ := hm
    exact ⟨o, es, ep, k _ o (Ne.symm hL) ho, r⟩
  · refine (I.hok b u e).stay (fun c v hc q => k c v ?_ q) (fun _ q => q) fun _ _ q => q
    rcases hc with z | z
    · rw [z]; exact nit b u e
    · exact nit c _ z
theorem Inv.tok (I : Inv X pins σ H s) (t : Nat) : Inv X pins σ H { s with toks := t } := I.un (h' := s.heap) (t' := t) Un.refl I.hok
theorem Inv.kept {t' : Nat} (I : Inv X pins σ H s) (k : ∀ b u, s.heap.get? b = some u → h'.get? b = some u) : Inv X pins σ H { s with heap := h', toks := t' } := I.un (Un.kept k) (I.hok.kept k)
theorem Inv.laid {a : Addr} {o : HO} {t' : Nat} (I : Inv X pins σ H s) (k : ∀ b u, s.heap.get? b = some u → h'.get? b = some u) (hp : s.heap.objs.size ≤ a) (new : ObjOk X.prog X.w (upd H a o) h' a o) :
    Inv X pins σ (upd H a o) { s with heap := h', toks := t' } := I.un (Un.laid k hp (I.hok.fresh hp)) (I.hok.laid k hp new)
theorem Inv.write {x e : Addr} {o : HO} {t' : Nat} (I : Inv X pins σ H s) (mu : Mut (H x)) (he : e = x ∨ H e = some (.own x)) (k : ∀ b u, b ≠ e → s.heap.get? b = some u → h'.get? b = some u) (heo : ∃ u, h'.get? e = some u)
    (new : ObjOk X.prog X.w (upd H x o) h' x o) : Inv X pins σ (upd H x o) { s with heap := h', toks := t' } := I.un (Un.write mu he k heo) (I.hok.write mu he k heo new)
theorem Inv.weak {σ' : List (Option V)} (I : Inv X pins σ H s) (hl : σ'.length = σ.length) (w : ∀ (i : Nat) v, σ'[i]? = some (some v) → σ[i]? = some (some v)) : Inv X pins σ' H s :=
  ⟨I.ok, I.os, I.bare, I.base, let ⟨m, hn, hl'⟩ := I.loc; ⟨m, hn, fun i x v e1 e2 e3 => hl' i x v e1 (w i v e2) e3⟩, I.cell, I.free, I.freeC, I.pin, I.hok, hl.trans I.len⟩
theorem Inv.pins_of {pins' : List (Addr × Obj)} (I : Inv X pins σ H s) (h : ∀ p ∈ pins', s.heap.get? p.1 = some p.2 ∧ H p.1 = none ∧ p.1 ≠ X.env.locals ∧ p.1 ∉ X.fs ∧ ∀ v, p.2.data ≠ .cell v) : Inv X pins' σ H s :=
  ⟨I.ok, I.os, I.bare, I.base, I.loc, I.cell, I.free, I.freeC, fun p hp => (List.mem_append.mp hp).elim (fun z => I.pin p (List.mem_append_left _ z)) (h p), I.hok, I.len⟩

theorem nodup_ix {N : List Str} (hN : N.Nodup) {i j : Nat} {x : Str} (a : N[i]? = some x) (b : N[j]? = some x) : i = j := by
  obtain ⟨h1, e1⟩ := List.getElem?_eq_some_iff.mp a
  obtain ⟨h2, e2⟩ := List.getElem?_eq_some_iff.mp b
  exact (List.getElem_inj hN).mp (e1.trans e2.symm)

theorem store_ok2 {M : Model} {A : Around} {E : Value → Shared → Prop} {i : Nat} {x : Str} {v : V} {u : Value} {Q : Unit → Shared → Prop} (I : Inv X pins σ H s) (hN : X.N.Nodup) (hi : X.N[i]? = some x) (hx : Loc X.env.scope x) (r : RelV v u)
    (h : ∀ s', Inv X pins (σ.set i (some v)) H s' → (∃ a, Heap.SameBut a s.heap s'.heap ∧ (a = X.env.locals ∨ X.env.cells.lookup x = some a)) → Q () s') (hf : X.fn x = true ∨ X.env.scope.names.lookup x = some .local := by first | exact .inl rfl | exact .inr rfl | assumption) : wpAny M A (storeName X.env x u) Q E s := by
  obtain ⟨m, hn, hl⟩ := id I.loc
  have hcls : (X.env.scope.kind == .class || (X.env.scope.kind == .module && X.env.locals != X.env.globals)) = false := by rw [I.ok.kind]; rfl
  have hiσ : i < σ.length := by rw [I.len]; exact (List.getElem?_eq_some_iff.mp hi).1
  have cne := I.cne
  have tracked : ∀ {a : Addr} {h' : Heap}, (∃ o, s.heap.get? a = some o ∧ H a = none) → Heap.SameBut a s.heap h' → HOk X.prog X.w H h' := fun {a h'} ha hs b ob e => by
    obtain ⟨_, _, hfree⟩ := ha
    refine (I.hok b ob e).stay (fun c w' hc q => (hs.2 c ?_).trans q) (fun _ q => q) fun _ _ q => q
    rintro rfl
    rcases hc with rfl | hc
    · rw [hfree] at e; cases e
    · rw [hfree] at hc; cases hc
  rcases hx with hk | hk
  · refine wpAny_storeName_local hk hn (fun h' hn' hs => ?_) hcls
    obtain ⟨oL, _, _, hoL, _⟩ := id hn
    refine h _ ⟨I.ok, I.os, I.bare, ⟨fun b o e n hb hx => ?_, fun b o e n hb hx => ?_, I.base.free, fun b o e hx => ?_, I.base.tups, I.base.frzs, I.base.tbls⟩, ⟨_, hn', fun j y v' e1 e2 e3 => ?_⟩, fun y c e => ?_, I.free, I.freeC, fun p hp => ?_, tracked ⟨oL, hoL, I.free⟩ hs, by simpa using I.len⟩ ⟨_, hs, .inl rfl⟩
    · exact (hs.2 b (Nat.ne_of_lt (Nat.lt_of_lt_of_le (Heap.lt_size e) I.ok.above))).trans (I.base.keep b o e n hb hx)
    · obtain ⟨sl, e1⟩ := I.base.slot b o e n hb hx
      exact ⟨sl, (hs.2 b (Nat.ne_of_lt (Nat.lt_of_lt_of_le (Heap.lt_size e) I.ok.above))).trans e1⟩
    · obtain ⟨o', e1⟩ := I.base.there b o e hx
      exact ⟨o', (hs.2 b (Nat.ne_of_lt (Nat.lt_of_lt_of_le (Heap.lt_size e) I.ok.above))).trans e1⟩
    · by_cases hj : j = i
      · subst hj
        rw [hi] at e1; cases e1
        rw [List.getElem?_set_self hiσ] at e2
        cases e2
        exact ⟨u, r, .inl ⟨hk, by simp⟩⟩
      · rw [List.getElem?_set_ne (Ne.symm hj)] at e2
        obtain ⟨u', r', q⟩ := hl j y v' e1 e2 e3
        refine ⟨u', r', ?_⟩
        rcases q with ⟨k, e⟩ | ⟨k, c, e, z⟩
        · refine .inl ⟨k, ?_⟩
          have : y ≠ x := fun e => hj (nodup_ix hN e1 (e ▸ hi))
          simp [this, e]
        · exact .inr ⟨k, c, e, z.sameBut hs (cne y c e)⟩
    · obtain ⟨w', z⟩ := I.cell y c e
      exact ⟨w', z.sameBut hs (cne y c e)⟩
    · obtain ⟨e, n, ne, nf, d⟩ := I.pin p hp
      exact ⟨(hs.2 p.1 ne).trans e, n, ne, nf, d⟩
  · have hfn : X.fn x = true := by
      rcases hf with z | z
      · exact z
      · rw [z] at hk; cases hk
    obtain ⟨c, hc⟩ := I.ok.has x (.inl hk)
    obtain ⟨w', z⟩ := I.cell x c hc
    refine wpAny_storeName_cell I.ok.kind hk hc z (fun h' hc' hs => ?_)
    obtain ⟨oc, hoc, hocd⟩ := id z
    refine h { s with heap := h' } ⟨I.ok, I.os, I.bare, ⟨fun b o e n hb hx => ?_, fun b o e n hb hx => ?_, I.base.free, fun b o e hx => ?_, I.base.tups, I.base.frzs, I.base.tbls⟩, ⟨m, hn.sameBut hs (Ne.symm (cne x c hc)), fun j y v' e1 e2 e3 => ?_⟩, fun y c' e => ?_, I.free, I.freeC, fun p hp => ?_, tracked ⟨oc, hoc, I.freeC x c hc⟩ hs, by simpa using I.len⟩ ⟨c, hs, .inr hc⟩
    · exact (hs.2 b (Nat.ne_of_lt (Nat.lt_of_lt_of_le (Heap.lt_size e) (I.ok.cab x c hfn hc)))).trans (I.base.keep b o e n hb hx)
    · obtain ⟨sl, e1⟩ := I.base.slot b o e n hb hx
      exact ⟨sl, (hs.2 b (Nat.ne_of_lt (Nat.lt_of_lt_of_le (Heap.lt_size e) (I.ok.cab x c hfn hc)))).trans e1⟩
    · obtain ⟨o', e1⟩ := I.base.there b o e hx
      exact ⟨o', (hs.2 b (Nat.ne_of_lt (Nat.lt_of_lt_of_le (Heap.lt_size e) (I.ok.cab x c hfn hc)))).trans e1⟩
    · by_cases hj : j = i
      · subst hj
        rw [hi] at e1; cases e1
        rw [List.getElem?_set_self hiσ] at e2
        cases e2
        exact ⟨u, r, .inr ⟨.inl hk, c, hc, hc'⟩⟩
      · rw [List.getElem?_set_ne (Ne.symm hj)] at e2
        obtain ⟨u', r', q⟩ := hl j y v' e1 e2 e3
        refine ⟨u', r', ?_⟩
        rcases q with q | ⟨k, c', e, z'⟩
        · exact .inl q
        · refine .inr ⟨k, c', e, z'.sameBut hs ?_⟩
          rintro rfl
          exact hj (nodup_ix hN e1 (I.ok.inj _ _ _ e hc ▸ hi))
    · by_cases hcc : c' = c
      · subst hcc; exact ⟨_, hc'⟩
      · obtain ⟨w2, z2⟩ := I.cell y c' e
        exact ⟨w2, z2.sameBut hs hcc⟩
    · obtain ⟨e, n, ne, nf, d⟩ := I.pin p hp
      refine ⟨(hs.2 p.1 ?_).trans e, n, ne, nf, d⟩
      intro q
      rw [q, hoc] at e
      have q' : oc = p.2 := Option.some.inj e
      exact d w' (by rw [← q']; exact hocd)
theorem store_ok {M : Model} {A : Around} {E : Value → Shared → Prop} {i : Nat} {x : Str} {v : V} {u : Value} {Q : Unit → Shared → Prop} (I : Inv X pins σ H s) (hN : X.N.Nodup) (hi : X.N[i]? = some x) (hx : Loc X.env.scope x) (r : RelV v u)
    (h : ∀ s', Inv X pins (σ.set i (some v)) H s' → Q () s') (hf : X.fn x = true ∨ X.env.scope.names.lookup x = some .local := by first | exact .inl rfl | exact .inr rfl | assumption) : wpAny M A (storeName X.env x u) Q E s :=
  store_ok2 I hN hi hx r (fun s' I' _ => h s' I') hf
theorem Inv.call' {s' : Shared} {ch : List Addr} (I : Inv X pins σ H s) (ho : s'.os = s.os) (u : Un (frs X.stack) ch H H' s.heap s'.heap) (hok : HOk X.prog X.w H' s'.heap) (hg : AllBare s'.gens)
    (hch : ∀ b ∈ ch, (b ∈ X.ex ∨ X.s₀.heap.objs.size ≤ b) ∧ b ≠ X.env.locals ∧ (∀ x c, X.env.cells.lookup x = some c → c ≠ b) ∧ ∀ p ∈ X.pn ++ pins, p.1 ≠ b) : Inv X pins σ H' s' := by
  obtain ⟨h', g', d', t', o'⟩ := s'
  have e : o' = s.os := ho
  subst e
  exact I.call (g' := g') (t' := t') (d' := d') u hok hg hch
end

abbrev XK := Value → Option Addr → Hp → Prop
abbrev St := List (Option V)
abbrev VK := V → Hp → Prop
abbrev TE := St → Hp → VK → Prop
abbrev TT := St → Hp → (Bool → Hp → Prop) → Prop
abbrev TA := St → Hp → (List V → Hp → Prop) → Prop
structure Ends where
  nx : St → Hp → Prop
  rt : VK
  bk : St → Hp → Prop := fun _ _ => False
  ct : St → Hp → Prop := fun _ _ => False
abbrev TS := Ends → St → Hp → Prop

def EP (X : Cx) (pins : List (Addr × Obj)) (σ : St) (Q : VK) (u : Value) (s' : Shared) : Prop := ∃ v H', Inv X pins σ H' s' ∧ RelV v u ∧ Q v H'
def TP (X : Cx) (pins : List (Addr × Obj)) (σ : St) (Q : Bool → Hp → Prop) (b : Bool) (s' : Shared) : Prop := ∃ H', Inv X pins σ H' s' ∧ Q b H'
def AP (X : Cx) (pins : List (Addr × Obj)) (σ : St) (Q : List V → Hp → Prop) (us : List Value) (s' : Shared) : Prop := ∃ vs H', Inv X pins σ H' s' ∧ Vals vs us ∧ Q vs H'
def SP (X : Cx) (pins : List (Addr × Obj)) (D : Ends) (f : Flow) (s' : Shared) : Prop :=
  match f with
  | .next => ∃ σ' H', Inv X pins σ' H' s' ∧ D.nx σ' H'
  | .brk => ∃ σ' H', Inv X pins σ' H' s' ∧ D.bk σ' H'
  | .cont => ∃ σ' H', Inv X pins σ' H' s' ∧ D.ct σ' H'
  | .ret u => ∃ v σ' H', Inv X pins σ' H' s' ∧ RelV v u ∧ D.rt v H'

def PE (X : Cx) (e : Expr) (t : TE) : Prop :=
  ∀ (pins : List (Addr × Obj)) (s : Shared) (σ : St) (H : Hp) (Q : VK), Inv X pins σ H s → t σ H Q → wpAny (model X.prog X.w) X.A (eval e X.env) (EP X pins σ Q) X.xe s
def PT (X : Cx) (e : Expr) (t : TT) : Prop :=
  ∀ (pins : List (Addr × Obj)) (s : Shared) (σ : St) (H : Hp) (Q : Bool → Hp → Prop), Inv X pins σ H s → t σ H Q → wpAny (model X.prog X.w) X.A (isTrue e X.env (eval e X.env)) (TP X pins σ Q) X.xe s
def PW (X : Cx) (e : Expr) (t : TT) : Prop :=
  ∀ (whole : Sem Value) (pins : List (Addr × Obj)) (s : Shared) (σ : St) (H : Hp) (Q : Bool → Hp → Prop), Inv X pins σ H s → t σ H Q → wpAny (model X.prog X.w) X.A (isTrue e X.env whole) (TP X pins σ Q) X.xe s
theorem PW.pt {X : Cx} {e : Expr} {t : TT} (h : PW X e t) : PT X e t := h _
def PA (X : Cx) (es : List Expr) (t : TA) : Prop :=
  ∀ (pos : Pos) (pins : List (Addr × Obj)) (s : Shared) (σ : St) (H : Hp) (Q : List V → Hp → Prop), Inv X pins σ H s → t σ H Q → wpAny (model X.prog X.w) X.A (spliced (backTo pos (starEach es X.env))) (AP X pins σ Q) X.xe s
def PS (X : Cx) (st : Stmt) (t : TS) : Prop :=
  ∀ (pins : List (Addr × Obj)) (s : Shared) (σ : St) (H : Hp) (D : Ends), Inv X pins σ H s → t D σ H → wpAny (model X.prog X.w) X.A (exec st X.env) (SP X pins D) X.xe s
def PSs (X : Cx) (st : List Stmt) (t : TS) : Prop :=
  ∀ (pins : List (Addr × Obj)) (s : Shared) (σ : St) (H : Hp) (D : Ends), Inv X pins σ H s → t D σ H → wpAny (model X.prog X.w) X.A (execs st X.env) (SP X pins D) X.xe s
theorem thn {α : Type} {t : Sem α} {Q Q' : α → Shared → Prop} {M : Model} {A : Around} {E : Value → Shared → Prop} {s : Shared} (h : wpAny M A t Q E s) (hQ : ∀ a s, Q a s → Q' a s) : wpAny M A t Q' E s := wpAny_mono h hQ fun _ _ x => x
end L2

namespace L2
open PySem PySem.Spec PyProof.Rows
section
variable {X : Cx}

def tVar (i : Nat) : TE := fun σ H Q => ∃ v, σ[i]? = some (some v) ∧ Q v H
def tC (v : V) : TE := fun _ H Q => Q v H
theorem pe_var {i : Nat} {x : Str} {pos : Pos} (hN : X.N[i]? = some x) (hv : Vis X.env.scope x) (hd : (x == ("__debug__" : Str)) = false := by decide) (hcd : (x == ("__classdict__" : Str)) = false := by decide) : PE X (.Name x pos) (tVar i) := by
  intro pins s σ H Q I h
  obtain ⟨v, e, h⟩ := h
  obtain ⟨m, hn, hl⟩ := I.loc
  obtain ⟨u, r, l⟩ := hl i x v hN e hv
  have fin : EP X pins σ Q u s := ⟨v, H, I, r, h⟩
  rcases l with ⟨hk, hm⟩ | ⟨hk, c, hc, hcell⟩
  · exact wpAny_Name (wpAny_loadName_local I.ok.kind hk hn hm fin) hd
  · rcases hk with hk | hk
    · exact wpAny_Name (wpAny_loadName_cell I.ok.kind hk hc hcell fin) hd
    · exact wpAny_Name (wpAny_loadName_free I.ok.kind hk hc hcell fin hcd) hd
theorem pe_int {i j pos} : PE X (.Constant (.int i) j pos) (tC (.int i)) := fun _ _ _ H _ I h => wpAny_Constant_int ⟨.int i, H, I.tok _, ⟨_, rfl⟩, h⟩
theorem pe_bl {b j pos} : PE X (.Constant (.bool b) j pos) (tC (.bl b)) := fun _ _ _ H _ I h => Constant_bool ⟨.bl b, H, I, rfl, h⟩
theorem pe_non {j pos} : PE X (.Constant .none j pos) (tC .non) := fun _ _ _ H _ I h => Constant_none ⟨.non, H, I, rfl, h⟩
theorem pe_str {x j pos} : PE X (.Constant (.str x) j pos) (tC (.str x)) := fun _ _ _ H _ I h => Calls.Constant_str ⟨.str x, H, I.tok _, ⟨_, rfl⟩, h⟩

def Gl (X : Cx) (x : Str) : Prop := X.env.kindOf x = some .globalImplicit
theorem ld_glob {E : Value → Shared → Prop} {pins : List (Addr × Obj)} {s : Shared} {σ : St} {H : Hp} {x : Str} {u : Value} {pos : Pos} {Q : Value → Shared → Prop} (I : Inv X pins σ H s) (hg : Gl X x) (hm : X.mg x = some u) (h : Q u s)
    (hd : (x == ("__debug__" : Str)) = false := by decide) : wpAny (model X.prog X.w) X.A (eval (.Name x pos) X.env) Q E s :=
  Calls.Name_function_global I.ok.kind hg (Calls.loadGlobal_global (by rw [I.ok.glob]; exact I.mod.glob.keeps I.bk) hm h) hd
theorem ld_blt {E : Value → Shared → Prop} {pins : List (Addr × Obj)} {s : Shared} {σ : St} {H : Hp} {x : Str} {u : Value} {pos : Pos} {Q : Value → Shared → Prop} (I : Inv X pins σ H s) (hg : Gl X x) (hm : X.mg x = none) (hv : bootBuiltins x = some u) (h : Q u s)
    (hn : x ≠ "__name__" := by decide) (hd : (x == ("__debug__" : Str)) = false := by decide) : wpAny (model X.prog X.w) X.A (eval (.Name x pos) X.env) Q E s := by
  obtain ⟨mb, h1, h2⟩ := I.mod.blt
  exact Calls.Name_function_global I.ok.kind hg (Calls.loadGlobal_builtin (by rw [I.ok.glob]; exact I.mod.glob.keeps I.bk) hm (by rw [I.ok.blt]; exact h1.keeps I.bk) ((h2 x hn).trans hv) h) hd
theorem pe_glob {x : Str} {v : V} {u : Value} {pos : Pos} (hg : Gl X x) (hm : X.mg x = some u) (r : RelV v u) (hd : (x == ("__debug__" : Str)) = false := by decide) : PE X (.Name x pos) (tC v) :=
  fun _ _ _ H _ I h => ld_glob I hg hm ⟨v, H, I, r, h⟩ hd
theorem pe_bltn {x : Str} {v : V} {u : Value} {pos : Pos} (hg : Gl X x) (hm : X.mg x = none) (hv : bootBuiltins x = some u) (r : RelV v u) (hn : x ≠ "__name__" := by decide) (hd : (x == ("__debug__" : Str)) = false := by decide) : PE X (.Name x pos) (tC v) :=
  fun _ _ _ H _ I h => ld_blt I hg hm hv ⟨v, H, I, r, h⟩ hn hd

variable {a b : Expr} {ta tb : TE} {pos : Pos}
def PC (X : Cx) (op : CmpOp) (a b : Expr) (t : TE) : Prop :=
  ∀ (pins : List (Addr × Obj)) (s : Shared) (σ : St) (H : Hp) (Q : VK), Inv X pins σ H s → t σ H Q →
    wpAny (model X.prog X.w) X.A (eval a X.env) (fun v s₁ => wpAny (model X.prog X.w) X.A (eval b X.env) (fun u s₂ => wpAny (model X.prog X.w) X.A (compareOp op v u) (EP X pins σ Q) X.xe s₂) X.xe s₁) X.xe s
theorem nobehind (b : Expr) {op : CmpOp} (h : op ≠ .In) (h2 : op ≠ .NotIn) : behindInMarks op b = false := by
  have e1 : (op == CmpOp.In) = false := by cases op <;> first | rfl | exact absurd rfl h
  have e2 : (op == CmpOp.NotIn) = false := by cases op <;> first | rfl | exact absurd rfl h2
  cases b <;> simp [behindInMarks, e1, e2]
def tB (t : TE) : TT := fun σ H Q => t σ H fun x H1 => ∃ c, x = .bl c ∧ Q c H1
theorem pt_cmp {op : CmpOp} {t : TE} (h : PC X op a b t) (h1 : behindInMarks op b = false := by first | exact nobehind _ (by decide) (by decide) | rfl) : PT X (.Compare a [op] [b] pos) (tB t) := by
  intro pins s σ H Q I hw
  refine wpAny_isTrue_Compare1 (thn (h pins s σ H _ I hw) fun v s1 h1 => thn h1 fun u s2 h2 => thn h2 fun c s3 ⟨x, H1, I1, r1, q1⟩ => ?_) h1
  obtain ⟨d, rfl, q⟩ := q1
  cases r1
  exact wpAny_truthy_bool ⟨H1, I1, q⟩
theorem pt_val {e : Expr} {t : TE} (h : PE X e t) (he : ∀ whole, isTrue e X.env whole = (do let v ← whole; standAt e.pos; holding [v] (truthy v)) := by intro _; rfl) : PT X e (tB t) := by
  intro pins s σ H Q I hw
  refine isTrue_plain (thn (h pins s σ H _ I hw) fun v s1 ⟨x, H1, I1, r1, q1⟩ => ?_) (he _)
  obtain ⟨d, rfl, q⟩ := q1
  cases r1
  exact wpAny_truthy_bool ⟨H1, I1, q⟩

variable {tA tB' : TT} {rest : List Expr}
def tAnd (t u : TT) : TT := fun σ H Q => t σ H fun c H1 => if c = true then u σ H1 Q else Q false H1
def tOr (t u : TT) : TT := fun σ H Q => t σ H fun c H1 => if c = true then Q true H1 else u σ H1 Q
def tNot (t : TT) : TT := fun σ H Q => t σ H fun c H1 => Q (!c) H1
theorem pw_and1 (ha : PT X a tA) : PW X (.BoolOp .And [a] pos) tA := by
  intro wh pins s σ H Q I h
  refine isTrue_and (thn (ha pins s σ H Q I h) fun c s1 e => ?_)
  cases c with
  | true => exact isTrue_and_nil e
  | false => exact e
theorem pw_or1 (ha : PT X a tA) : PW X (.BoolOp .Or [a] pos) tA := by
  intro wh pins s σ H Q I h
  refine isTrue_or (thn (ha pins s σ H Q I h) fun c s1 e => ?_)
  cases c with
  | false => exact isTrue_or_nil e
  | true => exact e
theorem pw_and (ha : PT X a tA) (hb : PW X (.BoolOp .And (b :: rest) pos) tB') : PW X (.BoolOp .And (a :: b :: rest) pos) (tAnd tA tB') := by
  intro wh pins s σ H Q I h
  refine isTrue_and (thn (ha pins s σ H _ I h) fun c s1 ⟨H1, I1, q1⟩ => ?_)
  cases c with
  | true => exact hb wh pins s1 σ H1 Q I1 q1
  | false => exact ⟨H1, I1, q1⟩
theorem pw_or (ha : PT X a tA) (hb : PW X (.BoolOp .Or (b :: rest) pos) tB') : PW X (.BoolOp .Or (a :: b :: rest) pos) (tOr tA tB') := by
  intro wh pins s σ H Q I h
  refine isTrue_or (thn (ha pins s σ H _ I h) fun c s1 ⟨H1, I1, q1⟩ => ?_)
  cases c with
  | true => exact ⟨H1, I1, q1⟩
  | false => exact hb wh pins s1 σ H1 Q I1 q1
theorem pt_not (ha : PT X a tA) : PT X (.UnaryOp .Not a pos) (tNot tA) := by
  intro pins s σ H Q I h
  exact isTrue_not (ha pins s σ H (fun c H1 => Q (!c) H1) I h)
def tAndV (ta tb : TE) : TE := fun σ H Q => ta σ H fun x H1 => ∃ c, x = .bl c ∧ if c = true then tb σ H1 Q else Q (.bl false) H1
def tOrV (ta tb : TE) : TE := fun σ H Q => ta σ H fun x H1 => ∃ c, x = .bl c ∧ if c = true then Q (.bl true) H1 else tb σ H1 Q
theorem pe_one {op} {t : TE} (h : PE X a t) : PE X (.BoolOp op [a] pos) t := fun pins s σ H Q I hw => BoolOp_one (h pins s σ H Q I hw)
theorem pe_and (ha : PE X a ta) (hb : PE X (.BoolOp .And (b :: rest) pos) tb) : PE X (.BoolOp .And (a :: b :: rest) pos) (tAndV ta tb) := by
  intro pins s σ H Q I h
  refine BoolOp_and (thn (ha pins s σ H _ I h) fun v s1 ⟨x, H1, I1, r1, q1⟩ => ?_)
  obtain ⟨c, rfl, q1⟩ := q1
  cases r1
  refine wpAny_truthy_bool ?_
  cases c with
  | true => exact hb pins s1 σ H1 Q I1 q1
  | false => exact ⟨.bl false, H1, I1, rfl, q1⟩
theorem pe_or (ha : PE X a ta) (hb : PE X (.BoolOp .Or (b :: rest) pos) tb) : PE X (.BoolOp .Or (a :: b :: rest) pos) (tOrV ta tb) := by
  intro pins s σ H Q I h
  refine BoolOp_or (thn (ha pins s σ H _ I h) fun v s1 ⟨x, H1, I1, r1, q1⟩ => ?_)
  obtain ⟨c, rfl, q1⟩ := q1
  cases r1
  refine wpAny_truthy_bool ?_
  cases c with
  | false => exact hb pins s1 σ H1 Q I1 q1
  | true => exact ⟨.bl true, H1, I1, rfl, q1⟩
end
end L2

namespace L2
open PySem PySem.Spec PyProof.Rows

def SqL (K : PySem.W.Frag) (H : Hp) (a : Addr) (xs : List V) : Prop :=
  Rd H a (.lst xs) ∨
    ∃ (o : Obj) (its : Array Value) (n : Nat), K.lookup a = some o ∧ o.cls = .type "list" ∧ o.dict = none ∧ o.data = .seq its n ∧ its.size ≤ sizeLine ∧ Vals xs its.toList
def SqT (K : PySem.W.Frag) (H : Hp) (a : Addr) (xs : List V) : Prop :=
  Rd H a (.tup xs) ∨
    ∃ (o : Obj) (its : Array Value) (n : Nat), K.lookup a = some o ∧ o.cls = .type "tuple" ∧ o.data = .seq its n ∧ its.size ≤ sizeLine ∧ Vals xs its.toList
def absV : Value → Option V
  | .none => some .non
  | .bool b => some (.bl b)
  | .int i _ => some (.int i)
  | .str x _ => some (.str x)
  | .bytes b _ => some (.byt b)
  | .float b _ => some (.flt b)
  | .ref a => some (.ref a)
  | .type n => some (.ty n)
  | _ => none
theorem RelV.abs {x : V} {u : Value} (r : RelV x u) : absV u = some x := by
  cases x with
  | non => cases r; rfl
  | bl _ => cases r; rfl
  | int _ => obtain ⟨t, rfl⟩ := r; rfl
  | str _ => obtain ⟨t, rfl⟩ := r; rfl
  | byt _ => obtain ⟨t, rfl⟩ := r; rfl
  | flt _ => obtain ⟨t, rfl⟩ := r; rfl
  | ref _ => cases r; rfl
  | ty _ => cases r; rfl
theorem RelV.inj {x y : V} {u : Value} (r : RelV x u) (q : RelV y u) : x = y := Option.some.inj (r.abs.symm.trans q.abs)
theorem Vals.inj : ∀ {xs ys : List V} {us : List Value}, Vals xs us → Vals ys us → xs = ys
  | _, _, _, .nil, .nil => rfl
  | _, _, _, .cons r t, .cons r' t' => by rw [r.inj r', Vals.inj t t']
section
variable {X : Cx} {pins : List (Addr × Obj)} {σ : St} {H : Hp} {s : Shared} {a : Addr} {xs ys : List V}
theorem SqL.of {K : PySem.W.Frag} (h : H a = some (.lst xs)) : SqL K H a xs := .inl (.inl h)
theorem SqT.of {K : PySem.W.Frag} (h : H a = some (.tup xs)) : SqT K H a xs := .inl (.inl h)
theorem Inv.list (I : Inv X pins σ H s) (h : SqL X.K H a xs) : ∃ its : List Value, Vals xs its ∧ PlainL s.heap a its.toArray ∧ xs.length ≤ sizeLine := by
  rcases h with h | ⟨o, its, n, hk, hc, hd, hs, hz, r⟩
  · obtain ⟨z, its, n, r, e⟩ := h.ok I.hok
    exact ⟨its, r, ⟨_, n, e, rfl, rfl, rfl⟩, z⟩
  · refine ⟨its.toList, r, ⟨o, n, I.kIn a o hk, hc, hd, by simpa using hs⟩, ?_⟩
    have e := r.length
    simp only [Array.length_toList] at e
    omega
theorem Inv.tuple (I : Inv X pins σ H s) (h : SqT X.K H a xs) : ∃ its : List Value, Vals xs its ∧ IsTup s.heap a its.toArray ∧ xs.length ≤ sizeLine := by
  rcases h with h | ⟨o, its, n, hk, hc, hs, hz, r⟩
  · obtain ⟨z, its, r, p⟩ := h.ok I.hok
    exact ⟨its, r, p, z⟩
  · refine ⟨its.toList, r, ⟨o, I.kIn a o hk, hc, n, by simpa using hs⟩, ?_⟩
    have e := r.length
    simp only [Array.length_toList] at e
    omega
theorem Inv.list_inj (I : Inv X pins σ H s) (h : SqL X.K H a xs) (h' : SqL X.K H a ys) : xs = ys := by
  obtain ⟨its, r, ⟨o, n, e, _, _, d⟩, _⟩ := I.list h
  obtain ⟨its', r', ⟨o', n', e', _, _, d'⟩, _⟩ := I.list h'
  rw [e] at e'; cases e'
  rw [d] at d'
  injection d' with d1 _
  have : its = its' := by simpa using congrArg Array.toList d1
  subst this
  exact r.inj r'
theorem Inv.tuple_inj (I : Inv X pins σ H s) (h : SqT X.K H a xs) (h' : SqT X.K H a ys) : xs = ys := by
  obtain ⟨its, r, ⟨o, e, _, n, d⟩, _⟩ := I.tuple h
  obtain ⟨its', r', ⟨o', e', _, n', d'⟩, _⟩ := I.tuple h'
  rw [e] at e'; cases e'
  rw [d] at d'
  injection d' with d1 _
  have : its = its' := by simpa using congrArg Array.toList d1
  subst this
  exact r.inj r'
end

abbrev Cx.wish (X : Cx) (E : Value → Shared → Prop) : Cx := { X with xe := E }
abbrev Cx.nox (X : Cx) : Cx := X.wish fun _ _ => False
theorem Cx.Ok.wish {X : Cx} (ok : X.Ok) (E : Value → Shared → Prop) : (X.wish E).Ok :=
  ⟨ok.mod, ok.kind, ok.glob, ok.blt, ok.above, ok.inj, ok.has, ok.cab, ok.hd, ok.frames, ok.stk, ok.exf, ok.bs, ok.bsz, ok.noex, ok.exfs, ok.funs, ok.frf⟩
theorem Cx.Ok.unwish {X : Cx} {E : Value → Shared → Prop} (ok : (X.wish E).Ok) : X.Ok :=
  ⟨ok.mod, ok.kind, ok.glob, ok.blt, ok.above, ok.inj, ok.has, ok.cab, ok.hd, ok.frames, ok.stk, ok.exf, ok.bs, ok.bsz, ok.noex, ok.exfs, ok.funs, ok.frf⟩
section
variable {X : Cx} {pins : List (Addr × Obj)} {σ : St} {H : Hp} {s : Shared} {E : Value → Shared → Prop}
theorem Inv.wish (I : Inv X pins σ H s) (E : Value → Shared → Prop) : Inv (X.wish E) pins σ H s := ⟨I.ok.wish E, I.os, I.bare, I.base, I.loc, I.cell, I.free, I.freeC, I.pin, I.hok, I.len⟩
theorem Inv.unwish (I : Inv (X.wish E) pins σ H s) : Inv X pins σ H s := ⟨I.ok.unwish, I.os, I.bare, I.base, I.loc, I.cell, I.free, I.freeC, I.pin, I.hok, I.len⟩
theorem SP.unwish {D : Ends} {f : Flow} {s' : Shared} (h : SP (X.wish E) pins D f s') : SP X pins D f s' := by
  cases f with
  | next => obtain ⟨σ', H', I, q⟩ := h; exact ⟨σ', H', I.unwish, q⟩
  | brk => obtain ⟨σ', H', I, q⟩ := h; exact ⟨σ', H', I.unwish, q⟩
  | cont => obtain ⟨σ', H', I, q⟩ := h; exact ⟨σ', H', I.unwish, q⟩
  | ret u => obtain ⟨v, σ', H', I, r, q⟩ := h; exact ⟨v, σ', H', I.unwish, r, q⟩
theorem PE.nox {e : Expr} {t : TE} (h : PE X.nox e t) : PE X e t := fun pins s σ H Q I hw =>
  wpAny_mono (h pins s σ H Q (I.wish _) hw) (fun _ _ ⟨v, H', I', r, q⟩ => ⟨v, H', I'.unwish, r, q⟩) fun _ _ z => False.elim z
theorem PT.nox {e : Expr} {t : TT} (h : PT X.nox e t) : PT X e t := fun pins s σ H Q I hw =>
  wpAny_mono (h pins s σ H Q (I.wish _) hw) (fun _ _ ⟨H', I', q⟩ => ⟨H', I'.unwish, q⟩) fun _ _ z => False.elim z
theorem PSs.nox {st : List Stmt} {t : TS} (h : PSs X.nox st t) : PSs X st t := fun pins s σ H D I hw =>
  wpAny_mono (h pins s σ H D (I.wish _) hw) (fun _ _ q => q.unwish) fun _ _ z => False.elim z
end

section
variable {X : Cx} {st : Stmt} {rest : List Stmt} {t u : TS} {e : Expr} {te : TE} {pos : Pos}
def tNext : TS := fun D σ H => D.nx σ H
def tSeq (t u : TS) : TS := fun D σ H => t { D with nx := u D } σ H
theorem pss_nil : PSs X [] tNext := fun _ _ σ H _ I h => wpAny_execs_nil ⟨σ, H, I, h⟩
theorem pss_cons (h1 : PS X st t) (h2 : PSs X rest u) : PSs X (st :: rest) (tSeq t u) := by
  intro pins s σ H D I h
  refine wpAny_execs_cons (thn (h1 pins s σ H { D with nx := u D } I h) fun f s1 q => ?_)
  cases f with
  | next =>
    obtain ⟨σ', H', I', q⟩ := q
    exact h2 pins s1 σ' H' D I' q
  | ret v => exact q
  | brk => exact q
  | cont => exact q
theorem pss_one (h1 : PS X st t) : PSs X [st] t := by
  intro pins s σ H D I h
  refine wpAny_execs_cons (thn (h1 pins s σ H D I h) fun f s1 q => ?_)
  cases f with
  | next => exact wpAny_execs_nil q
  | ret v => exact q
  | brk => exact q
  | cont => exact q
theorem Inv.quiet {pins : List (Addr × Obj)} {σ : St} {H : Hp} {s : Shared} (I : Inv X pins σ H s) : interactive X.env = false := by simp [interactive, I.ok.kind]
def tDrop (te : TE) : TS := fun D σ H => te σ H fun _ H1 => D.nx σ H1
theorem ps_expr (he : PE X e te) (hs : swapsWith e none pos.line X.env = pure false := by rfl) : PS X (.Expr e pos) (tDrop te) := by
  intro pins s σ H D I h
  exact wpAny_Expr_any (thn (he pins s σ H _ I h) fun v s1 ⟨x, H1, I1, r1, q1⟩ => ⟨σ, H1, I1, q1⟩) I.quiet hs
def tRet (te : TE) : TS := fun D σ H => te σ H D.rt
theorem ps_ret (he : PE X e te) : PS X (.Return (some e) pos) (tRet te) := by
  intro pins s σ H D I h
  exact wpAny_Return_some (thn (he pins s σ H _ I h) fun v s1 ⟨x, H1, I1, r1, q1⟩ => ⟨x, σ, H1, I1, r1, q1⟩)
def tIfS (c : TT) (t u : TS) : TS := fun D σ H => c σ H fun b H1 => if b = true then t D σ H1 else u D σ H1
theorem ps_if {c : Expr} {a b : List Stmt} {tc : TT} (hc : PT X c tc) (ha : PSs X a t) (hb : PSs X b u) : PS X (.If c a b pos) (tIfS tc t u) := by
  intro pins s σ H D I h
  refine wpAny_If (thn (hc pins s σ H _ I h) fun d s1 ⟨H1, I1, q1⟩ => ?_)
  cases d with
  | true => exact ha pins s1 σ H1 D I1 q1
  | false => exact hb pins s1 σ H1 D I1 q1
def tNever : TS := fun _ _ _ => False
theorem pss_never {sts : List Stmt} : PSs X sts tNever := fun _ _ _ _ _ _ h => h.elim
end

abbrev TG := V → St → Hp → (St → Hp → Prop) → Prop
def PG (X : Cx) (target : Expr) (t : TG) : Prop :=
  ∀ (pins : List (Addr × Obj)) (s : Shared) (σ : St) (H : Hp) (v : V) (u : Value) (Q : St → Hp → Prop), Inv X pins σ H s → RelV v u → t v σ H Q →
    wpAny (model X.prog X.w) X.A (assign target X.env u) (fun _ s' => ∃ σ' H', Inv X pins σ' H' s' ∧ Q σ' H') X.xe s
section
variable {X : Cx} {pos : Pos}
def gName (i : Nat) : TG := fun v σ H Q => Q (σ.set i (some v)) H
theorem pg_name {i : Nat} {x : Str} (hN : X.N.Nodup) (hi : X.N[i]? = some x) (hx : Loc X.env.scope x) (hf : X.fn x = true ∨ X.env.scope.names.lookup x = some .local := by first | exact .inl rfl | exact .inr rfl | assumption) : PG X (.Name x pos) (gName i) := by
  intro pins s σ H v u Q I r h
  exact wpAny_assign_Name (store_ok I hN hi hx r (fun s' I' => ⟨_, H, I', h⟩) hf)
def tAsg (te : TE) (g : TG) : TS := fun D σ H => te σ H fun x H1 => g x σ H1 D.nx
theorem ps_set {i : Nat} {x : Str} {e : Expr} {te : TE} {pos' : Pos} (hN : X.N.Nodup) (hi : X.N[i]? = some x) (hx : Loc X.env.scope x) (he : PE X e te) (hs : swapsWith e (some (.Name x pos')) pos.line X.env = pure false := by rfl) (hf : X.fn x = true ∨ X.env.scope.names.lookup x = some .local := by first | exact .inl rfl | exact .inr rfl | assumption) :
    PS X (.Assign [.Name x pos'] e pos) (tAsg te (gName i)) := by
  intro pins s σ H D I h
  refine wpAny_Assign_Name (thn (he pins s σ H _ I h) fun v s1 ⟨y, H1, I1, r1, q1⟩ => ?_) hs
  exact store_ok I1 hN hi hx r1 (fun s2 I2 => ⟨_, H1, I2, q1⟩) hf
end

section
variable {X : Cx} {pos : Pos}
end

structure It where
  go : Nat → Hp → Prop
  yld : Nat → Hp → V → Hp → Prop
  stop : Nat → Hp → Prop
def FpOk (X : Cx) (pins : List (Addr × Obj)) (H : Hp) (b : Addr) : Prop :=
  H b = none ∧ b ≠ X.env.locals ∧ b ∉ X.fs ∧ (b ∈ X.ex ∨ X.s₀.heap.objs.size ≤ b) ∧ (∀ x c, X.env.cells.lookup x = some c → c ≠ b) ∧ ∀ p ∈ X.pn ++ pins, p.1 ≠ b
theorem Inv.fpOk {X : Cx} {pins : List (Addr × Obj)} {σ : St} {H H' : Hp} {s : Shared} {b : Addr} (I : Inv X pins σ H s) (hb : s.heap.objs.size ≤ b) (hn : H' b = none) : FpOk X pins H' b := by
  refine ⟨hn, Nat.ne_of_gt (Nat.lt_of_lt_of_le I.lt hb), I.nofs hb, .inr (Nat.le_trans I.sz hb), fun x c e z => ?_, fun p hp z => ?_⟩
  · obtain ⟨v, q⟩ := I.cell x c e
    exact absurd (Nat.lt_of_lt_of_le q.lt (by rw [z]; exact hb)) (Nat.lt_irrefl _)
  · exact absurd (Nat.lt_of_lt_of_le (Heap.lt_size (I.pin p hp).1) (by rw [z]; exact hb)) (Nat.lt_irrefl _)
structure Turn (P : Program) (w : World) (K : PySem.W.Frag) (tg : Expr) (J : It) (fp : List Addr) (it : Addr) (tn : Nat → Heap → Prop) : Prop where
  mem : it ∈ fp
  obj : ∀ i h, tn i h → ∀ b ∈ fp, ∃ o, h.get? b = some o ∧ ∀ v, o.data ≠ .cell v
  keep : ∀ i h h', tn i h → (∀ b ∈ fp, ∀ o, h.get? b = some o → h'.get? b = some o) → tn i h'
  item : ∀ (X : Cx), X.prog = P → X.w = w → X.K = K → X.calm = true → ∀ (i : Nat) (pins : List (Addr × Obj)) (s : Shared) (σ : St) (H : Hp) (E : Value → Shared → Prop), Inv X pins σ H s → (∀ b ∈ fp, FpOk X pins H b) → tn i s.heap → J.go i H →
    wpAny (model P w) X.A (pyNext (.ref it)) (fun r s1 => ∃ u, r = some u ∧
      wpAny (model P w) X.A (letOwnedTupleGo tg (.ref it) u) (fun _ s2 => ∃ x H', Inv X pins σ H' s2 ∧ RelV x u ∧ J.yld i H x H' ∧ tn (i + 1) s2.heap ∧ ∀ b ∈ fp, H' b = none) E s1) E s
  done : ∀ (X : Cx), X.prog = P → X.w = w → X.K = K → X.calm = true → ∀ (i : Nat) (pins : List (Addr × Obj)) (s : Shared) (σ : St) (H : Hp) (E : Value → Shared → Prop), Inv X pins σ H s → (∀ b ∈ fp, FpOk X pins H b) → tn i s.heap → J.stop i H →
    wpAny (model P w) X.A (pyNext (.ref it)) (fun r s1 => r = none ∧ Inv X pins σ H s1) E s
  self : ∀ (A : Around) (i : Nat) (s : Shared) (Q : Value → Shared → Prop) (E : Value → Shared → Prop), tn i s.heap → Q (.ref it) s → wpAny (model P w) A (pyIter (.ref it)) Q E s
abbrev TI := St → Hp → (It → Hp → Prop) → Prop
def PIE (X : Cx) (pins : List (Addr × Obj)) (σ : St) (tg : Expr) (R : It → Hp → Prop) (itv : Value) (s2 : Shared) : Prop :=
  ∃ (it : Addr) (fp : List Addr) (tn : Nat → Heap → Prop) (J : It) (H' : Hp), itv = .ref it ∧ Inv X pins σ H' s2 ∧ Turn X.prog X.w X.K tg J fp it tn ∧ tn 0 s2.heap ∧ (∀ b ∈ fp, FpOk X pins H' b) ∧ R J H'
def PI (X : Cx) (tg iter : Expr) (wi : TI) : Prop :=
  ∀ (pins : List (Addr × Obj)) (s : Shared) (σ : St) (H : Hp) (R : It → Hp → Prop), Inv X pins σ H s → wi σ H R →
    wpAny (model X.prog X.w) X.A (eval iter X.env) (fun v s1 => wpAny (model X.prog X.w) X.A (pyIter v) (PIE X pins σ tg R) X.xe s1) X.xe s

theorem go_of {M : Model} {A : Around} {E : Value → Shared → Prop} {s : Shared} {tg : Expr} {it : Addr} {u : Value} {o : Obj} {n : String} {vs : Array Value} {Q : Unit → Shared → Prop} (ho : s.heap.get? it = some o) (hc : o.cls = .type n) (hd : o.data = .fields vs)
    (hn : ["enumerate", "zip", "dict_itemiterator", "dict_reverseitemiterator", "odict_iterator", "itertools.zip_longest", "itertools.pairwise"].contains n = false) (hQ : Q () s) : wpAny M A (letOwnedTupleGo tg (.ref it) u) Q E s := by
  unfold letOwnedTupleGo
  cases tg <;> first
    | exact wpAny_pure hQ
    | (cases u <;> first
        | exact wpAny_pure hQ
        | (refine wpAny_bind (wpAny_load ho ?_)
           rw [hc, hd]
           show wpAny M A (if (["enumerate", "zip", "dict_itemiterator", "dict_reverseitemiterator", "odict_iterator", "itertools.zip_longest", "itertools.pairwise"].contains n && vs[0]? == some (rawInt _)) = true then _ else _) Q E s
           rw [if_neg (by intro h; rw [hn, Bool.false_and] at h; cases h)]
           exact wpAny_pure hQ))

def Itl (K : PySem.W.Frag) (a : Addr) : It :=
  ⟨fun i H => ∃ xs x, SqL K H a xs ∧ xs[i]? = some x, fun i H x H' => H' = H ∧ ∀ xs, SqL K H a xs → xs[i]? = some x, fun i H => ∃ xs, SqL K H a xs ∧ xs.length ≤ i⟩
def Itt (K : PySem.W.Frag) (a : Addr) : It :=
  ⟨fun i H => ∃ xs x, SqT K H a xs ∧ xs[i]? = some x, fun i H x H' => H' = H ∧ ∀ xs, SqT K H a xs → xs[i]? = some x, fun i H => ∃ xs, SqT K H a xs ∧ xs.length ≤ i⟩
def Itr (lo : Int) (n : Nat) : It := ⟨fun i _ => i < n, fun i H x H' => H' = H ∧ x = .int (lo + i), fun i _ => n ≤ i⟩
theorem turn_list {P : Program} {w : World} {K : PySem.W.Frag} {tg : Expr} (a it : Addr) : Turn P w K tg (Itl K a) [it] it (fun i h => h.IsListIter it a i) where
  mem := by simp
  obj := fun i h st b hb => by
    have e : b = it := by simpa using hb
    subst e
    obtain ⟨o, e, c, d⟩ := st
    exact ⟨o, e, fun v z => by rw [d] at z; cases z⟩
  keep := fun i h h' st k => st.at fun o e => k it (by simp) o e
  item := by
    intro X hP hw hK hc i pins s σ H E I hf st hg
    subst hP hw hK
    obtain ⟨xs, x, hq, hx⟩ := hg
    obtain ⟨its, rv, p, hz⟩ := I.list hq
    obtain ⟨u, hu, ru⟩ := rv.get hx
    obtain ⟨f0, f1, f2, f3, f4, f5⟩ := hf it (by simp)
    refine wpAny_pyNext_list_item st p.isList (x := u) (by simpa using hu) fun h' st' sb => ?_
    have I1 : Inv X pins σ H { s with heap := h' } := I.turned (t' := s.toks) (fun b o hb e => (sb.2 b hb).trans e) f0 f1 f3 f4 f5
    obtain ⟨o, e, c, d⟩ := id st'
    exact ⟨u, rfl, go_of (s := { s with heap := h' }) e c d (by decide) ⟨x, H, I1, ru, ⟨rfl, fun ys hy => by rw [I.list_inj hy hq]; exact hx⟩, st', fun b hb => (hf b hb).1⟩⟩
  done := by
    intro X hP hw hK hc i pins s σ H E I hf st hg
    subst hP hw hK
    obtain ⟨xs, hq, hx⟩ := hg
    obtain ⟨its, rv, p, hz⟩ := I.list hq
    obtain ⟨f0, f1, f2, f3, f4, f5⟩ := hf it (by simp)
    have hl := rv.length
    exact wpAny_pyNext_list_end (I.ok.hd hc) st p.isList (by simp; omega) fun h' eb => ⟨rfl, I.turned (t' := s.toks) (fun b o hb e => eb b o hb e) f0 f1 f3 f4 f5⟩
  self := fun _ _ _ _ _ st h => wpAny_pyIter_listiter st h
theorem turn_tuple {P : Program} {w : World} {K : PySem.W.Frag} {tg : Expr} (a it : Addr) : Turn P w K tg (Itt K a) [it] it (fun i h => h.IsTupleIter it a i) where
  mem := by simp
  obj := fun i h st b hb => by
    have e : b = it := by simpa using hb
    subst e
    obtain ⟨o, e, c, d⟩ := st
    exact ⟨o, e, fun v z => by rw [d] at z; cases z⟩
  keep := fun i h h' st k => st.at fun o e => k it (by simp) o e
  item := by
    intro X hP hw hK hc i pins s σ H E I hf st hg
    subst hP hw hK
    obtain ⟨xs, x, hq, hx⟩ := hg
    obtain ⟨its, rv, p, hz⟩ := I.tuple hq
    obtain ⟨u, hu, ru⟩ := rv.get hx
    obtain ⟨f0, f1, f2, f3, f4, f5⟩ := hf it (by simp)
    refine wpAny_pyNext_tuple_item st (show s.heap.IsTuple a its.toArray from p) (x := u) (by simpa using hu) fun h' st' sb => ?_
    have I1 : Inv X pins σ H { s with heap := h' } := I.turned (t' := s.toks) (fun b o hb e => (sb.2 b hb).trans e) f0 f1 f3 f4 f5
    obtain ⟨o, e, c, d⟩ := id st'
    exact ⟨u, rfl, go_of (s := { s with heap := h' }) e c d (by decide) ⟨x, H, I1, ru, ⟨rfl, fun ys hy => by rw [I.tuple_inj hy hq]; exact hx⟩, st', fun b hb => (hf b hb).1⟩⟩
  done := by
    intro X hP hw hK hc i pins s σ H E I hf st hg
    subst hP hw hK
    obtain ⟨xs, hq, hx⟩ := hg
    obtain ⟨its, rv, p, hz⟩ := I.tuple hq
    obtain ⟨f0, f1, f2, f3, f4, f5⟩ := hf it (by simp)
    have hl := rv.length
    exact wpAny_pyNext_tuple_end (I.ok.hd hc) st (show s.heap.IsTuple a its.toArray from p) (by simp; omega) fun h' eb => ⟨rfl, I.turned (t' := s.toks) (fun b o hb e => eb b o hb e) f0 f1 f3 f4 f5⟩
  self := fun _ _ _ _ _ st h => wpAny_pyIter_tupleiter st h
theorem turn_range {P : Program} {w : World} {K : PySem.W.Frag} {tg : Expr} (it : Addr) (lo : Int) (n : Nat) : Turn P w K tg (Itr lo n) [it] it (fun i h => IsRangeIter h it (lo + (i : Nat) * 1) ((n : Int) - (i : Nat)) 1) where
  mem := by simp
  obj := fun i h st b hb => by
    have e : b = it := by simpa using hb
    subst e
    exact ⟨_, st, fun v z => by
      have z' : Data.fields _ = Data.cell v := z
      cases z'⟩
  keep := fun i h h' st k => k it (by simp) _ st
  item := by
    intro X hP hw hK hc i pins s σ H E I hf st hg
    subst hP hw hK
    obtain ⟨f0, f1, f2, f3, f4, f5⟩ := hf it (by simp)
    have W := Walks.range (prog := X.prog) (w := X.w) (I.ok.hd hc) it lo 1 n
    refine W.item i s _ _ hg st fun v h' tk hv st' kk => ?_
    obtain ⟨t, rfl⟩ := hv
    have I1 : Inv X pins σ H { s with heap := h', toks := tk } := I.turned (fun b o hb e => kk b o (by simpa using hb) e) f0 f1 f3 f4 f5
    refine ⟨_, rfl, go_of (s := { s with heap := h', toks := tk }) (n := "range_iterator") st' rfl rfl (by decide) ⟨.int (lo + i), H, I1, ⟨t, ?_⟩, ⟨rfl, rfl⟩, st', fun b hb => (hf b hb).1⟩⟩
    rw [Int.mul_one]
  done := by
    intro X hP hw hK hc i pins s σ H E I hf st hg
    subst hP hw hK
    obtain ⟨f0, f1, f2, f3, f4, f5⟩ := hf it (by simp)
    exact wpAny_pyNext_range_end (I.ok.hd hc) st (by have : n ≤ i := hg; omega) fun h' eb => ⟨rfl, I.turned (t' := s.toks) (fun b o hb e => eb b o hb e) f0 f1 f3 f4 f5⟩
  self := fun _ _ _ _ _ st h => wpAny_pyIter_rangeiter st h
end L2

namespace L2
open PySem PySem.Spec PyProof.Rows
section
variable {X : Cx} {tg : Expr}
def iList (K : PySem.W.Frag) (tl : TE) : TI := fun σ H R => tl σ H fun x H1 => ∃ a, x = .ref a ∧ (∃ xs, SqL K H1 a xs) ∧ R (Itl K a) H1
def iTup (K : PySem.W.Frag) (tl : TE) : TI := fun σ H R => tl σ H fun x H1 => ∃ a, x = .ref a ∧ (∃ xs, SqT K H1 a xs) ∧ R (Itt K a) H1
theorem pi_list {l : Expr} {tl : TE} (hl : PE X l tl) : PI X tg l (iList X.K tl) := by
  intro pins s σ H R I h
  refine thn (hl pins s σ H _ I h) fun v s1 ⟨x, H1, I1, r1, q1⟩ => ?_
  obtain ⟨a, e, ⟨xs, hq⟩, q⟩ := q1
  subst e
  cases r1
  obtain ⟨its, rv, p, hz⟩ := I1.list hq
  refine wpAny_pyIter_list p.isList ?_
  refine ⟨s1.heap.objs.size, [s1.heap.objs.size], _, _, H1, rfl, I1.kept (t' := s1.toks) fun b o e => Heap.get?_push_of_some _ e, turn_list a _, ⟨_, Heap.get?_push_size _ rfl, rfl, rfl⟩, fun b hb => ?_, q⟩
  have e : b = s1.heap.objs.size := by simpa using hb
  subst e
  exact I1.fpOk (Nat.le_refl _) (I1.hok.fresh (Nat.le_refl _))
theorem pi_tup {l : Expr} {tl : TE} (hl : PE X l tl) : PI X tg l (iTup X.K tl) := by
  intro pins s σ H R I h
  refine thn (hl pins s σ H _ I h) fun v s1 ⟨x, H1, I1, r1, q1⟩ => ?_
  obtain ⟨a, e, ⟨xs, hq⟩, q⟩ := q1
  subst e
  cases r1
  obtain ⟨its, rv, p, hz⟩ := I1.tuple hq
  refine wpAny_pyIter_tuple (show s1.heap.IsTuple a its.toArray from p) ?_
  refine ⟨s1.heap.objs.size, [s1.heap.objs.size], _, _, H1, rfl, I1.kept (t' := s1.toks) fun b o e => Heap.get?_push_of_some _ e, turn_tuple a _, ⟨_, Heap.get?_push_size _ rfl, rfl, rfl⟩, fun b hb => ?_, q⟩
  have e : b = s1.heap.objs.size := by simpa using hb
  subst e
  exact I1.fpOk (Nat.le_refl _) (I1.hok.fresh (Nat.le_refl _))
theorem range_it {pins : List (Addr × Obj)} {σ : St} {H : Hp} {s : Shared} {R : It → Hp → Prop} {E : Value → Shared → Prop} {lo hi : Int} {t u v : Tok} {tk : Nat} (I : Inv X pins σ H s) (h1 : -(2 ^ 62) ≤ lo) (h2 : lo < 2 ^ 62) (h3 : -(2 ^ 62) ≤ hi) (h4 : hi < 2 ^ 62)
    (q : R (Itr lo (hi - lo).toNat) H) : wpAny (model X.prog X.w) X.A (pyIter (.ref s.heap.objs.size)) (PIE X pins σ tg R) E { s with heap := s.heap.push { cls := .type "range", data := .fields #[.int lo t, .int hi u, .int 1 v] }, toks := tk } := by
  refine wpAny_pyIter_range (IsRange.new ..) (small_one h1 h2 h3 h4) ?_
  have I1 : Inv X pins σ H { s with heap := s.heap.push { cls := .type "range", data := .fields #[.int lo t, .int hi u, .int 1 v] }, toks := tk } := I.kept fun b o e => Heap.get?_push_of_some _ e
  refine ⟨(s.heap.push { cls := .type "range", data := .fields #[.int lo t, .int hi u, .int 1 v] }).objs.size, [(s.heap.push { cls := .type "range", data := .fields #[.int lo t, .int hi u, .int 1 v] }).objs.size], _, _, H, rfl,
    I1.kept (t' := tk) fun b o e => Heap.get?_push_of_some _ e, turn_range _ lo (hi - lo).toNat, ?_, fun b hb => ?_, q⟩
  · have e1 : lo + ((0 : Nat) : Int) * 1 = lo := by simp
    have e2 : (((hi - lo).toNat : Nat) : Int) - ((0 : Nat) : Int) = Builtin.Range.rangeSize lo hi 1 := by rw [rangeSize_one]; split <;> omega
    show IsRangeIter _ _ (lo + ((0 : Nat) : Int) * 1) ((((hi - lo).toNat : Nat) : Int) - ((0 : Nat) : Int)) 1
    rw [e1, e2]
    exact Heap.get?_push_size _ rfl
  · have e : b = (s.heap.push { cls := .type "range", data := .fields #[.int lo t, .int hi u, .int 1 v] }).objs.size := by simpa using hb
    subst e
    exact I1.fpOk (Nat.le_refl _) (I1.hok.fresh (Nat.le_refl _))
def iRng1 (ta : TA) : TI := fun σ H R => ta σ H fun vs H1 => ∃ j : Int, vs = [.int j] ∧ -(2 ^ 62) ≤ j ∧ j < 2 ^ 62 ∧ R (Itr 0 j.toNat) H1
theorem pi_range1 {a : Expr} {ta : TA} {p pos : Pos} (hg : Gl X "range") (hm : X.mg "range" = none) (ha : PA X [a] ta) (hs : starEach [a] X.env = [(false, eval a X.env)] := by rfl) : PI X tg (.Call (.Name "range" p) [a] [] pos) (iRng1 ta) := by
  intro pins s σ H R I h
  refine Call_ (ld_blt I hg hm boot_range (PyProof.Rows.callWith_type1 (thn (ha pos pins s σ H _ I h) fun us s1 ⟨vs, H1, I1, r1, q1⟩ => ?_) hs rfl))
  obtain ⟨j, e, q1, q2, q⟩ := q1
  subst e
  cases r1 with
  | cons r rr =>
    cases rr
    obtain ⟨t, rfl⟩ := r
    exact call_range_1 (range_it I1 (by omega) (by omega) q1 q2 (by simpa using q))
def tFor (wi : TI) (g : TG) (tb : TS) : TS := fun D σ H => wi σ H fun J H1 => ∃ W : Nat → Nat → St → Hp → Prop, (∃ m, W 0 m σ H1) ∧ ∀ i m σ H, W i m σ H →
  (J.stop i H ∧ D.nx σ H) ∨ (J.go i H ∧ ∃ N : St → Hp → Prop, (∀ σ' H', N σ' H' → ∃ m', m' < m ∧ W (i + 1) m' σ' H') ∧ ∀ x H', J.yld i H x H' → g x σ H' fun σ2 H2 => tb { D with nx := N, ct := N, bk := D.nx } σ2 H2)
def pinsAt (fp : List Addr) (h : Heap) : List (Addr × Obj) := fp.filterMap fun b => (h.get? b).map fun o => (b, o)
theorem mem_pinsAt {fp : List Addr} {h : Heap} {b : Addr} {o : Obj} (hb : b ∈ fp) (e : h.get? b = some o) : (b, o) ∈ pinsAt fp h := List.mem_filterMap.mpr ⟨b, hb, by rw [e]; rfl⟩
theorem of_pinsAt {fp : List Addr} {h : Heap} {p : Addr × Obj} (hp : p ∈ pinsAt fp h) : p.1 ∈ fp ∧ h.get? p.1 = some p.2 := by
  obtain ⟨b, hb, e⟩ := List.mem_filterMap.mp hp
  cases q : h.get? b with
  | none => rw [q] at e; cases e
  | some o =>
    rw [q] at e
    have e' : (b, o) = p := Option.some.inj e
    subst e'
    exact ⟨hb, q⟩
theorem Inv.pinned {pins : List (Addr × Obj)} {σ : St} {H : Hp} {s : Shared} {fp : List Addr} (I : Inv X pins σ H s) (hf : ∀ b ∈ fp, FpOk X pins H b) (ho : ∀ b ∈ fp, ∃ o, s.heap.get? b = some o ∧ ∀ v, o.data ≠ .cell v) : Inv X (pins ++ pinsAt fp s.heap) σ H s :=
  I.pins_of fun p hp => (List.mem_append.mp hp).elim (fun z => I.pin p (List.mem_append_right _ z)) fun z => by
    obtain ⟨hb, e⟩ := of_pinsAt z
    obtain ⟨f0, f1, f2, _⟩ := hf p.1 hb
    obtain ⟨o, e', d⟩ := ho p.1 hb
    rw [e] at e'; cases e'
    exact ⟨e, f0, f1, f2, d⟩
theorem Inv.unpinned {pins pl : List (Addr × Obj)} {σ : St} {H : Hp} {s : Shared} (I : Inv X (pins ++ pl) σ H s) : Inv X pins σ H s := I.pins_of fun p hp => I.pin p (List.mem_append_right _ (List.mem_append_left _ hp))
theorem ps_for {iter : Expr} {body : List Stmt} {wi : TI} {g : TG} {tb : TS} {pos : Pos} (hp : PassesOwn (model X.prog X.w) X.A X.env X.xe) (hc : X.calm = true) (hi : PI X tg iter wi) (hg : PG X tg g) (hb : PSs X body tb)
    (hs : ∀ x, foldedSetIterable iter X.env x = pure x := by intro _; rfl) : PS X (.For tg iter body [] pos) (tFor wi g tb) := by
  intro pins s σ H D I h
  refine wpAny_For (thn (hi pins s σ H _ I h) fun v s1 h1 => thn h1 fun itv s2 h2 => ?_) hs
  obtain ⟨it, fp, tn, J, H2, e, I2, T, st2, f2, W, ⟨m0, w0⟩, turn⟩ := h2
  subst e
  -- what stays true of the iterator's objects through the loop
  have stat : ∀ {H' : Hp}, (∀ b ∈ fp, H' b = none) → ∀ b ∈ fp, FpOk X pins H' b := fun hn b hb => ⟨hn b hb, (f2 b hb).2⟩
  refine codeAny_forLoop_any (fun n s' => ∃ i σ' H', Inv X pins σ' H' s' ∧ tn i s'.heap ∧ (∀ b ∈ fp, H' b = none) ∧ W i n σ' H') ?_ m0 ⟨0, σ, H2, I2, st2, fun b hb => (f2 b hb).1, w0⟩
  rintro n s3 ⟨i, σ3, H3, I3, st3, fr3, w3⟩
  rcases turn i n σ3 H3 w3 with ⟨stop, qn⟩ | ⟨go, N, hN, step⟩
  · refine wpAny_passesOwn hp (thn (T.done X rfl rfl rfl hc i pins s3 σ3 H3 X.xe I3 (stat fr3) st3 stop) fun r s4 ⟨hr, I4⟩ => ?_)
    subst hr
    exact wpAny_execs_nil ⟨σ3, H3, I4, qn⟩
  · refine wpAny_passesOwn hp (thn (T.item X rfl rfl rfl hc i pins s3 σ3 H3 X.xe I3 (stat fr3) st3 go) fun r s4 ⟨u, hr, h4⟩ => ?_)
    subst hr
    refine wpAny_passesOwn hp (thn h4 fun _ s5 ⟨x, H5, I5, r5, y5, st5, fr5⟩ => ?_)
    have I5' := I5.pinned (stat fr5) (T.obj _ _ st5)
    refine wpAny_passesOwn hp (thn (hg _ s5 σ3 H5 x u _ I5' r5 (step x H5 y5)) fun _ s6 ⟨σ6, H6, I6, q6⟩ => ?_)
    refine wpAny_passesOwn hp (thn (hb _ s6 σ6 H6 _ I6 q6) fun f s7 q7 => ?_)
    have again : ∀ {σ7 : St} {H7 : Hp}, Inv X (pins ++ pinsAt fp s5.heap) σ7 H7 s7 → N σ7 H7 → ∃ m, m < n ∧ ∃ i σ' H', Inv X pins σ' H' s7 ∧ tn i s7.heap ∧ (∀ b ∈ fp, H' b = none) ∧ W i m σ' H' := fun {σ7 H7} I7 n7 => by
      obtain ⟨m', hm, w7⟩ := hN σ7 H7 n7
      refine ⟨m', hm, i + 1, σ7, H7, I7.unpinned, T.keep _ _ _ st5 fun b hb o e => (I7.pin (b, o) (List.mem_append_right _ (List.mem_append_right _ (mem_pinsAt hb e)))).1, fun b hb => ?_, w7⟩
      obtain ⟨o, e, d⟩ := T.obj _ _ st5 b hb
      exact (I7.pin (b, o) (List.mem_append_right _ (List.mem_append_right _ (mem_pinsAt hb e)))).2.1
    cases f with
    | next => obtain ⟨σ7, H7, I7, n7⟩ := q7; exact again I7 n7
    | cont => obtain ⟨σ7, H7, I7, n7⟩ := q7; exact again I7 n7
    | brk => obtain ⟨σ7, H7, I7, q7⟩ := q7; exact ⟨σ7, H7, I7.unpinned, q7⟩
    | ret v => obtain ⟨x7, σ7, H7, I7, r7, q7⟩ := q7; exact ⟨x7, σ7, H7, I7.unpinned, r7, q7⟩
end

end L2

namespace L2
open PySem PySem.Spec PyProof.Rows

abbrev R2 := V → V → Hp → VK → Prop
def OpR (X : Cx) (f : Value → Value → Sem Value) (r : R2) : Prop :=
  ∀ (pins : List (Addr × Obj)) (s : Shared) (σ : St) (H : Hp) (x y : V) (v u : Value) (Q : VK), Inv X pins σ H s → RelV x v → RelV y u → r x y H Q →
    wpAny (model X.prog X.w) X.A (f v u) (EP X pins σ Q) X.xe s
def CallR (X : Cx) (f : Value) (r : List V → Hp → VK → Prop) : Prop :=
  ∀ (pins : List (Addr × Obj)) (s : Shared) (σ : St) (H : Hp) (xs : List V) (us : List Value) (Q : VK), Inv X pins σ H s → Vals xs us → r xs H Q →
    wpAny (model X.prog X.w) X.A (call f us) (EP X pins σ Q) X.xe s
def tOp (r : R2) (ta tb : TE) : TE := fun σ H Q => ta σ H fun x H1 => tb σ H1 fun y H2 => r x y H2 Q
def rI (C : Int → Int → Prop) (g : Int → Int → V) : R2 := fun x y H Q => ∃ i j, x = .int i ∧ y = .int j ∧ C i j ∧ Q (g i j) H
def rI0 (g : Int → Int → V) : R2 := fun x y H Q => ∃ i j, x = .int i ∧ y = .int j ∧ Q (g i j) H
section
variable {X : Cx} {a b c : Expr} {ta tb tc : TE} {pos : Pos}

theorem binT (ha : PE X a ta) (hb : PE X b tb) {pins : List (Addr × Obj)} {s : Shared} {σ : St} {H : Hp} {R : V → V → Hp → Prop} (I : Inv X pins σ H s)
    (h : ta σ H fun x H1 => tb σ H1 fun y H2 => R x y H2) {Q : Value → Shared → Prop} {f : Value → Value → Sem Value}
    (hf : ∀ v u s2 x y H2, Inv X pins σ H2 s2 → RelV x v → RelV y u → R x y H2 → wpAny (model X.prog X.w) X.A (f v u) Q X.xe s2) :
    wpAny (model X.prog X.w) X.A (eval a X.env) (fun v s₁ => wpAny (model X.prog X.w) X.A (eval b X.env) (fun u s₂ => wpAny (model X.prog X.w) X.A (f v u) Q X.xe s₂) X.xe s₁) X.xe s := by
  refine thn (ha pins s σ H _ I h) fun v s1 ⟨x, H1, I1, r1, q1⟩ => ?_
  refine thn (hb pins s1 σ H1 _ I1 q1) fun u s2 ⟨y, H2, I2, r2, q2⟩ => ?_
  exact hf v u s2 x y H2 I2 r1 r2 q2

theorem pe_op {op : Operator} {r : R2} (ho : OpR X (binaryOp op) r) (ha : PE X a ta) (hb : PE X b tb) : PE X (.BinOp a op b pos) (tOp r ta tb) := by
  intro pins s σ H Q I h
  exact wpAny_BinOp (binT ha hb I h fun v u s2 x y H2 I2 rx ry q => ho pins s2 σ H2 x y v u Q I2 rx ry q)
theorem opI {f : Value → Value → Sem Value} {C : Int → Int → Prop} {g : Int → Int → Int}
    (rule : ∀ (i j : Int) (t u : Tok) (s : Shared) (Q : Value → Shared → Prop) (E : Value → Shared → Prop), C i j → Q (.int (g i j) s.toks) { s with toks := s.toks + 1 } → wpAny (model X.prog X.w) X.A (f (.int i t) (.int j u)) Q E s) :
    OpR X f (rI C fun i j => .int (g i j)) := by
  intro pins s σ H x y v u Q I rx ry h
  obtain ⟨i, j, rfl, rfl, hc, q⟩ := h
  obtain ⟨t, rfl⟩ := rx
  obtain ⟨t', rfl⟩ := ry
  exact rule i j t t' s _ _ hc ⟨.int (g i j), H, I.tok _, ⟨_, rfl⟩, q⟩
theorem opB0 {f : Value → Value → Sem Value} {g : Int → Int → Bool}
    (rule : ∀ (i j : Int) (t u : Tok) (s : Shared) (Q : Value → Shared → Prop) (E : Value → Shared → Prop), Q (.bool (g i j)) s → wpAny (model X.prog X.w) X.A (f (.int i t) (.int j u)) Q E s) :
    OpR X f (rI0 fun i j => .bl (g i j)) := by
  intro pins s σ H x y v u Q I rx ry h
  obtain ⟨i, j, rfl, rfl, q⟩ := h
  obtain ⟨t, rfl⟩ := rx
  obtain ⟨t', rfl⟩ := ry
  exact rule i j t t' s _ _ ⟨.bl (g i j), H, I, rfl, q⟩

def CDiv (i j : Int) : Prop := 0 < j ∧ j < 1073741824
def CMul (i j : Int) : Prop := (-(2 ^ 64) < i ∧ i < 2 ^ 64) ∨ (-(2 ^ 64) < j ∧ j < 2 ^ 64)
theorem CMul.ok {i j : Int} (h : CMul i j) : IntMulOk i j := by
  rcases h with ⟨h1, h2⟩ | ⟨h1, h2⟩
  · exact .of_left (intBits_le_64 h1 h2)
  · exact .of_right (intBits_le_64 h1 h2)
theorem op_fdiv : OpR X (binaryOp .FloorDiv) (rI CDiv fun i j => .int (i / j)) := opI fun i j _ _ _ _ _ hc q => by
  have h1 : (0 : Int) < j := hc.1
  have h2 : j < 1073741824 := hc.2
  exact floordiv_int (by omega) (by rw [Int.fdiv_eq_ediv_of_nonneg i (by omega)]; exact q) (.inl (PyProof.noPylong_small (by omega)))
theorem op_mod : OpR X (binaryOp .Mod) (rI (fun _ j => 0 < j) fun i j => .int (i % j)) := opI fun i j _ _ _ _ _ hc q => by
  have h1 : (0 : Int) < j := hc
  exact mod_int' (by omega) (by rw [Int.fmod_eq_emod_of_nonneg i (by omega)]; exact q)
end

def scal : V → V → Bool
  | .non, .non => true | .non, .int _ => true | .int _, .non => true | .non, .bl _ => true | .bl _, .non => true | .non, .str _ => true | .str _, .non => true
  | .int _, .int _ => true | .bl _, .bl _ => true | .str _, .str _ => true | .byt _, .byt _ => true
  | .int _, .str _ => true | .str _, .int _ => true | .bl _, .str _ => true | .str _, .bl _ => true
  | _, _ => false
def rEq : R2 := fun x y H Q => scal x y = true ∧ Q (.bl (decide (x = y))) H
def rNe : R2 := fun x y H Q => scal x y = true ∧ Q (.bl (!decide (x = y))) H

theorem dec_int {i j : Int} : decide (V.int i = V.int j) = (i == j) := by
  rw [Bool.eq_iff_iff]
  simp
theorem dec_bl {i j : Bool} : decide (V.bl i = V.bl j) = (i == j) := by
  rw [Bool.eq_iff_iff]
  simp
theorem dec_str {i j : Str} : decide (V.str i = V.str j) = (i == j) := by
  rw [Bool.eq_iff_iff]
  simp
theorem dec_byt {i j : Array UInt8} : decide (V.byt i = V.byt j) = (i.toList == j.toList) := by
  rw [Bool.eq_iff_iff]
  cases i
  cases j
  simp

section
variable {X : Cx} {a b c : Expr} {ta tb tc : TE} {pos : Pos}
theorem fin_bl {pins : List (Addr × Obj)} {σ : St} {H : Hp} {s : Shared} {Q : VK} {k k' : Bool} (I : Inv X pins σ H s) (q : Q (.bl k) H) (e : k = k') : EP X pins σ Q (.bool k') s := by
  subst e
  exact ⟨.bl k, H, I, rfl, q⟩
theorem op_eq : OpR X (compareOp .Eq) rEq := by
  intro pins s σ H x y v u Q I rx ry h
  obtain ⟨hs, q⟩ := h
  cases x with
  | non =>
    cases rx
    cases y with
    | non => cases ry; exact PySem.EqNone.eq_none_none (fin_bl I q (by simp))
    | bl j => cases ry; exact PySem.EqNone.eq_none_bool (fin_bl I q (by simp))
    | int j => obtain ⟨t', rfl⟩ := ry; exact PySem.EqNone.eq_none_int (fin_bl I q (by simp))
    | str j => obtain ⟨t', rfl⟩ := ry; exact PySem.EqNone.eq_none_str (fin_bl I q (by simp))
    | _ => exact absurd (show false = true from hs) Bool.false_ne_true
  | bl i =>
    cases rx
    cases y with
    | non => cases ry; exact PySem.EqNone.eq_bool_none (fin_bl I q (by simp))
    | bl j => cases ry; exact eq_bool (fin_bl I q dec_bl)
    | str j => obtain ⟨t', rfl⟩ := ry; exact PySem.EqMixed.eq_bool_str (fin_bl I q (by simp))
    | _ => exact absurd (show false = true from hs) Bool.false_ne_true
  | int i =>
    obtain ⟨t, rfl⟩ := rx
    cases y with
    | non => cases ry; exact PySem.EqNone.eq_int_none (fin_bl I q (by simp))
    | int j => obtain ⟨t', rfl⟩ := ry; exact eq_int (fin_bl I q dec_int)
    | str j => obtain ⟨t', rfl⟩ := ry; exact PySem.EqMixed.eq_int_str (fin_bl I q (by simp))
    | _ => exact absurd (show false = true from hs) Bool.false_ne_true
  | str i =>
    obtain ⟨t, rfl⟩ := rx
    cases y with
    | non => cases ry; exact PySem.EqNone.eq_str_none (fin_bl I q (by simp))
    | bl j => cases ry; exact PySem.EqMixed.eq_str_bool (fin_bl I q (by simp))
    | int j => obtain ⟨t', rfl⟩ := ry; exact PySem.EqMixed.eq_str_int (fin_bl I q (by simp))
    | str j => obtain ⟨t', rfl⟩ := ry; exact eq_str (fin_bl I q dec_str)
    | _ => exact absurd (show false = true from hs) Bool.false_ne_true
  | byt i =>
    obtain ⟨t, rfl⟩ := rx
    cases y with
    | byt j => obtain ⟨t', rfl⟩ := ry; exact PySem.W.eq_bytes (fin_bl I q dec_byt)
    | _ => exact absurd (show false = true from hs) Bool.false_ne_true
  | _ => cases y <;> exact absurd (show false = true from hs) Bool.false_ne_true
theorem op_ne : OpR X (compareOp .NotEq) rNe := by
  intro pins s σ H x y v u Q I rx ry h
  obtain ⟨hs, q⟩ := h
  cases x with
  | non =>
    cases rx
    cases y with
    | non => cases ry; exact PySem.EqNone.ne_none_none (fin_bl I q (by simp))
    | bl j => cases ry; exact PySem.EqNone.ne_none_bool (fin_bl I q (by simp))
    | int j => obtain ⟨t', rfl⟩ := ry; exact PySem.EqNone.ne_none_int (fin_bl I q (by simp))
    | str j => obtain ⟨t', rfl⟩ := ry; exact PySem.EqNone.ne_none_str (fin_bl I q (by simp))
    | _ => exact absurd (show false = true from hs) Bool.false_ne_true
  | bl i =>
    cases rx
    cases y with
    | non => cases ry; exact PySem.EqNone.ne_bool_none (fin_bl I q (by simp))
    | bl j => cases ry; exact ne_bool (fin_bl I q (congrArg not dec_bl))
    | str j => obtain ⟨t', rfl⟩ := ry; exact PySem.EqMixed.ne_bool_str (fin_bl I q (by simp))
    | _ => exact absurd (show false = true from hs) Bool.false_ne_true
  | int i =>
    obtain ⟨t, rfl⟩ := rx
    cases y with
    | non => cases ry; exact PySem.EqNone.ne_int_none (fin_bl I q (by simp))
    | int j => obtain ⟨t', rfl⟩ := ry; exact ne_int (fin_bl I q (congrArg not dec_int))
    | str j => obtain ⟨t', rfl⟩ := ry; exact PySem.EqMixed.ne_int_str (fin_bl I q (by simp))
    | _ => exact absurd (show false = true from hs) Bool.false_ne_true
  | str i =>
    obtain ⟨t, rfl⟩ := rx
    cases y with
    | non => cases ry; exact PySem.EqNone.ne_str_none (fin_bl I q (by simp))
    | bl j => cases ry; exact PySem.EqMixed.ne_str_bool (fin_bl I q (by simp))
    | int j => obtain ⟨t', rfl⟩ := ry; exact PySem.EqMixed.ne_str_int (fin_bl I q (by simp))
    | str j => obtain ⟨t', rfl⟩ := ry; exact ne_str (fin_bl I q (congrArg not dec_str))
    | _ => exact absurd (show false = true from hs) Bool.false_ne_true
  | byt i =>
    obtain ⟨t, rfl⟩ := rx
    cases y with
    | byt j => obtain ⟨t', rfl⟩ := ry; exact PySem.W.ne_bytes (fin_bl I q (congrArg not dec_byt))
    | _ => exact absurd (show false = true from hs) Bool.false_ne_true
  | _ => cases y <;> exact absurd (show false = true from hs) Bool.false_ne_true

theorem op_lt : OpR X (compareOp .Lt) (rI0 fun i j => .bl (decide (i < j))) := opB0 fun _ _ _ _ _ _ _ q => lt_int q
theorem op_isN : OpR X (compareOp .Is) (fun x y H Q => y = .non ∧ Q (.bl (decide (x = .non))) H) := by
  intro pins s σ H x y v u Q I rx ry h
  obtain ⟨rfl, q⟩ := h
  cases ry
  refine is_none_gen (fin_bl I q ?_)
  cases x <;> first
    | (cases rx; rfl)
    | (obtain ⟨t, rfl⟩ := rx; rfl)
theorem OpR.or {f : Value → Value → Sem Value} {r r' : R2} (h : OpR X f r) (h' : OpR X f r') : OpR X f (fun x y H Q => r x y H Q ∨ r' x y H Q) := by
  intro pins s σ H x y v u Q I rx ry q
  rcases q with q | q
  · exact h pins s σ H x y v u Q I rx ry q
  · exact h' pins s σ H x y v u Q I rx ry q

theorem nomark (b : Expr) {op : CmpOp} (h : op ≠ .In := by decide) (h2 : op ≠ .NotIn := by decide) : behindInMarks op b = false := by
  have e1 : (op == CmpOp.In) = false := by cases op <;> first | rfl | exact absurd rfl h
  have e2 : (op == CmpOp.NotIn) = false := by cases op <;> first | rfl | exact absurd rfl h2
  cases b <;> simp [behindInMarks, e1, e2]
theorem pe_cmpR {op : CmpOp} {r : R2} (ho : OpR X (compareOp op) r) (ha : PE X a ta) (hb : PE X b tb) (hm : behindInMarks op b = false) : PE X (.Compare a [op] [b] pos) (tOp r ta tb) := by
  intro pins s σ H Q I h
  exact wpAny_Compare1 (binT ha hb I h fun v u s2 x y H2 I2 rx ry q => ho pins s2 σ H2 x y v u Q I2 rx ry q) hm
def tTest (t : TE) : TT := fun σ H Q => t σ H fun x H' => ∃ k, x = .bl k ∧ Q k H'
theorem pt_cmpR {op : CmpOp} {r : R2} (ho : OpR X (compareOp op) r) (ha : PE X a ta) (hb : PE X b tb) (hm : behindInMarks op b = false) : PT X (.Compare a [op] [b] pos) (tTest (tOp r ta tb)) := by
  intro pins s σ H Q I h
  refine wpAny_isTrue_Compare1 (thn (ha pins s σ H _ I h) fun v s1 ⟨x, H1, I1, r1, q1⟩ => thn (hb pins s1 σ H1 _ I1 q1) fun u s2 ⟨y, H2, I2, r2, q2⟩ =>
    thn (ho pins s2 σ H2 x y v u _ I2 r1 r2 q2) fun c s3 ⟨z, H3, I3, r3, k, e, q3⟩ => ?_) hm
  subst e
  cases r3
  exact wpAny_truthy_bool ⟨H3, I3, q3⟩
theorem line63 : (sizeLine : Nat) < 2 ^ 63 := by rw [sizeLine_eq]; decide
theorem vals1 {x : V} {us : List Value} (r : Vals [x] us) : ∃ u, us = [u] ∧ RelV x u := by
  cases r with
  | cons r1 r2 => cases r2; exact ⟨_, rfl, r1⟩
theorem vals2 {x y : V} {us : List Value} (r : Vals [x, y] us) : ∃ u w', us = [u, w'] ∧ RelV x u ∧ RelV y w' := by
  cases r with
  | cons r1 r2 =>
    cases r2 with
    | cons r3 r4 => cases r4; exact ⟨_, _, rfl, r1, r3⟩
end
end L2

namespace L2
open PySem PySem.Spec PyProof.Rows

structure ObjM (h : Heap) (x dx C : Addr) (mA : Str → Option Value) : Prop where
  obj : h.get? x = some (PySem.W.instObj C dx)
  ns : h.Ns1 dx mA
  ne : dx ≠ x

theorem lookIn_ns {h : Heap} {dx : Addr} {mA : Str → Option Value} (n : h.Ns1 dx mA) : ∃ od, h.get? dx = some od ∧ ∀ name, PySem.W.lookIn name od = some (mA name) := by
  obtain ⟨o, es, ep, ho, hd, hk, _, hm⟩ := n
  refine ⟨o, ho, fun name => ?_⟩
  have e := hm name
  unfold nsFind findBy at e
  rw [← Array.find?_toList] at e
  unfold PySem.W.lookIn
  rw [hd]
  dsimp only
  split
  · rename_i y q
    rw [q] at e
    exact congrArg some e
  · rename_i q
    rw [q] at e
    have a : es.toList.any (·.refKey) = false := by
      rw [List.any_eq_false]
      intro y hy
      obtain ⟨z, t, hkey⟩ := hk y (Array.mem_toList_iff.mp hy)
      simp [DictEntry.refKey, hkey]
    have a' : ¬ es.toList.any (·.refKey) = true := by rw [a]; exact Bool.false_ne_true
    rw [if_neg a']
    exact congrArg some e

theorem ObjM.look {h : Heap} {x dx C : Addr} {mA : Str → Option Value} (I : ObjM h x dx C mA) : ∃ od, PySem.W.InstAt h x (PySem.W.instObj C dx) C (some od) ∧ ∀ name, PySem.W.lookIn name od = some (mA name) :=
  let ⟨od, ho, hl⟩ := lookIn_ns I.ns
  ⟨od, ⟨I.obj, rfl, rfl, ho⟩, hl⟩

section
variable {prog : Program} {w : World} {A : Around} {E : Value → Shared → Prop} {s : Shared} {K : PySem.W.Frag} {x dx C f : Addr} {mA : Str → Option Value} {name : Str} {v : Value}

end

theorem RelO.none_of {o : Option Value} (r : RelO none o) : o = none := by
  cases o with
  | none => rfl
  | some u => exact (show False from r).elim
section
variable {P : Program} {w : World} {H H' : Hp} {h h' : Heap} {a C dx : Addr} {fs fs' : List (Str × V)}
theorem ins_get (hok : HOk P w H h) (e : H a = some (.ins C dx fs)) : ∃ mA, ObjM h a dx C mA ∧ (∀ f, RelO (fs.lookup f) (mA f)) ∧ PySem.Within mA (fs.map (·.1)) ∧ fs.length ≤ 1000 ∧ H dx = some (.own a) := by
  obtain ⟨d, z, ne, ob, mA, n, r, q⟩ := (show ObjOk P w H h a (.ins C dx fs) from hok a _ e)
  exact ⟨mA, ⟨ob, n, ne⟩, r, q, z, d⟩
end

structure Cls (K : PySem.W.Frag) (C : Addr) : Prop where
  pg : PySem.W.plainGet K C Str.empty = true
  hd : PySem.W.hasDictIn K C = true
  po : PySem.W.plainOver K C = true
  sa : PySem.W.findIn K (.ref C) "__setattr__" = some (some (.builtin "object.__setattr__"))
theorem Cls.get {K : PySem.W.Frag} {C : Addr} (c : Cls K C) (f : Str) : PySem.W.plainGet K C f = true := c.pg
structure Con (K : PySem.W.Frag) (C : Addr) (f : Str) (v : V) (u : Value) : Prop where
  at_ : PySem.W.findIn K (.ref C) f = some (some u)
  rel : RelV v u
  get : PySem.W.specialIn K u "__get__" = some none
  cp : PySem.W.copiedNames.contains f = false
structure Meth (K : PySem.W.Frag) (C : Addr) (m : Str) (f : Addr) : Prop where
  at_ : PySem.W.findIn K (.ref C) m = some (some (.ref f))
  fn : PySem.W.isFn K (.ref f) = true
  kp : PySem.W.keepIn K (.ref f) = true

section
variable {X : Cx} {pins : List (Addr × Obj)} {σ : St} {H : Hp} {s : Shared} {a C dx : Addr} {fs : List (Str × V)} {f : Str} {v : V} {A : Around} {E : Value → Shared → Prop}

end

section
variable {X : Cx} {o e value : Expr} {f : Str} {pos pos' tpos : Pos} {ta tv : TE}
end

section
variable {X : Cx} {pins : List (Addr × Obj)} {σ : St} {H : Hp} {s : Shared} {A : Around} {E : Value → Shared → Prop} {Q : Value → Shared → Prop} {c : Value} {b : Bool}
inductive TyOf (K : PySem.W.Frag) (H : Hp) : V → Value → Prop where
  | non : TyOf K H .non (.type "NoneType")
  | bl (x : Bool) : TyOf K H (.bl x) (.type "bool")
  | int (i : Int) : TyOf K H (.int i) (.type "int")
  | str (x : Str) : TyOf K H (.str x) (.type "str")
  | flt (x : UInt64) : TyOf K H (.flt x) (.type "float")
  | lst {a : Addr} {xs : List V} (e : H a = some (.lst xs)) : TyOf K H (.ref a) (.type "list")
  | frz {a : Addr} {o : Obj} {xs : List V} (e : H a = some (.frz o (.lst xs))) : TyOf K H (.ref a) (.type "list")
  | tup {a : Addr} {xs : List V} (e : H a = some (.tup xs)) : TyOf K H (.ref a) (.type "tuple")
  | dK {a : Addr} {kvs : List (Key × V)} (e : H a = some (.dK kvs)) : TyOf K H (.ref a) (.type "dict")
  | dT {a : Addr} {kvs : List (List Key × V)} (e : H a = some (.dT kvs)) : TyOf K H (.ref a) (.type "dict")
  | ins {a C dx : Addr} {fs : List (Str × V)} (e : H a = some (.ins C dx fs)) (cl : Cls K C) (ha : PySem.W.findIn K (.ref C) "__class__" = some (some (.builtin "object.__class__")))
      (hn : PySem.W.specialIn K (.builtin "object.__class__") "__get__" = some (some (.builtin "getset_descriptor.__get__"))) (htk : PySem.W.takesIn K (.builtin "object.__class__") = some true)
      (hm : PySem.W.mroIn K C (.type "object") = some true) : TyOf K H (.ref a) (.ref C)
theorem isinst_ok {x : V} {u t : Value} (I : Inv X pins σ H s) (rx : RelV x u) (ty : TyOf X.K H x t) (e : PySem.W.kitOne X.K t c = some b) (h : ∀ tk, Q (.bool b) { s with toks := tk }) :
    wpAny (model X.prog X.w) A (call (.builtin "isinstance") [u, c]) Q E s := by
  cases ty with
  | non => cases (show u = Value.none from rx); exact PySem.W.kia_one PySem.W.kitx_none I.kIn True.intro e (fun z => nomatch z) h
  | bl y => cases (show u = Value.bool y from rx); exact PySem.W.kia_one PySem.W.kitx_bool I.kIn True.intro e (fun z => nomatch z) h
  | int i => obtain ⟨t, q⟩ := (show ∃ t, u = Value.int i t from rx); cases q; exact PySem.W.kia_one PySem.W.kitx_int I.kIn True.intro e (fun z => nomatch z) h
  | str y => obtain ⟨t, q⟩ := (show ∃ t, u = Value.str y t from rx); cases q; exact PySem.W.kia_one PySem.W.kitx_str I.kIn True.intro e (fun z => nomatch z) h
  | flt y => obtain ⟨t, q⟩ := (show ∃ t, u = Value.float y t from rx); cases q; exact PySem.W.kia_one PySem.W.kitx_float I.kIn True.intro e (fun z => nomatch z) h
  | @lst a xs ea =>
    cases (show u = Value.ref a from rx)
    obtain ⟨_, _, n, _, h1⟩ := (show ObjOk X.prog X.w H s.heap a (.lst xs) from I.hok a _ ea)
    exact PySem.W.kia_one PySem.W.kitx_list I.kIn ⟨_, h1, rfl⟩ e (fun z => nomatch z) h
  | @frz a ob xs ea =>
    cases (show u = Value.ref a from rx)
    obtain ⟨_, _, _, n, _, h1⟩ := (show ObjOk X.prog X.w H s.heap a (.frz ob (.lst xs)) from I.hok a _ ea)
    exact PySem.W.kia_one PySem.W.kitx_list I.kIn ⟨_, h1, rfl⟩ e (fun z => nomatch z) h
  | @tup a xs ea =>
    cases (show u = Value.ref a from rx)
    obtain ⟨_, _, _, p⟩ := (show ObjOk X.prog X.w H s.heap a (.tup xs) from I.hok a _ ea)
    obtain ⟨o, h1, h2, _⟩ := p
    exact PySem.W.kia_one PySem.W.kitx_tuple I.kIn ⟨o, h1, h2⟩ e (fun z => nomatch z) h
  | @dK a kvs ea =>
    cases (show u = Value.ref a from rx)
    obtain ⟨_, _, vs, _, p⟩ := (show ObjOk X.prog X.w H s.heap a (.dK kvs) from I.hok a _ ea)
    obtain ⟨o, es, ep, h1, h2, _⟩ := p
    exact PySem.W.kia_one PySem.W.kitx_dict I.kIn ⟨o, h1, h2.1⟩ e (fun z => nomatch z) h
  | @dT a kvs ea =>
    cases (show u = Value.ref a from rx)
    obtain ⟨_, _, xs, _, o, es, ep, h1, h2, _⟩ := (show ObjOk X.prog X.w H s.heap a (.dT kvs) from I.hok a _ ea)
    exact PySem.W.kia_one PySem.W.kitx_dict I.kIn ⟨o, h1, h2.1⟩ e (fun z => nomatch z) h
  | @ins a C dx fs ea cl ha hn htk hm =>
    cases (show u = Value.ref a from rx)
    obtain ⟨mA, O, _⟩ := ins_get I.hok ea
    obtain ⟨od, J, _⟩ := O.look
    exact PySem.W.kia_one (PySem.W.kitx_own (cl.get _) cl.hd ha hn htk hm) I.kIn J e (fun z => nomatch z) h
end
end L2

namespace L2
open PySem PySem.Spec PyProof.Rows

structure Room (k : Nat) (A : Around) : Prop where
  hd : A.handled = none
  dp : A.depth + 3 * k + 5 < recursionLimit
  un : A.units + 16 * k + 200 < cLine
theorem Room.mono {j k : Nat} {A : Around} (r : Room k A) (h : j ≤ k) : Room j A := ⟨r.hd, by have := r.dp; omega, by have := r.un; omega⟩
theorem Room.deeper {k : Nat} {A : Around} (r : Room (k + 1) A) (env : Env) : Room k (A.deeper env) :=
  ⟨r.hd, by have := r.dp; show A.depth + 1 + 3 * k + 5 < _; omega, by have := r.un; show A.units + 3 + 16 * k + 200 < _; omega⟩
theorem Room.in1 {k : Nat} {A : Around} (r : Room (k + 1) A) : Room k A.in1 :=
  ⟨r.hd, by have := r.dp; show A.depth + 3 * k + 5 < _; omega, by have := r.un; show A.units + 1 + 16 * k + 200 < _; omega⟩
theorem Room.depth {k : Nat} {A : Around} (r : Room k A) : A.depth < recursionLimit := by have := r.dp; omega
theorem Room.units {k : Nat} {A : Around} (r : Room k A) : A.units + 64 < cLine := by have := r.un; omega
def tNil : TA := fun _ H Q => Q [] H
def tCons (ta : TE) (tr : TA) : TA := fun σ H Q => ta σ H fun x H1 => tr σ H1 fun xs H2 => Q (x :: xs) H2
section
variable {X : Cx} {e : Expr} {es : List Expr} {te : TE} {t : TA} {pos : Pos}
theorem pa_nil : PA X [] tNil := fun _ _ _ _ H Q I h => Calls.spliced_nil ⟨[], H, I, .nil, h⟩
theorem pa_cons (ha : PE X e te) (hr : PA X es t) (hs : starEach (e :: es) X.env = (false, eval e X.env) :: starEach es X.env := by rfl) : PA X (e :: es) (tCons te t) := by
  intro pos pins s σ H Q I h
  rw [hs]
  show wpAny _ _ (spliced ((false, eval e X.env) :: backTo pos (starEach es X.env))) _ _ s
  refine Calls.spliced_cons (thn (ha pins s σ H _ I h) fun u s1 ⟨x, H1, I1, r1, q1⟩ => ?_)
  exact thn (hr pos pins s1 σ H1 _ I1 q1) fun us s2 ⟨xs, H2, I2, r2, q2⟩ => ⟨x :: xs, H2, I2, .cons r1 r2, q2⟩

def tTup (t : TA) : TE := fun σ H Q => t σ H fun xs H1 => xs.length ≤ sizeLine ∧ ∀ p, H1 p = none → Q (.ref p) (upd H1 p (.tup xs))
def tLst (t : TA) : TE := fun σ H Q => t σ H fun xs H1 => xs.length ≤ sizeLine ∧ ∀ p, H1 p = none → Q (.ref p) (upd H1 p (.lst xs))
theorem pe_tup {x1} (h : PA X es t) : PE X (.Tuple es x1 pos) (tTup t) := by
  intro pins s σ H Q I hq
  refine wpAny_Tuple_spliced (thn (h pos pins s σ H _ I hq) fun us s1 ⟨xs, H1, I1, r, z, q⟩ => ⟨by rw [← r.length]; exact z, ?_⟩)
  have hf : H1 s1.heap.objs.size = none := I1.hok.fresh (Nat.le_refl _)
  refine ⟨.ref s1.heap.objs.size, upd H1 s1.heap.objs.size (.tup xs), I1.laid (t' := s1.toks) (fun b u e => Heap.get?_push_of_some _ e) (Nat.le_refl _) ?_, rfl, q _ hf⟩
  exact ⟨z, us, r, ⟨_, Heap.get?_push_size _ rfl, rfl, _, rfl⟩⟩
theorem pe_lst (h : PA X es t) : PE X (.List es pos) (tLst t) := by
  intro pins s σ H Q I hq
  refine wpAny_List_spliced (thn (h pos pins s σ H _ I hq) fun us s1 ⟨xs, H1, I1, r, z, q⟩ => ⟨by rw [← r.length]; exact z, ?_⟩)
  have hf : H1 s1.heap.objs.size = none := I1.hok.fresh (Nat.le_refl _)
  refine ⟨.ref s1.heap.objs.size, upd H1 s1.heap.objs.size (.lst xs), I1.laid (t' := s1.toks) (fun b u e => Heap.get?_push_of_some _ e) (Nat.le_refl _) ?_, rfl, q _ hf⟩
  exact ⟨z, us, 0, r, Heap.get?_push_size _ rfl⟩
end

abbrev Sp := List V → Hp → VK → XK → Prop
abbrev CXT := List Env → Hp → Shared → XK → Value → Shared → Prop

structure Env0 (P : Program) (w : World) (K : PySem.W.Frag) (mg : Str → Option Value) (base : Heap) (A : Around) (outer : List Env) (s : Shared) (H : Hp) : Prop where
  frames : A.frames = some outer
  mod : Mod K mg base
  bs : ∀ b o, base.get? b = some o → s.heap.get? b = some o ∧ H b = none
  bsz : base.objs.size ≤ s.heap.objs.size
  funs : s.heap.FunFrames base outer
  frf : ∀ b ∈ frs outer, H b = none
  hok : HOk P w H s.heap
  bare : AllBare s.gens
def CE (outer : List Env) (P : Program) (w : World) (H : Hp) (s : Shared) (Q : VK) (u : Value) (s' : Shared) : Prop :=
  ∃ v H', s'.os = s.os ∧ AllBare s'.gens ∧ Un (frs outer) [] H H' s.heap s'.heap ∧ HOk P w H' s'.heap ∧ RelV v u ∧ Q v H'
def CR (CX : CXT) (outer : List Env) (P : Program) (w : World) (H : Hp) (s : Shared) (Q : VK) (E : XK) (r : Result) (s' : Shared) : Prop :=
  match r with
  | .ok (.ret u) => CE outer P w H s Q u s'
  | .ok _ => False
  | .error e => CX outer H s E e s'
structure FnOk (P : Program) (w : World) (K : PySem.W.Frag) (mg : Str → Option Value) (base : Heap) (CX : CXT) (k : Nat) (f : Addr) (fd : FuncData) (ps : List Str) (sp : Sp) : Prop where
  len : ∀ vs H Q E, sp vs H Q E → vs.length = ps.length
  run : ∀ (A : Around) (outer : List Env) (s : Shared) (H : Hp) (args : Args) (us : List Value) (vs : List V) (Q : VK) (E : XK), Room k A → Env0 P w K mg base A outer s H → BindsTo s fd args (ps.zip us) → Vals vs us → sp vs H Q E →
    codeAny (model P w) A (.call (.ref f) args) (CR CX outer P w H s Q E) s
theorem FnOk.mono {P : Program} {w : World} {K : PySem.W.Frag} {mg : Str → Option Value} {base : Heap} {CX : CXT} {j k : Nat} {f : Addr} {fd : FuncData} {ps : List Str} {sp : Sp} (F : FnOk P w K mg base CX j f fd ps sp) (h : j ≤ k) :
    FnOk P w K mg base CX k f fd ps sp := ⟨F.len, fun A outer s H args us vs Q E hr => F.run A outer s H args us vs Q E (hr.mono h)⟩
theorem FnOk.imp {P : Program} {w : World} {K : PySem.W.Frag} {mg : Str → Option Value} {base : Heap} {CX : CXT} {k : Nat} {f : Addr} {fd : FuncData} {ps : List Str} {sp sp' : Sp} (F : FnOk P w K mg base CX k f fd ps sp)
    (h : ∀ vs H Q E, sp' vs H Q E → sp vs H Q E) : FnOk P w K mg base CX k f fd ps sp' :=
  ⟨fun vs H Q E q => F.len vs H Q E (h _ _ _ _ q), fun A outer s H args us vs Q E hr he hb hv hs => F.run A outer s H args us vs Q E hr he hb hv (h _ _ _ _ hs)⟩

theorem Env0.in1 {P : Program} {w : World} {K : PySem.W.Frag} {mg : Str → Option Value} {base : Heap} {A : Around} {outer : List Env} {s : Shared} {H : Hp} (e : Env0 P w K mg base A outer s H) :
    Env0 P w K mg base A.in1 outer s H := ⟨e.frames, e.mod, e.bs, e.bsz, e.funs, e.frf, e.hok, e.bare⟩

section
variable {X : Cx} {pins : List (Addr × Obj)} {σ : St} {H : Hp} {s s' : Shared}
theorem Inv.env0 (I : Inv X pins σ H s) : Env0 X.prog X.w X.K X.mg X.base X.A X.stack s H :=
  ⟨I.ok.frames, I.ok.mod, I.bs, Nat.le_trans I.ok.bsz I.sz, I.stack, I.stkFree, I.hok, I.bare⟩
theorem Inv.after {Q : VK} {u : Value} (I : Inv X pins σ H s) (h : CE X.stack X.prog X.w H s Q u s') : EP X pins σ Q u s' := by
  obtain ⟨v, H', os, bare, un, hok, r, q⟩ := h
  obtain ⟨hh, g, d, t, os'⟩ := s'
  obtain rfl : os' = s.os := os
  exact ⟨v, H', I.call (h' := hh) (g' := g) (d' := d) (t' := t) (ch := []) un hok bare (fun b z => absurd z (by simp)), r, q⟩
end

def tCall (sp : Sp) (dvs : List V) (E : XK) (t : TA) : TE := fun σ H Q => t σ H fun vs H1 => sp (vs ++ dvs) H1 Q E
def Binds (K : PySem.W.Frag) (fd : FuncData) (ps : List Str) (ds : List Value) : Prop :=
  ∀ (s : Shared) (us : List Value), K.In s.heap → (us ++ ds).length = ps.length → BindsTo s fd ⟨us, []⟩ (ps.zip (us ++ ds))
theorem Binds.all {K : PySem.W.Frag} {fd : FuncData} {ps : List Str} (h : ∀ us : List Value, us.length = ps.length → bindArgs fd ⟨us, []⟩ = pure (ps.zip us)) : Binds K fd ps [] := fun s us _ hl => by
  rw [List.append_nil] at hl ⊢
  exact .of_eq (h us hl)

def Passes (CX : CXT) (X : Cx) (E : XK) : Prop := ∀ (pins : List (Addr × Obj)) (σ : St) (H : Hp) (s : Shared) (e : Value) (s' : Shared), Inv X pins σ H s → CX X.stack H s E e s' → X.xe e s'

section
variable {X : Cx} {CX : CXT} {k : Nat} {f C : Addr} {fd : FuncData} {ps : List Str} {sp : Sp} {dvs : List V} {ds : List Value} {E : XK} {x m : Str} {p pos apos : Pos} {e o : Expr} {es : List Expr} {ta : TE} {t : TA}

theorem run_fn {pins : List (Addr × Obj)} {σ : St} {H : Hp} {s : Shared} {Q : VK} {us : List Value} {vs : List V} (F : FnOk X.prog X.w X.K X.mg X.base CX k f fd ps sp) (hr : Room k X.A) (hb : Binds X.K fd ps ds) (hd : Vals dvs ds) (hx : Passes CX X E)
    (I : Inv X pins σ H s) (r : Vals vs us) (h : sp (vs ++ dvs) H Q E) : wpAny (model X.prog X.w) X.A (call (.ref f) us) (EP X pins σ Q) X.xe s := by
  have r2 : Vals (vs ++ dvs) (us ++ ds) := r.append hd
  have hl : (us ++ ds).length = ps.length := by rw [← r2.length]; exact F.len _ _ _ _ h
  refine wpAny_call (codeAny_mono (F.run X.A X.stack s H ⟨us, []⟩ (us ++ ds) (vs ++ dvs) Q E hr I.env0 (hb s us I.kIn hl) r2 h) fun r s' hq => ?_)
  cases r with
  | error e => exact hx pins σ H s e s' I hq
  | ok fl =>
    cases fl with
    | ret u => exact I.after hq
    | next => exact False.elim hq
    | brk => exact False.elim hq
    | cont => exact False.elim hq

theorem pe_call (F : FnOk X.prog X.w X.K X.mg X.base CX k f fd ps sp) (hr : Room k X.A) (hg : Gl X x) (hm : X.mg x = some (.ref f)) (hk : PySem.W.keepIn X.K (.ref f) = true) (hb : Binds X.K fd ps ds) (hd : Vals dvs ds) (hx : Passes CX X E)
    (ha : PA X (e :: es) t) (hdb : (x == ("__debug__" : Str)) = false := by decide) (he : starEach (e :: es) X.env = (false, eval e X.env) :: starEach es X.env := by rfl) (hpl : (backTo pos (starEach es X.env)).any (·.1) = false := by rfl) :
    PE X (.Call (.Name x p) (e :: es) [] pos) (tCall sp dvs E t) := by
  intro pins s σ H Q I h
  refine wpAny_Call_Name_kw (ld_glob I hg hm ?_ hdb)
  refine PySem.W.callWith_K (h₀ := X.base) I.ok.mod.kin hk (thn (ha pos pins s σ H _ I h) fun us s1 ⟨vs, H1, I1, r, q⟩ => ⟨I1.kIn, ?_⟩) he hpl
  exact run_fn F hr hb hd hx I1 r q
structure Mk (K : PySem.W.Frag) (C f : Addr) : Prop where
  makes : PySem.W.makesIn K C = true
  init : PySem.W.findIn K (.ref C) "__init__" = some (some (.ref f))
  fn : PySem.W.isFn K (.ref f) = true
  kp : PySem.W.keepIn K (.ref C) = true

end

section
variable {X : Cx} {CX : CXT} {k : Nat} {f C : Addr} {fd : FuncData} {ps ks : List Str} {sp : Sp} {E : XK} {x m : Str} {p pos apos kpos : Pos} {e o : Expr} {es : List Expr} {kws : List Keyword} {te ta : TE} {t tk : TA} {nm : Option Str}
structure KBinds (K : PySem.W.Frag) (fd : FuncData) (ps ks : List Str) (g : List Value → List Value → List Value) (gV : List V → List V → List V) : Prop where
  to : ∀ (s : Shared) (us ws : List Value), K.In s.heap → (g us ws).length = ps.length → BindsTo s fd ⟨us, ks.zip ws⟩ (ps.zip (g us ws))
  rel : ∀ {vs : List V} {us : List Value} {zs : List V} {ws : List Value}, Vals vs us → Vals zs ws → Vals (gV vs zs) (g us ws)
variable {g : List Value → List Value → List Value} {gV : List V → List V → List V}
end

structure FnScope (N P : List Str) (sc : Scope) : Prop where
  kind : sc.kind = .function
  co : sc.isCoroutine = false
  gen : sc.isGenerator = false
  nd : N.Nodup
  pre : N.take P.length = P
  par : ∀ x ∈ P, sc.names.lookup x = some .local ∨ sc.names.lookup x = some .cell
  nofree : ∀ y ∈ sc.names, y.2 ≠ .free

theorem bindL_out {kindOf : Str → Option NameKind} {x : Str} : ∀ {binds : List (Str × Value)} {m : Str → Option Value}, (∀ v, (x, v) ∉ binds) → bindL kindOf binds m x = m x
  | [], _, _ => rfl
  | (n, v) :: r, m, h => by
    unfold bindL
    rw [bindL_out fun w hw => h w (List.mem_cons_of_mem _ hw)]
    split
    · have : x ≠ n := by rintro rfl; exact h v List.mem_cons_self
      simp [this]
    · rfl
theorem bindC_out {kindOf : Str → Option NameKind} {x : Str} : ∀ {binds : List (Str × Value)} {m : Str → Option Value}, (∀ v, (x, v) ∉ binds) → bindC kindOf binds m x = m x
  | [], _, _ => rfl
  | (n, v) :: r, m, h => by
    unfold bindC
    rw [bindC_out fun w hw => h w (List.mem_cons_of_mem _ hw)]
    split
    · rfl
    · have : x ≠ n := by rintro rfl; exact h v List.mem_cons_self
      simp [this]
theorem bindL_get {kindOf : Str → Option NameKind} {x : Str} {v : Value} : ∀ {P : List Str} {vs : List Value} {i : Nat} {m : Str → Option Value}, P.Nodup → P[i]? = some x → vs[i]? = some v → kindOf x = some .local →
    bindL kindOf (P.zip vs) m x = some v
  | [], _, _, _, _, h, _, _ => by simp at h
  | _ :: _, [], _, _, _, _, h, _ => by simp at h
  | p :: P, w :: vs, 0, m, nd, h1, h2, hk => by
    simp at h1 h2; subst h1; subst h2
    show bindL kindOf ((p, w) :: P.zip vs) m p = _
    unfold bindL
    rw [bindL_out fun v hv => (List.nodup_cons.mp nd).1 (List.of_mem_zip hv).1, if_pos hk]
    simp
  | p :: P, w :: vs, i + 1, m, nd, h1, h2, hk => by
    show bindL kindOf ((p, w) :: P.zip vs) m x = _
    unfold bindL
    exact bindL_get (i := i) (List.nodup_cons.mp nd).2 (by simpa using h1) (by simpa using h2) hk
theorem bindC_get {kindOf : Str → Option NameKind} {x : Str} {v : Value} : ∀ {P : List Str} {vs : List Value} {i : Nat} {m : Str → Option Value}, P.Nodup → P[i]? = some x → vs[i]? = some v → kindOf x ≠ some .local →
    bindC kindOf (P.zip vs) m x = some v
  | [], _, _, _, _, h, _, _ => by simp at h
  | _ :: _, [], _, _, _, _, h, _ => by simp at h
  | p :: P, w :: vs, 0, m, nd, h1, h2, hk => by
    simp at h1 h2; subst h1; subst h2
    show bindC kindOf ((p, w) :: P.zip vs) m p = _
    unfold bindC
    rw [bindC_out fun v hv => (List.nodup_cons.mp nd).1 (List.of_mem_zip hv).1, if_neg hk]
    simp
  | p :: P, w :: vs, i + 1, m, nd, h1, h2, hk => by
    show bindC kindOf ((p, w) :: P.zip vs) m x = _
    unfold bindC
    exact bindC_get (i := i) (List.nodup_cons.mp nd).2 (by simpa using h1) (by simpa using h2) hk

def start (N : List Str) (vs : List V) : St := vs.map some ++ List.replicate (N.length - vs.length) none

def cxOf (CX : CXT) (P : Program) (w : World) (K : PySem.W.Frag) (mg : Str → Option Value) (base : Heap) (N : List Str) (qual : Str) (scope : Scope) (f : Addr) (cd : Value) (A : Around) (outer : List Env) (s : Shared) (H : Hp) (E : XK) : Cx where
  prog := P
  w := w
  K := K
  mg := mg
  base := base
  A := A.deeper (envOfC qual scope s.heap.objs.size f cd)
  N := N
  s₀ := s
  H₀ := H
  env := envOfC qual scope s.heap.objs.size f cd
  outer := outer
  stack := envOfC qual scope s.heap.objs.size f cd :: outer
  ex := []
  calm := true
  fn := fun _ => true
  pn := []
  xe := fun e s' => wpAny (model P w) (A.deeper (envOfC qual scope s.heap.objs.size f cd)) (leaving (envOfC qual scope s.heap.objs.size f cd) e) (fun _ s'' => CX outer H s E e s'') (fun e' s'' => CX outer H s E e' s'') s'

theorem cell_has {sc : Scope} {n : Nat} {x : Str} (h : sc.names.lookup x = some .cell) : ∃ c, (cellsFrom n sc.names []).lookup x = some c := by
  have q := PySem.W.cellsFrom_some sc.names n [] (.inl h)
  exact Option.isSome_iff_exists.mp q

theorem inv_start {CX : CXT} {P : Program} {w : World} {K : PySem.W.Frag} {mg : Str → Option Value} {base : Heap} {N ps : List Str} {qual : Str} {scope : Scope} {f : Addr} {cd : Value} {A : Around} {outer : List Env} {s s1 : Shared} {H : Hp} {E : XK} {us : List Value} {vs : List V}
    (S : FnScope N ps scope) (hd : A.handled = none) (e0 : Env0 P w K mg base A outer s H) (hl : vs.length = ps.length) (r : Vals vs us)
    (x : InCallC s s.heap.objs.size (bindL (envOfC qual scope s.heap.objs.size f cd).kindOf (ps.zip us) fun _ => none) (cellsFrom (s.heap.objs.size + 1) scope.names []) (bindC (envOfC qual scope s.heap.objs.size f cd).kindOf (ps.zip us) fun _ => none) s1) :
    Inv (cxOf CX P w K mg base N qual scope f cd A outer s H E) [] (start N vs) H s1 := by
  have hpl : ps.length ≤ N.length := by have := congrArg List.length S.pre; rw [List.length_take] at this; omega
  obtain ⟨h1, tk, rfl, hk⟩ := x.done
  have noA : ∀ b : Addr, b ∉ (cxOf CX P w K mg base N qual scope f cd A outer s H E).ex := fun b z => absurd (show b ∈ ([] : List Addr) from z) (by simp)
  refine ⟨⟨e0.mod, S.kind, rfl, rfl, Nat.le_refl _, fun y z c h1 h2 => ?_, fun y hy => ?_, fun y c _ h => ?_, fun _ => hd, Around.frames_deeper e0.frames, .inr ⟨rfl, rfl⟩, fun b z => absurd z (noA b), e0.bs, e0.bsz, fun b _ _ => noA b, fun b z => absurd z (noA b), e0.funs, e0.frf⟩,
    rfl, e0.bare, Un.kept hk, ⟨_, x.toInCall.ns, fun i y v h1 h2 h3 => ?_⟩, fun y c h => ⟨_, x.cell y c h⟩, e0.hok.fresh (Nat.le_refl _), fun y c h => ?_, fun p hp => absurd (show p ∈ ([] : List (Addr × Obj)) from hp) (by simp), e0.hok.kept hk, ?_⟩
  · exact name_of_addr x.apart (PySem.mem_of_lookup h1) (PySem.mem_of_lookup h2)
  · have hy : scope.names.lookup y = some .cell ∨ scope.names.lookup y = some .free := hy
    rcases hy with hy | hy
    · exact cell_has hy
    · exact absurd rfl (S.nofree _ (PySem.mem_of_lookup hy))
  · exact Nat.le_of_lt (x.above y c (PySem.mem_of_lookup h))
  · have hi : i < vs.length := by
      unfold start at h2
      by_cases hi : i < vs.length
      · exact hi
      · rw [List.getElem?_append_right (by simpa using hi)] at h2
        rw [List.getElem?_replicate] at h2
        split at h2 <;> cases h2
    have ha : vs[i]? = some v := by
      unfold start at h2
      rw [List.getElem?_append_left (by simpa using hi), List.getElem?_map] at h2
      cases e : vs[i]? with
      | none => rw [e] at h2; cases h2
      | some a => rw [e] at h2; cases h2; rfl
    obtain ⟨u, hu, rv⟩ := r.get ha
    have hp : ps[i]? = some y := by
      rw [← S.pre, List.getElem?_take_of_lt (by omega)]; exact h1
    have ndP : ps.Nodup := by rw [← S.pre]; exact S.nd.sublist (List.take_sublist _ _)
    refine ⟨u, rv, ?_⟩
    rcases S.par y (List.mem_of_getElem? hp) with k | k
    · exact .inl ⟨k, bindL_get ndP hp hu k⟩
    · obtain ⟨c, e⟩ := cell_has (n := s.heap.objs.size + 1) k
      refine .inr ⟨.inl k, c, e, ?_⟩
      have q := x.cell y c e
      rw [bindC_get ndP hp hu (by show scope.names.lookup y ≠ _; rw [k]; decide)] at q
      exact q
  · exact e0.hok.fresh (Nat.le_of_lt (x.above y c (PySem.mem_of_lookup h)))
  · unfold start
    show _ = N.length
    rw [List.length_append, List.length_map, List.length_replicate]
    omega

theorem fn_of {CX : CXT} {P : Program} {w : World} {K : PySem.W.Frag} {mg : Str → Option Value} {base : Heap} {k : Nat} {f : Addr} {name qual : Str} {params : Arguments} {body : List Stmt} {scope : Scope} {dV kV doc pm cdv ct oc : Value} {an od : Option Addr}
    {osl : Array (Option Value)} {N ps : List Str} {sp : Sp} (lk : K.lookup f = some ⟨oc, od, .func (PySem.W.fnOf name qual params body scope dV kV doc pm an cdv ct), osl⟩) (hcd : PySem.W.codeIn K cdv qual = true) (S : FnScope N ps scope)
    (len : ∀ vs H Q E, sp vs H Q E → vs.length = ps.length)
    (hbody : ∀ (A : Around) (outer : List Env) (s : Shared) (H : Hp) (vs : List V) (Q : VK) (E : XK), Room k (A.deeper (envOfC qual scope s.heap.objs.size f cdv)) → sp vs H Q E →
      ∃ t, PSs (cxOf CX P w K mg base N qual scope f cdv A outer s H E) body t ∧ t { nx := fun _ H' => Q .non H', rt := Q } (start N vs) H) :
    FnOk P w K mg base CX (k + 1) f (PySem.W.fnOf name qual params body scope dV kV doc pm an cdv ct) ps sp := by
  refine ⟨len, fun A outer s H args us vs Q E hr e0 hb r hsp => ?_⟩
  have hl := len _ _ _ _ hsp
  have KX : K.In s.heap := e0.mod.kin.keeps fun b o e => (e0.bs b o e).1
  have lim : s.heap.NoLimit := e0.mod.nolimit.keeps fun b o e => (e0.bs b o e).1
  have hkind : ∀ y ∈ ps.zip us, scope.names.lookup y.1 = some .local ∨ (scope.names.lookup y.1 = some .cell ∧ ((cellsFrom (s.heap.objs.size + 1) scope.names []).lookup y.1).isSome = true) := fun ⟨n, v⟩ hy => by
    rcases S.par n (List.of_mem_zip hy).1 with q | q
    · exact .inl q
    · exact .inr ⟨q, PySem.W.cellsFrom_some _ _ _ (.inl q)⟩
  refine codeAny_call_function hr.depth (KX _ _ lk) rfl S.co S.gen rfl (PySem.W.codeRec_of KX hcd) (hb _ _ _ _ ?_)
  refine wpAny_newFunctionEnv_cells S.kind hkind fun env he s1 x => ?_
  subst he
  refine ⟨lim.keeps x.toInCall.keep, codeAny_func ?_⟩
  obtain ⟨t, ht, hq⟩ := hbody A outer s H vs Q E (hr.deeper _) hsp
  have I : Inv (cxOf CX P w K mg base N qual scope f cdv A outer s H E) [] (start N vs) H s1 := inv_start S hr.hd e0 hl r x
  refine wpAny_mono (ht [] s1 (start N vs) H _ I hq) (fun fl s' hs => ?_) fun e s' hs => hs
  have fin : ∀ {σ' : St} {H' : Hp} {v : V} {u : Value}, Inv (cxOf CX P w K mg base N qual scope f cdv A outer s H E) [] σ' H' s' → RelV v u → Q v H' → CE outer P w H s Q u s' :=
    fun {σ' H' v u} J rv q => ⟨v, H', J.os, J.bare, J.base, J.hok, rv, q⟩
  cases fl with
  | ret u =>
    obtain ⟨v, σ', H', J, rv, q⟩ := hs
    exact fin J rv q
  | next =>
    obtain ⟨σ', H', J, q⟩ := hs
    exact fin (v := V.non) (u := Value.none) J rfl q
  | brk =>
    obtain ⟨_, _, _, q⟩ := hs
    exact False.elim q
  | cont =>
    obtain ⟨_, _, _, q⟩ := hs
    exact False.elim q
end L2

namespace L2
open PySem PySem.Spec PyProof.Rows
section
variable {X : Cx} {x : Str} {p pos : Pos} {e : Expr} {es : List Expr} {t : TA} {id T : String} {r : List V → Hp → VK → Prop}

def tCB (r : List V → Hp → VK → Prop) (t : TA) : TE := fun σ H Q => t σ H fun vs H1 => r vs H1 Q
theorem pe_callB (hc : CallR X (.builtin id) r) (hg : Gl X x) (hm : X.mg x = none) (hv : bootBuiltins x = some (.builtin id)) (ha : PA X (e :: es) t) (hn : x ≠ "__name__" := by decide) (hdb : (x == ("__debug__" : Str)) = false := by decide)
    (he : starEach (e :: es) X.env = (false, eval e X.env) :: starEach es X.env := by rfl) (hpl : (backTo pos (starEach es X.env)).any (·.1) = false := by rfl) : PE X (.Call (.Name x p) (e :: es) [] pos) (tCB r t) := by
  intro pins s σ H Q I h
  refine wpAny_Call_Name_kw (ld_blt I hg hm hv ?_ hn hdb)
  exact PyProof.Rows.callWith_builtin1 (thn (ha pos pins s σ H _ I h) fun us s1 ⟨vs, H1, I1, r1, q1⟩ => hc pins s1 σ H1 vs us Q I1 r1 q1) he hpl
theorem pe_callTy (hc : CallR X (.type T) r) (hg : Gl X x) (hm : X.mg x = none) (hv : bootBuiltins x = some (.type T)) (ha : PA X (e :: es) t) (hn : x ≠ "__name__" := by decide) (hdb : (x == ("__debug__" : Str)) = false := by decide)
    (he : starEach (e :: es) X.env = (false, eval e X.env) :: starEach es X.env := by rfl) (hpl : (backTo pos (starEach es X.env)).any (·.1) = false := by rfl) : PE X (.Call (.Name x p) (e :: es) [] pos) (tCB r t) := by
  intro pins s σ H Q I h
  refine wpAny_Call_Name_kw (ld_blt I hg hm hv ?_ hn hdb)
  exact PyProof.Rows.callWith_type1 (thn (ha pos pins s σ H _ I h) fun us s1 ⟨vs, H1, I1, r1, q1⟩ => hc pins s1 σ H1 vs us Q I1 r1 q1) he hpl
end
end L2

namespace HT
open PySem PyProof.Rows

section
open PySem.SeqAt
open PySem.AutoSeq1 (wpAny_loadPart')
open PySem.MeetsSeq PySem.MeetsSeq2 PySem.MeetsSeq3

end

section
variable {prog : Program} {w : World} {A : Around} {E : Value → Shared → Prop} {s : Shared}

def sIx (n d : Nat) : Option Int → Nat
  | none => d
  | some v => if v < 0 then (v + (n : Int)).toNat else min v.toNat n
theorem sIx_none (n d : Nat) : sIx n d none = d := rfl
theorem sIx_nat (n d k : Nat) : sIx n d (some (k : Int)) = min k n := by
  show (if (k : Int) < 0 then ((k : Int) + (n : Int)).toNat else min (k : Int).toNat n) = min k n
  rw [if_neg (by omega), Int.toNat_natCast]
theorem sIx_le (n d : Nat) (hd : d ≤ n) (o : Option Int) : sIx n d o ≤ n := by
  cases o with
  | none => exact hd
  | some v =>
    show (if v < 0 then (v + (n : Int)).toNat else min v.toNat n) ≤ n
    by_cases hv : v < 0
    · rw [if_pos hv]; omega
    · rw [if_neg hv]; exact Nat.min_le_right _ _
theorem clip_eq (v : Int) (n d : Nat) : (if v < 0 then max (v + (n : Int)) 0 else min v (n : Int)) = ((sIx n d (some v) : Nat) : Int) := by
  show (if v < 0 then max (v + (n : Int)) 0 else min v (n : Int)) = (((if v < 0 then (v + (n : Int)).toNat else min v.toNat n) : Nat) : Int)
  by_cases hv : v < 0
  · simp only [if_pos hv]; omega
  · simp only [if_neg hv]; omega
theorem adjust_gen (lo hi : Option Int) (n : Nat) : Builtin.Slice.sliceAdjust lo hi 1 (n : Int) = (((sIx n 0 lo : Nat) : Int), ((sIx n n hi : Nat) : Int)) := by
  have h1 : ¬ ((1 : Int) < 0) := by omega
  unfold Builtin.Slice.sliceAdjust
  simp only [h1, if_false]
  refine Prod.ext ?_ ?_
  · cases lo with
    | none => rfl
    | some v => exact clip_eq v n 0
  · cases hi with
    | none => rfl
    | some v => exact clip_eq v n n
theorem places_gen (i j : Nat) : Builtin.Slice.slicePlaces (i : Int) (j : Int) 1 = j - i := by
  unfold Builtin.Slice.slicePlaces
  have h1 : (1 : Int) > 0 := by omega
  simp only [h1, if_true, Int.ediv_one]
  split <;> omega
theorem slicePart_ {v : Value} {o : Option Int} {Q : Option Int → Shared → Prop} (p : IsPart v o) (h : Q o s) : wpAny (model prog w) A (Builtin.Slice.slicePartIndex v) Q E s := by
  cases p with
  | none => exact slicePart_none h
  | int i t => exact slicePart_int h
theorem sliceApplied_gen {sl : Addr} {vl vu : Value} {lo hi : Option Int} {n : Nat} {Q : Int × Int × Nat → Shared → Prop} (hs : s.heap.IsSliceOf sl vl vu .none) (pl : IsPart vl lo) (pu : IsPart vu hi)
    (h : Q (((sIx n 0 lo : Nat) : Int), 1, sIx n n hi - sIx n 0 lo) s) : wpAny (model prog w) A (Builtin.Slice.sliceApplied (.ref sl) (pure (n : Int))) Q E s := by
  obtain ⟨os, hos, hcs, hds⟩ := id hs
  unfold Builtin.Slice.sliceApplied Builtin.Slice.sliceFields
  refine wpAny_bind (wpAny_bind (wpAny_field hos hds (x := vl) rfl (wpAny_bind (wpAny_field hos hds (x := vu) rfl (wpAny_bind (wpAny_field hos hds (x := .none) rfl (wpAny_pure ?_)))))))
  refine wpAny_bind (slicePart_none ?_)
  show wpAny _ _ (if ((1 : Int) == 0) = true then _ else _) _ _ s
  rw [if_neg (by decide)]
  refine wpAny_bind (slicePart_ pl (wpAny_bind (slicePart_ pu (wpAny_bind (wpAny_pure ?_)))))
  show wpAny _ _ (match Builtin.Slice.sliceAdjust lo hi 1 (n : Int) with | (lo, hi) => pure (lo, (1 : Int), Builtin.Slice.slicePlaces lo hi 1)) _ _ s
  rw [adjust_gen lo hi n]
  show wpAny _ _ (pure (((sIx n 0 lo : Nat) : Int), (1 : Int), Builtin.Slice.slicePlaces ((sIx n 0 lo : Nat) : Int) ((sIx n n hi : Nat) : Int) 1)) _ _ s
  rw [places_gen]
  exact wpAny_pure h
theorem pick_gen (xs : Array Value) (i k : Nat) : ((List.range k).filterMap fun (m : Nat) => xs[((i : Int) + (m : Int) * 1).toNat]?).toArray = ((xs.toList.drop i).take k).toArray := by
  have e : (fun (m : Nat) => xs[((i : Int) + (m : Int) * 1).toNat]?) = fun m => xs[i + m]? := by
    funext m
    have : ((i : Int) + (m : Int) * 1).toNat = i + m := by omega
    rw [this]
  rw [e]
  have := pick_run xs i k
  rw [List.filterMap_map] at this
  have e2 : ((fun x => xs[x]?) ∘ fun x => i + x) = fun m => xs[i + m]? := rfl
  rw [e2] at this
  rw [this]

theorem getItem_tuple_cut {t sl : Addr} {items : Array Value} {vl vu : Value} {lo hi : Option Int} {Q : Value → Shared → Prop} (ht : IsTup s.heap t items) (hs : s.heap.IsSliceOf sl vl vu .none) (pl : IsPart vl lo) (pu : IsPart vu hi)
    (hw : ¬ (sIx items.size 0 lo = 0 ∧ sIx items.size items.size hi = items.size))
    (h : Q (.ref s.heap.objs.size) { s with heap := s.heap.push { cls := .type "tuple", data := .seq ((items.toList.drop (sIx items.size 0 lo)).take (sIx items.size items.size hi - sIx items.size 0 lo)).toArray } })
    (hsz : items.size ≤ sizeLine) : wpAny (model prog w) A (getItem (.ref t) (.ref sl)) Q E s := by
  have htake : sizeOk (.seq ((items.toList.drop (sIx items.size 0 lo)).take (sIx items.size items.size hi - sIx items.size 0 lo)).toArray) := by
    show ((items.toList.drop (sIx items.size 0 lo)).take (sIx items.size items.size hi - sIx items.size 0 lo)).toArray.size ≤ sizeLine
    rw [List.size_toArray, List.length_take, List.length_drop, Array.length_toList]
    omega
  have hj : sIx items.size items.size hi ≤ items.size := sIx_le _ _ (Nat.le_refl _) hi
  obtain ⟨os, hos, hcs, hds⟩ := id hs
  have hTs : s.TypeIs (.ref sl) "slice" := ⟨os, hos, hcs⟩
  unfold getItem
  try with_reducible refine wpAny_holding ?_
  first | refine wpAny_bind (wpAny_pure ?_) | skip
  refine wpAny_bind (wpAny_sequenceKey ht.typeIs (by decide) ?_)
  refine wpAny_bind (wpAny_callSpecial?_slot (name := Str.ofString "__getitem__") ht.typeIs PyProof.Rows.slot_tuple_getitem
    (wpAny_call_entry PyProof.Rows.slot_tuple_getitem ht.typeIs entry_tuple_getitem ?_ (args_tuple_getitem _ _)))
  show wpAny _ _ (Builtin.Tuple.tupleItemsOf (.ref t) >>= _) _ _ s
  refine wpAny_bind (tupleItemsOf_ ht ?_)
  refine wpAny_bind (wpAny_typeOf hTs ?_)
  rw [if_pos (by decide)]
  refine wpAny_bind (sliceApplied_gen hs pl pu ?_)
  have hno : ¬ ((((sIx items.size 0 lo : Nat) : Int) == 0 && (1 : Int) == 1 && (sIx items.size items.size hi - sIx items.size 0 lo) == items.size) = true) := by
    intro q
    rw [Bool.and_eq_true, Bool.and_eq_true] at q
    have q1 : ((sIx items.size 0 lo : Nat) : Int) = 0 := eq_of_beq q.1.1
    have q2 : sIx items.size items.size hi - sIx items.size 0 lo = items.size := eq_of_beq q.2
    exact hw ⟨by omega, by omega⟩
  show wpAny _ _ (if (((sIx items.size 0 lo : Nat) : Int) == 0 && (1 : Int) == 1 && (sIx items.size items.size hi - sIx items.size 0 lo) == items.size) = true then _ else _) _ _ s
  rw [if_neg hno, pick_gen]
  first
    | exact wpAny_bind (m := Builtin.Tuple.tupleExact _) (wpAny_newObj_type (wpAny_pure ⟨_, rfl, wpAny_pure h⟩) htake)
    | exact wpAny_bind (m := Builtin.Tuple.tupleExact _) (wpAny_newObj_type (wpAny_bind (wpAny_pure (wpAny_pure ⟨_, rfl, wpAny_pure h⟩))) htake)
    | exact wpAny_bind (wpAny_bind (m := Builtin.Tuple.tupleExact _) (wpAny_newObj_type (wpAny_pure (wpAny_pure ⟨_, rfl, wpAny_pure h⟩)) htake))
    | exact wpAny_bind (wpAny_bind (m := Builtin.Tuple.tupleExact _) (wpAny_newObj_type (wpAny_pure ⟨_, rfl, wpAny_pure h⟩) htake))
end
end HT

namespace L2
open PySem PySem.Spec PyProof.Rows

abbrev TO := St → Hp → (Option Int → Hp → Prop) → Prop
def PO (X : Cx) (e : Option Expr) (t : TO) : Prop :=
  ∀ (pins : List (Addr × Obj)) (s : Shared) (σ : St) (H : Hp) (Q : Option Int → Hp → Prop), Inv X pins σ H s → t σ H Q →
    wpAny (model X.prog X.w) X.A (evalPart e X.env) (fun u s' => ∃ o H', Inv X pins σ H' s' ∧ IsPart u o ∧ Q o H') X.xe s
def tNoPart : TO := fun _ H Q => Q none H
def tPart (t : TE) : TO := fun σ H Q => t σ H fun x H1 => ∃ i, x = .int i ∧ Q (some i) H1

section
variable {X : Cx} {e : Expr} {te : TE} {lo hi : Option Expr} {tl th : TO} {pos p2 : Pos}

theorem po_none : PO X none tNoPart := by
  intro pins s σ H Q I h
  rw [evalPart_none]
  exact wpAny_pure ⟨none, H, I, .none, h⟩
theorem po_some (h : PE X e te) : PO X (some e) (tPart te) := by
  intro pins s σ H Q I hw
  rw [evalPart_some]
  refine thn (h pins s σ H _ I hw) fun u s1 ⟨x, H1, I1, r1, q1⟩ => ?_
  obtain ⟨i, rfl, q⟩ := q1
  obtain ⟨t, rfl⟩ := r1
  exact ⟨some i, H1, I1, .int i t, q⟩

def SlR (X : Cx) (r : V → Option Int → Option Int → Hp → VK → Prop) : Prop :=
  ∀ (pins : List (Addr × Obj)) (s : Shared) (σ : St) (H : Hp) (x : V) (v vl vu : Value) (lo hi : Option Int) (sl : Addr) (Q : VK), Inv X pins σ H s → RelV x v → s.heap.IsSliceOf sl vl vu .none → IsPart vl lo → IsPart vu hi → r x lo hi H Q →
    ∃ T id, typeLookup (.type T) "__getitem__" = pure (some (.builtin id)) ∧ s.TypeIs v T ∧ wpAny (model X.prog X.w) X.A (getItem v (.ref sl)) (EP X pins σ Q) X.xe s
theorem SlR.or {r r' : V → Option Int → Option Int → Hp → VK → Prop} (h : SlR X r) (h' : SlR X r') : SlR X (fun x lo hi H Q => r x lo hi H Q ∨ r' x lo hi H Q) := by
  intro pins s σ H x v vl vu lo hi sl Q I rx hs pl pu q
  rcases q with q | q
  · exact h pins s σ H x v vl vu lo hi sl Q I rx hs pl pu q
  · exact h' pins s σ H x v vl vu lo hi sl Q I rx hs pl pu q
def tSl (r : V → Option Int → Option Int → Hp → VK → Prop) (te : TE) (tl th : TO) : TE := fun σ H Q => te σ H fun x H1 => tl σ H1 fun l H2 => th σ H2 fun u H3 => r x l u H3 Q
theorem pe_slice {r : V → Option Int → Option Int → Hp → VK → Prop} (hr : SlR X r) (he : PE X e te) (hl : PO X lo tl) (hu : PO X hi th) : PE X (.Subscript e (.Slice lo hi none p2) pos) (tSl r te tl th) := by
  intro pins s σ H Q I h
  refine Subscript_ (thn (he pins s σ H _ I h) fun v s1 ⟨x, H1, I1, r1, q1⟩ => ?_)
  refine wpAny_Slice (thn (hl pins s1 σ H1 _ I1 q1) fun vl s2 ⟨l, H2, I2, pl, q2⟩ => thn (hu pins s2 σ H2 _ I2 q2) fun vu s3 ⟨u, H3, I3, pu, q3⟩ => ?_)
  rw [evalPart_none]
  refine wpAny_pure ?_
  have I4 : Inv X pins σ H3 { s3 with heap := s3.heap.push { cls := .type "slice", data := .fields #[vl, vu, .none] } } := I3.kept (t' := s3.toks) fun b ob q => Heap.get?_push_of_some _ q
  obtain ⟨T, id, hT, ht, hg⟩ := hr pins { s3 with heap := s3.heap.push { cls := .type "slice", data := .fields #[vl, vu, .none] } } σ H3 x v vl vu l u s3.heap.objs.size Q I4 r1 (Heap.IsSliceOf.new ..) pl pu q3
  show wpAny (model X.prog X.w) X.A (subscriptTail e (.Slice lo hi none p2) v (.ref s3.heap.objs.size)) (EP X pins σ Q) X.xe { s3 with heap := s3.heap.push { cls := .type "slice", data := .fields #[vl, vu, .none] } }
  exact tail_any (ops := [.ref s3.heap.objs.size, v]) ht hT hg (by with_unfolding_all rfl)

def cutV (xs : List V) (lo hi : Option Int) : List V := (xs.drop (HT.sIx xs.length 0 lo)).take (HT.sIx xs.length xs.length hi - HT.sIx xs.length 0 lo)
theorem cutV_length (xs : List V) (lo hi : Option Int) : (cutV xs lo hi).length ≤ xs.length := by
  unfold cutV
  rw [List.length_take, List.length_drop]
  omega
def rSlT (K : PySem.W.Frag) : V → Option Int → Option Int → Hp → VK → Prop := fun x lo hi H Q => ∃ a xs, x = .ref a ∧ SqT K H a xs ∧
  ¬ (HT.sIx xs.length 0 lo = 0 ∧ HT.sIx xs.length xs.length hi = xs.length) ∧ ∀ p, H p = none → Q (.ref p) (upd H p (.tup (cutV xs lo hi)))
theorem sl_tup : SlR X (rSlT X.K) := by
  intro pins s σ H x v vl vu lo hi sl Q I rx hs pl pu h
  obtain ⟨a, xs, rfl, hx, hw, q⟩ := h
  cases rx
  obtain ⟨its, r, ht, hz⟩ := I.tuple hx
  have hlen : its.toArray.size = xs.length := by rw [List.size_toArray]; exact r.length.symm
  refine ⟨"tuple", _, PyProof.Rows.slot_tuple_getitem.lookup, ht.typeIs, ?_⟩
  refine HT.getItem_tuple_cut ht hs pl pu (by rw [hlen]; exact hw) ?_ (by rw [hlen]; exact hz)
  rw [hlen]
  refine ⟨.ref s.heap.objs.size, _, I.laid (t' := s.toks) (o := .tup (cutV xs lo hi)) (fun b ob q => Heap.get?_push_of_some _ q) (Nat.le_refl _) ?_, rfl, q _ (I.hok.fresh (Nat.le_refl _))⟩
  exact ⟨Nat.le_trans (cutV_length xs lo hi) hz, _, (r.drop (HT.sIx xs.length 0 lo)).take (HT.sIx xs.length xs.length hi - HT.sIx xs.length 0 lo), IsTup.new _ _⟩

end
end L2

namespace L2
open PySem PySem.Spec PyProof.Rows

def ixN (n : Nat) (i : Int) : Option Nat := if 0 ≤ i then (if i < n then some i.toNat else none) else if -(n : Int) ≤ i then some (i + n).toNat else none
def atI {α : Type} (xs : List α) (i : Int) : Option α := (ixN xs.length i).bind fun j => xs[j]?
theorem ixN_seq {n : Nat} {i : Int} {j : Nat} (h : ixN n i = some j) : seqIndex? i n = some j ∧ j < n ∧ -(n : Int) ≤ i ∧ i < n := by
  unfold ixN at h
  by_cases h0 : 0 ≤ i
  · rw [if_pos h0] at h
    by_cases h1 : i < n
    · rw [if_pos h1] at h
      have e : i.toNat = j := Option.some.inj h
      exact ⟨by rw [seqIndex_of h0 h1, e], by omega, by omega, h1⟩
    · rw [if_neg h1] at h; cases h
  · rw [if_neg h0] at h
    by_cases h1 : -(n : Int) ≤ i
    · rw [if_pos h1] at h
      have e : (i + n).toNat = j := Option.some.inj h
      exact ⟨by rw [seqIndex_neg (by omega) h1, e], by omega, h1, by omega⟩
    · rw [if_neg h1] at h; cases h
theorem atI_get {α : Type} {xs : List α} {i : Int} {v : α} (h : atI xs i = some v) : ∃ j, seqIndex? i xs.length = some j ∧ xs[j]? = some v ∧ j < xs.length ∧ -(xs.length : Int) ≤ i ∧ i < xs.length := by
  unfold atI at h
  cases e : ixN xs.length i with
  | none => rw [e] at h; cases h
  | some j =>
    rw [e] at h
    obtain ⟨h1, h2, h3, h4⟩ := ixN_seq e
    exact ⟨j, h1, h, h2, h3, h4⟩
theorem atI_nat {α : Type} {xs : List α} {j : Nat} {v : α} (h : xs[j]? = some v) : atI xs (j : Int) = some v := by
  have hj : j < xs.length := (List.getElem?_eq_some_iff.mp h).1
  have e : ixN xs.length (j : Int) = some j := by
    unfold ixN
    rw [if_pos (by omega), if_pos (by omega)]; simp
  unfold atI; rw [e]; exact h
def PlainIx (b : Expr) : Prop := ∀ o i, subscripted b false o i = operate [o, i] (getItem o i)
def IxR (X : Cx) (r : R2) : Prop :=
  ∀ (value slice : Expr) (pins : List (Addr × Obj)) (s : Shared) (σ : St) (H : Hp) (x y : V) (v u : Value) (Q : VK), Inv X pins σ H s → RelV x v → RelV y u → r x y H Q →
    subscripted slice false v u = operate [v, u] (getItem v u) → wpAny (model X.prog X.w) X.A (subscriptTail value slice v u) (EP X pins σ Q) X.xe s
def MtR (X : Cx) (id : String) (r : V → List V → Hp → VK → Prop) : Prop :=
  ∀ (pins : List (Addr × Obj)) (s : Shared) (σ : St) (H : Hp) (x : V) (xs : List V) (v : Value) (us : List Value) (Q : VK), Inv X pins σ H s → RelV x v → Vals xs us → r x xs H Q →
    wpAny (model X.prog X.w) X.A (call (.builtin id) (v :: us)) (EP X pins σ Q) X.xe s
section
variable {X : Cx} {a b : Expr} {ta tb : TE} {pos : Pos}
theorem IxR.or {r r' : R2} (h : IxR X r) (h' : IxR X r') : IxR X (fun x y H Q => r x y H Q ∨ r' x y H Q) := by
  intro value slice pins s σ H x y v u Q I rx ry q hs
  rcases q with q | q
  · exact h value slice pins s σ H x y v u Q I rx ry q hs
  · exact h' value slice pins s σ H x y v u Q I rx ry q hs
theorem MtR.or {id : String} {r r' : V → List V → Hp → VK → Prop} (h : MtR X id r) (h' : MtR X id r') : MtR X id (fun x xs H Q => r x xs H Q ∨ r' x xs H Q) := by
  intro pins s σ H x xs v us Q I rx rs q
  rcases q with q | q
  · exact h pins s σ H x xs v us Q I rx rs q
  · exact h' pins s σ H x xs v us Q I rx rs q
theorem pe_ix {r : R2} (hr : IxR X r) (ha : PE X a ta) (hb : PE X b tb) (hs : PlainIx b) : PE X (.Subscript a b pos) (tOp r ta tb) := by
  intro pins s σ H Q I h
  exact Subscript_ (binT ha hb I h fun v u s2 x y H2 I2 rx ry q => hr a b pins s2 σ H2 x y v u Q I2 rx ry q (hs _ _))

def rIxL (K : PySem.W.Frag) : R2 := fun x y H Q => ∃ p xs i v, x = .ref p ∧ y = .int i ∧ SqL K H p xs ∧ atI xs i = some v ∧ Q v H
def rIxT (K : PySem.W.Frag) : R2 := fun x y H Q => ∃ p xs i v, x = .ref p ∧ y = .int i ∧ SqT K H p xs ∧ atI xs i = some v ∧ Q v H
def rIxS : R2 := fun x y H Q => ∃ z i c, x = .str z ∧ y = .int i ∧ z.length ≤ sizeLine ∧ atI z.cps.toList i = some c ∧ Q (.str ⟨#[c]⟩) H
theorem ix_list : IxR X (rIxL X.K) := by
  intro value slice pins s σ H x y v u Q I rx ry h hs
  obtain ⟨p, xs, i, z, rfl, rfl, hq, he, q⟩ := h
  cases rx
  obtain ⟨t, rfl⟩ := ry
  obtain ⟨its, r, pl, hz⟩ := I.list hq
  obtain ⟨j, h1, h2, h3, h4, h5⟩ := atI_get he
  obtain ⟨w, ew, rw'⟩ := r.get h2
  have hl := r.length
  have hn := line63
  have fin : EP X pins σ Q w s := ⟨z, H, I, rw', q⟩
  by_cases h0 : 0 ≤ i
  · have hj : i.toNat = j := by
      rw [seqIndex_of h0 h5] at h1
      exact Option.some.inj h1
    exact item_listR pl.isList h0 (by omega) (by rw [hj]; simpa using ew) fin hs
  · have hj : (i + (its.toArray.size : Int)).toNat = j := by
      rw [seqIndex_neg (by omega) h4] at h1
      rw [List.size_toArray, ← hl]
      exact Option.some.inj h1
    exact subscriptTail_builtinR (x := w) pl.isList.typeIs slot_list_getitem.lookup
      (wpAny_getItem_list_neg (Q := fun r s' => r = w ∧ EP X pins σ Q r s') pl.isList (by omega) (by rw [List.size_toArray] <;> omega) (by omega) (by rw [hj]; simpa using ew) ⟨rfl, fin⟩) hs
theorem ix_tup : IxR X (rIxT X.K) := by
  intro value slice pins s σ H x y v u Q I rx ry h hs
  obtain ⟨p, xs, i, z, rfl, rfl, hq, he, q⟩ := h
  cases rx
  obtain ⟨t, rfl⟩ := ry
  obtain ⟨its, r, pl, hz⟩ := I.tuple hq
  obtain ⟨j, h1, h2, h3, h4, h5⟩ := atI_get he
  obtain ⟨w, ew, rw'⟩ := r.get h2
  have hl := r.length
  have hn := line63
  have fin : EP X pins σ Q w s := ⟨z, H, I, rw', q⟩
  exact subscriptTail_builtinR (x := w) pl.typeIs slot_tuple_getitem.lookup
    (getItem_tuple (j := j) (Q := fun r s' => r = w ∧ EP X pins σ Q r s') pl (by omega) (by omega) (by rw [List.size_toArray, ← hl]; exact h1) (by simpa using ew) ⟨rfl, fin⟩) hs
theorem ix_str : IxR X rIxS := by
  intro value slice pins s σ H x y v u Q I rx ry h hs
  obtain ⟨z, i, c, rfl, rfl, hz, he, q⟩ := h
  obtain ⟨t, rfl⟩ := rx
  obtain ⟨t', rfl⟩ := ry
  obtain ⟨j, h1, h2, h3, h4, h5⟩ := atI_get he
  have hl : z.cps.toList.length = z.length := by simp [Str.length]
  rw [hl] at h1 h4 h5
  have hn := line63
  exact tail_any (typeIs_str s z t) slot_str_getitem.lookup (getItem_str (c := c) (by
    have e1 : decide (i < -(2 ^ 63 : Int)) = false := decide_eq_false (by omega)
    have e2 : decide (i ≥ 2 ^ 63) = false := decide_eq_false (by omega)
    rw [e1, e2, Bool.or_false]) (by rw [h1]; simpa using h2) ⟨.str ⟨#[c]⟩, H, I.tok _, ⟨_, rfl⟩, q⟩) hs
def rIx (K : PySem.W.Frag) : R2 := fun x y H Q => rIxL K x y H Q ∨ rIxT K x y H Q ∨ rIxS x y H Q
theorem ix_seq : IxR X (rIx X.K) := ix_list.or (ix_tup.or ix_str)

theorem Inv.lst {pins : List (Addr × Obj)} {σ : St} {H : Hp} {s : Shared} {p : Addr} {xs : List V} (I : Inv X pins σ H s) (h : H p = some (.lst xs)) :
    ∃ (its : List Value) (n : Nat), Vals xs its ∧ s.heap.get? p = some { cls := .type "list", data := .seq its.toArray n } ∧ xs.length ≤ sizeLine := by
  obtain ⟨z, its, n, r, e⟩ := I.hok p _ h
  exact ⟨its, n, r, e, z⟩
theorem slice_bounds (lo hi : Option Int) (n : Nat) : (sliceBounds lo hi none n).1 = ((HT.sIx n 0 lo : Nat) : Int) ∧ (sliceBounds lo hi none n).2.1 = ((HT.sIx n n hi : Nat) : Int) ∧ (sliceBounds lo hi none n).2.2 = 1 := by
  refine ⟨?_, ?_, rfl⟩
  · cases lo with
    | none => simp [sliceBounds, HT.sIx]
    | some i =>
      simp only [sliceBounds, HT.sIx, Option.getD_none, show (1 : Int) > 0 by decide, if_true]
      by_cases h : i < 0
      · simp only [h, if_true] <;> omega
      · simp only [h, if_false] <;> omega
  · cases hi with
    | none => simp [sliceBounds, HT.sIx]
    | some i =>
      simp only [sliceBounds, HT.sIx, Option.getD_none, show (1 : Int) > 0 by decide, if_true]
      by_cases h : i < 0
      · simp only [h, if_true] <;> omega
      · simp only [h, if_false] <;> omega
theorem slicePick_cut (its : List Value) (lo hi : Option Int) : slicePick its.toArray lo hi none = ((its.drop (HT.sIx its.length 0 lo)).take (HT.sIx its.length its.length hi - HT.sIx its.length 0 lo)).toArray := by
  obtain ⟨h1, h2, h3⟩ := slice_bounds lo hi its.toArray.size
  unfold slicePick
  rw [h1, h2, h3]
  simp only [sliceRange_one, pick_run, List.size_toArray] <;> rfl
def rSlL (K : PySem.W.Frag) : V → Option Int → Option Int → Hp → VK → Prop := fun x lo hi H Q => ∃ a xs, x = .ref a ∧ SqL K H a xs ∧ ∀ p, H p = none → Q (.ref p) (upd H p (.lst (cutV xs lo hi)))
theorem sl_list : SlR X (rSlL X.K) := by
  intro pins s σ H x v vl vu lo hi sl Q I rx hs pl pu h
  obtain ⟨a, xs, rfl, hx, q⟩ := h
  cases rx
  obtain ⟨its, r, ht, hz⟩ := I.list hx
  have hlen := r.length
  refine ⟨"list", _, slot_list_getitem.lookup, ht.isList.typeIs, ?_⟩
  refine wpAny_getItem_list_slice ht.isList hs pl pu .none (by simp) ?_ (by rw [List.size_toArray] <;> omega)
  rw [slicePick_cut, ← hlen]
  refine ⟨.ref s.heap.objs.size, _, I.laid (t' := s.toks) (o := .lst (cutV xs lo hi)) (fun b ob q => Heap.get?_push_of_some _ q) (Nat.le_refl _) ?_, rfl, q _ (I.hok.fresh (Nat.le_refl _))⟩
  exact ⟨Nat.le_trans (cutV_length xs lo hi) hz, _, 0, (r.drop (HT.sIx xs.length 0 lo)).take (HT.sIx xs.length xs.length hi - HT.sIx xs.length 0 lo), Heap.get?_push_size _ rfl⟩

theorem call_len_seq : CallR X (.builtin "len") (fun xs H Q => ∃ p ys, xs = [.ref p] ∧ (SqL X.K H p ys ∨ SqT X.K H p ys) ∧ Q (.int ys.length) H) := by
  intro pins s σ H xs us Q I r h
  obtain ⟨p, ys, rfl, hq, q⟩ := h
  obtain ⟨u, rfl, rx⟩ := vals1 r
  cases rx
  have hn := line63
  rcases hq with hq | hq
  · obtain ⟨its, r', pl, hz⟩ := I.list hq
    have hlen := r'.length
    exact Calls.call_len_list pl.isList (by simp only [List.size_toArray] <;> omega) ⟨.int ys.length, H, I.tok _, ⟨s.toks + 1, by rw [List.size_toArray, hlen]⟩, q⟩
  · obtain ⟨its, r', pl, hz⟩ := I.tuple hq
    have hlen := r'.length
    exact len_tuple pl (by simp only [List.size_toArray] <;> omega) ⟨.int ys.length, H, I.tok _, ⟨s.toks + 1, by rw [List.size_toArray, hlen]⟩, q⟩
theorem CallR.or {f : Value} {r r' : List V → Hp → VK → Prop} (h : CallR X f r) (h' : CallR X f r') : CallR X f (fun xs H Q => r xs H Q ∨ r' xs H Q) := by
  intro pins s σ H xs us Q I rs q
  rcases q with q | q
  · exact h pins s σ H xs us Q I rs q
  · exact h' pins s σ H xs us Q I rs q
theorem call_list_of : CallR X (.type "list") (fun xs H Q => ∃ p ys, xs = [.ref p] ∧ (SqL X.K H p ys ∨ SqT X.K H p ys) ∧ ∀ l, H l = none → Q (.ref l) (upd H l (.lst ys))) := by
  intro pins s σ H xs us Q I r h
  obtain ⟨p, ys, rfl, hq, q⟩ := h
  obtain ⟨u, rfl, rx⟩ := vals1 r
  cases rx
  have fin : ∀ (its : List Value), Vals ys its → ys.length ≤ sizeLine → ∀ (h' : Heap) (c' : Nat), (∀ b o', s.heap.get? b = some o' → h'.get? b = some o') →
      h'.get? s.heap.objs.size = some { cls := .type "list", dict := none, data := .seq its.toArray c', slots := #[] } → EP X pins σ Q (.ref s.heap.objs.size) { s with heap := h' } := fun its r' hz h' c' kp e =>
    ⟨.ref s.heap.objs.size, _, I.laid (t' := s.toks) kp (Nat.le_refl _) (show ObjOk X.prog X.w _ h' _ (.lst ys) from ⟨hz, its, c', r', e⟩), rfl, q _ (I.hok.fresh (Nat.le_refl _))⟩
  rcases hq with hq | hq
  · obtain ⟨its, r', pl, hz⟩ := I.list hq
    have hlen := r'.length
    obtain ⟨o, ho, hc, n, hd⟩ := pl.isList
    exact call_list_seq p (.inl rfl) ho hc hd (fun h' c' kp e => fin its r' hz h' c' kp e) (by simp only [List.size_toArray] <;> omega)
  · obtain ⟨its, r', pl, hz⟩ := I.tuple hq
    have hlen := r'.length
    obtain ⟨o, ho, hc, n, hd⟩ := pl
    exact call_list_seq p (.inr rfl) ho hc hd (fun h' c' kp e => fin its r' hz h' c' kp e) (by simp only [List.size_toArray] <;> omega)
theorem call_tuple_of : CallR X (.type "tuple") (fun xs H Q => ∃ p ys, xs = [.ref p] ∧ ((SqL X.K H p ys ∧ ∀ l, H l = none → Q (.ref l) (upd H l (.tup ys))) ∨ (SqT X.K H p ys ∧ Q (.ref p) H))) := by
  intro pins s σ H xs us Q I r h
  obtain ⟨p, ys, rfl, h⟩ := h
  obtain ⟨u, rfl, rx⟩ := vals1 r
  cases rx
  rcases h with ⟨hq, q⟩ | ⟨hq, q⟩
  · obtain ⟨its, r', pl, hz⟩ := I.list hq
    have hlen := r'.length
    refine call_tuple_list pl.isList (fun h' kp => ?_) (by simp only [List.size_toArray] <;> omega)
    have I1 : Inv X pins σ H { s with heap := h' } := I.kept (t' := s.toks) kp
    have I2 : Inv X pins σ (upd H h'.objs.size (.tup ys)) { s with heap := h'.push { cls := .type "tuple", data := .seq its.toArray } } :=
      I1.laid (t' := s.toks) (fun b o e => Heap.get?_push_of_some _ e) (Nat.le_refl _) (show ObjOk X.prog X.w _ _ _ (.tup ys) from ⟨hz, its, r', IsTup.new _ _⟩)
    exact ⟨.ref h'.objs.size, _, I2, rfl, q _ (I1.hok.fresh (Nat.le_refl _))⟩
  · obtain ⟨its, r', pl, hz⟩ := I.tuple hq
    exact call_tuple_same pl ⟨.ref p, H, I, rfl, q⟩

def tyV (K : PySem.W.Frag) (T : String) (x : V) (H : Hp) : Prop := match x with
  | .str _ => T = "str"
  | .int _ => T = "int"
  | .ref p => (T = "list" ∧ ∃ xs, SqL K H p xs) ∨ (T = "tuple" ∧ ∃ o, K.lookup p = some o ∧ o.cls = .type "tuple" ∧ o.dict = none) ∨
      (T = "dict" ∧ ((∃ kvs, H p = some (.dK kvs)) ∨ ∃ kvs, H p = some (.dT kvs))) ∨ (T = "set" ∧ ∃ S n, H p = some (.set S n))
  | _ => False
theorem tyV_is {pins : List (Addr × Obj)} {σ : St} {H : Hp} {s : Shared} {T : String} {x : V} {v : Value} (I : Inv X pins σ H s) (r : RelV x v) (ty : tyV X.K T x H) :
    s.TypeIs v T ∧ ∀ a, v = .ref a → ∃ ob, s.heap.get? a = some ob ∧ ob.dict = none := by
  cases x with
  | str z =>
    obtain ⟨t, rfl⟩ := r
    cases (show T = "str" from ty)
    exact ⟨typeIs_str s z t, fun _ e => nomatch e⟩
  | int i =>
    obtain ⟨t, rfl⟩ := r
    cases (show T = "int" from ty)
    exact ⟨typeIs_int s i t, fun _ e => nomatch e⟩
  | ref p =>
    cases r
    rcases ty with ⟨rfl, xs, hq⟩ | ⟨rfl, o, hk, hc, hd⟩ | ⟨rfl, hk⟩ | ⟨rfl, S, n, hk⟩
    · obtain ⟨its, _, pl, _⟩ := I.list hq
      refine ⟨pl.isList.typeIs, fun a e => ?_⟩
      cases e
      obtain ⟨o, n, e, c, hd, _⟩ := pl
      exact ⟨o, e, hd⟩
    · refine ⟨⟨o, I.kIn p o hk, hc⟩, fun a e => ?_⟩
      cases e
      exact ⟨o, I.kIn _ o hk, hd⟩
    · have z : ∃ o, s.heap.get? p = some o ∧ o.ExactDict := by
        rcases hk with ⟨kvs, hk⟩ | ⟨kvs, hk⟩
        · obtain ⟨_, _, _, _, o, _, _, e, ex, _⟩ := I.hok p _ hk
          exact ⟨o, e, ex⟩
        · obtain ⟨_, _, _, _, o, _, _, e, ex, _⟩ := I.hok p _ hk
          exact ⟨o, e, ex⟩
      obtain ⟨o, e, ex⟩ := z
      refine ⟨⟨o, e, ex.1⟩, fun a e2 => ?_⟩
      cases e2
      exact ⟨o, e, ex.2.1⟩
    · obtain ⟨o, _, _, _, e, ex, _⟩ := I.hok p _ hk
      refine ⟨⟨o, e, ex.1⟩, fun a e2 => ?_⟩
      cases e2
      exact ⟨o, e, ex.2.1⟩
  | _ => exact False.elim ty
def tBM0 (K : PySem.W.Frag) (T : String) (r : V → List V → Hp → VK → Prop) (to : TE) : TE := fun σ H Q => to σ H fun x H1 => tyV K T x H1 ∧ r x [] H1 Q
def tBM (K : PySem.W.Frag) (T : String) (r : V → List V → Hp → VK → Prop) (to : TE) (t : TA) : TE := fun σ H Q => to σ H fun x H1 => tyV K T x H1 ∧ t σ H1 fun xs H2 => r x xs H2 Q
variable {o e : Expr} {es : List Expr} {to : TE} {t : TA} {name : Str} {apos cpos : Pos} {T id : String} {r : V → List V → Hp → VK → Prop}
theorem pe_bm0 (pa : PlainAttrs T) (slot : Slot T name id) (hty : typeOf (.builtin id) = pure (.type "method_descriptor")) (hm : MtR X id r) (ho : PE X o to)
    (hbase : attributeBase o name X.env (eval o X.env) = eval o X.env := by rfl) (hline : (apos.endLine == cpos.line) = true := by rfl) : PE X (.Call (.Attribute o name apos) [] [] cpos) (tBM0 X.K T r to) := by
  intro pins s σ H Q I h
  refine wpAny_Call_method0_late hbase hline (thn (ho pins s σ H _ I h) fun v s1 ⟨x, H1, I1, r1, ty, q1⟩ => ?_)
  obtain ⟨h1, h2⟩ := tyV_is I1 r1 ty
  exact ⟨T, id, pa, slot, hty, h1, h2, Calls.callWith_builtin rfl (PySem.evalArgs_none (hm pins s1 σ H1 x [] v [] Q I1 r1 .nil q1))⟩
theorem pe_bm (pa : PlainAttrs T) (slot : Slot T name id) (hty : typeOf (.builtin id) = pure (.type "method_descriptor")) (hm : MtR X id r) (ho : PE X o to) (ha : PA X (e :: es) t)
    (hbase : attributeBase o name X.env (eval o X.env) = eval o X.env := by rfl)
    (hfew : ((backTo cpos (starEach (e :: es) X.env)).all (fun x => !x.1) && (backToKw cpos (keywordEach [] X.env)).all (fun x => x.1.isSome)
      && decide ((e :: es).length + ([] : List Keyword).length + (if ([] : List Keyword).isEmpty then 0 else 1) < 30)) = true := by rfl)
    (hline : (apos.endLine == cpos.line) = true := by rfl) (hs : starEach (e :: es) X.env = (false, eval e X.env) :: starEach es X.env := by rfl) (hplain : (backTo cpos (starEach es X.env)).any (·.1) = false := by rfl) :
    PE X (.Call (.Attribute o name apos) (e :: es) [] cpos) (tBM X.K T r to t) := by
  intro pins s σ H Q I h
  refine wpAny_Call_method_late hbase hfew hline rfl (thn (ho pins s σ H _ I h) fun v s1 ⟨x, H1, I1, r1, ty, q1⟩ => ?_)
  obtain ⟨h1, h2⟩ := tyV_is I1 r1 ty
  refine ⟨T, id, pa, slot, hty, h1, h2, ?_⟩
  have hA := ha cpos pins s1 σ H1 _ I1 q1
  rw [hs] at hA ⊢
  refine Calls.callWith_builtin (by show (false || (backTo cpos (starEach es X.env)).any (·.1)) = false; rw [hplain] <;> rfl) (Calls.evalArgs_plain ?_)
  exact thn hA fun us s2 ⟨vs, H2, I2, r2, q2⟩ => hm pins s2 σ H2 x vs v us Q I2 r1 r2 q2
/- xs.append(e), list.index on a module's tuple .. are MtR facts of 06m -/
end
end L2

namespace L2
open PySem PySem.Spec PyProof.Rows

def MtM (X : Cx) (id : String) (r : V → List V → Hp → VK → Prop) : Prop :=
  ∀ (pins : List (Addr × Obj)) (s : Shared) (σ : St) (H : Hp) (x : V) (xs : List V) (v : Value) (us : List Value) (Q : VK), Inv X pins σ H s → RelV x v → Vals xs us → r x xs H Q →
    wpAny (model X.prog X.w) X.A (call (.builtin id) (v :: us)) (EP X pins σ Q) X.xe s

theorem Vals.one : ∀ {x : V} {us : List Value}, Vals [x] us → ∃ u, us = [u] ∧ RelV x u
  | _, _, .cons r .nil => ⟨_, rfl, r⟩
theorem Vals.two : ∀ {x y : V} {us : List Value}, Vals [x, y] us → ∃ u v, us = [u, v] ∧ RelV x u ∧ RelV y v
  | _, _, _, .cons r (.cons q .nil) => ⟨_, _, rfl, r, q⟩
theorem Vals.zero : ∀ {us : List Value}, Vals [] us → us = []
  | _, .nil => rfl
theorem Vals.dropLast {xs : List V} {us : List Value} (h : Vals xs us) : Vals xs.dropLast us.dropLast := by
  induction h with
  | nil => exact .nil
  | cons r t ih =>
    cases t with
    | nil => exact .nil
    | cons q t' => exact .cons r ih
section
variable {X : Cx} {pins : List (Addr × Obj)} {σ : St} {H : Hp} {s : Shared} {l b : Addr} {xs ys zs : List V}

theorem Inv.lset {its its' : List Value} {n : Nat} {f : Array Value → Array Value} {t' : Nat} (I : Inv X pins σ H s) (hH : H l = some (.lst xs))
    (e : s.heap.get? l = some { cls := .type "list", data := .seq its.toArray n }) (hf : f its.toArray = its'.toArray) (hv : Vals ys its') (hz : ys.length ≤ sizeLine) :
    Inv X pins σ (upd H l (.lst ys)) { s with heap := s.heap.update l (Obj.mapSeq f), toks := t' } := by
  have q := PySem.IsL.update e f
  rw [hf] at q
  refine I.write (x := l) (e := l) (by rw [hH]; exact trivial) (.inl rfl) (fun b' u hb hu => (Heap.get?_update_other s.heap (Obj.mapSeq f) (Ne.symm hb)).trans hu) ⟨_, q⟩ ?_
  exact ⟨hz, its', _, hv, q⟩
theorem Inv.lnew {its : List Value} {t' : Nat} (I : Inv X pins σ H s) (hv : Vals ys its) (hz : ys.length ≤ sizeLine) :
    Inv X pins σ (upd H s.heap.objs.size (.lst ys)) { s with heap := s.heap.push { cls := .type "list", data := .seq its.toArray }, toks := t' } :=
  I.laid (fun _ _ q => Heap.get?_push_of_some _ q) (Nat.le_refl _) ⟨hz, its, 0, hv, Heap.get?_push_size _ rfl⟩
theorem Inv.fresh (I : Inv X pins σ H s) : H s.heap.objs.size = none := I.hok.fresh (Nat.le_refl _)
theorem Inv.lstM (I : Inv X pins σ H s) (hH : H l = some (.lst xs)) : xs.length ≤ sizeLine ∧ ∃ (its : List Value) (n : Nat), Vals xs its ∧ xs.length = its.length ∧ s.heap.get? l = some { cls := .type "list", data := .seq its.toArray n } := by
  obtain ⟨z, its, n, r, e⟩ := I.hok l _ hH
  exact ⟨z, its, n, r, r.length, e⟩

theorem notLongL {n : Nat} (h : n ≤ sizeLine) : Builtin.List.listTooLong n = false := by
  unfold Builtin.List.listTooLong
  exact decide_eq_false (by omega)
end

section
variable {X : Cx}

def rAppend : V → List V → Hp → VK → Prop := fun x vs H Q => ∃ l xs y, x = .ref l ∧ vs = [y] ∧ H l = some (.lst xs) ∧ xs.length < sizeLine ∧ Q .non (upd H l (.lst (xs ++ [y])))
theorem mt_append : MtM X "list.append" rAppend := by
  intro pins s σ H x vs v us Q I rx rv h
  obtain ⟨l, xs, y, rfl, rfl, hH, hz, q⟩ := h
  cases rx
  obtain ⟨u, rfl, ru⟩ := rv.one
  obtain ⟨z, its, n, r, hl, e⟩ := I.lstM hH
  refine call_meets F.slot_list_append ⟨_, e, rfl⟩ F.entry_list_append (F.args_list_append_2 _ _) (PySem.list_append l its.toArray n u (by rw [List.size_toArray]; omega)) ⟨e, ?_⟩
  refine ⟨.non, _, I.lset (its' := its ++ [u]) hH e (by simp) (r.append (.cons ru .nil)) ?_, rfl, q⟩
  rw [List.length_append, List.length_singleton]
  omega

def rExtend : V → List V → Hp → VK → Prop := fun x vs H Q => ∃ l b xs zs, x = .ref l ∧ vs = [.ref b] ∧ H l = some (.lst xs) ∧ H b = some (.lst zs) ∧ xs.length + zs.length ≤ sizeLine ∧ Q .non (upd H l (.lst (xs ++ zs)))
theorem mt_extend : MtM X "list.extend" rExtend := by
  intro pins s σ H x vs v us Q I rx rv h
  obtain ⟨l, b, xs, zs, rfl, rfl, hH, hB, hz, q⟩ := h
  cases rx
  obtain ⟨u, rfl, ru⟩ := rv.one
  cases ru
  obtain ⟨z, its, n, r, hl, e⟩ := I.lstM hH
  obtain ⟨z2, its2, n2, r2, hl2, e2⟩ := I.lstM hB
  have hsz : its.toArray.size + its2.toArray.size ≤ sizeLine := by rw [List.size_toArray, List.size_toArray]; omega
  have hlong : ¬ (!its.toArray.isEmpty && Builtin.List.listTooLong (its.toArray.size + its2.toArray.size)) = true := by
    rw [notLongL hsz, Bool.and_false]
    exact Bool.false_ne_true
  refine call_meets F.slot_list_extend ⟨_, e, rfl⟩ F.entry_list_extend (F.args_list_extend_2 _ _)
    (AutoSeq1.list_extend_list_list_0 l its.toArray n b its2.toArray n2 hlong (by rw [List.size_toArray]; omega) (by omega)) ⟨e, e2, ?_⟩
  refine ⟨.non, _, I.lset (its' := its ++ its2) hH e (by simp) (r.append r2) ?_, rfl, q⟩
  rw [List.length_append]
  omega

def rCat : R2 := fun x y H Q => ∃ l b xs zs, x = .ref l ∧ y = .ref b ∧ H l = some (.lst xs) ∧ H b = some (.lst zs) ∧ xs.length + zs.length ≤ sizeLine ∧ ∀ p, H p = none → Q (.ref p) (upd H p (.lst (xs ++ zs)))
theorem op_cat : OpR X (binaryOp .Add) rCat := by
  intro pins s σ H x y v u Q I rx ry h
  obtain ⟨l, b, xs, zs, rfl, rfl, hH, hB, hz, q⟩ := h
  cases rx
  cases ry
  obtain ⟨z, its, n, r, hl, e⟩ := I.lstM hH
  obtain ⟨z2, its2, n2, r2, hl2, e2⟩ := I.lstM hB
  refine PySem.P.add_list e e2 ?_ (by rw [List.size_toArray, List.size_toArray]; omega)
  have ea : its.toArray ++ its2.toArray = (its ++ its2).toArray := by simp
  rw [ea]
  exact ⟨.ref _, _, I.lnew (t' := s.toks) (r.append r2) (by rw [List.length_append]; omega), rfl, q _ I.fresh⟩
end

section
variable {prog : Program} {w : World} {A : Around} {E : Value → Shared → Prop} {s : Shared}
theorem bounds_run {a c n : Nat} (hac : a ≤ c) (hc : c ≤ n) : sliceBounds (some (a : Int)) (some (c : Int)) none n = ((a : Int), (c : Int), 1) := by
  simp only [sliceBounds, Option.getD_none]
  have h1 : ¬ ((a : Int) < 0) := by omega
  have h2 : ¬ ((c : Int) < 0) := by omega
  simp only [h1, h2, if_false, show (1 : Int) > 0 by decide, if_true]
  congr 1
  · omega
  · congr 1; omega
set_option maxRecDepth 100000 in
theorem setItem_slice {l b sl : Addr} {items new : Array Value} {n n2 : Nat} {vl vu : Value} {a c : Nat} {Q : Unit → Shared → Prop}
    (e : s.heap.get? l = some { cls := .type "list", data := .seq items n }) (e2 : s.heap.get? b = some { cls := .type "list", data := .seq new n2 }) (hne : l ≠ b)
    (hs : s.heap.IsSliceOf sl vl vu .none) (pl : IsPart vl (some (a : Int))) (pu : IsPart vu (some (c : Int))) (hac : a ≤ c) (hc : c ≤ items.size)
    (hsz : items.size + new.size ≤ sizeLine) (h : Q () { s with heap := s.heap.update l (Obj.mapSeq fun xs => xs.extract 0 a ++ new ++ xs.extract c xs.size) }) :
    wpAny (model prog w) A (setItem (.ref l) (.ref sl) (.ref b)) Q E s := by
  have hl : s.heap.IsList l items := PySem.IsL.isList e
  have hb : s.heap.IsList b new := PySem.IsL.isList e2
  obtain ⟨os, hos, hcs, hds⟩ := id hs
  have hTs : s.TypeIs (.ref sl) "slice" := ⟨os, hos, hcs⟩
  have hstep : ¬ ((rawPart none == rawInt 0) = true) := Bool.false_ne_true
  have hsame : Builtin.List.listSameRef (.ref l) (.ref b) = false := by
    unfold Builtin.List.listSameRef
    exact beq_eq_false_iff_ne.mpr hne
  have hmax : (max (a : Int) (c : Int)).toNat = c := by omega
  have hz' : ((fun xs : Array Value => xs.extract 0 a ++ new ++ xs.extract c xs.size) items).size ≤ sizeLine + 1 := by
    simp only [Array.size_append, Array.size_extract]
    omega
  unfold setItem
  try with_reducible refine wpAny_holding ?_
  first | refine wpAny_bind (wpAny_pure ?_) | skip
  refine wpAny_bind (wpAny_sequenceKey hl.typeIs (by decide) ?_)
  refine wpAny_bind (wpAny_callSpecial?_slot (name := Str.ofString "__setitem__") hl.typeIs slot_list_setitem
    (wpAny_call_entry slot_list_setitem hl.typeIs entry_list_setitem ?_ (args_list_setitem _ _ _)))
  show wpAny _ _ (Builtin.List.listSubscript? (.ref sl) >>= _) _ _ s
  refine wpAny_bind ?_
  unfold Builtin.List.listSubscript?
  refine wpAny_bind (wpAny_specialOf hTs slice_no_index ?_)
  simp only [Option.isNone_none, if_true]
  refine wpAny_pure ?_
  show wpAny _ _ (typeOf (.ref sl) >>= _) _ _ s
  refine wpAny_bind (wpAny_typeOf hTs ?_)
  first
    | rw [if_neg (by decide)]
    | refine PySem.W.KFB.if_not (by decide) ?_
  rw [listSliceParts_eq]
  refine wpAny_bind (wpAny_bind (wpAny_field hos hds (x := .none) rfl (wpAny_bind (wpAny_listPart .none ?_))))
  rw [if_neg hstep]
  refine wpAny_bind (wpAny_field hos hds (x := vl) rfl (wpAny_bind (wpAny_listPart pl ?_)))
  refine wpAny_bind (wpAny_field hos hds (x := vu) rfl (wpAny_bind (wpAny_listPart pu (wpAny_pure ?_))))
  first
    | simp only [hsame, Bool.false_eq_true, if_false]
    | refine PySem.W.KFB.if_not hsame ?_
    | (dsimp only
       rw [if_neg (by rw [hsame]; exact Bool.false_ne_true)])
  refine wpAny_bind (m := Builtin.List.listAllItems (.ref b) "must assign iterable to extended slice") ?_
  unfold Builtin.List.listAllItems
  refine wpAny_bind (wpAny_typeOf hb.typeIs ?_)
  first
    | refine PySem.W.KFB.if_so (by decide) ?_
    | rw [if_pos (by decide)]
    | simp only [beq_self_eq_true, Bool.true_or, if_true]
  unfold Builtin.List.listItems
  refine wpAny_bind (wpAny_seqItems e2 rfl (wpAny_pure ?_))
  refine wpAny_bind (wpAny_bind (wpAny_seqItems e rfl (wpAny_pure ?_)))
  refine wpAny_bind (wpAny_of_eq ((sliceIndices_raw (some (a : Int)) (some (c : Int)) none items.size (by simp)).trans (congrArg (pure : Int × Int × Int → Sem (Int × Int × Int)) (bounds_run hac hc))) ?_)
  show wpAny _ _ (if ((1 : Int) == 1) = true then _ else _) _ _ s
  rw [if_pos (by decide)]
  refine wpAny_bind (wpAny_rule ?_)
  first
    | simp only [notLongL hsz, Bool.false_eq_true, if_false]
    | refine PySem.W.KFB.if_not (notLongL hsz) ?_
  first | refine wpAny_bind (wpAny_pure ?_) | skip
  show wpAny _ _ (updateSeq l (fun xs => xs.extract 0 ((a : Int)).toNat ++ new ++ xs.extract (max (a : Int) (c : Int)).toNat xs.size) >>= _) _ _ s
  rw [hmax, Int.toNat_natCast]
  refine wpAny_bind (wpAny_updateSeq (hz := Nat.le_trans (Nat.le_add_right _ _) hsz) (_hz' := hz') e rfl ?_)
  refine wpAny_bind (wpAny_letGo ?_)
  first
    | exact wpAny_bind (wpAny_pure (wpAny_pure ⟨.none, rfl, wpAny_pure h⟩))
    | exact wpAny_pure ⟨.none, rfl, wpAny_pure h⟩
end

section
variable {X : Cx}
end
end L2

namespace L2
open PySem PySem.Spec PyProof.Rows

section
variable {κ : Type} [DecidableEq κ]
def valV (kvs : List (κ × V)) (k : κ) : Option V := (kvs.find? fun kv => decide (kv.1 = k)).map (·.2)
def putK (kvs : List (κ × V)) (k : κ) (v : V) : List (κ × V) :=
  if (kvs.any fun kv => decide (kv.1 = k)) = true then kvs.map (fun kv => if kv.1 = k then (kv.1, v) else kv) else kvs ++ [(k, v)]
def dropK (kvs : List (κ × V)) (k : κ) : List (κ × V) := kvs.filter fun kv => decide (kv.1 ≠ k)

theorem valV_pos {p : κ × V} {r : List (κ × V)} {k : κ} (e : p.1 = k) : valV (p :: r) k = some p.2 := by simp [valV, List.find?_cons, e]
theorem valV_neg {p : κ × V} {r : List (κ × V)} {k : κ} (e : ¬ p.1 = k) : valV (p :: r) k = valV r k := by simp [valV, List.find?_cons, e]
theorem valV_any (k : κ) : ∀ kvs : List (κ × V), (kvs.any fun kv => decide (kv.1 = k)) = (valV kvs k).isSome
  | [] => rfl
  | p :: r => by
    rw [List.any_cons]
    by_cases e : p.1 = k
    · simp only [valV_pos e, decide_eq_true e, Bool.true_or, Option.isSome_some]
    · rw [valV_neg e, decide_eq_false e, Bool.false_or]; exact valV_any k r
theorem length_putK (kvs : List (κ × V)) (k : κ) (v : V) : (putK kvs k v).length ≤ kvs.length + 1 := by
  unfold putK
  split
  · rw [List.length_map]; omega
  · rw [List.length_append, List.length_cons, List.length_nil]; omega
theorem RelO.isSome_eq {o : Option V} {u : Option Value} (r : RelO o u) : o.isSome = u.isSome := by
  cases o with
  | none => cases u with
    | none => rfl
    | some _ => exact (show False from r).elim
  | some _ => cases u with
    | none => exact (show False from r).elim
    | some _ => rfl
theorem RelO.getD {o : Option V} {u : Option Value} {d : V} {d' : Value} (r : RelO o u) (rd : RelV d d') : RelV (o.getD d) (u.getD d') := by
  cases o with
  | none => cases u with
    | none => exact rd
    | some _ => exact (show False from r).elim
  | some _ => cases u with
    | none => exact (show False from r).elim
    | some _ => exact r

theorem KV.val {kvs : List (κ × V)} {vs : List (κ × Value)} (r : KV kvs vs) (k : κ) : RelO (valV kvs k) (valueAt vs k) := by
  unfold KV at r
  induction r with
  | nil => exact True.intro
  | @cons p q ps qs h t ih =>
    obtain ⟨h1, h2⟩ := h
    by_cases e : p.1 = k
    · have e' : q.1 = k := h1.symm.trans e
      have b : valueAt (q :: qs) k = some q.2 := by simp [valueAt, List.find?_cons, e']
      rw [valV_pos e, b]; exact h2
    · have e' : ¬ q.1 = k := fun z => e (h1.trans z)
      have b : valueAt (q :: qs) k = valueAt qs k := by simp [valueAt, List.find?_cons, e']
      rw [valV_neg e, b]; exact ih
theorem KV.any {kvs : List (κ × V)} {vs : List (κ × Value)} (r : KV kvs vs) (k : κ) : (kvs.any fun kv => decide (kv.1 = k)) = vs.any fun kv => decide (kv.1 = k) := by
  unfold KV at r
  induction r with
  | nil => rfl
  | cons h t ih => rw [List.any_cons, List.any_cons, ih, h.1]
theorem KV.repl {kvs : List (κ × V)} {vs : List (κ × Value)} (r : KV kvs vs) (k : κ) {y : V} {u : Value} (ry : RelV y u) :
    KV (kvs.map fun kv => if kv.1 = k then (kv.1, y) else kv) (vs.map fun kv => if kv.1 = k then (kv.1, u) else kv) := by
  unfold KV at r ⊢
  induction r with
  | nil => exact .nil
  | @cons p q ps qs h t ih =>
    rw [List.map_cons, List.map_cons]
    refine .cons ?_ ih
    obtain ⟨h1, h2⟩ := h
    by_cases e : p.1 = k
    · rw [if_pos e, if_pos (h1.symm.trans e)]; exact ⟨h1, ry⟩
    · rw [if_neg e, if_neg (fun z => e (h1.trans z))]; exact ⟨h1, h2⟩
theorem KV.put {kvs : List (κ × V)} {vs : List (κ × Value)} (r : KV kvs vs) (k : κ) {y : V} {u : Value} (ry : RelV y u) : KV (putK kvs k y) (stored vs k u) := by
  unfold putK stored
  rw [r.any k]
  by_cases e : (vs.any fun kv => decide (kv.1 = k)) = true
  · rw [if_pos e, if_pos e]; exact r.repl k ry
  · rw [if_neg e, if_neg e]; exact Paired.snoc r ⟨rfl, ry⟩
theorem KV.drop {kvs : List (κ × V)} {vs : List (κ × Value)} (r : KV kvs vs) (k : κ) : KV (dropK kvs k) (without vs k) := by
  unfold KV at r ⊢
  unfold dropK without
  induction r with
  | nil => exact .nil
  | @cons p q ps qs h t ih =>
    obtain ⟨h1, h2⟩ := h
    rw [List.filter_cons, List.filter_cons]
    by_cases e : p.1 = k
    · have a : ¬ decide (p.1 ≠ k) = true := by simp [e]
      have b : ¬ decide (q.1 ≠ k) = true := by simp [h1.symm.trans e]
      rw [if_neg a, if_neg b]; exact ih
    · have e' : ¬ q.1 = k := fun z => e (h1.trans z)
      have a : decide (p.1 ≠ k) = true := by simp [e]
      have b : decide (q.1 ≠ k) = true := by simp [e']
      rw [if_pos a, if_pos b]; exact .cons ⟨h1, h2⟩ ih
theorem KV.keys {kvs : List (κ × V)} {vs : List (κ × Value)} (r : KV kvs vs) : kvs.map (·.1) = vs.map (·.1) := by
  unfold KV at r
  induction r with
  | nil => rfl
  | cons h t ih => rw [List.map_cons, List.map_cons, ih, h.1]
theorem KV.length {kvs : List (κ × V)} {vs : List (κ × Value)} (r : KV kvs vs) : kvs.length = vs.length := Paired.length r
end

theorem kV_is {P : Program} {w : World} {k : Key} {u : Value} (r : RelV (kV k) u) : (mixKind P w).is k u = true := by
  cases k with
  | inl i => obtain ⟨t, e⟩ := (show ∃ t, u = Value.int i t from r); subst e; exact mixKind_int P w i t
  | inr x => obtain ⟨t, e⟩ := (show ∃ t, u = Value.str x t from r); subst e; exact mixKind_str P w x t
theorem items_are {P : Program} {w : World} : ∀ {ks : List Key} {us : List Value}, Vals (ks.map kV) us → ItemsAre (mixKind P w) ks us
  | [], _, r => by rw [List.map_nil] at r; cases r; exact .nil
  | k :: ks, _, r => by
    rw [List.map_cons] at r
    cases r with
    | cons h t => exact .cons (kV_is h) (items_are t)

abbrev KT (H : Hp) : List (List Key × V) → List (List Key × Addr × Value) → Prop := Paired fun p q => p.1 = q.1 ∧ H q.2.1 = some (.tup (p.1.map kV)) ∧ RelV p.2 q.2.2
theorem KT.val {H : Hp} {kvs : List (List Key × V)} {xs : List (List Key × Addr × Value)} (r : KT H kvs xs) (k : List Key) : RelO (valV kvs k) ((atKey xs k).map (·.2)) := by
  induction r with
  | nil => exact True.intro
  | @cons p q ps qs h t ih =>
    obtain ⟨h1, _, h2⟩ := h
    by_cases e : p.1 = k
    · have e' : q.1 = k := h1.symm.trans e
      have b : atKey (q :: qs) k = some q.2 := by simp [atKey, List.find?_cons, e']
      rw [valV_pos e, b]; exact h2
    · have e' : ¬ q.1 = k := fun z => e (h1.trans z)
      have b : atKey (q :: qs) k = atKey qs k := by simp [atKey, List.find?_cons, e']
      rw [valV_neg e, b]; exact ih
theorem KT.repl {H : Hp} {kvs : List (List Key × V)} {xs : List (List Key × Addr × Value)} (r : KT H kvs xs) (k : List Key) {y : V} {u : Value} (ry : RelV y u) :
    KT H (kvs.map fun kv => if kv.1 = k then (kv.1, y) else kv) (xs.map (putAt k u)) := by
  induction r with
  | nil => exact .nil
  | @cons p q ps qs h t ih =>
    rw [List.map_cons, List.map_cons]
    refine .cons ?_ ih
    obtain ⟨h1, h2, h3⟩ := h
    unfold putAt
    by_cases e : p.1 = k
    · rw [if_pos e, if_pos (h1.symm.trans e)]; exact ⟨h1, h2, ry⟩
    · rw [if_neg e, if_neg (fun z => e (h1.trans z))]; exact ⟨h1, h2, h3⟩
theorem KT.put {H : Hp} {kvs : List (List Key × V)} {xs : List (List Key × Addr × Value)} (r : KT H kvs xs) (k : List Key) {b : Addr} {y : V} {u : Value} (hb : H b = some (.tup (k.map kV))) (ry : RelV y u) :
    KT H (putK kvs k y) (storedH xs k b u) := by
  have e : (kvs.any fun kv => decide (kv.1 = k)) = (atKey xs k).isSome := by
    rw [valV_any, (r.val k).isSome_eq, Option.isSome_map]
  unfold putK storedH
  rw [e]
  by_cases q : (atKey xs k).isSome = true
  · rw [if_pos q, if_pos q]; exact r.repl k ry
  · rw [if_neg q, if_neg q]; exact Paired.snoc r ⟨rfl, hb, ry⟩
theorem KT.keeps {H H' : Hp} {kvs : List (List Key × V)} {xs : List (List Key × Addr × Value)} (r : KT H kvs xs) (ht : ∀ b ys, H b = some (.tup ys) → H' b = some (.tup ys)) : KT H' kvs xs :=
  Paired.mapP r fun _ _ z => ⟨z.1, ht _ _ z.2.1, z.2.2⟩

section
variable {P : Program} {w : World} {H : Hp} {h : Heap} {a : Addr}
theorem rd_of {u : HO} (ok : HOk P w H h) (e : Rd H a u) : ObjOk P w H h a u := e.ok ok
theorem dk_rd {kvs : List (Key × V)} (ok : HOk P w H h) (e : Rd H a (.dK kvs)) : kvs.length ≤ sizeLine ∧ (a == sysModules) = false ∧ ∃ vs, KV kvs vs ∧ h.DictOf (mixKind P w) a vs :=
  show ObjOk P w H h a (.dK kvs) from rd_of ok e
theorem dk_of {kvs : List (Key × V)} (ok : HOk P w H h) (e : H a = some (.dK kvs)) : kvs.length ≤ sizeLine ∧ (a == sysModules) = false ∧ ∃ vs, KV kvs vs ∧ h.DictOf (mixKind P w) a vs := dk_rd ok (.inl e)
theorem key_of {ks : List Key} (ok : HOk P w H h) (e : H a = some (.tup (ks.map kV))) : (tupleKind (mixKind P w)).is h ks a := by
  obtain ⟨_, its, r, o, h1, h2, n, h3⟩ := (show ObjOk P w H h a (.tup (ks.map kV)) from ok a _ e)
  exact ⟨o, its.toArray, n, h1, h2, h3, by simpa using items_are r⟩
theorem dt_rd {kvs : List (List Key × V)} (ok : HOk P w H h) (e : Rd H a (.dT kvs)) : kvs.length ≤ sizeLine ∧ (a == sysModules) = false ∧
    ∃ xs, KT H kvs xs ∧ h.DictOfH (tupleKind (mixKind P w)) a xs := by
  obtain ⟨z, y, xs, r, o, es, ep, h1, h2, h3, h4, h5⟩ := (show ObjOk P w H h a (.dT kvs) from rd_of ok e)
  refine ⟨z, y, xs, r, o, es, ep, h1, h2, h3, h4, fun x hx => ?_, h5⟩
  have all : ∀ {l : List (List Key × V)} {m : List (List Key × Addr × Value)}, KT H l m → ∀ x ∈ m, (tupleKind (mixKind P w)).is h x.1 x.2.1 := by
    intro l m q
    induction q with
    | nil => intro x hx; exact nomatch hx
    | @cons p q ps qs hq t ih =>
      intro x hx
      rcases List.mem_cons.mp hx with e | hx
      · subst e
        exact key_of ok (by rw [← hq.1]; exact hq.2.1)
      · exact ih x hx
  exact all r x hx
theorem dt_of {kvs : List (List Key × V)} (ok : HOk P w H h) (e : H a = some (.dT kvs)) : kvs.length ≤ sizeLine ∧ (a == sysModules) = false ∧
    ∃ xs, KT H kvs xs ∧ h.DictOfH (tupleKind (mixKind P w)) a xs := dt_rd ok (.inl e)
end

def DGet (H : Hp) (a : Addr) (y : V) (r : Option V) : Prop :=
  (∃ kvs k, Rd H a (.dK kvs) ∧ y = kV k ∧ r = valV kvs k) ∨ ∃ kvs k b, Rd H a (.dT kvs) ∧ y = .ref b ∧ H b = some (.tup (k.map kV)) ∧ r = valV kvs k
def DPut (H : Hp) (a : Addr) (y v : V) (H' : Hp) : Prop :=
  (∃ kvs k, H a = some (.dK kvs) ∧ y = kV k ∧ kvs.length < sizeLine ∧ H' = upd H a (.dK (putK kvs k v))) ∨
  ∃ kvs k b, H a = some (.dT kvs) ∧ y = .ref b ∧ H b = some (.tup (k.map kV)) ∧ kvs.length < sizeLine ∧ H' = upd H a (.dT (putK kvs k v))
theorem DGet.k {H : Hp} {a : Addr} {kvs : List (Key × V)} {k : Key} (e : H a = some (.dK kvs)) : DGet H a (kV k) (valV kvs k) := .inl ⟨kvs, k, .inl e, rfl, rfl⟩
theorem DGet.t {H : Hp} {a b : Addr} {kvs : List (List Key × V)} {k : List Key} (e : H a = some (.dT kvs)) (eb : H b = some (.tup (k.map kV))) : DGet H a (.ref b) (valV kvs k) := .inr ⟨kvs, k, b, .inl e, rfl, eb, rfl⟩
theorem DPut.k {H : Hp} {a : Addr} {kvs : List (Key × V)} {k : Key} {v : V} (e : H a = some (.dK kvs)) (hl : kvs.length < sizeLine) : DPut H a (kV k) v (upd H a (.dK (putK kvs k v))) := .inl ⟨kvs, k, e, rfl, hl, rfl⟩
theorem DPut.t {H : Hp} {a b : Addr} {kvs : List (List Key × V)} {k : List Key} {v : V} (e : H a = some (.dT kvs)) (eb : H b = some (.tup (k.map kV))) (hl : kvs.length < sizeLine) :
    DPut H a (.ref b) v (upd H a (.dT (putK kvs k v))) := .inr ⟨kvs, k, b, e, rfl, eb, hl, rfl⟩

section
variable {X : Cx} {pins : List (Addr × Obj)} {σ : St} {H : Hp} {s : Shared} {a : Addr} {y v : V} {u r : Value} {o : Option V} {A : Around} {E : Value → Shared → Prop}

theorem Inv.big (I : Inv X pins σ H s) : sysModules < s.heap.objs.size := by
  have h : mainGlobals < s.heap.objs.size := (I.mod.glob.keeps I.bk).lt
  exact Nat.lt_trans (by decide) h

theorem d_notIn {Q : Value → Shared → Prop} (hu : A.units + 1 < cLine) (I : Inv X pins σ H s) (g : DGet H a y o) (ry : RelV y u) (h : ∀ s', Inv X pins σ H s' → Q (.bool (!o.isSome)) s') :
    wpAny (model X.prog X.w) A (compareOp .NotIn u (.ref a)) Q E s := by
  rcases g with ⟨kvs, k, e, ey, l⟩ | ⟨kvs, k, b, e, ey, eb, l⟩
  · subst ey
    obtain ⟨z, hd, vs, rel, dd⟩ := dk_rd I.hok e
    refine wpAny_notIn_of (kV_is ry) hd dd.mapOf ?_
    rw [← (rel.val k).isSome_eq, ← l]
    exact h _ (I.tok _)
  · subst ey
    cases (show u = Value.ref b from ry)
    obtain ⟨z, hd, xs, rel, dd⟩ := dt_rd I.hok e
    refine wpAny_notIn_heap (tupleKind_room_in1 hu) (key_of I.hok eb) hd dd ?_
    have q := (rel.val k).isSome_eq
    rw [Option.isSome_map] at q
    rw [← q, ← l]
    exact h _ (I.tok _)
theorem d_write {h' : Heap} {t' : Nat} {ob : HO} (I : Inv X pins σ H s) (mu : Mut (H a)) (hs : Heap.SameBut a s.heap h') (he : ∃ q, h'.get? a = some q) (new : ObjOk X.prog X.w (upd H a ob) h' a ob) :
    Inv X pins σ (upd H a ob) { s with heap := h', toks := t' } :=
  I.write (x := a) (e := a) mu (.inl rfl) (fun b q hb z => (hs.2 b hb).trans z) he new
theorem dk_new {P : Program} {w : World} {H' : Hp} {h' : Heap} {kvs : List (Key × V)} {vs : List (Key × Value)} (z : kvs.length ≤ sizeLine) (hd : (a == sysModules) = false) (rel : KV kvs vs) (dd : h'.DictOf (mixKind P w) a vs) :
    ObjOk P w H' h' a (.dK kvs) := ⟨z, hd, vs, rel, dd⟩
theorem d_setItem {H' : Hp} {Q : Unit → Shared → Prop} (hu : A.units + 1 < cLine) (I : Inv X pins σ H s) (g : DPut H a y v H') (ry : RelV y u) (rv : RelV v r) (h : ∀ s', Inv X pins σ H' s' → Q () s') :
    wpAny (model X.prog X.w) A (setItem (.ref a) u r) Q E s := by
  rcases g with ⟨kvs, k, e, ey, l, eH⟩ | ⟨kvs, k, b, e, ey, eb, l, eH⟩
  · subst ey eH
    obtain ⟨z, hd, vs, rel, dd⟩ := dk_of I.hok e
    have hz : vs.length ≤ sizeLine := by rw [← rel.length]; exact z
    have hl : (putK kvs k v).length ≤ sizeLine := by have := length_putK kvs k v; omega
    refine wpAny_setItem_pairs (hsz := hz) (kV_is ry) dd fun h' dd' hs => h _ ?_
    have he : ∃ q, h'.get? a = some q := let ⟨q, _, _, hq, _⟩ := dd'; ⟨q, hq⟩
    exact d_write I (by rw [e]; exact True.intro) hs he (dk_new hl hd (rel.put k rv) dd')
  · subst ey eH
    cases (show u = Value.ref b from ry)
    obtain ⟨z, hd, xs, rel, dd⟩ := dt_of I.hok e
    have hz : xs.length ≤ sizeLine := by rw [← Paired.length rel]; exact z
    have hl : (putK kvs k v).length ≤ sizeLine := by have := length_putK kvs k v; omega
    refine wpAny_setItem_heap (hsz := hz) (tupleKind_room_in1 hu) (key_of I.hok eb) dd fun h' dd' hs => h _ ?_
    obtain ⟨q, es, ep, hq, h2, h3, h4, _, h5⟩ := dd'
    refine d_write I (by rw [e]; exact True.intro) hs ⟨q, hq⟩ ⟨hl, hd, _, (rel.put k eb rv).keeps fun c ys ec => ?_, q, es, ep, hq, h2, h3, h4, h5⟩
    rw [upd_ne (ne_of ec e (fun z => nomatch z))]
    exact ec
end

section
variable {X : Cx} {pins : List (Addr × Obj)} {σ : St} {H : Hp} {s : Shared} {a : Addr} {kvs : List (Key × V)} {k : Key} {u : Value} {A : Around} {E : Value → Shared → Prop}
end

def tDNotIn (ty td : TE) : TE := fun σ H Q => ty σ H fun y H1 => td σ H1 fun x H2 => ∃ a o, x = .ref a ∧ DGet H2 a y o ∧ Q (.bl (!o.isSome)) H2
def sDPut (td ty tv : TE) : TS := fun D σ H => tv σ H fun v H1 => td σ H1 fun x H2 => ty σ H2 fun y H3 => ∃ a H4, x = .ref a ∧ DPut H3 a y v H4 ∧ D.nx σ H4
section
variable {X : Cx} {o i e value : Expr} {pos pos' tpos : Pos} {td ty tv : TE}
theorem pc_dnotin (hu : X.A.units + 1 < cLine) (hi : PE X i ty) (ho : PE X o td) : PC X .NotIn i o (tDNotIn ty td) := by
  intro pins s σ H Q I h
  refine thn (hi pins s σ H _ I h) fun iv s1 ⟨y, H1, I1, ry, q1⟩ => thn (ho pins s1 σ H1 _ I1 q1) fun u s2 ⟨x, H2, I2, rx, a, ov, ex, g, q2⟩ => ?_
  subst ex
  obtain rfl : u = Value.ref a := rx
  exact d_notIn hu I2 g ry fun s3 I3 => ⟨.bl (!ov.isSome), H2, I3, rfl, q2⟩
theorem ps_dput (hu : X.A.units + 1 < cLine) (ho : PE X o td) (hi : PE X i ty) (hv : PE X value tv) (hs : swapsWith value (some (.Subscript o i pos')) pos.line X.env = pure false) :
    PS X (.Assign [.Subscript o i pos'] value pos) (sDPut td ty tv) := by
  intro pins s σ H D I h
  refine wpAny_Assign_Subscript (thn (hv pins s σ H _ I h) fun r s1 ⟨v, H1, I1, rv, q1⟩ => thn (ho pins s1 σ H1 _ I1 q1) fun u s2 ⟨x, H2, I2, rx, q2⟩ => thn (hi pins s2 σ H2 _ I2 q2) fun iv s3 ⟨y, H3, I3, ry, a, H4, ex, g, q3⟩ => ?_) hs
  subst ex
  obtain rfl : u = Value.ref a := rx
  exact d_setItem hu I3 g ry rv fun s4 I4 => ⟨σ, H4, I4, q3⟩
end

theorem dk_empty {P : Program} {w : World} {H : Hp} (h : Heap) (hb : sysModules < h.objs.size) : ObjOk P w H (h.push { cls := .type "dict", data := .dict #[] }) h.objs.size (.dK []) :=
  ⟨Nat.zero_le _, beq_eq_false_iff_ne.mpr (Ne.symm (Nat.ne_of_lt hb)), [], .nil, Heap.DictOf.new h⟩
def tDNewK : TE := fun _ H Q => ∀ p, H p = none → Q (.ref p) (upd H p (.dK []))
section
variable {X : Cx} {pos : Pos}
theorem pe_dnewK : PE X (.Dict [] [] pos) tDNewK := fun pins s σ H Q I h =>
  wpAny_Dict_empty ⟨.ref s.heap.objs.size, _, I.laid (a := s.heap.objs.size) (o := .dK []) (t' := s.toks) (fun _ _ q => Heap.get?_push_of_some _ q) (Nat.le_refl _) (dk_empty s.heap I.big), rfl, h _ (I.hok.fresh (Nat.le_refl _))⟩
end

structure M1 (X : Cx) (o : Expr) (m : Str) (apos : Pos) (e : Expr) (cpos : Pos) : Prop where
  base : attributeBase o m X.env (eval o X.env) = eval o X.env
  few : ((backTo cpos (starEach [e] X.env)).all (fun x => !x.1) && (backToKw cpos (keywordEach [] X.env)).all (fun x => x.1.isSome)
    && decide (([e] : List Expr).length + ([] : List Keyword).length + (if ([] : List Keyword).isEmpty then 0 else 1) < 30)) = true
  line : (apos.endLine == cpos.line) = true
  trees : backTo cpos (starEach [e] X.env) = [(false, eval e X.env)]
structure M2 (X : Cx) (o : Expr) (m : Str) (apos : Pos) (e f : Expr) (cpos : Pos) : Prop where
  base : attributeBase o m X.env (eval o X.env) = eval o X.env
  few : ((backTo cpos (starEach [e, f] X.env)).all (fun x => !x.1) && (backToKw cpos (keywordEach [] X.env)).all (fun x => x.1.isSome)
    && decide (([e, f] : List Expr).length + ([] : List Keyword).length + (if ([] : List Keyword).isEmpty then 0 else 1) < 30)) = true
  line : (apos.endLine == cpos.line) = true
  trees : backTo cpos (starEach [e, f] X.env) = [(false, eval e X.env), (false, eval f X.env)]

section
variable {X : Cx} {pins : List (Addr × Obj)} {σ : St} {H : Hp} {s : Shared} {a : Addr} {y d : V} {u r : Value} {o : Option V} {A : Around} {E : Value → Shared → Prop}
end

section
variable {X : Cx} {o e f : Expr} {apos cpos : Pos} {td ty tx : TE}
end

section
variable {X : Cx} {pins : List (Addr × Obj)} {σ : St} {H : Hp} {s : Shared} {a : Addr} {kvs : List (Key × V)} {A : Around} {E : Value → Shared → Prop}
end

section
variable {X : Cx} {pins : List (Addr × Obj)} {σ : St} {H : Hp} {s : Shared} {a : Addr} {y : V} {u : Value} {A : Around} {E : Value → Shared → Prop}
end
end L2

namespace Att
open PySem PySem.W PySem.Calls PyProof.Rows

theorem ints_of_wellAll {P : Params} {h : Heap} : ∀ (ns : List Int) (vs : List Value), WellAll P h vs (ns.map WData.int) → IntsAre vs ns := by
  intro ns
  induction ns with
  | nil =>
    intro vs w
    rw [List.map_nil] at w
    cases w
    exact .nil
  | cons n ns ih =>
    intro vs w
    rw [List.map_cons] at w
    cases w with
    | cons a b =>
      cases a
      exact .cons _ _ (ih _ b)

theorem script_of {l : OpenLaw} {n : Nat} (hn : l.most = some n) {P : Params} {h : Heap} {args : List WData} {vals : List Value}
    (hpre : l.row.toRowW.claim.pre args = true) (hwl : WellAll P h vals args) :
    ∃ a vs ns, vals = [Value.ref a] ∧ args = [WData.list (ns.map WData.int)] ∧ h.get? a = some { cls := .type "list", data := .seq vs.toArray } ∧ IntsAre vs ns ∧ ns.length ≤ n := by
  have hsh : WShape.hasAll [] args [.list .int] = true := (pre_splitW hpre).1
  have hc : l.pre.holds [] { args := args } = true := (pre_splitW hpre).2
  obtain ⟨d, r, rfl, h1, h2⟩ := hasAllW_cons hsh
  obtain rfl := hasAllW_nil h2
  obtain ⟨xs, rfl, h3⟩ := hasW_list h1
  obtain ⟨ns, rfl⟩ := items_int h3
  have hlen : ns.length ≤ n := by
    unfold OpenLaw.pre at hc
    have h4 : (WTm.not (.lt (.lit (.int (n : Int))) (.len (.arg 0)))).holds [] { args := [.list (ns.map .int)] } = true := by
      have h4 := (holds_andW hc).1
      rw [hn] at h4
      exact h4
    have h5 := condW_of h4 (w_not (w_lt w_lit (w_len_list (w_arg rfl))))
    rw [List.length_map] at h5
    refine Nat.le_of_not_lt fun q => ?_
    have q' : (n : Int) < ((ns.length : Nat) : Int) := by omega
    first
      | (rw [decide_eq_true q'] at h5; exact absurd h5 (by decide))
      | (simp at h5; omega)
  cases hwl with
  | cons w1 w2 =>
    cases w2
    cases w1 with
    | list ho hall => exact ⟨_, _, ns, rfl, rfl, ho, ints_of_wellAll ns _ hall, hlen⟩

theorem post_true (l : OpenLaw) (args : List WData) : l.row.toRowW.claim.post args (.bool true) args = true :=
  postW_of (r := l.row.toRowW) (X := (true == true))
    (show WShape.has [] (.bool true) .bool = true by first | rfl | decide | simp [WShape.has, WShape.arms, WShape.armsAll])
    (show (WTm.eq .res (.lit (.bool true))).value [] { args := args, res := some (.bool true), after := args } = some (.bool (true == true)) from w_eq_bool (w_res rfl) w_lit) rfl

theorem attach_call {l : OpenLaw} {n : Nat} {q : Program} {loose : List Str} {XP : (Str → Option Value) → Heap → Prop} {YP : World → Heap → Prop} {d : DefRec}
    (hn : l.most = some n) (hdf : d.params.defaults = [])
    (call : ∀ (w : World) (s₀ s₁ : Shared) (mg mb : Str → Option Value) (fa : Addr) (o : Obj) (pm cd doc : Value) (a : Addr) (vs : List Value) (ns : List Int),
      Ground q loose [] XP w s₀ mg mb s₁.heap → YP w s₁.heap →
      s₁.heap.get? fa = some o → o.data = .func (docDef d.name d.params d.body d.scope pm cd doc) → s₁.heap.CodeRec cd d.name → mg d.name = some (.ref fa) →
      s₁.heap.get? a = some { cls := .type "list", data := .seq vs.toArray } → IntsAre vs ns → ns.length ≤ n → s₁.gens = #[] →
      codeAny (model l.prog w) callerA (.call (.ref fa) ⟨[.ref a], []⟩) (fun r s' => r = .ok (.ret (.bool true)) ∧ OldK s₁.heap s'.heap ∧ s'.os = s₁.os ∧ AllBare s'.gens) s₁) :
    WalkO q loose XP YP l.row.toRowW d [] (fun f vs => PySem.call f vs) := by
  intro w s₀ s₁ mg mb G Y fa o pm cd doc dV kV ho hd hcd hD hmg hg args vals as hpre hlay hrd hwl hlo
  obtain rfl : dV = .none := Dflts.none hD hdf
  obtain rfl : kV = .none := Dflts.noKw hD
  obtain ⟨a, vs, ns, rfl, rfl, hobj, hints, hlen⟩ := script_of hn hpre hwl
  refine enter_call (codeAny_mono (call w s₀ s₁ mg mb fa o pm cd doc a vs ns G Y ho (fd_plain hd) hcd hmg hobj hints hlen hg) fun r s' hq => ?_)
  obtain ⟨rfl, h2, h3, h4⟩ := hq
  exact ⟨.inl ⟨.bool true, .bool true, [], rfl, fun _ => rfl, .bool true, post_true l _, fun _ => ⟨List.Pairwise.nil, fun _ hm => (nomatch hm)⟩⟩, h2, h3, h4⟩

section
variable {prog : Program} {w : World} {A : Around} {E : Value → Shared → Prop} {s : Shared} {K : Frag}

end
end Att

namespace L2
open PySem PySem.Spec PyProof.Rows

theorem vals_ints : ∀ {vs : List Value} {ns : List Int}, IntsAre vs ns → Vals (ns.map V.int) vs
  | _, _, .nil => .nil
  | _, _, .cons n t h => .cons ⟨t, rfl⟩ (vals_ints h)

def Only (H : Hp) : Prop := ∀ b, H b = none ∨ ∃ o xs, H b = some (.frz o (.lst xs))

theorem law_call {P : Program} {w : World} {K : PySem.W.Frag} {mg mb : Str → Option Value} {CX : CXT} {k : Nat} {fa a : Addr} {fd : FuncData} {x : Str} {sp : Sp} {s₁ : Shared} {vs : List Value} {ns : List Int}
    (KX : K.In s₁.heap) (hns : s₁.heap.Ns mainGlobals mg) (hb : s₁.heap.Ns builtinsNs mb) (hbb : ∀ x : Str, x ≠ "__name__" → mb x = bootBuiltins x) (hlim : s₁.heap.NoLimit) (hg : s₁.gens = #[])
    (ha : s₁.heap.get? a = some { cls := .type "list", data := .seq vs.toArray }) (hi : IntsAre vs ns) (hl : ns.length ≤ sizeLine) (hr : Room k callerA)
    (F : ∀ base : Heap, K.In base → base.Ns mainGlobals mg → FnOk P w K mg base CX k fa fd [x] sp) (hbind : ∀ (s : Shared) (u : Value), BindsTo s fd ⟨[u], []⟩ [(x, u)])
    (hsp : ∀ H : Hp, Only H → SqL K H a (ns.map V.int) → sp [.ref a] H (fun v _ => v = .bl true) fun _ _ _ => False)
    (hCX : ∀ H e s', CX [] H s₁ (fun _ _ _ => False) e s' → False) :
    codeAny (model P w) callerA (.call (.ref fa) ⟨[.ref a], []⟩) (fun r s' => r = .ok (.ret (.bool true)) ∧ OldK s₁.heap s'.heap ∧ s'.os = s₁.os ∧ AllBare s'.gens) s₁ := by
  have rv := vals_ints hi
  have lenV := hi.length
  -- from an abstract heap in which nothing but the script may be tracked
  have core : ∀ H : Hp, Only H → SqL K H a (ns.map V.int) → HOk P w H s₁.heap → (∀ b, H b ≠ none → b = a) → (H a ≠ none → K.lookup a = none) →
      codeAny (model P w) callerA (.call (.ref fa) ⟨[.ref a], []⟩) (fun r s' => r = .ok (.ret (.bool true)) ∧ OldK s₁.heap s'.heap ∧ s'.os = s₁.os ∧ AllBare s'.gens) s₁ := by
    intro H hO hS hok hA hK
    have base_of : ∀ {b : Addr} {o : Obj}, s₁.heap.get? b = some o → H b = none → (hidT s₁.heap H).get? b = some o := fun e n => hidT_get e n
    have noA : ∀ {b : Addr} {o : Obj} {es : Array DictEntry} {ep : Nat}, s₁.heap.get? b = some o → o.data = .dict es ep → H b = none := fun {b o es ep} e d => by
      cases q : H b with
      | none => rfl
      | some u =>
        have e' : b = a := hA b (by rw [q]; simp)
        subst e'
        rw [ha] at e; cases e
        have d' : Data.seq vs.toArray _ = Data.dict es ep := d
        cases d'
    have nsK : ∀ {b : Addr} {m : Str → Option Value}, s₁.heap.Ns b m → (hidT s₁.heap H).Ns b m := fun {b m} ⟨o, es, ep, e, d, r⟩ => ⟨o, es, ep, base_of e (noA e d), d, r⟩
    have hKb : K.In (hidT s₁.heap H) := fun b o e => base_of (KX b o e) (by
      cases q : H b with
      | none => rfl
      | some u =>
        have e' : b = a := hA b (by rw [q]; simp)
        subst e'
        rw [hK (by rw [q]; simp)] at e; cases e)
    have hM : Mod K mg (hidT s₁.heap H) := ⟨hKb, nsK hns, ⟨mb, nsK hb, hbb⟩, let ⟨mc, h1, h2⟩ := hlim; ⟨mc, nsK h1, h2⟩⟩
    have e0 : Env0 P w K mg (hidT s₁.heap H) callerA [] s₁ H := ⟨rfl, hM, fun b o e => of_hidT e, Nat.le_of_eq (hidT_size _ _), trivial, fun b hb => absurd (show b ∈ ([] : List Addr) from hb) (by simp), hok, .of_eq hg⟩
    refine codeAny_mono ((F _ hKb (nsK hns)).run callerA [] s₁ H ⟨[.ref a], []⟩ [.ref a] [.ref a] _ _ hr e0 (hbind s₁ (.ref a)) (.cons rfl .nil) (hsp H hO hS)) fun r s' h => ?_
    cases r with
    | error e => exact (hCX H e s' h).elim
    | ok fl =>
      cases fl with
      | next => exact False.elim h
      | brk => exact False.elim h
      | cont => exact False.elim h
      | ret u =>
        obtain ⟨v, H', os, bare, un, hok', r', q⟩ := h
        have q' : v = .bl true := q
        subst q'
        obtain rfl : u = Value.bool true := r'
        refine ⟨rfl, OldK.of_keep fun b o e => ?_, os, bare⟩
        cases q : H b with
        | none => exact un.keep b o e q (by intro z; exact absurd (show b ∈ ([] : List Addr) from z) (by simp)) (by simp)
        | some u =>
          rcases hO b with z | ⟨ob, xs, z⟩
          · rw [q] at z; cases z
          · have z2 := un.frzs b ob _ z
            obtain ⟨e1, _⟩ := hok b _ z
            obtain ⟨e2, _⟩ := hok' b _ z2
            rw [e] at e1; cases e1
            exact e2
  cases hk : K.lookup a with
  | some o =>
    -- the script is one of the module's own objects
    have e := KX a o hk
    rw [ha] at e
    cases e
    refine core (fun _ => none) (fun _ => .inl rfl) (.inr ⟨_, vs.toArray, _, hk, rfl, rfl, rfl, by rw [List.size_toArray, lenV]; exact hl, by simpa using rv⟩) (fun b u z => by have z' : (none : Option HO) = some u := z; cases z') (fun b z => absurd rfl z) fun z => absurd rfl z
  | none =>
    refine core (fun b => if b = a then some (.frz { cls := .type "list", data := .seq vs.toArray } (.lst (ns.map V.int))) else none) (fun b => ?_) (.inl (.inr ⟨{ cls := .type "list", data := .seq vs.toArray }, if_pos rfl⟩)) (fun b u z => ?_) (fun b z => ?_) fun _ => hk
    · by_cases hb : b = a
      · exact .inr ⟨_, _, if_pos hb⟩
      · exact .inl (if_neg hb)
    · by_cases hb : b = a
      · have z' := (if_pos hb).symm.trans z
        cases z'
        subst hb
        exact ⟨ha, by rw [List.length_map]; exact hl, vs, _, rv, ha⟩
      · have z' := (if_neg hb).symm.trans z
        cases z'
    · by_cases hb : b = a
      · exact hb
      · exact absurd (if_neg hb) z
end L2

namespace L2
open PySem PySem.Spec PyProof.Rows

abbrev KOf {K : PySem.W.Frag} {h : Heap} (_ : K.In h) : PySem.W.Frag := K

theorem walk_of {l : PySem.W.OpenLaw} {n k : Nat} {q : Program} {loose : List Str} {XP : (Str → Option Value) → Heap → Prop} {YP : World → Heap → Prop} {d : DefRec} {K : Params → PySem.W.Frag} {CX : World → CXT} {sp : World → Sp} {x : Str}
    (hn : l.most = some n) (hn2 : n ≤ sizeLine) (hdf : d.params.defaults = []) (hr : Room k callerA)
    (hY : ∀ (w : World) (h : Heap), YP w h → (K w.params).In h)
    (F : ∀ (w : World) (mg : Str → Option Value) (fa : Addr) (h : Heap), (K w.params).In h → h.Ns mainGlobals mg → mg d.name = some (.ref fa) →
      ∃ fd : FuncData, (∀ (s : Shared) (u : Value), BindsTo s fd ⟨[u], []⟩ [(x, u)]) ∧
        ∀ base : Heap, (K w.params).In base → base.Ns mainGlobals mg → FnOk l.prog w (K w.params) mg base (CX w) k fa fd [x] (sp w))
    (hsp : ∀ (w : World) (H : Hp) (a : Addr) (ns : List Int), ns.length ≤ n → Only H → SqL (K w.params) H a (ns.map V.int) → sp w [.ref a] H (fun v _ => v = .bl true) fun _ _ _ => False)
    (hCX : ∀ (w : World) (H : Hp) (s : Shared) (e : Value) (s' : Shared), CX w [] H s (fun _ _ _ => False) e s' → False) :
    PySem.W.WalkO q loose XP YP l.row.toRowW d [] (fun f vs => PySem.call f vs) := by
  refine Att.attach_call hn hdf fun w s₀ s₁ mg mb fa o pm cd doc a vs ns G Y ho hd hcd hmg hobj hints hlen hg => ?_
  have KX := hY w _ Y
  obtain ⟨fd, hb, hF⟩ := F w mg fa _ KX G.T.g hmg
  exact law_call KX G.T.g G.T.b G.T.builtins G.T.nolimit hg hobj hints (Nat.le_trans hlen hn2) hr hF hb (fun H hO hS => hsp w H a ns hlen hO hS) fun H e s' => hCX w H s₁ e s'
end L2

/- THE LAST THEOREM (shape; LID, My.* are yours):
   My.Adr: a structure of the addresses that your layer names (classes, functions); My.Txt K t: a structure (Prop) of the equations over K;
   My.txt_mk : {K} {implicit addresses ..} (e1 : nsIn K mainGlobals "law" = some (some (.ref f))) (e2 : K.lookup f = some ⟨oc, od, .func (fnOf "law" "law" params body scope dV kV doc pm an cdv ct), sl⟩) (e3 : codeIn K cdv "law" = true) .. : ∃ t, My.Txt K t

set_option maxRecDepth 100000 in
set_option maxHeartbeats 0 in
theorem PySem.Challenge.cw_LID_holds : PySem.Challenge.rw_LID.Holds := by
  w_on; o_law; k_head; (case hw => w_witness2)
  k_fill
  refine L2.walk_of (l := PySem.Challenge.rw_LID) (n := 63) (k := 40) (x := "script") (CX := fun w => ..) (sp := fun _ => My.sp_law) rfl (by decide) rfl ⟨rfl, by decide, by decide⟩ (fun w h Y => PySem.W.kIn_of Y) ?F ?S ?C
  case F =>
    intro w mg fa h KX G hmg
    have T : ∃ t, My.Txt (L2.KOf KX) t := by
      dsimp only [L2.KOf]                          -- K must stand as «<heap const> w.params» for k_is
      refine' My.txt_mk ?e1 ?e2 ?e3 ..
      (case e1 => PySem.W.k_is)                    -- in the order: a name -> its address -> its object -> its parts
      (case e2 => PySem.W.k_is)
      ..
    obtain ⟨t, T⟩ := T
    have e0 := hmg.symm.trans (PySem.W.mg_of KX G T.law)
    cases e0                                       -- fa is the law's own address
    exact ⟨_, fun s u => .of_eq rfl, fun base kb nb => My.law_fn T kb nb⟩     -- if «.of_eq rfl» comes too early: refine' ⟨_, ?b, fun base kb nb => My.law_fn T kb nb⟩; exact fun s u => .of_eq rfl
  case S => exact fun w H a ns hl hO hS => ..
  case C => exact ..
(the tactic k_is has no namespace: write k_is) -/

namespace L2
open PySem PySem.Spec PyProof.Rows

def defArgs (s : Stmt) : Arguments := match s with
  | .FunctionDef _ a _ _ _ _ _ _ _ _ => a
  | _ => { posonlyargs := [], args := [], vararg := none, kwonlyargs := [], kw_defaults := [], kwarg := none, defaults := [] }
def defBody (s : Stmt) : List Stmt := match s with
  | .FunctionDef _ _ b _ _ _ _ _ _ _ => b
  | _ => []
def defScope (s : Stmt) : Scope := match s with
  | .FunctionDef _ _ _ _ _ _ sc _ _ _ => sc
  | _ => { kind := .function, names := [], isGenerator := false, isCoroutine := false }

abbrev CX0 : CXT := fun _ _ _ _ _ _ => False
abbrev E0 : XK := fun _ _ _ => False
theorem pass0 {X : Cx} : Passes CX0 X E0 := fun _ _ _ _ _ _ _ h => h.elim

structure Fun (K : PySem.W.Frag) (x qual : Str) (st : Stmt) (f : Addr) (fd : FuncData) : Prop where
  ex : ∃ (oc : Value) (od : Option Addr) (kV doc pm : Value) (an : Option Addr) (cdv ct : Value) (osl : Array (Option Value)),
    fd = PySem.W.fnOf x qual (defArgs st) (defBody st) (defScope st) .none kV doc pm an cdv ct ∧ K.lookup f = some ⟨oc, od, .func fd, osl⟩ ∧ PySem.W.codeIn K cdv qual = true
  kp : PySem.W.keepIn K (.ref f) = true
section
variable {P : Program} {w : World} {K : PySem.W.Frag} {mg : Str → Option Value} {base : Heap}
theorem Fun.ok {x qual : Str} {st : Stmt} {f : Addr} {fd : FuncData} {N ps : List Str} {k : Nat} {sp : Sp} (F : Fun K x qual st f fd) (S : FnScope N ps (defScope st)) (len : ∀ vs H Q E, sp vs H Q E → vs.length = ps.length)
    (hbody : ∀ (cdv : Value) (A : Around) (outer : List Env) (s : Shared) (H : Hp) (vs : List V) (Q : VK) (E : XK), Room k (A.deeper (envOfC qual (defScope st) s.heap.objs.size f cdv)) → sp vs H Q E →
      ∃ t, PSs (cxOf CX0 P w K mg base N qual (defScope st) f cdv A outer s H E).nox (defBody st) t ∧ t { nx := fun _ H' => Q .non H', rt := Q } (start N vs) H) : FnOk P w K mg base CX0 (k + 1) f fd ps sp := by
  obtain ⟨oc, od, kV, doc, pm, an, cdv, ct, osl, rfl, lk, hcd⟩ := F.ex
  refine fn_of lk hcd S len fun A outer s H vs Q E hr hsp => ?_
  obtain ⟨t, h, q⟩ := hbody cdv A outer s H vs Q E hr hsp
  exact ⟨t, h.nox, q⟩
theorem Fun.binds {x qual : Str} {st : Stmt} {f : Addr} {fd : FuncData} {ps : List Str} (F : Fun K x qual st f fd)
    (h : ∀ (kV doc pm : Value) (an : Option Addr) (cdv ct : Value) (us : List Value), us.length = ps.length → bindArgs (PySem.W.fnOf x qual (defArgs st) (defBody st) (defScope st) .none kV doc pm an cdv ct) ⟨us, []⟩ = pure (ps.zip us)) : Binds K fd ps [] := by
  obtain ⟨oc, od, kV, doc, pm, an, cdv, ct, osl, rfl, lk, hcd⟩ := F.ex
  exact .all (h kV doc pm an cdv ct)
theorem fun_mk {x qual : Str} {st : Stmt} {f : Addr} {oc : Value} {od an : Option Addr} {osl : Array (Option Value)} {kV doc pm cdv ct : Value} (l : K.lookup f = some ⟨oc, od, .func (PySem.W.fnOf x qual (defArgs st) (defBody st) (defScope st) .none kV doc pm an cdv ct), osl⟩)
    (c : PySem.W.codeIn K cdv qual = true) (k : PySem.W.keepIn K (.ref f) = true) : Fun K x qual st f (PySem.W.fnOf x qual (defArgs st) (defBody st) (defScope st) .none kV doc pm an cdv ct) := ⟨⟨oc, od, kV, doc, pm, an, cdv, ct, osl, rfl, l, c⟩, k⟩
end
theorem hu_of {A : Around} {k : Nat} (hr : Room k A) : A.units + 1 < cLine := Nat.lt_of_le_of_lt (Nat.add_le_add_left (by decide : 1 ≤ 64) _) hr.units
theorem small1000 {n : Nat} (h : n ≤ 1000) : n < sizeLine := Nat.lt_of_le_of_lt h (by decide)

section
variable {X : Cx}
theorem pv (i : Nat) {x : Str} {pos : Pos} (hN : X.N[i]? = some x := by rfl) (hv : Vis X.env.scope x := by first | exact Or.inl rfl | exact Or.inr (Or.inl rfl) | exact Or.inr (Or.inr rfl)) (hd : (x == ("__debug__" : Str)) = false := by decide)
    (hcd : (x == ("__classdict__" : Str)) = false := by decide) : PE X (.Name x pos) (tVar i) := pe_var hN hv hd hcd
end

def Same (H H' : Hp) : Prop := ∀ b o, H b = some o → H' b = some o
theorem Same.refl (H : Hp) : Same H H := fun _ _ h => h
theorem Same.trans {H H1 H2 : Hp} (a : Same H H1) (b : Same H1 H2) : Same H H2 := fun c o h => b c o (a c o h)
theorem Same.free {H H' : Hp} (e : Same H H') {l : Addr} (h : H' l = Option.none) : H l = Option.none := by
  cases q : H l with
  | none => rfl
  | some o =>
    rw [e l o q] at h
    cases h
theorem Same.seq {K : PySem.W.Frag} {H H' : Hp} {a : Addr} {xs : List V} (e : Same H H') (h : SqL K H a xs) : SqL K H' a xs := by
  rcases h with (h | ⟨o, h⟩) | h
  · exact .inl (.inl (e _ _ h))
  · exact .inl (.inr ⟨o, e _ _ h⟩)
  · exact .inr h

section
variable {κ : Type} [DecidableEq κ]
end
end L2

set_option linter.all false
set_option maxRecDepth 100000
namespace PySem
section
variable {env : Env}
theorem closureFor_cells_aux (names : List (Str × NameKind)) : ∀ (cs : List (Str × Addr)), (∀ n, (n, NameKind.free) ∈ names → ∃ c, env.cells.lookup n = some c) →
    ∃ cl, (forIn names cs (fun (x : Str × NameKind) (r : List (Str × Addr)) => if (x.2 == NameKind.free) = true then (do let c ← cellOf env x.1; pure (ForInStep.yield ((x.1, c) :: r))) else pure (ForInStep.yield r)) : Sem (List (Str × Addr))) = pure cl ∧
      (∀ n c, cl.lookup n = some c → env.cells.lookup n = some c ∨ cs.lookup n = some c) ∧ (∀ n, ((n, NameKind.free) ∈ names ∨ ∃ c, cs.lookup n = some c) → ∃ c, cl.lookup n = some c) := by
  induction names with
  | nil => intro cs _; exact ⟨cs, rfl, fun n c h => .inr h, fun n h => h.elim (fun z => nomatch z) id⟩
  | cons x r ih =>
    intro cs h
    obtain ⟨n, k⟩ := x
    have hr : ∀ n, (n, NameKind.free) ∈ r → ∃ c, env.cells.lookup n = some c := fun m hm => h m (List.mem_cons_of_mem _ hm)
    by_cases hk : k = .free
    · subst hk
      obtain ⟨c, hc⟩ := h n List.mem_cons_self
      obtain ⟨cl, e, h1, h2⟩ := ih ((n, c) :: cs) hr
      refine ⟨cl, ?_, fun m d hd => ?_, fun m hm => ?_⟩
      · rw [List.forIn_cons]
        simp only [beq_self_eq_true, if_true]
        have q : cellOf env n = pure c := by unfold cellOf; rw [hc]
        rw [q]
        exact e
      · rcases h1 m d hd with z | z
        · exact .inl z
        · rw [List.lookup_cons] at z
          by_cases hmn : m = n
          · subst hmn
            simp only [beq_self_eq_true] at z
            exact .inl (hc.trans z)
          · have : (m == n) = false := by simpa using hmn
            rw [this] at z
            exact .inr z
      · refine h2 m ?_
        rcases hm with z | ⟨d, z⟩
        · rcases List.mem_cons.mp z with z | z
          · obtain ⟨rfl, _⟩ := Prod.mk.inj z
            exact .inr ⟨c, by simp [List.lookup_cons]⟩
          · exact .inl z
        · right
          rw [List.lookup_cons]
          cases (m == n)
          · exact ⟨d, z⟩
          · exact ⟨c, rfl⟩
    · have hb : (k == NameKind.free) = false := by simpa using hk
      obtain ⟨cl, e, h1, h2⟩ := ih cs hr
      refine ⟨cl, ?_, h1, fun m hm => h2 m ?_⟩
      · rw [List.forIn_cons]
        simp only [hb, Bool.false_eq_true, if_false]
        exact e
      · rcases hm with z | z
        · rcases List.mem_cons.mp z with z | z
          · exact absurd (Prod.mk.inj z).2.symm hk
          · exact .inl z
        · exact .inr z
theorem closureFor_cells {scope : Scope} (h : ∀ n, (n, NameKind.free) ∈ scope.names → ∃ c, env.cells.lookup n = some c) :
    ∃ cl, closureFor scope env = pure cl ∧ (∀ n c, cl.lookup n = some c → env.cells.lookup n = some c) ∧ (∀ n, (n, NameKind.free) ∈ scope.names → ∃ c, cl.lookup n = some c) := by
  obtain ⟨cl, e, h1, h2⟩ := closureFor_cells_aux scope.names [] h
  refine ⟨cl, ?_, fun n c hc => (h1 n c hc).elim id fun z => (by simp at z), fun n hn => h2 n (.inl hn)⟩
  simp only [closureFor]
  have q := congrArg (fun t => t >>= fun r => (pure r : Sem (List (Str × Addr)))) e
  exact q
end

section
variable {prog : Program} {w : World} {A : Around} {R : Result → Shared → Prop} {s : Shared}
theorem codeAny_compLoop_any {elt target iter : Expr} {ifs : List Expr} {scope : Scope} {pos : Pos} {it acc : Value} {env : Env} (I : Nat → Shared → Prop)
    (turn : ∀ n s, I n s → wpAny (model prog w) A (pyNext it) (fun r s₁ => match r with
      | none => R (.ok .next) s₁
      | some v => wpAny (model prog w) A (letOwnedTupleGo target it v) (fun _ s₁' => wpAny (model prog w) A (assign target env v) (fun _ s₂ =>
          wpAny (model prog w) A (forIn ifs true fun c r => if r = true then do let ok ← isTrue c env (eval c env); pure (ForInStep.yield ok) else pure (ForInStep.yield r)) (fun ok s₃ =>
            if ok = true then wpAny (model prog w) A (eval elt env) (fun x s₄ =>
              wpAny (model prog w) A (call (.builtin "list.append") [acc, x]) (fun _ s₅ => ∃ m, m < n ∧ I m s₅) (fun _ _ => False) s₄) (fun _ _ => False) s₃
            else ∃ m, m < n ∧ I m s₃) (fun _ _ => False) s₂) (fun _ _ => False) s₁') (fun _ _ => False) s₁) (fun _ _ => False) s)
    (n : Nat) (h : I n s) :
    codeAny (model prog w) A (.compLoop (.ListComp elt [⟨target, iter, ifs, 0⟩] scope pos) 0 it acc env) R s := by
  refine codeAny_loop rfl I (fun n s hI => ?_) n h
  show wpAny _ A ((compTurn (.ListComp elt [⟨target, iter, ifs, 0⟩] scope pos) 0 it acc env).onRaise (fun x => do noteFrame x env; theTreesLotGoes x)) _ _ s
  refine wpAny_noted ?_
  rw [compTurn_list]
  refine wpAny_bind (wpAny_standAt (wpAny_bind (wpAny_mono (turn n s hI) (fun r s₁ h₁ => ?_) fun _ _ h' => h'.elim)))
  cases r with
  | none => exact wpAny_pure h₁
  | some v =>
    refine wpAny_bind (wpAny_mono h₁ (fun _ s₁' h₁' => ?_) fun _ _ h' => h'.elim)
    refine wpAny_bind (wpAny_mono h₁' (fun _ s₂ h₂ => wpAny_bind (wpAny_mono h₂ (fun ok s₃ h₃ => ?_) fun _ _ h' => h'.elim)) fun _ _ h' => h'.elim)
    cases ok with
    | false => exact wpAny_pure ⟨rfl, h₃⟩
    | true =>
      exact wpAny_bind (wpAny_bind (wpAny_mono h₃ (fun x s₄ h₄ => wpAny_bind (wpAny_mono h₄ (fun _ s₅ h₅ => wpAny_pure (wpAny_pure ⟨rfl, h₅⟩)) fun _ _ h' => h'.elim)) fun _ _ h' => h'.elim))
end
end PySem

set_option Elab.async false
set_option linter.all false
set_option maxRecDepth 100000
namespace L2
open PySem PySem.Spec PyProof.Rows

theorem mem_of_lookup : ∀ {l : List (Str × NameKind)} {x : Str} {k : NameKind}, l.lookup x = some k → (x, k) ∈ l
  | [], _, _, h => by simp at h
  | (n, j) :: r, x, k, h => by
    rw [List.lookup_cons] at h
    by_cases e : x = n
    · subst e
      simp only [beq_self_eq_true] at h
      cases h
      exact List.mem_cons_self
    · have : (x == n) = false := by simpa using e
      rw [this] at h
      exact List.mem_cons_of_mem _ (mem_of_lookup h)
theorem relabel_free {env : Env} : ∀ {names : List (Str × NameKind)} {x : Str}, names.lookup x = some .free →
    (names.map fun (n, k) => if (k == NameKind.free && env.scope.kind == .function && env.kindOf n == some .cell) then (n, NameKind.cell) else (n, k)).lookup x = some .cell ∨
    (names.map fun (n, k) => if (k == NameKind.free && env.scope.kind == .function && env.kindOf n == some .cell) then (n, NameKind.cell) else (n, k)).lookup x = some .free
  | [], _, h => by simp at h
  | (n, k) :: r, x, h => by
    have ih := @relabel_free env r x
    show List.lookup x ((if (k == NameKind.free && env.scope.kind == .function && env.kindOf n == some .cell) = true then (n, NameKind.cell) else (n, k)) :: _) = _ ∨ List.lookup x ((if (k == NameKind.free && env.scope.kind == .function && env.kindOf n == some .cell) = true then (n, NameKind.cell) else (n, k)) :: _) = _
    cases hx : x == n with
    | true =>
      simp only [List.lookup_cons, hx] at h
      cases h
      by_cases hc : (NameKind.free == NameKind.free && env.scope.kind == .function && env.kindOf n == some .cell) = true
      · rw [if_pos hc]; simp only [List.lookup_cons, hx]; exact .inl trivial
      · rw [if_neg hc]; simp only [List.lookup_cons, hx]; exact .inr trivial
    | false =>
      simp only [List.lookup_cons, hx] at h
      by_cases hc : (k == NameKind.free && env.scope.kind == .function && env.kindOf n == some .cell) = true
      · rw [if_pos hc]; simp only [List.lookup_cons, hx]; exact ih h
      · rw [if_neg hc]; simp only [List.lookup_cons, hx]; exact ih h
theorem of_relabel {env : Env} {scope : Scope} (hcell : ∀ y ∈ scope.names, y.2 ≠ .cell) {x : Str} {k : NameKind} (hk : k = .cell ∨ k = .free) (h : (relabel scope env).names.lookup x = some k) : (x, NameKind.free) ∈ scope.names := by
  obtain ⟨⟨n, j⟩, hm, e⟩ := List.mem_map.mp (mem_of_lookup h)
  by_cases hc : (j == NameKind.free && env.scope.kind == .function && env.kindOf n == some .cell) = true
  · have e1 : (n, NameKind.cell) = (x, k) := by simpa only [hc, if_true] using e
    have e2 : j = .free := by
      simp only [Bool.and_eq_true] at hc
      exact beq_iff_eq.mp hc.1.1
    subst e2
    cases e1
    exact hm
  · have e1 : (n, j) = (x, k) := by
      have := e
      simp only [hc] at this
      exact this
    cases e1
    rcases hk with rfl | rfl
    · exact absurd rfl (hcell _ hm)
    · exact hm

section
variable {X : Cx}
def cxComp (X : Cx) (N' : List Str) (scope : Scope) (cl : List (Str × Addr)) (C : Addr) (fp : List Addr) (s : Shared) (H : Hp) : Cx :=
  { X with N := N', s₀ := s, H₀ := H, env := compEnvC scope cl C X.env, outer := X.stack, stack := X.stack, ex := fp, fn := fun _ => false, pn := [], xe := fun _ _ => False }

def PTs (X : Cx) (ifs : List Expr) (t : TT) : Prop :=
  ∀ (pins : List (Addr × Obj)) (s : Shared) (σ : St) (H : Hp) (Q : Bool → Hp → Prop), Inv X pins σ H s → t σ H Q →
    wpAny (model X.prog X.w) X.A (forIn ifs true fun c r => if r = true then do let ok ← isTrue c X.env (eval c X.env); pure (ForInStep.yield ok) else pure (ForInStep.yield r)) (TP X pins σ Q) X.xe s
def tYes : TT := fun _ H Q => Q true H
theorem pts_nil : PTs X [] tYes := fun _ _ _ H _ I h => wpAny_tests_nil ⟨H, I, h⟩
theorem pts_one {c : Expr} {t : TT} (h : PT X c t) : PTs X [c] t := fun pins s σ H Q I hq => wpAny_tests_one (h pins s σ H Q I hq)

def CompW (J : It) (D : Addr) (τ₀ : St) (g : TG) (tt : TT) (te : TE) (Q : VK) (H : Hp) : Prop :=
  ∃ W : Nat → Nat → St → Hp → Prop, (∃ m, W 0 m τ₀ (upd H D (.lst []))) ∧ ∀ i m τ H, W i m τ H →
    (J.stop i H ∧ Q (.ref D) H) ∨
    (J.go i H ∧ ∃ N : St → Hp → Prop, (∀ τ' H', N τ' H' → ∃ m', m' < m ∧ W (i + 1) m' τ' H') ∧
      ∀ x H', J.yld i H x H' → g x τ H' fun τ2 H2 => tt τ2 H2 fun b H3 => if b = true then te τ2 H3 fun v H4 => ∃ ys, H4 D = some (.lst ys) ∧ ys.length < sizeLine ∧ N τ2 (upd H4 D (.lst (ys ++ [v]))) else N τ2 H3)
def tComp (wi : TI) (caps : St → St) (g : TG) (tt : TT) (te : TE) : TE := fun σ H Q => wi σ H fun J H1 => ∀ D, H1 D = none → CompW J D (caps σ) g tt te Q H1

variable {tg iter elt : Expr} {ifs : List Expr} {scope : Scope} {pos : Pos} {N' : List Str} {caps : St → St} {wi : TI} {g : TG} {tt : TT} {te : TE}
theorem comp_block {pins : List (Addr × Obj)} {σ : St} {H2 : Hp} {s2 : Shared} {J : It} {fp : List Addr} {it : Addr} {tn : Nat → Heap → Prop} {cl : List (Str × Addr)} {Q : VK} {RR : Value → Addr → Result → Shared → Prop}
    (hc : X.calm = true) (hkind : scope.kind = .function) (hcell : ∀ y ∈ scope.names, y.2 ≠ .cell)
    (hcap : ∀ σ : St, σ.length = X.N.length → (caps σ).length = N'.length ∧ ∀ (i : Nat) (x : Str) (v : V), N'[i]? = some x → (caps σ)[i]? = some (some v) → scope.names.lookup x = some .free ∧ ∃ j : Nat, X.N[j]? = some x ∧ σ[j]? = some (some v))
    (hfree : ∀ n, (n, NameKind.free) ∈ scope.names → X.env.kindOf n = some .cell ∨ X.env.kindOf n = some .free)
    (hcl1 : ∀ n c, cl.lookup n = some c → X.env.cells.lookup n = some c) (hcl2 : ∀ n, (n, NameKind.free) ∈ scope.names → ∃ c, cl.lookup n = some c)
    (hg : ∀ C s H, PG (cxComp X N' scope cl C fp s H) tg g) (hts : ∀ C s H, PTs (cxComp X N' scope cl C fp s H) ifs tt) (hel : ∀ C s H, PE (cxComp X N' scope cl C fp s H) elt te)
    (I2 : Inv X pins σ H2 s2) (T : Turn X.prog X.w X.K tg J fp it tn) (st2 : tn 0 s2.heap) (f2 : ∀ b ∈ fp, FpOk X pins H2 b)
    (k2 : ∀ D, H2 D = none → CompW J D (caps σ) g tt te Q H2)
    (hRR : ∀ D C s' H' m, Inv X pins σ H' s' → s'.heap.Ns C m → s2.heap.objs.size ≤ C → H' C = none → Q (.ref D) H' → RR (.ref D) C (.ok .next) s') :
    wpAny (model X.prog X.w) X.A (newList []) (fun acc s₃ => wpAny (model X.prog X.w) X.A (newFunctionEnv scope X.env.globals cl [] X.env.qual none .none (some X.env)) (fun cenv s₄ =>
      codeAny (model X.prog X.w) X.A (.compStart (.ListComp elt [⟨tg, iter, ifs, 0⟩] scope pos) 0 (.ref it) acc { cenv with scope := relabel scope X.env }) (RR acc cenv.locals) s₄) X.xe s₃) X.xe s2 := by
  refine wpAny_newObj_type (wpAny_newFunctionEnv hcell (by intro y hy; simp at hy) (fun h₁ hns₁ hsb₁ => ?_) hkind)
  dsimp only at hns₁ hsb₁ ⊢
  generalize hH2 : s2.heap.push { cls := .type "list", dict := none, data := .seq ([] : List Value).toArray } = HH at hns₁ hsb₁ ⊢
  have hC : HH.objs.size = s2.heap.objs.size + 1 := by rw [← hH2, Heap.size_push]
  have hDC : s2.heap.objs.size ≠ HH.objs.size := by rw [hC]; exact Nat.ne_of_lt (Nat.lt_succ_self _)
  have hCle : s2.heap.objs.size ≤ HH.objs.size := by rw [hC]; exact Nat.le_succ _
  have below : ∀ b, b < s2.heap.objs.size → b ≠ HH.objs.size ∧ b ≠ s2.heap.objs.size := fun b hb => ⟨by rw [hC]; exact Nat.ne_of_lt (Nat.lt_succ_of_lt hb), Nat.ne_of_lt hb⟩
  have old : ∀ b o, s2.heap.get? b = some o → h₁.get? b = some o := fun b o e => hsb₁.extBut b o (below b (Heap.lt_size e)).1 (Heap.get?_push_of_some _ (hH2 ▸ Heap.get?_push_of_some _ e))
  have hacc : h₁.get? s2.heap.objs.size = some { cls := .type "list", data := .seq ([] : List Value).toArray 0 } := hsb₁.extBut _ _ hDC (Heap.get?_push_of_some _ (hH2 ▸ Heap.get?_push_size _ rfl))
  have hDn : H2 s2.heap.objs.size = none := I2.hok.fresh (Nat.le_refl _)
  have hCn : H2 HH.objs.size = none := I2.hok.fresh hCle
  have fpC : FpOk X pins H2 HH.objs.size := I2.fpOk hCle hCn
  have fplt : ∀ b ∈ fp, b < s2.heap.objs.size := fun b hb => by
    obtain ⟨o, e, _⟩ := T.obj 0 _ st2 b hb
    exact Heap.lt_size e
  have nstk : ∀ b ∈ fp, b ∉ frs X.stack := fun b hb z => by
    obtain ⟨_, f1, f2', _⟩ := f2 b hb
    rcases List.mem_cons.mp (I2.stkSub b z) with e | e
    · exact f1 e
    · exact f2' e
  obtain ⟨W, ⟨m0, w0⟩, turn⟩ := k2 s2.heap.objs.size hDn
  have capok := hcap σ I2.len
  have ok : (cxComp X N' scope cl HH.objs.size fp s2 H2).Ok :=
    { mod := I2.ok.mod
      kind := hkind
      glob := I2.ok.glob
      blt := I2.ok.blt
      above := hCle
      inj := fun x y c a b => I2.ok.inj x y c (hcl1 x c a) (hcl1 y c b)
      has := fun x h => hcl2 x (by
        rcases h with h | h
        · exact of_relabel hcell (.inl rfl) h
        · exact of_relabel hcell (.inr rfl) h)
      cab := fun x c h => (nomatch h)
      hd := I2.ok.hd
      frames := I2.ok.frames
      stk := .inl rfl
      exf := fun b hb => ⟨(below b (fplt b hb)).1, fun x c e => (f2 b hb).2.2.2.2.1 x c (hcl1 x c e)⟩
      bs := I2.bs
      bsz := Nat.le_trans I2.ok.bsz I2.sz
      noex := fun b o e hb => by
        rcases (f2 b hb).2.2.2.1 with z | z
        · exact I2.ok.noex b o e z
        · exact absurd (Nat.lt_of_lt_of_le (Heap.lt_size (I2.ok.bs b o e).1) z) (Nat.lt_irrefl _)
      exfs := nstk
      funs := I2.stack
      frf := I2.stkFree }
  have I4 : Inv (cxComp X N' scope cl HH.objs.size fp s2 H2) [] (caps σ) (upd H2 s2.heap.objs.size (.lst [])) { s2 with heap := h₁, toks := s2.toks + ([] : List (Str × Value)).length } := by
    refine ⟨ok, rfl, I2.bare, Un.laid old (Nat.le_refl _) hDn, ⟨_, hns₁, fun i x v e1 e2 e3 => ?_⟩, fun x c e => ?_, ?_, fun x c e => ?_, (fun p hp => (nomatch hp)), ?_, capok.1⟩
    · obtain ⟨lf, j, e4, e5⟩ := capok.2 i x v e1 e2
      have kx := hfree x (mem_of_lookup lf)
      have vis : Vis X.env.scope x := by rcases kx with k | k; exact .inr (.inl k); exact .inr (.inr k)
      obtain ⟨m, hn, hl⟩ := I2.loc
      obtain ⟨u, r, l⟩ := hl j x v e4 e5 vis
      refine ⟨u, r, .inr ⟨relabel_free lf, ?_⟩⟩
      obtain ⟨c, hcx⟩ := hcl2 x (mem_of_lookup lf)
      have hcx' := hcl1 x c hcx
      refine ⟨c, hcx, ?_⟩
      rcases l with ⟨k, _⟩ | ⟨_, c', ec, ⟨o, ho, hd⟩⟩
      · rcases kx with k' | k' <;> (rw [k] at k'; cases k')
      · rw [hcx'] at ec; cases ec
        exact ⟨o, old _ o ho, hd⟩
    · obtain ⟨v, o, ho, hd⟩ := I2.cell x c (hcl1 x c e)
      exact ⟨v, o, old _ o ho, hd⟩
    · show upd H2 s2.heap.objs.size (.lst []) HH.objs.size = none
      rw [upd_ne (Ne.symm hDC)]; exact hCn
    · obtain ⟨v, o, ho, hd⟩ := I2.cell x c (hcl1 x c e)
      rw [upd_ne (Nat.ne_of_lt (Heap.lt_size ho))]
      exact I2.freeC x c (hcl1 x c e)
    · exact I2.hok.laid old (Nat.le_refl _) ⟨Nat.zero_le _, [], 0, .nil, hacc⟩
  have st4 : tn 0 h₁ := T.keep _ _ _ st2 fun b _ o e => old b o e
  have stat : ∀ {H' : Hp}, (∀ b ∈ fp, H' b = none) → ∀ b ∈ fp, FpOk (cxComp X N' scope cl HH.objs.size fp s2 H2) [] H' b := fun hn b hb =>
    ⟨hn b hb, (below b (fplt b hb)).1, nstk b hb, .inl hb, fun x c e => (f2 b hb).2.2.2.2.1 x c (hcl1 x c e), (fun p hp => (nomatch hp))⟩
  have loop : ∀ s₃ : Shared, s₃ = { s2 with heap := h₁, toks := s2.toks + ([] : List (Str × Value)).length } →
      codeAny (model X.prog X.w) X.A (.compLoop (.ListComp elt [⟨tg, iter, ifs, 0⟩] scope pos) 0 (.ref it) (.ref s2.heap.objs.size) (compEnvC scope cl HH.objs.size X.env)) (RR (.ref s2.heap.objs.size) HH.objs.size) s₃ := by
    rintro s₃ rfl
    refine codeAny_compLoop_any (fun n s' => ∃ i τ H', Inv (cxComp X N' scope cl HH.objs.size fp s2 H2) [] τ H' s' ∧ tn i s'.heap ∧ (∀ b ∈ fp, H' b = none) ∧ W i n τ H') ?_ m0
      ⟨0, caps σ, _, I4, st4, fun b hb => by rw [upd_ne (below b (fplt b hb)).2]; exact (f2 b hb).1, w0⟩
    rintro n s5 ⟨i, τ, H5, I5, st5, fr5, w5⟩
    rcases turn i n τ H5 w5 with ⟨stop, q⟩ | ⟨go, N, hN, step⟩
    · refine thn (T.done (cxComp X N' scope cl HH.objs.size fp s2 H2) rfl rfl rfl hc i [] s5 τ H5 (fun _ _ => False) I5 (stat fr5) st5 stop) fun r s6 ⟨hr, I6⟩ => ?_
      subst hr
      obtain ⟨m, hn, _⟩ := I6.loc
      refine hRR _ _ s6 H5 m (I2.call' (ch := fp) I6.os I6.base I6.hok I6.bare fun b hb => ⟨(f2 b hb).2.2.2.1, (f2 b hb).2.1, (f2 b hb).2.2.2.2.1, (f2 b hb).2.2.2.2.2⟩) hn hCle I6.free q
    · refine thn (T.item (cxComp X N' scope cl HH.objs.size fp s2 H2) rfl rfl rfl hc i [] s5 τ H5 (fun _ _ => False) I5 (stat fr5) st5 go) fun r s6 ⟨u, hr, h6⟩ => ?_
      subst hr
      refine thn h6 fun _ s7 ⟨x, H7, I7, r7, y7, st7, fr7⟩ => ?_
      have I7' := I7.pinned (stat fr7) (T.obj _ _ st7)
      have again : ∀ {τ' : St} {H' : Hp} {s' : Shared}, Inv (cxComp X N' scope cl HH.objs.size fp s2 H2) ([] ++ pinsAt fp s7.heap) τ' H' s' → N τ' H' →
          ∃ m, m < n ∧ ∃ i τ H', Inv (cxComp X N' scope cl HH.objs.size fp s2 H2) [] τ H' s' ∧ tn i s'.heap ∧ (∀ b ∈ fp, H' b = none) ∧ W i m τ H' := fun {τ' H' s'} I' n' => by
        obtain ⟨m', hm, w'⟩ := hN τ' H' n'
        refine ⟨m', hm, i + 1, τ', H', I'.unpinned, T.keep _ _ _ st7 fun b hb o e => (I'.pin (b, o) (List.mem_append_right _ (List.mem_append_right _ (mem_pinsAt hb e)))).1, fun b hb => ?_, w'⟩
        obtain ⟨o, e, d⟩ := T.obj _ _ st7 b hb
        exact (I'.pin (b, o) (List.mem_append_right _ (List.mem_append_right _ (mem_pinsAt hb e)))).2.1
      refine thn (hg HH.objs.size s2 H2 _ s7 τ H7 x u _ I7' r7 (step x H7 y7)) fun _ s8 ⟨τ8, H8, I8, q8⟩ => ?_
      refine thn (hts HH.objs.size s2 H2 _ s8 τ8 H8 _ I8 q8) fun okk s9 ⟨H9, I9, q9⟩ => ?_
      cases okk with
      | false =>
        rw [if_neg Bool.false_ne_true] at q9 ⊢
        exact again I9 q9
      | true =>
        rw [if_pos rfl] at q9 ⊢
        refine thn (hel HH.objs.size s2 H2 _ s9 τ8 H9 _ I9 q9) fun y s10 ⟨v, H10, I10, r10, ys, hD, hz, n10⟩ => ?_
        refine thn (mt_append (X := cxComp X N' scope cl HH.objs.size fp s2 H2) _ s10 τ8 H10 (.ref s2.heap.objs.size) [v] (.ref s2.heap.objs.size) [y] (fun _ H' => N τ8 H') I10 rfl (.cons r10 .nil) ⟨_, ys, v, rfl, rfl, hD, hz, n10⟩) fun _ s11 ⟨_, H11, I11, _, n11⟩ => ?_
        exact again I11 n11
  exact codeAny_compStart_list (loop _ rfl) (T.self X.A 0 _ _ _ st4 (loop _ rfl))

theorem pe_comp (hc : X.calm = true) (hkind : scope.kind = .function) (hcell : ∀ y ∈ scope.names, y.2 ≠ .cell) (hnames : ∀ y ∈ scope.names, y.2 = .local → scope.names.lookup y.1 = some .local)
    (hfree : ∀ n, (n, NameKind.free) ∈ scope.names → X.env.kindOf n = some .cell ∨ X.env.kindOf n = some .free)
    (hcap : ∀ σ : St, σ.length = X.N.length → (caps σ).length = N'.length ∧ ∀ (i : Nat) (x : Str) (v : V), N'[i]? = some x → (caps σ)[i]? = some (some v) → scope.names.lookup x = some .free ∧ ∃ j : Nat, X.N[j]? = some x ∧ σ[j]? = some (some v))
    (hi : PI X tg iter wi) (hg : ∀ cl C fp s H, PG (cxComp X N' scope cl C fp s H) tg g) (hts : ∀ cl C fp s H, PTs (cxComp X N' scope cl C fp s H) ifs tt) (hel : ∀ cl C fp s H, PE (cxComp X N' scope cl C fp s H) elt te)
    (hs : ∀ x, foldedSetIterable iter X.env x = pure x := by intro _; rfl) : PE X (.ListComp elt [⟨tg, iter, ifs, 0⟩] scope pos) (tComp wi caps g tt te) := by
  intro pins s σ H Q I h
  rw [eval_ListComp]
  obtain ⟨cl, hclos, hcl1, hcl2⟩ := closureFor_cells (env := X.env) (scope := scope) (fun n hn => I.ok.has n (hfree n hn))
  refine wpAny_comprehension_free (use := none) rfl hs hclos hkind hnames (thn (hi pins s σ H _ I h) fun v s1 h1 => thn h1 fun itv s2 h2 => ?_)
  obtain ⟨it, fp, tn, J, H2, rfl, I2, T, st2, f2, k2⟩ := h2
  refine comp_block (RR := fun acc C => compPost (model X.prog X.w) X.A X.xe none (EP X pins σ Q) acc C) hc hkind hcell hcap hfree hcl1 hcl2 (fun C s H => hg cl C fp s H) (fun C s H => hts cl C fp s H) (fun C s H => hel cl C fp s H) I2 T st2 f2 k2 ?_
  intro D C s' H' m I' hn hle hC q
  obtain ⟨f0, f1, f2', f3, f4, f5⟩ := I2.fpOk hle hC
  exact ⟨m, hn, fun h' sb => ⟨.ref D, H', I'.turned (t' := s'.toks) (fun b o hb e => (sb.2 b hb).trans e) f0 f1 f3 f4 f5, rfl, q⟩⟩

theorem ps_comp {y : Str} {py spos : Pos} {i : Nat} (hsw : swapsWith (.ListComp elt [⟨tg, iter, ifs, 0⟩] scope pos) (some (.Name y py)) spos.line X.env = pure true)
    (hN : X.N.Nodup) (hiN : X.N[i]? = some y) (hy : Loc X.env.scope y)
    (hc : X.calm = true) (hkind : scope.kind = .function) (hcell : ∀ y ∈ scope.names, y.2 ≠ .cell) (hnames : ∀ y ∈ scope.names, y.2 = .local → scope.names.lookup y.1 = some .local)
    (hfree : ∀ n, (n, NameKind.free) ∈ scope.names → X.env.kindOf n = some .cell ∨ X.env.kindOf n = some .free)
    (hcap : ∀ σ : St, σ.length = X.N.length → (caps σ).length = N'.length ∧ ∀ (i : Nat) (x : Str) (v : V), N'[i]? = some x → (caps σ)[i]? = some (some v) → scope.names.lookup x = some .free ∧ ∃ j : Nat, X.N[j]? = some x ∧ σ[j]? = some (some v))
    (hi : PI X tg iter wi) (hg : ∀ cl C fp s H, PG (cxComp X N' scope cl C fp s H) tg g) (hts : ∀ cl C fp s H, PTs (cxComp X N' scope cl C fp s H) ifs tt) (hel : ∀ cl C fp s H, PE (cxComp X N' scope cl C fp s H) elt te)
    (hs : ∀ x, foldedSetIterable iter X.env x = pure x := by intro _; rfl) (hf : X.fn y = true ∨ X.env.scope.names.lookup y = some .local := by first | exact .inl rfl | exact .inr rfl | assumption) :
    PS X (.Assign [.Name y py] (.ListComp elt [⟨tg, iter, ifs, 0⟩] scope pos) spos) (tAsg (tComp wi caps g tt te) (gName i)) := by
  intro pins s σ H D I h
  rw [exec_Assign_Name_used _ _ _ _ hsw]
  refine wpAny_bind (wpAny_standAt (wpAny_bind ?_))
  obtain ⟨cl, hclos, hcl1, hcl2⟩ := closureFor_cells (env := X.env) (scope := scope) (fun n hn => I.ok.has n (hfree n hn))
  show wpAny _ X.A (do let _ ← comprehension (.ListComp elt [⟨tg, iter, ifs, 0⟩] scope pos) scope X.env _ (newList []) false (eval iter X.env) (some (assign (.Name y py) X.env))) _ _ s
  refine wpAny_bind (wpAny_mono (wpAny_comprehension_free (use := some (assign (.Name y py) X.env)) (Q := fun _ s' => SP X pins D .next s') rfl hs hclos hkind hnames
    (thn (hi pins s σ H _ I h) fun v s1 h1 => thn h1 fun itv s2 h2 => ?_)) (fun _ s' hq => wpAny_pure (wpAny_pure hq)) fun _ _ e => e)
  obtain ⟨it, fp, tn, J, H2, rfl, I2, T, st2, f2, k2⟩ := h2
  refine comp_block (RR := fun acc C => compPost (model X.prog X.w) X.A X.xe (some (assign (.Name y py) X.env)) (fun _ s' => SP X pins D .next s') acc C) hc hkind hcell hcap hfree hcl1 hcl2 (fun C s H => hg cl C fp s H) (fun C s H => hts cl C fp s H) (fun C s H => hel cl C fp s H) I2 T st2 f2 k2 ?_
  intro E C s' H' m I' hn hle hC q
  obtain ⟨f0, f1, f2', f3, f4, f5⟩ := I2.fpOk hle hC
  show wpAny _ X.A (assign (.Name y py) X.env (.ref E)) _ _ _
  refine wpAny_assign_Name (store_ok2 I' hN hiN hy (v := .ref E) rfl (fun s'' I'' ⟨a, sb, ha⟩ => ?_) hf)
  have hCa : C ≠ a := by
    rcases ha with rfl | ha
    · exact f1
    · exact Ne.symm (f4 y a ha)
  exact ⟨m, hn.sameBut sb hCa, fun h' sb' => ⟨_, H', I''.turned (t' := s''.toks) (fun b o hb e => (sb'.2 b hb).trans e) f0 f1 f3 f4 f5, q⟩⟩
end
end L2

set_option Elab.async false
set_option linter.all false
set_option maxRecDepth 100000
namespace FL
open PySem L2
inductive D where
  | non | bl (b : Bool) | int (i : Int) | str (x : Str) | tup (l : List D) | lst (l : List D)
mutual
def D.beq : D → D → Bool
  | .non, .non => true
  | .bl a, .bl b => a == b
  | .int a, .int b => a == b
  | .str a, .str b => decide (a = b)
  | .tup a, .tup b => D.beqs a b
  | .lst a, .lst b => D.beqs a b
  | _, _ => false
def D.beqs : List D → List D → Bool
  | [], [] => true
  | a :: r, b :: t => D.beq a b && D.beqs r t
  | _, _ => false
end
mutual
theorem D.beq_iff : ∀ a b : D, D.beq a b = true ↔ a = b
  | .non, b => by cases b <;> simp [D.beq]
  | .bl a, b => by cases b <;> simp [D.beq]
  | .int a, b => by cases b <;> simp [D.beq]
  | .str a, b => by cases b <;> simp [D.beq]
  | .tup a, b => by cases b <;> simp [D.beq, D.beqs_iff a]
  | .lst a, b => by cases b <;> simp [D.beq, D.beqs_iff a]
theorem D.beqs_iff : ∀ a b : List D, D.beqs a b = true ↔ a = b
  | [], b => by cases b <;> simp [D.beqs]
  | a :: r, b => by cases b <;> simp [D.beqs, D.beq_iff a, D.beqs_iff r]
end
instance : DecidableEq D := fun a b => decidable_of_iff _ (D.beq_iff a b)
mutual
inductive Rep (H : Hp) : V → D → Prop
  | non : Rep H .non .non
  | bl (b : Bool) : Rep H (.bl b) (.bl b)
  | int (i : Int) : Rep H (.int i) (.int i)
  | str (x : Str) : Rep H (.str x) (.str x)
  | tup {a : Addr} {vs : List V} {l : List D} : H a = some (.tup vs) → Reps H vs l → Rep H (.ref a) (.tup l)
  | lst {a : Addr} {vs : List V} {l : List D} : H a = some (.lst vs) → Reps H vs l → Rep H (.ref a) (.lst l)
inductive Reps (H : Hp) : List V → List D → Prop
  | nil : Reps H [] []
  | cons {v : V} {d : D} {vs : List V} {ds : List D} : Rep H v d → Reps H vs ds → Reps H (v :: vs) (d :: ds)
end
mutual
theorem Rep.mono {H H' : Hp} (e : Same H H') : ∀ {v : V} {d : D}, Rep H v d → Rep H' v d
  | _, _, .non => .non
  | _, _, .bl b => .bl b
  | _, _, .int b => .int b
  | _, _, .str b => .str b
  | _, _, .tup h r => .tup (e _ _ h) (Reps.mono e r)
  | _, _, .lst h r => .lst (e _ _ h) (Reps.mono e r)
theorem Reps.mono {H H' : Hp} (e : Same H H') : ∀ {v : List V} {d : List D}, Reps H v d → Reps H' v d
  | _, _, .nil => .nil
  | _, _, .cons h r => .cons (Rep.mono e h) (Reps.mono e r)
end
theorem Reps.length {H : Hp} : ∀ {vs : List V} {ds : List D}, Reps H vs ds → vs.length = ds.length
  | _, _, .nil => rfl
  | _, _, .cons _ r => congrArg (· + 1) r.length
theorem Reps.get {H : Hp} : ∀ {vs : List V} {ds : List D} {i : Nat} {d : D}, Reps H vs ds → ds[i]? = some d → ∃ v, vs[i]? = some v ∧ Rep H v d
  | _, _, _, _, .nil, e => by simp at e
  | _, _, 0, _, .cons h _, e => by simp at e; subst e; exact ⟨_, rfl, h⟩
  | _, _, i + 1, d, .cons _ r, e => by
    obtain ⟨v, h1, h2⟩ := Reps.get (i := i) (d := d) r (by simpa using e)
    exact ⟨v, by simpa using h1, h2⟩
theorem Reps.getV {H : Hp} : ∀ {vs : List V} {ds : List D} {i : Nat} {v : V}, Reps H vs ds → vs[i]? = some v → ∃ d, ds[i]? = some d ∧ Rep H v d
  | _, _, _, _, .nil, e => by simp at e
  | _, _, 0, _, .cons h _, e => by simp at e; subst e; exact ⟨_, rfl, h⟩
  | _, _, i + 1, d, .cons _ r, e => by
    obtain ⟨v, h1, h2⟩ := Reps.getV (i := i) (v := d) r (by simpa using e)
    exact ⟨v, by simpa using h1, h2⟩
theorem Reps.append {H : Hp} : ∀ {vs ws : List V} {ds es : List D}, Reps H vs ds → Reps H ws es → Reps H (vs ++ ws) (ds ++ es)
  | _, _, _, _, .nil, s => s
  | _, _, _, _, .cons h r, s => .cons h (r.append s)
theorem Reps.snoc {H : Hp} {vs : List V} {ds : List D} {v : V} {d : D} (r : Reps H vs ds) (h : Rep H v d) : Reps H (vs ++ [v]) (ds ++ [d]) := r.append (.cons h .nil)
theorem Reps.take {H : Hp} : ∀ {vs : List V} {ds : List D} (n : Nat), Reps H vs ds → Reps H (vs.take n) (ds.take n)
  | _, _, 0, _ => .nil
  | _, _, _ + 1, .nil => .nil
  | _, _, n + 1, .cons h r => .cons h (r.take n)
theorem Reps.drop {H : Hp} : ∀ {vs : List V} {ds : List D} (n : Nat), Reps H vs ds → Reps H (vs.drop n) (ds.drop n)
  | _, _, 0, r => r
  | _, _, _ + 1, .nil => .nil
  | _, _, n + 1, .cons _ r => r.drop n
theorem Reps.set {H : Hp} {v : V} {d : D} (h : Rep H v d) : ∀ {vs : List V} {ds : List D} (i : Nat), Reps H vs ds → Reps H (vs.set i v) (ds.set i d)
  | _, _, _, .nil => .nil
  | _, _, 0, .cons _ r => .cons h r
  | _, _, i + 1, .cons q r => .cons q (r.set h i)
theorem Reps.ints {H : Hp} : ∀ ns : List Int, Reps H (ns.map V.int) (ns.map D.int)
  | [] => .nil
  | n :: r => .cons (.int n) (Reps.ints r)
theorem Rep.of_int {H : Hp} {v : V} {i : Int} (h : Rep H v (.int i)) : v = .int i := by cases h; rfl
theorem Rep.of_str {H : Hp} {v : V} {x : Str} (h : Rep H v (.str x)) : v = .str x := by cases h; rfl
theorem Rep.of_bl {H : Hp} {v : V} {b : Bool} (h : Rep H v (.bl b)) : v = .bl b := by cases h; rfl
theorem Rep.of_non {H : Hp} {v : V} (h : Rep H v .non) : v = .non := by cases h; rfl
theorem Rep.of_tup {H : Hp} {v : V} {l : List D} (h : Rep H v (.tup l)) : ∃ a vs, v = .ref a ∧ H a = some (.tup vs) ∧ Reps H vs l := by cases h with | tup h r => exact ⟨_, _, rfl, h, r⟩
theorem Rep.of_lst {H : Hp} {v : V} {l : List D} (h : Rep H v (.lst l)) : ∃ a vs, v = .ref a ∧ H a = some (.lst vs) ∧ Reps H vs l := by cases h with | lst h r => exact ⟨_, _, rfl, h, r⟩
mutual
theorem Rep.inj {H : Hp} : ∀ {v : V} {d e : D}, Rep H v d → Rep H v e → d = e
  | _, _, _, .non, h => by cases h; rfl
  | _, _, _, .bl _, h => by cases h; rfl
  | _, _, _, .int _, h => by cases h; rfl
  | _, _, _, .str _, h => by cases h; rfl
  | _, _, _, .tup h r, q => by
    cases q with
    | tup h' r' => rw [h] at h'; cases h'; rw [Reps.inj r r']
    | lst h' r' => rw [h] at h'; cases h'
  | _, _, _, .lst h r, q => by
    cases q with
    | lst h' r' => rw [h] at h'; cases h'; rw [Reps.inj r r']
    | tup h' r' => rw [h] at h'; cases h'
theorem Reps.inj {H : Hp} : ∀ {v : List V} {d e : List D}, Reps H v d → Reps H v e → d = e
  | _, _, _, .nil, h => by cases h; rfl
  | _, _, _, .cons h r, q => by cases q with | cons h' r' => rw [Rep.inj h h', Reps.inj r r']
end

def but (H : Hp) (M : List Addr) : Hp := fun b => if b ∈ M then none else H b
theorem but_nil (H : Hp) : but H [] = H := by funext b; simp [but]
theorem but_out {H : Hp} {M : List Addr} {b : Addr} (h : b ∉ M) : but H M b = H b := by simp [but, h]
theorem but_some {H : Hp} {M : List Addr} {b : Addr} {o : HO} (h : but H M b = some o) : b ∉ M ∧ H b = some o := by
  unfold but at h
  split at h
  · cases h
  · exact ⟨‹_›, h⟩
theorem but_sub (H : Hp) (M : List Addr) : Same (but H M) H := fun b o h => (but_some h).2
theorem _root_.L2.Same.but {H H' : Hp} (e : Same H H') (M : List Addr) : Same (but H M) (but H' M) := fun b o h => by
  obtain ⟨h1, h2⟩ := but_some h
  rw [but_out h1]; exact e b o h2
theorem but_upd {H : Hp} {M : List Addr} {a : Addr} {o : HO} (h : a ∈ M) : but (upd H a o) M = but H M := by
  funext b
  unfold FL.but
  by_cases hb : b ∈ M
  · rw [if_pos hb, if_pos hb]
  · rw [if_neg hb, if_neg hb, upd_ne (fun e : b = a => hb (by rw [e]; exact h))]
theorem but_upd_new {H : Hp} {M : List Addr} {a : Addr} {o : HO} (h : a ∉ M) : but (upd H a o) M = upd (but H M) a o := by
  funext b
  by_cases hb : b ∈ M
  · rw [upd_ne (fun e : b = a => h (by rw [← e]; exact hb))]
    simp [FL.but, hb]
  · rw [but_out hb]
    by_cases e : b = a
    · subst e; rw [upd_same, upd_same]
    · rw [upd_ne e, upd_ne e, but_out hb]
theorem but_mono {H : Hp} {M M' : List Addr} (h : ∀ a ∈ M, a ∈ M') : Same (but H M') (but H M) := fun b o e => by
  obtain ⟨h1, h2⟩ := but_some e
  rw [but_out fun z => h1 (h b z)]; exact h2
theorem same_new {H : Hp} {p : Addr} (h : H p = none) (o : HO) : Same H (upd H p o) := fun b u q => by rw [upd_ne (ne_of_none q h)]; exact q
def Live (M : List Addr) (H : Hp) : Prop := ∀ a ∈ M, H a ≠ none
theorem Live.nil {H : Hp} : Live [] H := fun _ h => nomatch h
theorem Live.same {M : List Addr} {H H' : Hp} (l : Live M H) (e : Same H H') : Live M H' := fun a ha z => by
  cases q : H a with
  | none => exact l a ha q
  | some o => rw [e a o q] at z; cases z
theorem Live.cons {M : List Addr} {H : Hp} {a : Addr} {o : HO} (l : Live M H) (h : H a = some o) : Live (a :: M) H := fun b hb => by
  rcases List.mem_cons.mp hb with e | e
  · rw [e, h]; exact fun z => nomatch z
  · exact l b e
theorem Live.fresh {M : List Addr} {H : Hp} {p : Addr} (l : Live M H) (h : H p = none) : p ∉ M := fun z => l p z h
theorem Live.upd {M : List Addr} {H : Hp} {a : Addr} {o : HO} (l : Live M H) : Live M (L2.upd H a o) := fun b hb z => by
  by_cases e : b = a
  · subst e; rw [upd_same] at z; cases z
  · rw [upd_ne e] at z; exact l b hb z
theorem rep_new_tup {H : Hp} {M : List Addr} {p : Addr} {vs : List V} {ds : List D} (l : Live M H) (h : H p = none) (r : Reps (but H M) vs ds) : Rep (but (upd H p (.tup vs)) M) (.ref p) (.tup ds) := by
  rw [but_upd_new (l.fresh h)]
  exact .tup upd_same (r.mono (same_new (by rw [but_out (l.fresh h)]; exact h) _))
theorem rep_new_lst {H : Hp} {M : List Addr} {p : Addr} {vs : List V} {ds : List D} (l : Live M H) (h : H p = none) (r : Reps (but H M) vs ds) : Rep (but (upd H p (.lst vs)) M) (.ref p) (.lst ds) := by
  rw [but_upd_new (l.fresh h)]
  exact .lst upd_same (r.mono (same_new (by rw [but_out (l.fresh h)]; exact h) _))
theorem rep_show {H : Hp} {M : List Addr} {a : Addr} {vs : List V} {ds : List D} (hM : a ∉ M) (h : H a = some (.lst vs)) (r : Reps (but H (a :: M)) vs ds) : Rep (but H M) (.ref a) (.lst ds) :=
  .lst (by rw [but_out hM]; exact h) (r.mono (but_mono fun b hb => List.mem_cons_of_mem _ hb))
theorem rep_hide {H : Hp} {M : List Addr} {a : Addr} {o : HO} {v : V} {d : D} (h : H a = none) (r : Rep (but H M) v d) : Rep (but (upd H a o) (a :: M)) v d := by
  rw [but_upd (List.mem_cons_self)]
  refine r.mono fun b u e => ?_
  obtain ⟨h1, h2⟩ := but_some e
  rw [but_out]
  · exact h2
  · intro z
    rcases List.mem_cons.mp z with rfl | z
    · rw [h] at h2; cases h2
    · exact h1 z
theorem reps_hide {H : Hp} {M : List Addr} {a : Addr} {o : HO} (h : H a = none) : ∀ {vs : List V} {ds : List D}, Reps (but H M) vs ds → Reps (but (upd H a o) (a :: M)) vs ds
  | _, _, .nil => .nil
  | _, _, .cons q r => .cons (rep_hide h q) (reps_hide h r)

def EvM (te : TE) (G : Hp) (σ : St) (d : D) : Prop :=
  ∀ M H, Same G (but H M) → Live M H → ∀ Q : VK, (∀ v H', Same H H' → Rep (but H' M) v d → Q v H') → te σ H Q
def EvA (ta : TA) (G : Hp) (σ : St) (ds : List D) : Prop :=
  ∀ M H, Same G (but H M) → Live M H → ∀ Q : List V → Hp → Prop, (∀ vs H', Same H H' → Reps (but H' M) vs ds → Q vs H') → ta σ H Q
def EvT (tt : TT) (G : Hp) (σ : St) (b : Bool) : Prop :=
  ∀ M H, Same G (but H M) → Live M H → ∀ Q : Bool → Hp → Prop, (∀ H', Same H H' → Q b H') → tt σ H Q
theorem EvM.mono {te : TE} {G G' : Hp} {σ : St} {d : D} (h : EvM te G σ d) (e : Same G G') : EvM te G' σ d := fun M H s l => h M H (e.trans s) l
theorem EvT.mono {te : TT} {G G' : Hp} {σ : St} {d : Bool} (h : EvT te G σ d) (e : Same G G') : EvT te G' σ d := fun M H s l => h M H (e.trans s) l
theorem EvM.at {te : TE} {M : List Addr} {H : Hp} {σ : St} {d : D} {Q : VK} (h : EvM te (but H M) σ d) (l : Live M H) (k : ∀ v H', Same H H' → Rep (but H' M) v d → Q v H') : te σ H Q := h M H (Same.refl _) l Q k
theorem EvM.eq {te : TE} {G : Hp} {σ : St} {d d' : D} (h : EvM te G σ d) (e : d = d') : EvM te G σ d' := e ▸ h
theorem EvT.eq {te : TT} {G : Hp} {σ : St} {d d' : Bool} (h : EvT te G σ d) (e : d = d') : EvT te G σ d' := e ▸ h
section
variable {G : Hp} {σ : St} {ta tb tc : TE} {tt tu : TT} {t : TA} {d d1 d2 : D} {ds : List D} {K : PySem.W.Frag}
theorem ev_var {i : Nat} {v : V} (e : σ[i]? = some (some v)) (r : Rep G v d) : EvM (tVar i) G σ d := fun M H s l Q k => ⟨v, e, k v H (Same.refl _) (r.mono s)⟩
theorem ev_C {v : V} (r : ∀ H, Rep H v d) : EvM (tC v) G σ d := fun M H s l Q k => k _ H (Same.refl _) (r _)
theorem ev_int {i : Int} : EvM (tC (.int i)) G σ (.int i) := ev_C fun _ => .int i
theorem ev_str {x : Str} : EvM (tC (.str x)) G σ (.str x) := ev_C fun _ => .str x
theorem ev_bl {b : Bool} : EvM (tC (.bl b)) G σ (.bl b) := ev_C fun _ => .bl b
theorem ev_op2 {r : R2} (hr : ∀ M H x y, Live M H → Rep (but H M) x d1 → Rep (but H M) y d2 → ∀ Q : VK, (∀ v H', Same H H' → Rep (but H' M) v d → Q v H') → r x y H Q) (ha : EvM ta G σ d1) (hb : EvM tb G σ d2) : EvM (tOp r ta tb) G σ d :=
  fun M H s l Q k => ha M H s l _ fun x H1 s1 rx => hb M H1 (s.trans (s1.but M)) (l.same s1) _ fun y H2 s2 ry =>
    hr M H2 x y (l.same (s1.trans s2)) (rx.mono (s2.but M)) ry Q fun v H3 s3 r3 => k v H3 (s1.trans (s2.trans s3)) r3
theorem ev_i0 {g : Int → Int → V} {i j : Int} (hg : ∀ H', Rep H' (g i j) d) (ha : EvM ta G σ (.int i)) (hb : EvM tb G σ (.int j)) : EvM (tOp (rI0 g) ta tb) G σ d :=
  ev_op2 (fun M H x y l rx ry Q k => ⟨i, j, rx.of_int, ry.of_int, k _ H (Same.refl _) (hg _)⟩) ha hb
theorem ev_i {C : Int → Int → Prop} {g : Int → Int → V} {i j : Int} (hc : C i j) (hg : ∀ H', Rep H' (g i j) d) (ha : EvM ta G σ (.int i)) (hb : EvM tb G σ (.int j)) : EvM (tOp (rI C g) ta tb) G σ d :=
  ev_op2 (fun M H x y l rx ry Q k => ⟨i, j, rx.of_int, ry.of_int, hc, k _ H (Same.refl _) (hg _)⟩) ha hb
theorem ev_mod {i j : Int} (hc : 0 < j) (ha : EvM ta G σ (.int i)) (hb : EvM tb G σ (.int j)) : EvM (tOp (rI (fun _ j => 0 < j) fun i j => .int (i % j)) ta tb) G σ (.int (i % j)) := ev_i (C := fun _ j => 0 < j) hc (fun _ => .int _) ha hb
theorem ev_fdiv {i j : Int} (hc : CDiv i j) (ha : EvM ta G σ (.int i)) (hb : EvM tb G σ (.int j)) : EvM (tOp (rI CDiv fun i j => .int (i / j)) ta tb) G σ (.int (i / j)) := ev_i hc (fun _ => .int _) ha hb
theorem ev_lt {i j : Int} (ha : EvM ta G σ (.int i)) (hb : EvM tb G σ (.int j)) : EvM (tOp (rI0 fun i j => .bl (decide (i < j))) ta tb) G σ (.bl (decide (i < j))) := ev_i0 (fun _ => .bl _) ha hb
def D.sc : D → Bool
  | .int _ => true | .str _ => true | _ => false
theorem scal_of {H H' : Hp} {x y : V} {d e : D} (rx : Rep H x d) (ry : Rep H' y e) (hd : d.sc = true) (he : e.sc = true) : scal x y = true ∧ decide (x = y) = decide (d = e) := by
  cases rx with
  | int i =>
    cases ry with
    | int j => exact ⟨rfl, by simp⟩
    | str j => exact ⟨rfl, by simp⟩
    | _ => exact absurd he (by simp [D.sc])
  | str i =>
    cases ry with
    | int j => exact ⟨rfl, by simp⟩
    | str j => exact ⟨rfl, by simp⟩
    | _ => exact absurd he (by simp [D.sc])
  | _ => exact absurd hd (by simp [D.sc])
theorem ev_nil : EvA tNil G σ [] := fun M H s l Q k => k [] H (Same.refl _) .nil
theorem ev_cons (ha : EvM ta G σ d) (ht : EvA t G σ ds) : EvA (tCons ta t) G σ (d :: ds) :=
  fun M H s l Q k => ha M H s l _ fun x H1 s1 rx => ht M H1 (s.trans (s1.but M)) (l.same s1) _ fun vs H2 s2 rs => k _ H2 (s1.trans s2) (.cons (rx.mono (s2.but M)) rs)
theorem ev_tup (h : EvA t G σ ds) (hz : ds.length ≤ sizeLine := by exact Nat.le_of_lt (small1000 (by simp))) : EvM (tTup t) G σ (.tup ds) :=
  fun M H s l Q k => h M H s l _ fun vs H1 s1 rs => ⟨by rw [rs.length]; exact hz, fun p hp => k _ _ (s1.trans (same_new hp _)) (rep_new_tup (l.same s1) hp rs)⟩
theorem ev_lst (h : EvA t G σ ds) (hz : ds.length ≤ sizeLine := by exact Nat.le_of_lt (small1000 (by simp))) : EvM (tLst t) G σ (.lst ds) :=
  fun M H s l Q k => h M H s l _ fun vs H1 s1 rs => ⟨by rw [rs.length]; exact hz, fun p hp => k _ _ (s1.trans (same_new hp _)) (rep_new_lst (l.same s1) hp rs)⟩
theorem atI_rep {H : Hp} {vs : List V} {ds : List D} {i : Int} {d : D} (r : Reps H vs ds) (h : atI ds i = some d) : ∃ v, atI vs i = some v ∧ Rep H v d := by
  unfold atI at h ⊢
  rw [r.length]
  cases e : ixN ds.length i with
  | none => rw [e] at h; cases h
  | some j => rw [e] at h; exact r.get h
theorem ev_cb {r : List V → Hp → VK → Prop} (hr : ∀ M H xs, Live M H → Reps (but H M) xs ds → ∀ Q : VK, (∀ v H', Same H H' → Rep (but H' M) v d → Q v H') → r xs H Q) (h : EvA t G σ ds) : EvM (tCB r t) G σ d :=
  fun M H s l Q k => h M H s l _ fun vs H1 s1 rs => hr M H1 vs (l.same s1) rs Q fun v H2 s2 r2 => k v H2 (s1.trans s2) r2
theorem reps1 {H : Hp} {xs : List V} {d : D} (h : Reps H xs [d]) : ∃ x, xs = [x] ∧ Rep H x d := by
  cases h with | cons q r => cases r; exact ⟨_, rfl, q⟩
theorem ev_lenL {l : List D} (h : EvA t G σ [.lst l]) : EvM (tCB (fun xs H Q => ∃ p ys, xs = [.ref p] ∧ (SqL K H p ys ∨ SqT K H p ys) ∧ Q (.int ys.length) H) t) G σ (.int l.length) :=
  ev_cb (fun M H xs lv rs Q k => by
    obtain ⟨x, rfl, q⟩ := reps1 rs
    obtain ⟨a, vs, rfl, h1, h2⟩ := q.of_lst
    refine ⟨a, vs, rfl, .inl (SqL.of (but_some h1).2), ?_⟩
    rw [h2.length]
    exact k _ H (Same.refl _) (.int _)) h
theorem ev_lenT {l : List D} (h : EvA t G σ [.tup l]) : EvM (tCB (fun xs H Q => ∃ p ys, xs = [.ref p] ∧ (SqL K H p ys ∨ SqT K H p ys) ∧ Q (.int ys.length) H) t) G σ (.int l.length) :=
  ev_cb (fun M H xs lv rs Q k => by
    obtain ⟨x, rfl, q⟩ := reps1 rs
    obtain ⟨a, vs, rfl, h1, h2⟩ := q.of_tup
    refine ⟨a, vs, rfl, .inr (SqT.of (but_some h1).2), ?_⟩
    rw [h2.length]
    exact k _ H (Same.refl _) (.int _)) h
theorem ev_listT {l : List D} (h : EvA t G σ [.tup l]) :
    EvM (tCB (fun xs H Q => ∃ p ys, xs = [.ref p] ∧ (SqL K H p ys ∨ SqT K H p ys) ∧ ∀ l, H l = none → Q (.ref l) (upd H l (.lst ys))) t) G σ (.lst l) :=
  ev_cb (fun M H xs lv rs Q k => by
    obtain ⟨x, rfl, q⟩ := reps1 rs
    obtain ⟨a, vs, rfl, h1, h2⟩ := q.of_tup
    exact ⟨a, vs, rfl, .inr (SqT.of (but_some h1).2), fun p hp => k _ _ (same_new hp _) (rep_new_lst lv hp h2)⟩) h
theorem ev_tupleL {l : List D} (h : EvA t G σ [.lst l]) :
    EvM (tCB (fun xs H Q => ∃ p ys, xs = [.ref p] ∧ ((SqL K H p ys ∧ ∀ l, H l = none → Q (.ref l) (upd H l (.tup ys))) ∨ (SqT K H p ys ∧ Q (.ref p) H))) t) G σ (.tup l) :=
  ev_cb (fun M H xs lv rs Q k => by
    obtain ⟨x, rfl, q⟩ := reps1 rs
    obtain ⟨a, vs, rfl, h1, h2⟩ := q.of_lst
    exact ⟨a, vs, rfl, .inl ⟨SqL.of (but_some h1).2, fun p hp => k _ _ (same_new hp _) (rep_new_tup lv hp h2)⟩⟩) h
theorem evt_test {b : Bool} (h : EvM ta G σ (.bl b)) : EvT (tTest ta) G σ b := fun M H s l Q k => h M H s l _ fun v H1 s1 r1 => ⟨b, r1.of_bl, k H1 s1⟩
theorem evt_tB {b : Bool} (h : EvM ta G σ (.bl b)) : EvT (tB ta) G σ b := fun M H s l Q k => h M H s l _ fun v H1 s1 r1 => ⟨b, r1.of_bl, k H1 s1⟩
theorem evt_not {b : Bool} (h : EvT tt G σ b) : EvT (tNot tt) G σ (!b) := fun M H s l Q k => h M H s l _ fun H1 s1 => k H1 s1
theorem evt_yes : EvT tYes G σ true := fun M H s l Q k => k H (Same.refl _)
theorem evt_and {b c : Bool} (h : EvT tt G σ b) (h2 : b = true → EvT tu G σ c) : EvT (tAnd tt tu) G σ (b && c) := fun M H s l Q k => h M H s l _ fun H1 s1 => by
  cases b with
  | true => rw [if_pos rfl]; exact h2 rfl M H1 (s.trans (s1.but M)) (l.same s1) _ fun H2 s2 => k H2 (s1.trans s2)
  | false => rw [if_neg Bool.false_ne_true]; exact k H1 s1
theorem evt_or {b c : Bool} (h : EvT tt G σ b) (h2 : b = false → EvT tu G σ c) : EvT (tOr tt tu) G σ (b || c) := fun M H s l Q k => h M H s l _ fun H1 s1 => by
  cases b with
  | true => rw [if_pos rfl]; exact k H1 s1
  | false => rw [if_neg Bool.false_ne_true]; exact h2 rfl M H1 (s.trans (s1.but M)) (l.same s1) _ fun H2 s2 => k H2 (s1.trans s2)
theorem ev_and {b c : Bool} (h : EvM ta G σ (.bl b)) (h2 : b = true → EvM tb G σ (.bl c)) : EvM (tAndV ta tb) G σ (.bl (b && c)) := fun M H s l Q k => h M H s l _ fun v H1 s1 r1 => ⟨b, r1.of_bl, by
  cases b with
  | true => rw [if_pos rfl]; exact h2 rfl M H1 (s.trans (s1.but M)) (l.same s1) _ fun v H2 s2 r2 => k v H2 (s1.trans s2) r2
  | false => rw [if_neg Bool.false_ne_true]; exact k _ H1 s1 (.bl _)⟩
theorem ev_or {b c : Bool} (h : EvM ta G σ (.bl b)) (h2 : b = false → EvM tb G σ (.bl c)) : EvM (tOrV ta tb) G σ (.bl (b || c)) := fun M H s l Q k => h M H s l _ fun v H1 s1 r1 => ⟨b, r1.of_bl, by
  cases b with
  | true => rw [if_pos rfl]; exact k _ H1 s1 (.bl _)
  | false => rw [if_neg Bool.false_ne_true]; exact h2 rfl M H1 (s.trans (s1.but M)) (l.same s1) _ fun v H2 s2 r2 => k v H2 (s1.trans s2) r2⟩
end
section
variable {M : List Addr} {H : Hp} {σ : St} {ta : TE} {tt : TT} {d : D} {E : Ends}
theorem st_if {b : Bool} {ts us : TS} (l : Live M H) (h : EvT tt (but H M) σ b) (k1 : b = true → ∀ H', Same H H' → ts E σ H') (k2 : b = false → ∀ H', Same H H' → us E σ H') : tIfS tt ts us E σ H := h M H (Same.refl _) l _ fun H' s => by
  cases b with
  | true => rw [if_pos rfl]; exact k1 rfl H' s
  | false => rw [if_neg Bool.false_ne_true]; exact k2 rfl H' s
end
end FL

set_option linter.all false
set_option maxRecDepth 100000
namespace PySem
open Sem (wp)
set_option maxHeartbeats 2000000 in
theorem getAttrQ_miss_list {prog : Program} {w : World} {A : Around} {E : Value → Shared → Prop} {s : Shared} {a : Addr} {o : Obj} {xs : Array Value} {k : Nat} {name : Str} {Q : Option Value → Shared → Prop}
    (hx : s.heap.get? a = some o) (hc : o.cls = .type "list") (hdat : o.data = .seq xs k) (hd : o.dict = none) (hmiss : typeLookup (.type "list") name = pure none) (hname : (["__module__", "__name__", "__qualname__", "__doc__", "__annotations__"] : List Str).contains name = false) (hA : A.handled = none)
    (h : ∀ h' tk, (∀ b o, s.heap.get? b = some o → h'.get? b = some o) → Q none { s with heap := h', toks := tk }) (hsz : name.length + 100 ≤ sizeLine := by size_fits) :
    wpAny (model prog w) A (getAttr? (.ref a) name) Q E s := by
  obtain ⟨c, dct, dat, sl⟩ := o
  simp only at hc hdat hd
  subst hc hdat hd
  obtain ⟨hp, g, d, tk, os⟩ := s
  have hT : ∀ tk', (⟨hp, g, d, tk', os⟩ : Shared).TypeIs (.ref a) "list" := fun _ => ⟨_, hx, rfl⟩
  have f1 := sub_AttributeError
  have f3 := F.slot_list_getattribute.lookup
  have f4 := F.slot_list_getattribute.bind (.ref a)
  have f5 := am_list_getattr_none
  unfold getAttr? getAttrBy? getAttrBy
  repeat (any_goals (first | assumption | exact hT _ | ((with_reducible show wpAny _ _ (call (Value.builtin "list.__getattribute__") _ _) _ _ _); refine call_meets F.slot_list_getattribute (hT _) am_entry_list_getattribute (F.args_list_getattribute_2 _ _) (meets_getattribute_miss_list a xs k sl name _ hmiss hname hsz) ⟨hx, hA, fun h' tk' e hx' => ?_⟩) | wp_step))
  obtain ⟨t', u', he⟩ := hx'.there
  show wpAny _ _ (getattributeRaised _ _ _ _ _ _ _) _ _ _
  unfold getattributeRaised
  repeat (any_goals (first | assumption | wp_step))
  exact h _ _ hx'.of.keeps
namespace F
end F
section
variable {prog : Program} {w : World} {K : Type} [DecidableEq K] {knd : KeyKind prog w K} {A : Around} {R : Result → Shared → Prop} {s : Shared}
end
end PySem

set_option linter.all false
set_option maxRecDepth 100000
namespace PySem
section
variable {prog : Program} {w : World} {K : Type} [DecidableEq K] {knd : KeyKind prog w K} {A : Around} {E : Value → Shared → Prop} {s : Shared}
end
end PySem

set_option Elab.async false
set_option linter.all false
set_option maxRecDepth 100000
namespace FL
open PySem L2
mutual
def cmpb : D → D → Bool
  | .int _, .int _ => true
  | .int _, .str _ => true
  | .str _, .int _ => true
  | .str _, .str _ => true
  | .tup a, .tup b => cmpbs a b
  | .lst a, .lst b => cmpbs a b
  | _, _ => false
def cmpbs : List D → List D → Bool
  | a :: r, b :: t => cmpb a b && cmpbs r t
  | _, _ => true
end
mutual
def D.dep : D → Nat
  | .tup l => D.deps l + 1
  | .lst l => D.deps l + 1
  | _ => 0
def D.deps : List D → Nat
  | [] => 0
  | a :: r => max (D.dep a) (D.deps r)
end
theorem deps_get : ∀ {l : List D} {j : Nat} {d : D}, l[j]? = some d → d.dep ≤ D.deps l
  | [], _, _, h => by simp at h
  | a :: r, 0, d, h => by simp at h; subst h; exact Nat.le_max_left _ _
  | a :: r, j + 1, d, h => by
    have := deps_get (l := r) (j := j) (d := d) (by simpa using h)
    exact Nat.le_trans this (Nat.le_max_right _ _)
theorem cmpbs_get : ∀ {l m : List D} {j : Nat} {d e : D}, cmpbs l m = true → l[j]? = some d → m[j]? = some e → cmpb d e = true
  | [], _, _, _, _, _, h, _ => by simp at h
  | _ :: _, [], _, _, _, _, _, h => by simp at h
  | a :: r, b :: t, 0, d, e, h, h1, h2 => by
    simp at h1 h2; subst h1; subst h2
    rw [cmpbs, Bool.and_eq_true] at h
    exact h.1
  | a :: r, b :: t, j + 1, d, e, h, h1, h2 => by
    rw [cmpbs, Bool.and_eq_true] at h
    exact cmpbs_get (l := r) (m := t) (j := j) h.2 (by simpa using h1) (by simpa using h2)
theorem all_eq_iff {l m : List D} : ((List.range (min l.length m.length)).all (fun j => decide (l[j]? = m[j]?)) && l.length == m.length) = decide (l = m) := by
  rw [Bool.eq_iff_iff, Bool.and_eq_true, List.all_eq_true, beq_iff_eq, decide_eq_true_iff]
  constructor
  · rintro ⟨h1, h2⟩
    refine List.ext_getElem? fun j => ?_
    by_cases hj : j < min l.length m.length
    · exact of_decide_eq_true (h1 j (List.mem_range.mpr hj))
    · rw [List.getElem?_eq_none (by omega), List.getElem?_eq_none (by omega)]
  · rintro rfl
    exact ⟨fun j _ => by simp, rfl⟩
theorem vals_at {P : Program} {w : World} {K : PySem.W.Frag} {xs : List V} {us : List Value} {j : Nat} {u : Value} (r : Vals xs us) (h : us[j]? = some u) : ∃ x, xs[j]? = some x ∧ RelV x u := by
  have hl := r.length
  obtain ⟨hj, _⟩ := List.getElem?_eq_some_iff.mp h
  have hx : xs[j]? = some (xs[j]'(by omega)) := List.getElem?_eq_getElem (by omega)
  obtain ⟨u', h1, h2⟩ := r.get hx
  rw [h] at h1; cases h1
  exact ⟨_, hx, h2⟩
open SeqAt in
theorem eqAt_of {P : Program} {w : World} {G H : Hp} {s : Shared} (ok : HOk P w H s.heap) (hG : Same G H) : ∀ (n : Nat) {d e : D} {x y : V} {u z : Value} {A : Around}, d.dep ≤ n → Rep G x d → Rep G y e → RelV x u → RelV y z → cmpb d e = true → A.units + n < cLine →
    EqAt A s u z (decide (d = e)) := by
  intro n
  induction n with
  | zero =>
    intro d e x y u z A hd rx ry ru rz hc hu
    cases rx with
    | int i =>
      obtain ⟨t, rfl⟩ := ru
      cases ry with
      | int j =>
        obtain ⟨t', rfl⟩ := rz
        have q : decide (D.int i = D.int j) = (i == j) := by rw [Bool.eq_iff_iff]; simp
        rw [q]; exact EqAt.int_int i t j t'
      | str j =>
        obtain ⟨t', rfl⟩ := rz
        have q : decide (D.int i = D.str j) = false := by simp
        rw [q]; exact EqAt.int_str i t j t'
      | _ => exact absurd hc (by simp [cmpb])
    | str i =>
      obtain ⟨t, rfl⟩ := ru
      cases ry with
      | int j =>
        obtain ⟨t', rfl⟩ := rz
        have q : decide (D.str i = D.int j) = false := by simp
        rw [q]; exact EqAt.str_int i t j t'
      | str j =>
        obtain ⟨t', rfl⟩ := rz
        have q : decide (D.str i = D.str j) = (i == j) := by rw [Bool.eq_iff_iff]; simp
        rw [q]; exact EqAt.str_str i t j t'
      | _ => exact absurd hc (by simp [cmpb])
    | non => exact absurd hc (by simp [cmpb])
    | bl _ => exact absurd hc (by simp [cmpb])
    | tup _ _ => simp [D.dep] at hd
    | lst _ _ => simp [D.dep] at hd
  | succ n ih =>
    intro d e x y u z A hd rx ry ru rz hc hu
    cases rx with
    | int i =>
      obtain ⟨t, rfl⟩ := ru
      cases ry with
      | int j =>
        obtain ⟨t', rfl⟩ := rz
        have q : decide (D.int i = D.int j) = (i == j) := by rw [Bool.eq_iff_iff]; simp
        rw [q]; exact EqAt.int_int i t j t'
      | str j =>
        obtain ⟨t', rfl⟩ := rz
        have q : decide (D.int i = D.str j) = false := by simp
        rw [q]; exact EqAt.int_str i t j t'
      | _ => exact absurd hc (by simp [cmpb])
    | str i =>
      obtain ⟨t, rfl⟩ := ru
      cases ry with
      | int j =>
        obtain ⟨t', rfl⟩ := rz
        have q : decide (D.str i = D.int j) = false := by simp
        rw [q]; exact EqAt.str_int i t j t'
      | str j =>
        obtain ⟨t', rfl⟩ := rz
        have q : decide (D.str i = D.str j) = (i == j) := by rw [Bool.eq_iff_iff]; simp
        rw [q]; exact EqAt.str_str i t j t'
      | _ => exact absurd hc (by simp [cmpb])
    | non => exact absurd hc (by simp [cmpb])
    | bl _ => exact absurd hc (by simp [cmpb])
    | @tup a vs l ha ra =>
      cases ru
      cases ry with
      | @tup b ws m hb rb =>
        cases rz
        rw [cmpb] at hc
        by_cases hab : a = b
        · subst hab
          rw [ha] at hb; cases hb
          rw [Reps.inj ra rb, decide_eq_true rfl]
          exact EqAt.same _
        · obtain ⟨_, its, r1, p1⟩ := (show ObjOk P w H s.heap a (.tup vs) from ok a _ (hG _ _ ha))
          obtain ⟨_, its2, r2, p2⟩ := (show ObjOk P w H s.heap b (.tup ws) from ok b _ (hG _ _ hb))
          have n1 : its.toArray.size = l.length := by rw [List.size_toArray, ← r1.length, ra.length]
          have n2 : its2.toArray.size = m.length := by rw [List.size_toArray, ← r2.length, rb.length]
          have q : decide (D.tup l = D.tup m) = ((List.range (min its.toArray.size its2.toArray.size)).all (fun j => decide (l[j]? = m[j]?)) && its.toArray.size == its2.toArray.size) := by
            rw [n1, n2, all_eq_iff, Bool.eq_iff_iff]; simp
          rw [q]
          refine EqAt.of_refs hab (RcAt.tuples p1 p2 (by omega) fun j h1 h2 => ?_)
          obtain ⟨x', hx, rx'⟩ := vals_at (P := P) (w := w) (K := []) r1 (j := j) (u := its.toArray[j]) (by simp)
          obtain ⟨y', hy, ry'⟩ := vals_at (P := P) (w := w) (K := []) r2 (j := j) (u := its2.toArray[j]) (by simp)
          obtain ⟨d', hd', rd'⟩ := ra.getV hx
          obtain ⟨e', he', re'⟩ := rb.getV hy
          have q2 : decide (l[j]? = m[j]?) = decide (d' = e') := by rw [hd', he', Bool.eq_iff_iff]; simp
          rw [q2]
          have hdd : d'.dep ≤ n := by
            have := deps_get hd'
            simp only [D.dep] at hd
            omega
          exact ih hdd rd' re' rx' ry' (cmpbs_get hc hd' he') (by show A.units + 1 + n < cLine; omega)
      | _ => exact absurd hc (by simp [cmpb])
    | @lst a vs l ha ra =>
      cases ru
      cases ry with
      | @lst b ws m hb rb =>
        cases rz
        rw [cmpb] at hc
        by_cases hab : a = b
        · subst hab
          rw [ha] at hb; cases hb
          rw [Reps.inj ra rb, decide_eq_true rfl]
          exact EqAt.same _
        · obtain ⟨_, its, k1, r1, p1⟩ := (show ObjOk P w H s.heap a (.lst vs) from ok a _ (hG _ _ ha))
          obtain ⟨_, its2, k2, r2, p2⟩ := (show ObjOk P w H s.heap b (.lst ws) from ok b _ (hG _ _ hb))
          have n1 : its.toArray.size = l.length := by rw [List.size_toArray, ← r1.length, ra.length]
          have n2 : its2.toArray.size = m.length := by rw [List.size_toArray, ← r2.length, rb.length]
          by_cases hlm : l.length = m.length
          · have q : decide (D.lst l = D.lst m) = ((List.range its.toArray.size).all (fun j => decide (l[j]? = m[j]?))) := by
              have := all_eq_iff (l := l) (m := m)
              rw [n1]
              have e1 : min l.length m.length = l.length := by omega
              rw [e1] at this
              have e2 : (l.length == m.length) = true := by simpa using hlm
              rw [e2, Bool.and_true] at this
              rw [this, Bool.eq_iff_iff]; simp
            rw [q]
            refine EqAt.of_refs hab (RcAt.lists ⟨_, p1, rfl, _, rfl⟩ ⟨_, p2, rfl, _, rfl⟩ (by omega) (by omega) fun j h1 h2 => ?_)
            obtain ⟨x', hx, rx'⟩ := vals_at (P := P) (w := w) (K := []) r1 (j := j) (u := its.toArray[j]) (by simp)
            obtain ⟨y', hy, ry'⟩ := vals_at (P := P) (w := w) (K := []) r2 (j := j) (u := its2.toArray[j]) (by simp)
            obtain ⟨d', hd', rd'⟩ := ra.getV hx
            obtain ⟨e', he', re'⟩ := rb.getV hy
            have q2 : decide (l[j]? = m[j]?) = decide (d' = e') := by rw [hd', he', Bool.eq_iff_iff]; simp
            rw [q2]
            have hdd : d'.dep ≤ n := by
              have := deps_get hd'
              simp only [D.dep] at hd
              omega
            exact ih hdd rd' re' rx' ry' (cmpbs_get hc hd' he') (by show A.units + 1 + n < cLine; omega)
          · have q : decide (D.lst l = D.lst m) = false := by
              rw [decide_eq_false_iff_not]
              intro z; cases z; exact hlm rfl
            rw [q]
            exact EqAt.of_refs hab (RcAt.lists_lengths ⟨_, p1, rfl, _, rfl⟩ ⟨_, p2, rfl, _, rfl⟩ (by rw [n1, n2]; simpa using hlm) (by omega))
      | _ => exact absurd hc (by simp [cmpb])
section
variable {X : Cx}
open SeqAt
def Two (x y : V) (H : Hp) (d e : D) : Prop := ∃ M, Rep (but H M) x d ∧ Rep (but H M) y e ∧ cmpb d e = true ∧ d.dep ≤ 40
def rEqD : R2 := fun x y H Q => ∃ d e, Two x y H d e ∧ Q (.bl (decide (d = e))) H
def rNeD : R2 := fun x y H Q => ∃ d e, Two x y H d e ∧ Q (.bl (!decide (d = e))) H
theorem rich_two {A : Around} {s : Shared} {pins : List (Addr × Obj)} {σ : St} {H : Hp} (I : Inv X pins σ H s) {a b : Addr} {M : List Addr} {d e : D} (ra : Rep (but H M) (.ref a) d) (rb : Rep (but H M) (.ref b) e) (hc : cmpb d e = true) (hd : d.dep ≤ 40) (hu : A.units + 50 < cLine) :
    RcAt A s (.ref a) (.ref b) (decide (d = e)) ∧ RcNeAt A s (.ref a) (.ref b) (!decide (d = e)) := by
  have hin : A.in1.units + 45 < cLine := by show A.units + 1 + 45 < cLine; omega
  cases ra with
  | @tup _ vs l ha ra =>
    cases rb with
    | @tup _ ws m hb rb =>
      rw [cmpb] at hc
      obtain ⟨_, its, r1, p1⟩ := (show ObjOk X.prog X.w H s.heap a (.tup vs) from I.hok a _ (but_some ha).2)
      obtain ⟨_, its2, r2, p2⟩ := (show ObjOk X.prog X.w H s.heap b (.tup ws) from I.hok b _ (but_some hb).2)
      have n1 : its.toArray.size = l.length := by rw [List.size_toArray, ← r1.length, ra.length]
      have n2 : its2.toArray.size = m.length := by rw [List.size_toArray, ← r2.length, rb.length]
      have q : decide (D.tup l = D.tup m) = ((List.range (min its.toArray.size its2.toArray.size)).all (fun j => decide (l[j]? = m[j]?)) && its.toArray.size == its2.toArray.size) := by
        rw [n1, n2, all_eq_iff, Bool.eq_iff_iff]; simp
      have he : ∀ j (h1 : j < its.toArray.size) (h2 : j < its2.toArray.size), EqAt A.in1 s its.toArray[j] its2.toArray[j] ((fun j => decide (l[j]? = m[j]?)) j) := fun j h1 h2 => by
        obtain ⟨x', hx, rx'⟩ := vals_at (P := X.prog) (w := X.w) (K := X.K) r1 (j := j) (u := its.toArray[j]) (by simp)
        obtain ⟨y', hy, ry'⟩ := vals_at (P := X.prog) (w := X.w) (K := X.K) r2 (j := j) (u := its2.toArray[j]) (by simp)
        obtain ⟨d', hd', rd'⟩ := ra.getV hx
        obtain ⟨e', he', re'⟩ := rb.getV hy
        have q2 : decide (l[j]? = m[j]?) = decide (d' = e') := by rw [hd', he', Bool.eq_iff_iff]; simp
        show EqAt A.in1 s _ _ (decide (l[j]? = m[j]?))
        rw [q2]
        have hdd : d'.dep ≤ 40 := by
          have := deps_get hd'
          simp only [D.dep] at hd
          omega
        exact eqAt_of I.hok (but_sub H M) 40 hdd rd' re' rx' ry' (cmpbs_get hc hd' he') (by omega)
      rw [q]
      exact ⟨RcAt.tuples p1 p2 (by omega) he, RcNeAt.tuples p1 p2 (by omega) he⟩
    | _ => exact absurd hc (by simp [cmpb])
  | @lst _ vs l ha ra =>
    cases rb with
    | @lst _ ws m hb rb =>
      rw [cmpb] at hc
      obtain ⟨_, its, k1, r1, p1⟩ := (show ObjOk X.prog X.w H s.heap a (.lst vs) from I.hok a _ (but_some ha).2)
      obtain ⟨_, its2, k2, r2, p2⟩ := (show ObjOk X.prog X.w H s.heap b (.lst ws) from I.hok b _ (but_some hb).2)
      have p1' : s.heap.IsList a its.toArray := ⟨_, p1, rfl, _, rfl⟩
      have p2' : s.heap.IsList b its2.toArray := ⟨_, p2, rfl, _, rfl⟩
      have n1 : its.toArray.size = l.length := by rw [List.size_toArray, ← r1.length, ra.length]
      have n2 : its2.toArray.size = m.length := by rw [List.size_toArray, ← r2.length, rb.length]
      by_cases hlm : l.length = m.length
      · have q : decide (D.lst l = D.lst m) = ((List.range its.toArray.size).all (fun j => decide (l[j]? = m[j]?))) := by
          have := all_eq_iff (l := l) (m := m)
          rw [n1]
          have e1 : min l.length m.length = l.length := by omega
          rw [e1] at this
          have e2 : (l.length == m.length) = true := by simpa using hlm
          rw [e2, Bool.and_true] at this
          rw [this, Bool.eq_iff_iff]; simp
        have he : ∀ j (h1 : j < its.toArray.size) (h2 : j < its2.toArray.size), EqAt A.in1 s its.toArray[j] its2.toArray[j] ((fun j => decide (l[j]? = m[j]?)) j) := fun j h1 h2 => by
          obtain ⟨x', hx, rx'⟩ := vals_at (P := X.prog) (w := X.w) (K := X.K) r1 (j := j) (u := its.toArray[j]) (by simp)
          obtain ⟨y', hy, ry'⟩ := vals_at (P := X.prog) (w := X.w) (K := X.K) r2 (j := j) (u := its2.toArray[j]) (by simp)
          obtain ⟨d', hd', rd'⟩ := ra.getV hx
          obtain ⟨e', he', re'⟩ := rb.getV hy
          have q2 : decide (l[j]? = m[j]?) = decide (d' = e') := by rw [hd', he', Bool.eq_iff_iff]; simp
          show EqAt A.in1 s _ _ (decide (l[j]? = m[j]?))
          rw [q2]
          have hdd : d'.dep ≤ 40 := by
            have := deps_get hd'
            simp only [D.dep] at hd
            omega
          exact eqAt_of I.hok (but_sub H M) 40 hdd rd' re' rx' ry' (cmpbs_get hc hd' he') (by omega)
        rw [q]
        exact ⟨RcAt.lists p1' p2' (by omega) (by omega) he, RcNeAt.lists p1' p2' (by omega) (by omega) he⟩
      · have q : decide (D.lst l = D.lst m) = false := by
          rw [decide_eq_false_iff_not]
          intro z; cases z; exact hlm rfl
        rw [q]
        exact ⟨RcAt.lists_lengths p1' p2' (by rw [n1, n2]; simpa using hlm) (by omega), RcNeAt.lists_lengths p1' p2' (by rw [n1, n2]; simpa using hlm) (by omega)⟩
    | _ => exact absurd hc (by simp [cmpb])
theorem cmpb_sc {G : Hp} {x y : V} {d e : D} (rx : Rep G x d) (ry : Rep G y e) (hc : cmpb d e = true) : (d.sc = true ∧ e.sc = true) ∨ ∃ a b, x = .ref a ∧ y = .ref b := by
  cases rx with
  | int i => cases ry <;> first | exact .inl ⟨rfl, rfl⟩ | exact absurd hc (by simp [cmpb])
  | str i => cases ry <;> first | exact .inl ⟨rfl, rfl⟩ | exact absurd hc (by simp [cmpb])
  | tup _ _ => cases ry <;> first | exact .inr ⟨_, _, rfl, rfl⟩ | exact absurd hc (by simp [cmpb])
  | lst _ _ => cases ry <;> first | exact .inr ⟨_, _, rfl, rfl⟩ | exact absurd hc (by simp [cmpb])
  | _ => exact absurd hc (by simp [cmpb])
theorem op_eqD (hu : X.A.units + 50 < cLine) : OpR X (compareOp .Eq) rEqD := by
  intro pins s σ H x y v u Q I rx ry h
  obtain ⟨d, e, ⟨M, r1, r2, hc, hd⟩, q⟩ := h
  rcases cmpb_sc r1 r2 hc with ⟨h1, h2⟩ | ⟨a, b, rfl, rfl⟩
  · obtain ⟨h3, h4⟩ := scal_of r1 r2 h1 h2
    rw [← h4] at q
    exact op_eq pins s σ H x y v u Q I rx ry ⟨h3, q⟩
  · cases rx; cases ry
    exact (rich_two I r1 r2 hc hd hu).1 _ _ _ _ ⟨.bl _, H, I, rfl, q⟩
theorem op_neD (hu : X.A.units + 50 < cLine) : OpR X (compareOp .NotEq) rNeD := by
  intro pins s σ H x y v u Q I rx ry h
  obtain ⟨d, e, ⟨M, r1, r2, hc, hd⟩, q⟩ := h
  rcases cmpb_sc r1 r2 hc with ⟨h1, h2⟩ | ⟨a, b, rfl, rfl⟩
  · obtain ⟨h3, h4⟩ := scal_of r1 r2 h1 h2
    rw [← h4] at q
    exact op_ne pins s σ H x y v u Q I rx ry ⟨h3, q⟩
  · cases rx; cases ry
    exact (rich_two I r1 r2 hc hd hu).2 _ _ _ _ ⟨.bl _, H, I, rfl, q⟩
def rInD (neg : Bool) : R2 := fun x y H Q => ∃ M d es, Rep (but H M) x d ∧ (Rep (but H M) y (.lst es) ∨ Rep (but H M) y (.tup es)) ∧ (∀ e ∈ es, cmpb e d = true ∧ e.dep ≤ 40) ∧ Q (.bl (if neg then !decide (d ∈ es) else decide (d ∈ es))) H
theorem in_items {pins : List (Addr × Obj)} {σ : St} {H : Hp} {s : Shared} {A : Around} (I : Inv X pins σ H s) {M : List Addr} {x : V} {u : Value} {d : D} {es : List D} {vs : List V} {its : List Value} (rx : Rep (but H M) x d) (ru : RelV x u) (rs : Reps (but H M) vs es) (rv : Vals vs its) (hall : ∀ e ∈ es, cmpb e d = true ∧ e.dep ≤ 40) (hu : A.units + 50 < cLine) :
    ∃ f : Value → Bool, (∀ y, y ∈ its.toArray → EqAt A.in1 s y u (f y)) ∧ its.toArray.any f = decide (d ∈ es) := by
  classical
  refine ⟨fun y => decide (∃ v e, RelV v y ∧ Rep (but H M) v e ∧ e = d), fun y hy => ?_, ?_⟩
  · have hy' : y ∈ its := by simpa using hy
    obtain ⟨j, hj, hjy⟩ := List.getElem_of_mem hy'
    obtain ⟨v, hv, rv'⟩ := vals_at (P := X.prog) (w := X.w) (K := X.K) rv (j := j) (u := y) (by rw [List.getElem?_eq_getElem hj, hjy])
    obtain ⟨e, he, re⟩ := rs.getV hv
    have hm : e ∈ es := List.mem_of_getElem? he
    have q : decide (∃ v e, RelV v y ∧ Rep (but H M) v e ∧ e = d) = decide (e = d) := by
      rw [Bool.eq_iff_iff, decide_eq_true_iff, decide_eq_true_iff]
      constructor
      · rintro ⟨v', e', r1, r2, r3⟩
        rw [rv'.inj r1] at re
        rw [Rep.inj re r2]; exact r3
      · intro z; exact ⟨v, e, rv', re, z⟩
    show EqAt A.in1 s y u (decide (∃ v e, RelV v y ∧ Rep (but H M) v e ∧ e = d))
    rw [q]
    exact eqAt_of I.hok (but_sub H M) 40 (hall e hm).2 re rx rv' ru (hall e hm).1 (by show A.units + 1 + 40 < cLine; omega)
  · rw [Bool.eq_iff_iff, Array.any_eq_true, decide_eq_true_iff]
    constructor
    · rintro ⟨j, hj, h⟩
      obtain ⟨v', e', r1, r2, r3⟩ := of_decide_eq_true h
      obtain ⟨v, hv, rv'⟩ := vals_at (P := X.prog) (w := X.w) (K := X.K) rv (j := j) (u := its.toArray[j]) (by simp)
      obtain ⟨e, he, re⟩ := rs.getV hv
      rw [rv'.inj r1] at re
      rw [← r3, ← Rep.inj re r2]
      exact List.mem_of_getElem? he
    · intro hm
      obtain ⟨j, hj, hjd⟩ := List.getElem_of_mem hm
      have hl := rs.length
      have hl2 := rv.length
      obtain ⟨v, hv, rv'⟩ := rs.get (i := j) (d := d) (by rw [List.getElem?_eq_getElem hj, hjd])
      obtain ⟨y, hy, ry⟩ := rv.get hv
      have hjs : j < its.toArray.size := by simp; omega
      refine ⟨j, hjs, decide_eq_true ⟨v, d, ?_, rv', rfl⟩⟩
      have : its.toArray[j] = y := by
        rw [List.getElem?_eq_getElem (by simpa using hjs)] at hy
        simpa using hy
      rw [this]; exact ry
theorem op_inD (hu : X.A.units + 50 < cLine) : OpR X (compareOp .In) (rInD false) := by
  intro pins s σ H x y v u Q I rx ry h
  obtain ⟨M, d, es, r1, r2, hall, q⟩ := h
  rcases r2 with r2 | r2
  · obtain ⟨a, vs, rfl, h1, h2⟩ := r2.of_lst
    cases ry
    obtain ⟨_, its, n, rv, p⟩ := (show ObjOk X.prog X.w H s.heap a (.lst vs) from I.hok a _ (but_some h1).2)
    obtain ⟨f, hf, he⟩ := in_items I r1 rx h2 rv hall hu
    refine in_listAt f ⟨_, p, rfl, _, rfl⟩ hf ?_
    rw [he]
    exact ⟨.bl _, H, I, rfl, q⟩
  · obtain ⟨a, vs, rfl, h1, h2⟩ := r2.of_tup
    cases ry
    obtain ⟨_, its, rv, p⟩ := (show ObjOk X.prog X.w H s.heap a (.tup vs) from I.hok a _ (but_some h1).2)
    obtain ⟨f, hf, he⟩ := in_items I r1 rx h2 rv hall hu
    refine in_tupleAt f p hf ?_
    rw [he]
    exact ⟨.bl _, H, I, rfl, q⟩
theorem op_notInD (hu : X.A.units + 50 < cLine) : OpR X (compareOp .NotIn) (rInD true) := by
  intro pins s σ H x y v u Q I rx ry h
  obtain ⟨M, d, es, r1, r2, hall, q⟩ := h
  rcases r2 with r2 | r2
  · obtain ⟨a, vs, rfl, h1, h2⟩ := r2.of_lst
    cases ry
    obtain ⟨_, its, n, rv, p⟩ := (show ObjOk X.prog X.w H s.heap a (.lst vs) from I.hok a _ (but_some h1).2)
    obtain ⟨f, hf, he⟩ := in_items I r1 rx h2 rv hall hu
    refine notIn_listAt f ⟨_, p, rfl, _, rfl⟩ hf ?_
    rw [he]
    exact ⟨.bl _, H, I, rfl, q⟩
  · obtain ⟨a, vs, rfl, h1, h2⟩ := r2.of_tup
    cases ry
    obtain ⟨_, its, rv, p⟩ := (show ObjOk X.prog X.w H s.heap a (.tup vs) from I.hok a _ (but_some h1).2)
    obtain ⟨f, hf, he⟩ := in_items I r1 rx h2 rv hall hu
    refine notIn_tupleAt f p hf ?_
    rw [he]
    exact ⟨.bl _, H, I, rfl, q⟩
end
end FL

set_option Elab.async false
set_option linter.all false
set_option maxRecDepth 100000
namespace FL
open PySem L2
def Walk (wi : TI) (G : Hp) (σ : St) (ds : List D) : Prop := ∀ M H, Same G (but H M) → Live M H → ∀ R : It → Hp → Prop,
  (∀ J H1, Same H H1 → (∀ (j : Nat) d M' H', ds[j]? = some d → Same (but H1 M) (but H' M') → Live M' H' → J.go j H' ∧ ∀ x H'', J.yld j H' x H'' → Same H' H'' ∧ Rep (but H'' M') x d) → (∀ M' H', Same (but H1 M) (but H' M') → J.stop ds.length H') → R J H1) → wi σ H R
section
variable {G : Hp} {σ : St} {ta tb tl te : TE} {tt : TT} {t : TA} {d : D} {ds : List D} {K : PySem.W.Frag} {wi : TI}
theorem walk_list (h : EvM tl G σ (.lst ds)) : Walk (iList K tl) G σ ds := fun M H s l R k => h M H s l _ fun x H1 s1 rx => by
  obtain ⟨a, vs, rfl, h1, h2⟩ := rx.of_lst
  refine ⟨a, rfl, ⟨vs, SqL.of (but_some h1).2⟩, k _ H1 s1 (fun j d M' H' hj hs hl => ?_) (fun M' H' hs => ?_)⟩
  · have ha := (but_some (hs _ _ h1)).2
    obtain ⟨v, hv, rv⟩ := h2.get hj
    refine ⟨⟨vs, v, SqL.of ha, hv⟩, fun x H'' ⟨e, hy⟩ => ?_⟩
    subst e
    have hx := hy vs (SqL.of ha)
    rw [hv] at hx; cases hx
    exact ⟨Same.refl _, rv.mono hs⟩
  · have ha := (but_some (hs _ _ h1)).2
    exact ⟨vs, SqL.of ha, by rw [h2.length]; exact Nat.le_refl _⟩
theorem walk_tup (h : EvM tl G σ (.tup ds)) : Walk (iTup K tl) G σ ds := fun M H s l R k => h M H s l _ fun x H1 s1 rx => by
  obtain ⟨a, vs, rfl, h1, h2⟩ := rx.of_tup
  refine ⟨a, rfl, ⟨vs, SqT.of (but_some h1).2⟩, k _ H1 s1 (fun j d M' H' hj hs hl => ?_) (fun M' H' hs => ?_)⟩
  · have ha := (but_some (hs _ _ h1)).2
    obtain ⟨v, hv, rv⟩ := h2.get hj
    refine ⟨⟨vs, v, SqT.of ha, hv⟩, fun x H'' ⟨e, hy⟩ => ?_⟩
    subst e
    have hx := hy vs (SqT.of ha)
    rw [hv] at hx; cases hx
    exact ⟨Same.refl _, rv.mono hs⟩
  · have ha := (but_some (hs _ _ h1)).2
    exact ⟨vs, SqT.of ha, by rw [h2.length]; exact Nat.le_refl _⟩
theorem range_at (lo : Int) (n j : Nat) (d : D) (h : ((List.range n).map fun (k : Nat) => D.int (lo + k))[j]? = some d) : j < n ∧ d = .int (lo + j) := by
  rw [List.getElem?_map] at h
  cases e : (List.range n)[j]? with
  | none => rw [e] at h; cases h
  | some q =>
    rw [e] at h
    obtain ⟨h1, h2⟩ := List.getElem?_eq_some_iff.mp e
    simp at h1 h2
    subst h2
    exact ⟨h1, (Option.some.inj h).symm⟩
theorem walk_range1 {n : Nat} (hn : n < 2 ^ 62) (h : EvA t G σ [.int n]) : Walk (iRng1 t) G σ ((List.range n).map fun (k : Nat) => D.int (0 + k)) := fun M H s l R k => h M H s l _ fun vs H1 s1 rs => by
  obtain ⟨x, rfl, rx⟩ := reps1 rs
  refine ⟨(n : Int), by rw [rx.of_int], by omega, by omega, ?_⟩
  refine k _ H1 s1 (fun j d M' H' hj hs hl => ?_) (fun M' H' hs => ?_)
  · obtain ⟨h1, rfl⟩ := range_at 0 n j d hj
    refine ⟨by show j < ((n : Int)).toNat; omega, fun x H'' ⟨e, hy⟩ => ?_⟩
    subst e; subst hy
    exact ⟨Same.refl _, .int _⟩
  · show ((n : Int)).toNat ≤ _
    simp
theorem sub_hide {H H' : Hp} {M : List Addr} {D : Addr} (h : H D = none) (s : Same H H') : Same (but H M) (but H' (D :: M)) := fun b o e => by
  obtain ⟨h1, h2⟩ := but_some e
  rw [but_out]
  · exact s b o h2
  · intro z
    rcases List.mem_cons.mp z with rfl | z
    · rw [h] at h2; cases h2
    · exact h1 z
theorem ev_comp {caps : St → St} {i : Nat} {p : D → Bool} {f : D → D} (hw : Walk wi G σ ds)
    (ht : ∀ G' v d, Same G G' → d ∈ ds → Rep G' v d → EvT tt G' ((caps σ).set i (some v)) (p d))
    (he : ∀ G' v d, Same G G' → d ∈ ds → p d = true → Rep G' v d → EvM te G' ((caps σ).set i (some v)) (f d)) (hz : ds.length < sizeLine) :
    EvM (tComp wi caps (gName i) tt te) G σ (.lst ((ds.filter p).map f)) := fun M H s l Q k => hw M H s l _ fun J H1 s1 hgo hstop D hD => by
  have lf : D ∉ M := (l.same s1).fresh hD
  have sG1 : Same G (but H1 M) := s.trans (s1.but M)
  refine ⟨fun j m τ H' => m = ds.length - j ∧ j ≤ ds.length ∧ (∀ v, τ.set i (some v) = (caps σ).set i (some v)) ∧ Same H1 H' ∧ ∃ ys, H' D = some (.lst ys) ∧ Reps (but H' (D :: M)) ys (((ds.take j).filter p).map f),
    ⟨ds.length, by simp, Nat.zero_le _, fun _ => rfl, same_new hD _, [], upd_same, by simpa using Reps.nil⟩, ?_⟩
  rintro j m τ H' ⟨rfl, hj, hτ, s2, ys, hD', ry⟩
  have hs : Same (but H1 M) (but H' (D :: M)) := sub_hide hD s2
  have hl : Live (D :: M) H' := ((l.same s1).same s2).cons hD'
  by_cases hlt : j < ds.length
  · have hd : ds[j]? = some ds[j] := List.getElem?_eq_getElem hlt
    obtain ⟨go, gy⟩ := hgo j _ (D :: M) H' hd hs hl
    refine .inr ⟨go, fun τ' H'' => (∀ v, τ'.set i (some v) = (caps σ).set i (some v)) ∧ Same H1 H'' ∧ ∃ ys, H'' D = some (.lst ys) ∧ Reps (but H'' (D :: M)) ys (((ds.take (j + 1)).filter p).map f),
      fun τ' H'' ⟨a, b, c⟩ => ⟨ds.length - (j + 1), by omega, rfl, hlt, a, b, c⟩, fun x H'' hy => ?_⟩
    obtain ⟨s3, rx⟩ := gy x H'' hy
    have hm : ds[j] ∈ ds := List.getElem_mem hlt
    have sG : Same G (but H'' (D :: M)) := sG1.trans (hs.trans (s3.but _))
    have hl3 := hl.same s3
    show tt (τ.set i (some x)) H'' _
    rw [hτ x]
    have tk : (ds.take (j + 1)).filter p = (ds.take j).filter p ++ (if p ds[j] = true then [ds[j]] else []) := by
      rw [List.take_add_one, hd, List.filter_append]
      congr 1
      by_cases hp : p ds[j] = true
      · simp [hp]
      · simp [hp]
    refine ht _ x _ sG hm rx (D :: M) H'' (Same.refl _) hl3 _ fun H4 s4 => ?_
    have setset : ∀ v, ((caps σ).set i (some x)).set i (some v) = (caps σ).set i (some v) := fun v => by rw [List.set_set]
    by_cases hp : p ds[j] = true
    · rw [if_pos hp]
      refine he _ x _ (sG.trans (s4.but _)) hm hp (rx.mono (s4.but _)) (D :: M) H4 (Same.refl _) (hl3.same s4) _ fun v H5 s5 r5 => ?_
      have hD5 : H5 D = some (.lst ys) := s5 _ _ (s4 _ _ (s3 _ _ hD'))
      have hlen := ry.length
      have hle : (((ds.take j).filter p).map f).length ≤ j := by
        rw [List.length_map]
        have := List.length_filter_le p (ds.take j)
        rw [List.length_take] at this
        omega
      refine ⟨ys, hD5, by omega, setset, ?_, ys ++ [v], upd_same, ?_⟩
      · intro b o e
        rw [upd_ne (ne_of_none e hD)]
        exact s5 _ _ (s4 _ _ (s3 _ _ (s2 _ _ e)))
      · rw [but_upd List.mem_cons_self, tk, if_pos hp, List.map_append]
        exact (ry.mono (((s3.trans s4).trans s5).but _)).snoc r5
    · rw [if_neg hp]
      refine ⟨setset, s2.trans (s3.trans s4), ys, s4 _ _ (s3 _ _ hD'), ?_⟩
      rw [tk, if_neg hp, List.append_nil]
      exact ry.mono ((s3.trans s4).but _)
  · have e : j = ds.length := by omega
    subst e
    refine .inl ⟨hstop (D :: M) H' hs, k _ H' (s1.trans s2) (rep_show lf hD' ?_)⟩
    rw [List.take_of_length_le (Nat.le_refl _)] at ry
    exact ry
theorem cut_from {xs : List V} (k : Nat) : cutV xs (some (k : Int)) none = xs.drop k := by
  unfold cutV
  rw [HT.sIx_nat, HT.sIx_none]
  by_cases h : k ≤ xs.length
  · rw [Nat.min_eq_left h, List.take_of_length_le (by simp)]
  · rw [Nat.min_eq_right (by omega), List.drop_of_length_le (Nat.le_refl _), List.drop_of_length_le (by omega), List.take_nil]
theorem cut_to {xs : List V} (k : Nat) : cutV xs none (some (k : Int)) = xs.take k := by
  unfold cutV
  rw [HT.sIx_nat, HT.sIx_none, List.drop_zero, Nat.sub_zero]
  by_cases h : k ≤ xs.length
  · rw [Nat.min_eq_left h]
  · rw [Nat.min_eq_right (by omega), List.take_of_length_le (Nat.le_refl _), List.take_of_length_le (by omega)]
theorem ev_from {k : Nat} {l : List D} (ha : EvM ta G σ (.lst l)) : EvM (tSl (rSlL K) ta (tPart (tC (.int (k : Int)))) tNoPart) G σ (.lst (l.drop k)) :=
  fun M H s lv Q q => ha M H s lv _ fun x H1 s1 rx => ⟨(k : Int), rfl, by
    obtain ⟨a, vs, rfl, h1, h2⟩ := rx.of_lst
    refine ⟨a, vs, rfl, SqL.of (but_some h1).2, fun p hp => ?_⟩
    rw [cut_from]
    exact q _ _ (s1.trans (same_new hp _)) (rep_new_lst (lv.same s1) hp (h2.drop k))⟩
theorem ev_fromT {k : Nat} {l : List D} (hk : 0 < k) (hl : 0 < l.length) (ha : EvM ta G σ (.tup l)) : EvM (tSl (rSlT K) ta (tPart (tC (.int (k : Int)))) tNoPart) G σ (.tup (l.drop k)) :=
  fun M H s lv Q q => ha M H s lv _ fun x H1 s1 rx => ⟨(k : Int), rfl, by
    obtain ⟨a, vs, rfl, h1, h2⟩ := rx.of_tup
    refine ⟨a, vs, rfl, SqT.of (but_some h1).2, ?_, fun p hp => ?_⟩
    · rw [HT.sIx_nat]
      have := h2.length
      omega
    · rw [cut_from]
      exact q _ _ (s1.trans (same_new hp _)) (rep_new_tup (lv.same s1) hp (h2.drop k))⟩
theorem ev_inT {es : List D} (hall : ∀ e ∈ es, cmpb e d = true ∧ e.dep ≤ 40) (ha : EvM ta G σ d) (hb : EvM tb G σ (.tup es)) : EvM (tOp (rInD false) ta tb) G σ (.bl (decide (d ∈ es))) :=
  ev_op2 (fun M H x y l rx ry Q k => ⟨M, d, es, rx, .inr ry, hall, k _ H (Same.refl _) (.bl _)⟩) ha hb
theorem ev_ninL {es : List D} (hall : ∀ e ∈ es, cmpb e d = true ∧ e.dep ≤ 40) (ha : EvM ta G σ d) (hb : EvM tb G σ (.lst es)) : EvM (tOp (rInD true) ta tb) G σ (.bl (!decide (d ∈ es))) :=
  ev_op2 (fun M H x y l rx ry Q k => ⟨M, d, es, rx, .inl ry, hall, k _ H (Same.refl _) (.bl _)⟩) ha hb
end
theorem st_for {wi : TI} {g : TG} {tb : TS} {E : Ends} {σ : St} {H : Hp} {M : List Addr} {ds : List D} (hw : Walk wi (but H M) σ ds) (l : Live M H)
    (k : ∀ H1, Same H H1 → ∃ Pv : Nat → St → Hp → Prop, Pv 0 σ H1 ∧ (∀ j σ' H', Pv j σ' H' → Same (but H1 M) (but H' M) ∧ Live M H') ∧
      (∀ (j : Nat) d x σ' H' H'', ds[j]? = some d → Pv j σ' H' → Same H' H'' → Rep (but H'' M) x d → g x σ' H'' fun σ2 H2 => tb { E with nx := Pv (j + 1), ct := Pv (j + 1), bk := E.nx } σ2 H2) ∧ ∀ σ' H', Pv ds.length σ' H' → E.nx σ' H') :
    tFor wi g tb E σ H := hw M H (Same.refl _) l _ fun J H1 s1 hgo hstop => by
  obtain ⟨Pv, p0, hV, hstep, hend⟩ := k H1 s1
  refine ⟨fun j m σ' H' => m = ds.length - j ∧ j ≤ ds.length ∧ Pv j σ' H', ⟨ds.length, by simp, Nat.zero_le _, p0⟩, ?_⟩
  rintro j m σ' H' ⟨rfl, hj, p⟩
  obtain ⟨hs, hl⟩ := hV j σ' H' p
  by_cases hlt : j < ds.length
  · have hd : ds[j]? = some ds[j] := List.getElem?_eq_getElem hlt
    obtain ⟨go, gy⟩ := hgo j _ M H' hd hs hl
    refine .inr ⟨go, Pv (j + 1), fun σ2 H2 p2 => ⟨ds.length - (j + 1), by omega, rfl, hlt, p2⟩, fun x H'' hy => ?_⟩
    obtain ⟨s3, rx⟩ := gy x H'' hy
    exact hstep j _ x σ' H' H'' hd p s3 rx
  · have e : j = ds.length := by omega
    subst e
    exact .inl ⟨hstop M H' hs, hend σ' H' p⟩
def capsOf (idx : List Nat) (k : Nat) : St → St := fun σ => idx.map (fun j => (σ[j]?).join) ++ List.replicate k none
def capChk (N N' : List Str) (names : List (Str × NameKind)) : List Nat → Nat → Bool
  | [], _ => true
  | j :: r, i => (match N'[i]?, N[j]? with | some x, some y => decide (x = y) && (names.lookup x == some .free) | _, _ => false) && capChk N N' names r (i + 1)
theorem capChk_ok {N N' : List Str} {names : List (Str × NameKind)} : ∀ {idx : List Nat} {i0 : Nat}, capChk N N' names idx i0 = true → ∀ (i j : Nat), idx[i]? = some j → ∃ x, N'[i0 + i]? = some x ∧ N[j]? = some x ∧ names.lookup x = some .free
  | [], _, _, i, j, h => by simp at h
  | q :: r, i0, hc, i, j, h => by
    rw [capChk, Bool.and_eq_true] at hc
    cases i with
    | zero =>
      simp at h; subst h
      have h1 := hc.1
      cases e1 : N'[i0]? with
      | none => rw [e1] at h1; cases h1
      | some x =>
        cases e2 : N[q]? with
        | none => rw [e1, e2] at h1; cases h1
        | some y =>
          rw [e1, e2] at h1
          simp only [Bool.and_eq_true, decide_eq_true_eq, beq_iff_eq] at h1
          obtain ⟨rfl, h2⟩ := h1
          exact ⟨x, by simpa using e1, rfl, h2⟩
    | succ i =>
      obtain ⟨x, h1, h2, h3⟩ := capChk_ok hc.2 i j (by simpa using h)
      exact ⟨x, by rw [← h1]; congr 1; omega, h2, h3⟩
theorem caps_ok {N N' : List Str} {names : List (Str × NameKind)} {idx : List Nat} {k : Nat} (hl : N'.length = idx.length + k) (hc : capChk N N' names idx 0 = true) : ∀ σ : St, σ.length = N.length →
    (capsOf idx k σ).length = N'.length ∧ ∀ (i : Nat) (x : Str) (v : V), N'[i]? = some x → (capsOf idx k σ)[i]? = some (some v) → names.lookup x = some .free ∧ ∃ j : Nat, N[j]? = some x ∧ σ[j]? = some (some v) := by
  intro σ hσ
  refine ⟨by simp [capsOf, hl], fun i x v hx hv => ?_⟩
  unfold capsOf at hv
  by_cases hi : i < idx.length
  · rw [List.getElem?_append_left (by simpa using hi), List.getElem?_map, List.getElem?_eq_getElem hi] at hv
    obtain ⟨y, h1, h2, h3⟩ := capChk_ok hc i idx[i] (List.getElem?_eq_getElem hi)
    rw [Nat.zero_add, hx] at h1
    cases h1
    refine ⟨h3, idx[i], h2, ?_⟩
    simp only [Option.map_some, Option.some.injEq] at hv
    cases e : σ[idx[i]]? with
    | none => rw [e] at hv; cases hv
    | some w => rw [e] at hv; simp at hv; rw [hv]
  · rw [List.getElem?_append_right (by simpa using hi)] at hv
    obtain ⟨h1, h2⟩ := List.getElem?_eq_some_iff.mp hv
    simp at h2
def scopeChk (esc : Scope) (scope : Scope) : Bool :=
  (scope.names.all fun y => decide (y.2 ≠ .cell)) && (scope.names.all fun y => !(y.2 == .local) || (scope.names.lookup y.1 == some .local)) && (scope.names.all fun y => !(y.2 == .free) || (esc.names.lookup y.1 == some .cell) || (esc.names.lookup y.1 == some .free))
theorem scopeChk_ok {esc scope : Scope} (h : scopeChk esc scope = true) : (∀ y ∈ scope.names, y.2 ≠ .cell) ∧ (∀ y ∈ scope.names, y.2 = .local → scope.names.lookup y.1 = some .local) ∧
    ∀ n, (n, NameKind.free) ∈ scope.names → esc.names.lookup n = some .cell ∨ esc.names.lookup n = some .free := by
  rw [scopeChk, Bool.and_eq_true, Bool.and_eq_true, List.all_eq_true, List.all_eq_true, List.all_eq_true] at h
  obtain ⟨⟨h1, h2⟩, h3⟩ := h
  refine ⟨fun y hy => of_decide_eq_true (h1 y hy), fun y hy e => ?_, fun n hn => ?_⟩
  · have := h2 y hy
    rw [e] at this
    simpa using this
  · have := h3 _ hn
    simpa using this
section
variable {X : Cx} {tg iter elt : Expr} {ifs : List Expr} {scope : Scope} {pos : Pos} {wi : TI} {g : TG} {tt : TT} {te : TE}
theorem pe_compC (N' : List Str) (idx : List Nat) (k : Nat) (hi : PI X tg iter wi) (hg : ∀ cl C fp s H, PG (cxComp X N' scope cl C fp s H) tg g) (hts : ∀ cl C fp s H, PTs (cxComp X N' scope cl C fp s H) ifs tt) (hel : ∀ cl C fp s H, PE (cxComp X N' scope cl C fp s H) elt te)
    (hc : X.calm = true := by rfl) (hkind : scope.kind = .function := by rfl) (hck : scopeChk X.env.scope scope = true := by rfl) (hl : N'.length = idx.length + k := by rfl) (hcp : capChk X.N N' scope.names idx 0 = true := by rfl)
    (hs : ∀ x, foldedSetIterable iter X.env x = pure x := by intro _; rfl) : PE X (.ListComp elt [⟨tg, iter, ifs, 0⟩] scope pos) (tComp wi (capsOf idx k) g tt te) :=
  let h := scopeChk_ok hck
  pe_comp hc hkind h.1 h.2.1 h.2.2 (caps_ok hl hcp) hi hg hts hel hs
theorem ps_compC {y : Str} {py spos : Pos} {i : Nat} (N' : List Str) (idx : List Nat) (k : Nat) (hN : X.N.Nodup) (hiN : X.N[i]? = some y) (hy : Loc X.env.scope y) (hi : PI X tg iter wi) (hg : ∀ cl C fp s H, PG (cxComp X N' scope cl C fp s H) tg g) (hts : ∀ cl C fp s H, PTs (cxComp X N' scope cl C fp s H) ifs tt) (hel : ∀ cl C fp s H, PE (cxComp X N' scope cl C fp s H) elt te)
    (hsw : swapsWith (.ListComp elt [⟨tg, iter, ifs, 0⟩] scope pos) (some (.Name y py)) spos.line X.env = pure true := by rfl)
    (hc : X.calm = true := by rfl) (hkind : scope.kind = .function := by rfl) (hck : scopeChk X.env.scope scope = true := by rfl) (hl : N'.length = idx.length + k := by rfl) (hcp : capChk X.N N' scope.names idx 0 = true := by rfl)
    (hs : ∀ x, foldedSetIterable iter X.env x = pure x := by intro _; rfl) (hf : X.fn y = true ∨ X.env.scope.names.lookup y = some .local := by first | exact .inl rfl | exact .inr rfl | assumption) :
    PS X (.Assign [.Name y py] (.ListComp elt [⟨tg, iter, ifs, 0⟩] scope pos) spos) (tAsg (tComp wi (capsOf idx k) g tt te) (gName i)) :=
  let h := scopeChk_ok hck
  ps_comp hsw hN hiN hy hc hkind h.1 h.2.1 h.2.2 (caps_ok hl hcp) hi hg hts hel hs hf
end
end FL

set_option Elab.async false
set_option linter.all false
set_option maxRecDepth 100000
namespace FL
open PySem L2
def D.tyn : D → String
  | .non => "NoneType" | .bl _ => "bool" | .int _ => "int" | .str _ => "str" | .tup _ => "tuple" | .lst _ => "list"
theorem rep_ty {K : PySem.W.Frag} {H : Hp} {M : List Addr} {x : V} {d : D} (r : Rep (but H M) x d) : TyOf K H x (.type d.tyn) := by
  cases r with
  | non => exact .non
  | bl b => exact .bl b
  | int b => exact .int b
  | str b => exact .str b
  | tup h _ => exact .tup (but_some h).2
  | lst h _ => exact .lst (but_some h).2
def rIs (K : PySem.W.Frag) : List V → Hp → VK → Prop := fun xs H Q => ∃ x n t b, xs = [x, .ty n] ∧ TyOf K H x t ∧ PySem.W.kitOne K t (.type n) = some b ∧ Q (.bl b) H
theorem call_isinst {X : Cx} : CallR X (.builtin "isinstance") (rIs X.K) := by
  intro pins s σ H xs us Q I r h
  obtain ⟨x, n, t, b, rfl, ty, e, q⟩ := h
  obtain ⟨u, w, rfl, ru, rw'⟩ := vals2 r
  cases rw'
  exact isinst_ok I ru ty e fun tk => ⟨.bl b, H, I.tok _, rfl, q⟩
theorem kit_indep (K : PySem.W.Frag) (a b : String) : PySem.W.kitOne K (.type a) (.type b) = PySem.W.kitOne [] (.type a) (.type b) := rfl
section
variable {G : Hp} {σ : St} {ta : TE} {d : D} {K : PySem.W.Frag}
theorem ev_isinst {n : String} {b : Bool} (h : EvM ta G σ d) (hk : PySem.W.kitOne [] (.type d.tyn) (.type n) = some b) : EvM (tCB (rIs K) (tCons ta (tCons (tC (.ty n)) tNil))) G σ (.bl b) :=
  fun M H s l Q k => h M H s l _ fun x H1 s1 rx => ⟨x, n, _, b, rfl, rep_ty rx, by rw [kit_indep]; exact hk, k _ H1 s1 (.bl b)⟩
def isI : D → Bool
  | .int _ => true | .bl _ => true | _ => false
def isB : D → Bool
  | .bl _ => true | _ => false
def isS : D → Bool
  | .str _ => true | _ => false
theorem ev_isStr (h : EvM ta G σ d) : EvM (tCB (rIs K) (tCons ta (tCons (tC (.ty "str")) tNil))) G σ (.bl (isS d)) := by
  cases d <;> exact ev_isinst h rfl
end
end FL

set_option Elab.async false
set_option linter.all false
set_option maxRecDepth 100000
namespace FL
open PySem L2
structure Has (P : Program) (w : World) (K : PySem.W.Frag) (mg : Str → Option Value) (base : Heap) (n : Nat) (x : Str) (ps : List Str) (sp : Sp) : Prop where
  ex : ∃ f fd, FnOk P w K mg base CX0 n f fd ps sp ∧ Binds K fd ps [] ∧ PySem.W.keepIn K (.ref f) = true ∧ mg x = some (.ref f)
theorem pe_own {X : Cx} {n : Nat} {x : Str} {ps : List Str} {sp : Sp} {e : Expr} {es : List Expr} {t : TA} {p pos : Pos} {m : Nat} (h : Has X.prog X.w X.K X.mg X.base n x ps sp) (hr : Room m X.A) (ha : PA X (e :: es) t) (hle : n ≤ m := by decide)
    (hg : Gl X x := by rfl) (hdb : (x == ("__debug__" : Str)) = false := by decide) (he : starEach (e :: es) X.env = (false, eval e X.env) :: starEach es X.env := by rfl) (hpl : (backTo pos (starEach es X.env)).any (·.1) = false := by rfl) :
    PE X (.Call (.Name x p) (e :: es) [] pos) (tCall sp [] E0 t) := by
  obtain ⟨f, fd, F, b, k, hm⟩ := h.ex
  exact pe_call (F.mono hle) hr hg hm k b .nil pass0 ha hdb he hpl
structure Bl (mg : Str → Option Value) : Prop where
  len : mg "len" = none
  isinstance : mg "isinstance" = none
  range : mg "range" = none
  int : mg "int" = none
  str : mg "str" = none
  bool : mg "bool" = none
  list : mg "list" = none
  tuple : mg "tuple" = none
  dict : mg "dict" = none
  zip : mg "zip" = none
  enumerate : mg "enumerate" = none
  all : mg "all" = none
  reversed : mg "reversed" = none
section
variable {X : Cx} {e : Expr} {es : List Expr} {t : TA} {te : TE} {tg iter : Expr} {p pos : Pos}
theorem pi_or {wi wj : TI} (h : PI X tg iter wi) (h' : PI X tg iter wj) : PI X tg iter (fun σ H R => wi σ H R ∨ wj σ H R) := by
  intro pins s σ H R I q
  rcases q with q | q
  · exact h pins s σ H R I q
  · exact h' pins s σ H R I q
theorem pi_seq (h : PE X iter te) : PI X tg iter (fun σ H R => iList X.K te σ H R ∨ iTup X.K te σ H R) := pi_or (pi_list h) (pi_tup h)
theorem CallR.or {f : Value} {r r' : List V → Hp → VK → Prop} (h : CallR X f r) (h' : CallR X f r') : CallR X f (fun xs H Q => r xs H Q ∨ r' xs H Q) := by
  intro pins s σ H xs us Q I rv q
  rcases q with q | q
  · exact h pins s σ H xs us Q I rv q
  · exact h' pins s σ H xs us Q I rv q
theorem pe_len (B : Bl X.mg) (h : PE X e te) (hg : Gl X "len" := by rfl) (he : starEach [e] X.env = (false, eval e X.env) :: starEach [] X.env := by rfl) : PE X (.Call (.Name "len" p) [e] [] pos) (tCB (fun xs H Q => ∃ p ys, xs = [.ref p] ∧ (SqL X.K H p ys ∨ SqT X.K H p ys) ∧ Q (.int ys.length) H) (tCons te tNil)) :=
  pe_callB call_len_seq hg B.len PySem.boot_len (pa_cons h pa_nil he) (he := he)
theorem pe_isin {n : String} {x : Str} {p' : Pos} (B : Bl X.mg) (h : PE X e te) (hx : X.mg x = none) (hb : bootBuiltins x = some (.type n)) (hg : Gl X "isinstance" := by rfl) (hg' : Gl X x := by rfl) (hn : x ≠ "__name__" := by decide) (hd : (x == ("__debug__" : Str)) = false := by decide)
    (he : starEach [e, .Name x p'] X.env = (false, eval e X.env) :: starEach [.Name x p'] X.env := by rfl) (he' : starEach [.Name x p'] X.env = (false, eval (.Name x p') X.env) :: starEach [] X.env := by rfl) :
    PE X (.Call (.Name "isinstance" p) [e, .Name x p'] [] pos) (tCB (rIs X.K) (tCons te (tCons (tC (.ty n)) tNil))) :=
  pe_callB call_isinst hg B.isinstance PyProof.Rows.boot_isinstance (pa_cons h (pa_cons (pe_bltn (v := .ty n) hg' hx hb rfl hn hd) pa_nil he') he) (he := he) (hpl := by rw [he']; rfl)
theorem pe_tupleC (B : Bl X.mg) (h : PE X e te) (hg : Gl X "tuple" := by rfl) (he : starEach [e] X.env = (false, eval e X.env) :: starEach [] X.env := by rfl) : PE X (.Call (.Name "tuple" p) [e] [] pos)
    (tCB (fun xs H Q => ∃ p ys, xs = [.ref p] ∧ ((SqL X.K H p ys ∧ ∀ l, H l = none → Q (.ref l) (upd H l (.tup ys))) ∨ (SqT X.K H p ys ∧ Q (.ref p) H))) (tCons te tNil)) :=
  pe_callTy call_tuple_of hg B.tuple PyProof.Rows.boot_tuple (pa_cons h pa_nil he) (he := he)
theorem pe_listC (B : Bl X.mg) (h : PE X e te) (hg : Gl X "list" := by rfl) (he : starEach [e] X.env = (false, eval e X.env) :: starEach [] X.env := by rfl) : PE X (.Call (.Name "list" p) [e] [] pos)
    (tCB (fun xs H Q => ∃ p ys, xs = [.ref p] ∧ (SqL X.K H p ys ∨ SqT X.K H p ys) ∧ ∀ l, H l = none → Q (.ref l) (upd H l (.lst ys))) (tCons te tNil)) :=
  pe_callTy call_list_of hg B.list PyProof.Rows.boot_list (pa_cons h pa_nil he) (he := he)
theorem pe_ixS {a b : Expr} {ta tb : TE} (ha : PE X a ta) (hb : PE X b tb) (hs : PlainIx b := by intro _ _; rfl) : PE X (.Subscript a b pos) (tOp (rIx X.K) ta tb) := pe_ix ix_seq ha hb hs
theorem op_eqA (hu : X.A.units + 50 < cLine) : OpR X (compareOp .Eq) (fun x y H Q => rEqD x y H Q ∨ rEq x y H Q) := (op_eqD hu).or op_eq
theorem op_neA (hu : X.A.units + 50 < cLine) : OpR X (compareOp .NotEq) (fun x y H Q => rNeD x y H Q ∨ rNe x y H Q) := (op_neD hu).or op_ne
theorem ps_append {o : Expr} {to : TE} {apos cpos spos : Pos} (ho : PE X o to) (h : PE X e te) (he : starEach [e] X.env = (false, eval e X.env) :: starEach [] X.env := by rfl) (hbase : attributeBase o "append" X.env (eval o X.env) = eval o X.env := by rfl)
    (hfew : ((backTo cpos (starEach [e] X.env)).all (fun x => !x.1) && (backToKw cpos (keywordEach [] X.env)).all (fun x => x.1.isSome) && decide ([e].length + ([] : List Keyword).length + (if ([] : List Keyword).isEmpty then 0 else 1) < 30)) = true := by rfl)
    (hline : (apos.endLine == cpos.line) = true := by rfl) (hplain : (backTo cpos (starEach [] X.env)).any (·.1) = false := by rfl) (hs : swapsWith (.Call (.Attribute o "append" apos) [e] [] cpos) none spos.line X.env = pure false := by rfl) :
    PS X (.Expr (.Call (.Attribute o "append" apos) [e] [] cpos) spos) (tDrop (tBM X.K "list" rAppend to (tCons te tNil))) :=
  ps_expr (pe_bm PySem.F.plainAttrs_list PySem.F.slot_list_append PySem.F.type_list_append mt_append ho (pa_cons h pa_nil he) hbase hfew hline he hplain) hs
end
section
variable {X : Cx} {N' : List Str} {scope : Scope} {cl : List (Str × Addr)} {C : Addr} {fp : List Addr} {s : Shared} {H : Hp} {e a b : Expr} {te ta tb : TE} {p pos : Pos}
end
section
variable {G : Hp} {σ : St} {ta tb te : TE} {d : D} {ds : List D} {K : PySem.W.Frag}
theorem ev_ix {i : Int} (h : atI ds i = some d) (ha : EvM ta G σ (.lst ds)) (hb : EvM tb G σ (.int i)) : EvM (tOp (rIx K) ta tb) G σ d :=
  fun M H s l Q k => ha M H s l _ fun x H1 s1 rx => hb M H1 (s.trans (s1.but M)) (l.same s1) _ fun y H2 s2 ry => by
    obtain ⟨a, vs, rfl, h1, h2⟩ := (rx.mono (s2.but M)).of_lst
    obtain ⟨v, h3, h4⟩ := atI_rep h2 h
    exact .inl ⟨a, vs, i, v, rfl, ry.of_int, SqL.of (but_some h1).2, h3, k v H2 (s1.trans s2) h4⟩
theorem ev_ixt {i : Int} (h : atI ds i = some d) (ha : EvM ta G σ (.tup ds)) (hb : EvM tb G σ (.int i)) : EvM (tOp (rIx K) ta tb) G σ d :=
  fun M H s l Q k => ha M H s l _ fun x H1 s1 rx => hb M H1 (s.trans (s1.but M)) (l.same s1) _ fun y H2 s2 ry => by
    obtain ⟨a, vs, rfl, h1, h2⟩ := (rx.mono (s2.but M)).of_tup
    obtain ⟨v, h3, h4⟩ := atI_rep h2 h
    exact .inr (.inl ⟨a, vs, i, v, rfl, ry.of_int, SqT.of (but_some h1).2, h3, k v H2 (s1.trans s2) h4⟩)
theorem ev_eqA {d1 d2 : D} (hc : cmpb d1 d2 = true) (hd : d1.dep ≤ 40) (ha : EvM ta G σ d1) (hb : EvM tb G σ d2) : EvM (tOp (fun x y H Q => rEqD x y H Q ∨ rEq x y H Q) ta tb) G σ (.bl (decide (d1 = d2))) :=
  ev_op2 (fun M H x y l rx ry Q k => .inl ⟨d1, d2, ⟨M, rx, ry, hc, hd⟩, k _ H (Same.refl _) (.bl _)⟩) ha hb
theorem ev_neA {d1 d2 : D} (hc : cmpb d1 d2 = true) (hd : d1.dep ≤ 40) (ha : EvM ta G σ d1) (hb : EvM tb G σ d2) : EvM (tOp (fun x y H Q => rNeD x y H Q ∨ rNe x y H Q) ta tb) G σ (.bl (!decide (d1 = d2))) :=
  ev_op2 (fun M H x y l rx ry Q k => .inl ⟨d1, d2, ⟨M, rx, ry, hc, hd⟩, k _ H (Same.refl _) (.bl _)⟩) ha hb
theorem ev_eqI {i j : Int} (ha : EvM ta G σ (.int i)) (hb : EvM tb G σ (.int j)) : EvM (tOp (fun x y H Q => rEqD x y H Q ∨ rEq x y H Q) ta tb) G σ (.bl (decide (i = j))) :=
  (ev_eqA rfl (Nat.zero_le _) ha hb).eq (by simp)
theorem ev_neI {i j : Int} (ha : EvM ta G σ (.int i)) (hb : EvM tb G σ (.int j)) : EvM (tOp (fun x y H Q => rNeD x y H Q ∨ rNe x y H Q) ta tb) G σ (.bl (!decide (i = j))) :=
  (ev_neA rfl (Nat.zero_le _) ha hb).eq (by simp)
theorem walk_seqL (h : EvM te G σ (.lst ds)) : Walk (fun σ H R => iList K te σ H R ∨ iTup K te σ H R) G σ ds := fun M H s l R k => .inl (walk_list h M H s l R k)
theorem walk_seqT (h : EvM te G σ (.tup ds)) : Walk (fun σ H R => iList K te σ H R ∨ iTup K te σ H R) G σ ds := fun M H s l R k => .inr (walk_tup h M H s l R k)
theorem st_append {M : List Addr} {H : Hp} {E : Ends} {i : Nat} {a : Addr} {vs : List V} (l : Live M H) (e : σ[i]? = some (some (.ref a))) (ha : H a = some (.lst vs)) (hz : vs.length < sizeLine) (h : EvM te (but H M) σ d)
    (k : ∀ v H', Same H H' → Rep (but H' M) v d → E.nx σ (upd H' a (.lst (vs ++ [v])))) : tDrop (tBM K "list" rAppend (tVar i) (tCons te tNil)) E σ H :=
  ⟨.ref a, e, (show tyV K "list" (.ref a) H from .inl ⟨rfl, vs, SqL.of ha⟩), h.at l fun v H' s r => ⟨a, vs, v, rfl, rfl, s _ _ ha, hz, k v H' s r⟩⟩
end
theorem atI_of_nat {α : Type} {l : List α} {i : Int} (h0 : 0 ≤ i) {x : α} (h : l[i.toNat]? = some x) : atI l i = some x := by
  have : i = ((i.toNat : Nat) : Int) := by omega
  rw [this]
  exact atI_nat h
end FL

set_option Elab.async false
set_option linter.all false
set_option maxRecDepth 100000
namespace FL
open PySem L2
abbrev Dn := List (Option D)
structure EnvR (G : Hp) (σ : St) (δ : Dn) : Prop where
  len : σ.length = δ.length
  get : ∀ (i : Nat) (d : D), δ[i]? = some (some d) → ∃ v, σ[i]? = some (some v) ∧ Rep G v d
theorem EnvR.mono {G G' : Hp} {σ : St} {δ : Dn} (h : EnvR G σ δ) (e : Same G G') : EnvR G' σ δ := ⟨h.len, fun i d q => let ⟨v, a, b⟩ := h.get i d q; ⟨v, a, b.mono e⟩⟩
theorem EnvR.same {M : List Addr} {H H' : Hp} {σ : St} {δ : Dn} (h : EnvR (but H M) σ δ) (e : Same H H') : EnvR (but H' M) σ δ := h.mono (e.but M)
theorem EnvR.set {G : Hp} {σ : St} {δ : Dn} {v : V} {d : D} (h : EnvR G σ δ) (i : Nat) (r : Rep G v d) : EnvR G (σ.set i (some v)) (δ.set i (some d)) := by
  refine ⟨by simp [h.len], fun j e q => ?_⟩
  have hl := h.len
  by_cases hj : i = j
  · subst hj
    by_cases hi : i < δ.length
    · rw [List.getElem?_set_self hi] at q
      cases q
      exact ⟨v, List.getElem?_set_self (by omega), r⟩
    · rw [List.getElem?_eq_none (by simpa using Nat.le_of_not_lt hi)] at q; cases q
  · rw [List.getElem?_set_ne hj] at q ⊢
    exact h.get j e q
theorem EnvR.off {G : Hp} {σ : St} {δ : Dn} (h : EnvR G σ δ) (i : Nat) (o : Option V) : EnvR G (σ.set i o) (δ.set i none) := by
  refine ⟨by simp [h.len], fun j e q => ?_⟩
  by_cases hj : i = j
  · subst hj
    by_cases hi : i < δ.length
    · rw [List.getElem?_set_self hi] at q; cases q
    · rw [List.getElem?_eq_none (by simpa using Nat.le_of_not_lt hi)] at q; cases q
  · rw [List.getElem?_set_ne hj] at q ⊢
    exact h.get j e q
theorem EnvR.weak {G : Hp} {σ : St} {δ δ' : Dn} (h : EnvR G σ δ) (hl : δ'.length = δ.length) (w : ∀ (i : Nat) (d : D), δ'[i]? = some (some d) → δ[i]? = some (some d)) : EnvR G σ δ' :=
  ⟨h.len.trans hl.symm, fun i d q => h.get i d (w i d q)⟩
section
variable {G : Hp} {σ : St} {δ : Dn} {d : D} {b : Bool} {M : List Addr} {H : Hp} {ta : TE} {tt : TT} {E : Ends}
theorem ev_v {i : Nat} (h : EnvR G σ δ) (e : δ[i]? = some (some d)) : EvM (tVar i) G σ d := let ⟨v, a, r⟩ := h.get i d e; ev_var a r
theorem s_set {i : Nat} (l : Live M H) (hE : EnvR (but H M) σ δ) (h : EvM ta (but H M) σ d) (k : ∀ σ' H', Same H H' → Live M H' → EnvR (but H' M) σ' (δ.set i (some d)) → E.nx σ' H') : tAsg ta (gName i) E σ H :=
  h.at l fun v H' s r => k _ H' s (l.same s) ((hE.same s).set i r)
theorem s_ret (l : Live M H) (h : EvM ta (but H M) σ d) (k : ∀ v H', Same H H' → Rep (but H' M) v d → E.rt v H') : tRet ta E σ H := h.at l k
theorem s_if {ts us : TS} (l : Live M H) (hE : EnvR (but H M) σ δ) (h : EvT tt (but H M) σ b) (k1 : b = true → ∀ H', Same H H' → Live M H' → EnvR (but H' M) σ δ → ts E σ H') (k2 : b = false → ∀ H', Same H H' → Live M H' → EnvR (but H' M) σ δ → us E σ H') : tIfS tt ts us E σ H :=
  st_if l h (fun e H' s => k1 e H' s (l.same s) (hE.same s)) (fun e H' s => k2 e H' s (l.same s) (hE.same s))
end
theorem EnvR.drop {G : Hp} {σ : St} {δ : Dn} (h : EnvR G σ δ) (i : Nat) : EnvR G σ (δ.set i none) :=
  h.weak (by simp) fun j d q => by
    by_cases hj : i = j
    · subst hj
      by_cases hi : i < δ.length
      · rw [List.getElem?_set_self hi] at q; cases q
      · rw [List.getElem?_eq_none (by simpa using Nat.le_of_not_lt hi)] at q; cases q
    · rw [List.getElem?_set_ne hj] at q; exact q
theorem nx {E : Ends} {σ : St} {H : Hp} (h : E.nx σ H) : tNext E σ H := h
theorem s_ifK {δ : Dn} {b : Bool} {M : List Addr} {H : Hp} {tt : TT} {E : Ends} {σ : St} {ts us : TS} (P : St → Hp → Prop) (l : Live M H) (hE : EnvR (but H M) σ δ) (h : EvT tt (but H M) σ b)
    (k1 : (∀ σ H, P σ H → E.nx σ H) → b = true → ∀ H', Same H H' → Live M H' → EnvR (but H' M) σ δ → ts E σ H') (k2 : (∀ σ H, P σ H → E.nx σ H) → b = false → ∀ H', Same H H' → Live M H' → EnvR (but H' M) σ δ → us E σ H') (hk : ∀ σ H, P σ H → E.nx σ H) : tIfS tt ts us E σ H :=
  s_if l hE h (k1 hk) (k2 hk)
theorem env_start {G : Hp} {vs : List V} {ds : List D} (h : Reps G vs ds) (N : List Str) : EnvR G (L2.start N vs) (ds.map some ++ List.replicate (N.length - ds.length) none) := by
  refine ⟨by simp [L2.start, h.length], fun i d q => ?_⟩
  have hl := h.length
  unfold L2.start
  by_cases hi : i < ds.length
  · rw [List.getElem?_append_left (by simpa using hi), List.getElem?_map] at q
    cases e : ds[i]? with
    | none => rw [e] at q; cases q
    | some d' =>
      rw [e] at q
      cases q
      obtain ⟨v, h1, h2⟩ := h.get e
      exact ⟨v, by rw [List.getElem?_append_left (by simpa using (by omega : i < vs.length)), List.getElem?_map, h1]; rfl, h2⟩
  · rw [List.getElem?_append_right (by simpa using Nat.le_of_not_lt hi)] at q
    obtain ⟨h1, h2⟩ := List.getElem?_eq_some_iff.mp q
    simp at h2
theorem hu50 {A : Around} {k : Nat} (hr : Room k A) : A.units + 50 < cLine := by have := hr.units; omega
theorem sc_cmp {a b : D} (ha : a.sc = true) (hb : b.sc = true) : cmpb a b = true ∧ a.dep ≤ 40 := by
  cases a with
  | int i => cases b <;> first | exact ⟨rfl, Nat.zero_le _⟩ | exact absurd hb (by simp [D.sc])
  | str i => cases b <;> first | exact ⟨rfl, Nat.zero_le _⟩ | exact absurd hb (by simp [D.sc])
  | _ => exact absurd ha (by simp [D.sc])
def spLaw (K : PySem.W.Frag) : Sp := fun vs H Q _ => ∃ (a : Addr) (ns : List Int), vs = [.ref a] ∧ SqL K H a (ns.map V.int) ∧ ns.length ≤ 63 ∧ ∀ H', Q (.bl true) H'
theorem cut500 {ns : List Int} (h : ns.length ≤ 63) : cutV (ns.map V.int) none (some 500) = ns.map V.int := by
  have := cut_to (xs := ns.map V.int) 500
  rw [List.take_of_length_le (by simp; omega)] at this
  exact this
theorem env_law {H : Hp} {p : Addr} {ns : List Int} (N : List Str) (a : Addr) (n : Nat) (hN : N.length = n + 1) : EnvR (but (upd H p (.lst (ns.map V.int))) []) ((L2.start N [.ref a]).set 0 (some (.ref p))) (some (.lst (ns.map D.int)) :: List.replicate n none) := by
  have h0 : EnvR (but (upd H p (.lst (ns.map V.int))) []) (L2.start N [.ref a]) (none :: List.replicate n none) := by
    refine ⟨by simp [L2.start, hN], fun i d q => ?_⟩
    obtain ⟨h1, h2⟩ := List.getElem?_eq_some_iff.mp q
    have : (none :: List.replicate n none : Dn) = List.replicate (n + 1) none := rfl
    rw [List.getElem_of_eq this] at h2
    simp at h2
  have r : Rep (but (upd H p (.lst (ns.map V.int))) []) (.ref p) (.lst (ns.map D.int)) := .lst (by rw [but_nil]; exact upd_same) (Reps.ints ns)
  exact h0.set 0 r
def cellD (l : List D) (k : Int) : D := if k < l.length then l.getD k.toNat .non else .int 0
theorem cell_int (ns : List Int) (k : Nat) : cellD (ns.map D.int) k = .int (ns.getD k 0) := by
  unfold cellD
  by_cases h : k < ns.length
  · rw [if_pos (by simpa using h)]
    simp [List.getD, h]
  · rw [if_neg (by simpa using h)]
    have : ns.getD k 0 = 0 := by simp [List.getD, List.getElem?_eq_none (Nat.le_of_not_lt h)]
    rw [this]
end FL

set_option linter.all false
set_option maxRecDepth 100000
namespace PySem
structure Inn (prog : Program) (w : World) (i l : Addr) (St : Nat → Heap → Prop) (item : Nat → Option Value) : Prop where
  here : ∀ k h, St k h → ∃ o vs, h.get? i = some o ∧ o.data = .fields vs
  keep : ∀ k h h', St k h → (∀ o, h.get? i = some o → h'.get? i = some o) → (∀ o, h.get? l = some o → h'.get? l = some o) → St k h'
  one : ∀ (A : Around) (E : Value → Shared → Prop) (k : Nat) (s : Shared) (x : Value) (Q : Value → Shared → Prop), St k s.heap → item k = some x → (∀ h', St (k + 1) h' → Heap.SameBut i s.heap h' → Q x { s with heap := h' }) → wpAny (model prog w) A (Builtin.SmallTypes.nextOf (.ref i)) Q E s
  over : ∀ (A : Around) (E : Value → Shared → Prop) (k : Nat) (s : Shared) (Q : Value → Shared → Prop), A.handled = none → St k s.heap → item k = none → (∀ h' e, Heap.ExtBut i s.heap h' → (∃ o, h'.get? e = some o ∧ o.cls = .type "StopIteration") → E (.ref e) { s with heap := h' }) → wpAny (model prog w) A (Builtin.SmallTypes.nextOf (.ref i)) Q E s
section
variable {prog : Program} {w : World} {A : Around} {E : Value → Shared → Prop} {s : Shared}
variable {z TI TO i1 i2 l1 l2 : Addr} {S1 S2 : Nat → Heap → Prop} {it1 it2 : Nat → Option Value}
structure ZipSt (prog : Program) (w : World) (S1 S2 : Nat → Heap → Prop) (z TI TO i1 i2 l1 l2 : Addr) (f0 : Value) (k : Nat) (h : Heap) : Prop where
  zip : IsZip h z TI TO f0
  ins : IsPair h TI (.ref i1) (.ref i2)
  out : ∃ a b, IsPair h TO a b
  one : S1 k h
  two : S2 k h
theorem ZipSt.keep {f0 : Value} {k : Nat} {h h' : Heap} (I1 : Inn prog w i1 l1 S1 it1) (I2 : Inn prog w i2 l2 S2 it2) (Z : ZipSt prog w S1 S2 z TI TO i1 i2 l1 l2 f0 k h) (kp : ∀ b ∈ [z, TI, TO, i1, i2, l1, l2], ∀ o, h.get? b = some o → h'.get? b = some o) : ZipSt prog w S1 S2 z TI TO i1 i2 l1 l2 f0 k h' :=
  ⟨kp _ (by simp) _ Z.zip, kp _ (by simp) _ Z.ins, let ⟨a, b, e⟩ := Z.out; ⟨a, b, kp _ (by simp) _ e⟩, I1.keep _ _ _ Z.one (fun o e => kp _ (by simp) o e) (fun o e => kp _ (by simp) o e), I2.keep _ _ _ Z.two (fun o e => kp _ (by simp) o e) (fun o e => kp _ (by simp) o e)⟩
end
end PySem

set_option Elab.async false
set_option linter.all false
set_option maxRecDepth 100000
namespace L2
open PySem PySem.Spec PyProof.Rows
section
variable {X : Cx} {pins : List (Addr × Obj)} {σ : St} {H : Hp} {s : Shared}
end
section
variable {X : Cx}
end
end L2
namespace FL
open PySem L2
end FL

set_option Elab.async false
set_option linter.all false
set_option maxRecDepth 100000
namespace L2
open PySem PySem.Spec PyProof.Rows
section
variable {X : Cx}
end
end L2
namespace FL
open PySem L2
end FL

set_option Elab.async false
set_option linter.all false
set_option maxRecDepth 100000
namespace PySem
section
variable {prog : Program} {w : World} {K : Type} [DecidableEq K] {knd : HeapKind prog w K} {A : Around} {E : Value → Shared → Prop} {s : Shared}
end
end PySem
namespace L2
open PySem PySem.Spec PyProof.Rows
section
variable {X : Cx} {pins : List (Addr × Obj)} {σ : St} {H : Hp} {s : Shared} {a : Addr} {y z v : V} {u r : Value} {A : Around} {E : Value → Shared → Prop}
end
end L2

set_option Elab.async false
set_option linter.all false
set_option maxRecDepth 100000
namespace FL
open PySem L2
def spR (R : List D → D → Prop) : Sp := fun vs H Q _ => ∃ M ds d, Live M H ∧ Reps (but H M) vs ds ∧ R ds d ∧ ∀ v H', Same H H' → Rep (but H' M) v d → Q v H'
theorem ev_callR {R : List D → D → Prop} {E : XK} {G : Hp} {σ : St} {t : TA} {ds : List D} {d : D} (hf : R ds d) (h : EvA t G σ ds) : EvM (tCall (spR R) [] E t) G σ d :=
  fun M H s l Q k => h M H s l _ fun vs H1 s1 rs => ⟨M, ds, d, l.same s1, by rw [List.append_nil]; exact rs, hf, fun v H2 s2 r2 => k v H2 (s1.trans s2) r2⟩
theorem spR_len {R : List D → D → Prop} {n : Nat} (hn : ∀ ds d, R ds d → ds.length = n) : ∀ vs H Q E, spR R vs H Q E → vs.length = n := fun vs H Q E ⟨M, ds, d, l, r, e, k⟩ => by rw [r.length]; exact hn ds d e
theorem atI_zero {α : Type} {h : α} {r : List α} : atI (h :: r) 0 = some h := atI_of_nat (by decide) rfl
def whole (d : D) : Bool := isI d && !isB d
def thing (d : D) : Bool := isS d || whole d
def RAt : List D → D → Prop := fun ds d => ∃ l k, ds = [.lst l, .int k] ∧ 0 ≤ k ∧ d = cellD l k
theorem RAt_int (ns : List Int) (k : Nat) : RAt [.lst (ns.map D.int), .int (k : Int)] (.int (ns.getD k 0)) := ⟨_, _, rfl, by omega, (cell_int ns k).symm⟩
theorem at_mod {l : List D} {n : Nat} (x : Int) (hn : 0 < n) (hl : l.length = n) : ∃ d, atI l (x % (n : Int)) = some d ∧ d ∈ l ∧ d = l.getD (x % (n : Int)).toNat .non := by
  have h1 := Int.emod_nonneg x (show (n : Int) ≠ 0 by omega)
  have h2 := Int.emod_lt_of_pos x (show (0 : Int) < n by omega)
  have h3 : (x % (n : Int)).toNat < l.length := by omega
  refine ⟨l[(x % (n : Int)).toNat], atI_of_nat h1 (List.getElem?_eq_getElem h3), List.getElem_mem h3, ?_⟩
  simp [List.getD, List.getElem?_eq_getElem h3]
section
variable {σ : St} {δ : Dn} {d : D} {M : List Addr} {H : Hp} {ta te : TE} {t : TA} {E : Ends} {ds : List D} {K : PySem.W.Frag}
theorem s_setR {i : Nat} (l : Live M H) (hE : EnvR (but H M) σ δ) (h : EvM ta (but H M) σ d) (k : ∀ σ' H', (∀ j : Nat, j ≠ i → σ'[j]? = σ[j]?) → Same H H' → Live M H' → EnvR (but H' M) σ' (δ.set i (some d)) → E.nx σ' H') : tAsg ta (gName i) E σ H :=
  h.at l fun v H' s r => k _ H' (fun j hj => List.getElem?_set_ne (Ne.symm hj)) s (l.same s) ((hE.same s).set i r)
theorem s_new {i : Nat} (l : Live M H) (hE : EnvR (but H M) σ δ) (hi : i < δ.length) (h : EvA t (but H M) σ ds) (hz : ds.length ≤ sizeLine)
    (k : ∀ p vs σ' H', (∀ j : Nat, j ≠ i → σ'[j]? = σ[j]?) → σ'[i]? = some (some (.ref p)) → p ∉ M → H' p = some (.lst vs) → Reps (but H' (p :: M)) vs ds → Live (p :: M) H' → (∀ b o, H b = some o → b ≠ p ∧ H' b = some o) → EnvR (but H' (p :: M)) σ' (δ.set i none) → E.nx σ' H') : tAsg (tLst t) (gName i) E σ H :=
  h M H (Same.refl _) l _ fun vs H1 s1 rs => ⟨by rw [rs.length]; exact hz, fun p hp => by
    have hl := hE.len
    refine k p vs _ _ (fun j hj => List.getElem?_set_ne (Ne.symm hj)) (List.getElem?_set_self (by omega)) ((l.same s1).fresh hp) upd_same (reps_hide hp rs) ((l.same s1).upd.cons upd_same) (fun b o e => ?_) ?_
    · have e1 := s1 b o e
      have nb : b ≠ p := ne_of_none e1 hp
      exact ⟨nb, by rw [upd_ne nb]; exact e1⟩
    · have h2 : EnvR (but (upd H1 p (.lst vs)) (p :: M)) σ δ := ⟨hE.len, fun j d q => let ⟨v, a, b⟩ := (hE.same s1).get j d q; ⟨v, a, rep_hide hp b⟩⟩
      exact h2.off i _⟩
theorem env_show {i : Nat} {a : Addr} {vs : List V} (hM : a ∉ M) (hi : i < δ.length) (e : σ[i]? = some (some (.ref a))) (ha : H a = some (.lst vs)) (r : Reps (but H (a :: M)) vs ds) (hE : EnvR (but H (a :: M)) σ δ) : EnvR (but H M) σ (δ.set i (some (.lst ds))) := by
  have h2 := hE.mono (but_mono (H := H) (M := M) (M' := a :: M) fun b hb => List.mem_cons_of_mem _ hb)
  refine ⟨by simp [hE.len], fun j d q => ?_⟩
  by_cases hj : i = j
  · subst hj
    rw [List.getElem?_set_self hi] at q
    cases q
    exact ⟨_, e, rep_show hM ha r⟩
  · rw [List.getElem?_set_ne hj] at q
    exact h2.get j d q
theorem s_app {i : Nat} {a : Addr} {vs : List V} (l : Live M H) (hE : EnvR (but H M) σ δ) (ha' : a ∈ M) (e : σ[i]? = some (some (.ref a))) (ha : H a = some (.lst vs)) (r : Reps (but H M) vs ds) (hz : ds.length < sizeLine) (h : EvM te (but H M) σ d)
    (k : ∀ v H', (∀ b o, b ≠ a → H b = some o → H' b = some o) → Live M H' → H' a = some (.lst (vs ++ [v])) → Reps (but H' M) (vs ++ [v]) (ds ++ [d]) → EnvR (but H' M) σ δ → E.nx σ H') : tDrop (tBM K "list" rAppend (tVar i) (tCons te tNil)) E σ H :=
  st_append l e ha (by rw [r.length]; exact hz) h fun v H' s rv => by
    have eb : but (upd H' a (.lst (vs ++ [v]))) M = but H' M := but_upd ha'
    refine k v _ (fun b o hb q => by rw [upd_ne hb]; exact s b o q) (l.same s).upd upd_same ?_ ?_
    · rw [eb]; exact (r.mono (s.but M)).snoc rv
    · rw [eb]; exact hE.same s
theorem hide_same {H H' : Hp} {M : List Addr} {a : Addr} (ha : a ∈ M) (k : ∀ b o, b ≠ a → H b = some o → H' b = some o) : Same (but H M) (but H' M) := fun b o e => by
  obtain ⟨h1, h2⟩ := but_some e
  rw [but_out h1]
  exact k b o (fun z => h1 (by rw [z]; exact ha)) h2
end
def D.toV : D → V
  | .int i => .int i
  | .str x => .str x
  | .bl b => .bl b
  | _ => .non
def D.key : D → Key
  | .int i => .inl i
  | .str x => .inr x
  | _ => .inl 0
theorem rep_sc {H : Hp} {v : V} {d : D} (h : d.sc = true) (r : Rep H v d) : v = d.toV ∧ v = kV d.key := by
  cases r with
  | int i => exact ⟨rfl, rfl⟩
  | str x => exact ⟨rfl, rfl⟩
  | _ => exact absurd h (by simp [D.sc])
abbrev Pairs0 := List (Str × D)
def lookD (ps : Pairs0) (x : D) : D := ps.foldl (fun acc p => if D.str p.1 = x then p.2 else acc) x
end FL

set_option Elab.async false
set_option linter.all false
set_option maxRecDepth 100000
namespace FL
open PySem L2
def D.name : D → Str
  | .str s => s
  | _ => Str.empty
def blankD : D → Bool
  | .str s => Txt.isupper ⟨#[s.cps.getD 0 0]⟩
  | _ => false
def hasN (F : Pairs0) (x : D) : Bool := F.any fun p => decide (D.str p.1 = x)
def mStep (F : Pairs0) (x y : D) : Option Pairs0 := if (blankD x && !hasN F x) = true then some (F ++ [(x.name, y)]) else if lookD F x = y then some F else none
def mRun : Pairs0 → List (D × D) → Option Pairs0
  | F, [] => some F
  | F, p :: r => (mStep F p.1 p.2).bind fun F' => mRun F' r
def clash (all : Pairs0) (p : Str × D) : Bool := all.any fun q => decide (q.1 = p.1) && !decide (q.2 = p.2)
def dRun (all : Pairs0) : Pairs0 → Pairs0 → Option Pairs0
  | due, [] => some due
  | due, p :: r => if clash all p = true then none else dRun all (if p ∈ due then due else due ++ [p]) r
structure Ded (P F : Pairs0) : Prop where
  mem : ∀ p, p ∈ F ↔ p ∈ P
  run : ∀ (all : Pairs0), (∀ p ∈ P, clash all p = false) → ∀ r, dRun all [] (P ++ r) = dRun all F r
theorem Ded.nil : Ded [] [] := ⟨fun p => Iff.rfl, fun all _ r => rfl⟩
theorem Ded.snoc {P F : Pairs0} (h : Ded P F) (p : Str × D) : Ded (P ++ [p]) (if p ∈ F then F else F ++ [p]) := by
  refine ⟨fun q => ?_, fun all hc r => ?_⟩
  · by_cases hp : p ∈ F
    · rw [if_pos hp, List.mem_append, ← h.mem]
      constructor
      · exact .inl
      · rintro (z | z)
        · exact z
        · rw [List.mem_singleton.mp z]; exact hp
    · rw [if_neg hp, List.mem_append, List.mem_append, h.mem]
  · rw [List.append_assoc, h.run all (fun q hq => hc q (List.mem_append_left _ hq))]
    show (if clash all p = true then none else dRun all (if p ∈ F then F else F ++ [p]) r) = _
    rw [hc p (List.mem_append_right _ (List.mem_singleton.mpr rfl)), if_neg Bool.false_ne_true]
end FL

set_option Elab.async false
set_option linter.all false
set_option maxRecDepth 100000
namespace FL
open PySem L2
section
variable {X : Cx} {a : Expr} {ta : TE} {apos cpos : Pos}
def rUp : V → List V → Hp → VK → Prop := fun x xs H Q => ∃ z, x = .str z ∧ xs = [] ∧ Q (.bl (Txt.isupper z)) H
theorem mt_isupper : MtR X "str.isupper" rUp := by
  intro pins s σ H x xs v us Q I rx rv h
  obtain ⟨z, rfl, rfl, q⟩ := h
  obtain ⟨t, rfl⟩ := rx
  cases rv
  exact SC.isupper ⟨.bl _, H, I, rfl, q⟩
theorem pe_upper (h : PE X a ta) (hbase : attributeBase a "isupper" X.env (eval a X.env) = eval a X.env := by rfl) (hline : (apos.endLine == cpos.line) = true := by rfl) : PE X (.Call (.Attribute a "isupper" apos) [] [] cpos) (tBM0 X.K "str" rUp ta) :=
  pe_bm0 PySem.F.plainAttrs_str PySem.F.slot_str_isupper PySem.F.type_str_isupper mt_isupper h hbase hline
end
section
variable {G : Hp} {σ : St} {ta tb te : TE} {d : D} {K : PySem.W.Frag}
theorem ev_upper {x : Str} (h : EvM ta G σ (.str x)) : EvM (tBM0 K "str" rUp ta) G σ (.bl (Txt.isupper x)) :=
  fun M H s l Q k => h M H s l _ fun v H1 s1 r1 => by
    rw [r1.of_str]
    exact ⟨rfl, x, rfl, rfl, k _ H1 s1 (.bl _)⟩
theorem ev_ixs {x : Str} {i : Int} {c : Nat} (hz : x.length ≤ sizeLine) (hc : atI x.cps.toList i = some c) (ha : EvM ta G σ (.str x)) (hb : EvM tb G σ (.int i)) : EvM (tOp (rIx K) ta tb) G σ (.str ⟨#[c]⟩) :=
  ev_op2 (fun M H v y l rv ry Q k => .inr (.inr ⟨x, i, c, rv.of_str, ry.of_int, hz, hc, k _ H (Same.refl _) (.str _)⟩)) ha hb
theorem ev_isN (h : EvM ta G σ d) (hd : ∀ (H : Hp) v, Rep H v d → decide (v = .non) = decide (d = .non)) : EvM (tOp (fun x y H Q => y = .non ∧ Q (.bl (decide (x = .non))) H) ta (tC .non)) G σ (.bl (decide (d = .non))) :=
  fun M H s l Q k => h M H s l _ fun v H1 s1 r1 => ⟨rfl, by rw [hd _ v r1]; exact k _ H1 s1 (.bl _)⟩
end
def TV (tt : TT) (σ : St) (H : Hp) (b : Bool) : Prop := ∀ H1, Same H H1 → ∀ Q : Bool → Hp → Prop, (∀ H', Same H1 H' → Q b H') → tt σ H1 Q
section
variable {σ : St} {δ : Dn} {M : List Addr} {H : Hp} {tt tu : TT} {ta ty te : TE} {E : Ends} {b c : Bool} {d : D} {K : PySem.W.Frag}
theorem TV.of (l : Live M H) (h : EvT tt (but H M) σ b) : TV tt σ H b := fun H1 s1 Q k => h M H1 (s1.but M) (l.same s1) Q k
theorem s_ifV {ts us : TS} (l : Live M H) (hE : EnvR (but H M) σ δ) (h : TV tt σ H b) (k1 : b = true → ∀ H', Same H H' → Live M H' → EnvR (but H' M) σ δ → ts E σ H') (k2 : b = false → ∀ H', Same H H' → Live M H' → EnvR (but H' M) σ δ → us E σ H') : tIfS tt ts us E σ H :=
  h H (Same.refl _) _ fun H' s => by
    cases b with
    | true => rw [if_pos rfl]; exact k1 rfl H' s (l.same s) (hE.same s)
    | false => rw [if_neg Bool.false_ne_true]; exact k2 rfl H' s (l.same s) (hE.same s)
end
end FL

set_option Elab.async false
set_option linter.all false
set_option maxRecDepth 100000
namespace FL
open PySem L2
theorem same_keep {H0 H H' : Hp} {a : Addr} (s : Same H0 H) (h : H0 a = none) (k : ∀ b o, b ≠ a → H b = some o → H' b = some o) : Same H0 H' := fun b o e => k b o (fun z => by rw [z, h] at e; cases e) (s b o e)
theorem none_of {H0 H : Hp} {p : Addr} {H' : Hp} (s : Same H0 H) (k : ∀ b o, H b = some o → b ≠ p ∧ H' b = some o) : H0 p = none := by
  cases e : H0 p with
  | none => rfl
  | some o => exact absurd rfl (k p o (s p o e)).1
section
variable {σ : St} {δ : Dn} {M : List Addr} {H : Hp} {tt tu : TT} {ta ty tz te : TE} {E : Ends} {b c : Bool} {d : D} {ds : List D} {K : PySem.W.Frag}
theorem env_hide {i : Nat} {p : Addr} {o : HO} (hE : EnvR (but H M) σ δ) (hp : H p = none) : EnvR (but (upd H p o) (p :: M)) (σ.set i (some (.ref p))) (δ.set i none) := by
  have h2 : EnvR (but (upd H p o) (p :: M)) σ δ := ⟨hE.len, fun j d q => let ⟨v, a, b⟩ := hE.get j d q; ⟨v, a, rep_hide hp b⟩⟩
  exact h2.off i _
end
end FL

set_option Elab.async false
set_option linter.all false
set_option maxRecDepth 100000
namespace L2
open PySem PySem.Spec PyProof.Rows
section
variable {X : Cx}
theorem kV_of {P : Program} {w : World} {k : Key} {u : Value} (h : (mixKind P w).is k u = true) : RelV (kV k) u := by
  rw [mixKind_is] at h
  rcases keyIs_shape h with ⟨i, t, rfl, rfl⟩ | ⟨x, t, rfl, rfl⟩
  · exact ⟨t, rfl⟩
  · exact ⟨t, rfl⟩
theorem call_list_dict (hc : X.calm = true) : CallR X (.type "list") (fun xs H Q => ∃ a kvs, xs = [.ref a] ∧ Rd H a (.dK kvs) ∧ ∀ l, H l = none → Q (.ref l) (upd H l (.lst (kvs.map fun kv => kV kv.1)))) := by
  intro pins s σ H xs us Q I r h
  obtain ⟨a, kvs, rfl, e, q⟩ := h
  obtain ⟨u, rfl, rx⟩ := vals1 r
  cases rx
  obtain ⟨z, hd, vs, rel, dd⟩ := dk_rd I.hok e
  obtain ⟨ep, hat⟩ := dd.dictAt
  have hl := rel.length
  refine PySem.W.kdl_call (PySem.W.kdl_dict (knd := mixKind X.prog X.w) (kvs := vs) (ep := ep) hd) (I.ok.hd hc) hat (by rw [← hl]; exact z) fun h' tk acc' c' hk hS hacc => ?_
  have rv : Vals (kvs.map fun kv => kV kv.1) acc'.toList := by
    have key : ∀ (ks : List (Key × V)) (ws : List (Key × Value)) (as : List Value), KV ks ws → as.length = ws.length → (∀ (j : Nat) v, as[j]? = some v → ∃ k x, ws[j]? = some (k, x) ∧ (mixKind X.prog X.w).is k v = true) → Vals (ks.map fun kv => kV kv.1) as := by
      intro ks ws as rk
      induction rk generalizing as with
      | nil => intro hl _; cases as with
        | nil => exact .nil
        | cons _ _ => cases hl
      | @cons p q ps qs hpq t ih =>
        intro hl hv
        cases as with
        | nil => cases hl
        | cons v as =>
          obtain ⟨k, x, h1, h2⟩ := hv 0 v rfl
          have h1 : q = (k, x) := Option.some.inj h1
          refine .cons ?_ (ih as (Nat.succ.inj hl) fun j u hu => hv (j + 1) u hu)
          have e1 : p.1 = k := by rw [hpq.1, h1]
          show RelV (kV p.1) v
          rw [e1]
          exact kV_of h2
    exact key kvs vs acc'.toList rel (by rw [Array.length_toList]; exact hacc.1) fun j v hv => hacc.2 j v (by rw [← Array.getElem?_toList]; exact hv)
  exact ⟨.ref s.heap.objs.size, _, I.laid (t' := tk) hk (Nat.le_refl _) (show ObjOk X.prog X.w _ h' _ (.lst (kvs.map fun kv => kV kv.1)) from ⟨by rw [List.length_map]; exact z, acc'.toList, c', rv, by rw [Array.toArray_toList]; exact hS⟩), rfl, q _ (I.hok.fresh (Nat.le_refl _))⟩
end
end L2

set_option Elab.async false
set_option linter.all false
set_option maxRecDepth 100000
namespace L2
open PySem PySem.Spec PyProof.Rows
section
variable {X : Cx}
end
end L2
namespace FL
open PySem L2
section
variable {G : Hp} {σ : St} {ta tb : TE} {K : PySem.W.Frag} {xs ys : List D}
theorem ev_catL (hz : xs.length + ys.length ≤ 1000) (ha : EvM ta G σ (.lst xs)) (hb : EvM tb G σ (.lst ys)) : EvM (tOp rCat ta tb) G σ (.lst (xs ++ ys)) :=
  ev_op2 (fun M H v y l rv ry Q k => by
    obtain ⟨a, vs, rfl, h1, h2⟩ := rv.of_lst
    obtain ⟨b, ws, rfl, h3, h4⟩ := ry.of_lst
    have l1 := h2.length
    have l2 := h4.length
    exact ⟨a, b, vs, ws, rfl, rfl, (but_some h1).2, (but_some h3).2, Nat.le_of_lt (small1000 (by omega)), fun p hp => k _ _ (same_new hp _) (rep_new_lst l hp (h2.append h4))⟩) ha hb
end
section
variable {X : Cx} {N' : List Str} {scope : Scope} {cl : List (Str × Addr)} {C : Addr} {fp : List Addr} {s : Shared} {H : Hp}
theorem pe_ownc {n : Nat} {x : Str} {ps : List Str} {sp : Sp} {e : Expr} {es : List Expr} {t : TA} {p pos : Pos} {m : Nat} (h : Has X.prog X.w X.K X.mg X.base n x ps sp) (hr : Room m X.A) (ha : PA (cxComp X N' scope cl C fp s H) (e :: es) t) (hle : n ≤ m := by decide)
    (hg : Gl (cxComp X N' scope cl C fp s H) x := by rfl) (hdb : (x == ("__debug__" : Str)) = false := by decide) (he : starEach (e :: es) (cxComp X N' scope cl C fp s H).env = (false, eval e (cxComp X N' scope cl C fp s H).env) :: starEach es (cxComp X N' scope cl C fp s H).env := by rfl) (hpl : (backTo pos (starEach es (cxComp X N' scope cl C fp s H).env)).any (·.1) = false := by rfl) :
    PE (cxComp X N' scope cl C fp s H) (.Call (.Name x p) (e :: es) [] pos) (tCall sp [] E0 t) := pe_own (X := cxComp X N' scope cl C fp s H) h hr ha hle hg hdb he hpl
end
structure HasM (P : Program) (w : World) (K : PySem.W.Frag) (mg : Str → Option Value) (base : Heap) (n : Nat) (C : Addr) (m : Str) (ps : List Str) (sp : Sp) : Prop where
  ex : ∃ f fd, FnOk P w K mg base CX0 n f fd ps sp ∧ Binds K fd ps [] ∧ Meth K C m f
structure HasC (P : Program) (w : World) (K : PySem.W.Frag) (mg : Str → Option Value) (base : Heap) (n : Nat) (C : Addr) (x : Str) (ps : List Str) (sp : Sp) : Prop where
  ex : ∃ f fd, FnOk P w K mg base CX0 n f fd ps sp ∧ Binds K fd ps [] ∧ Mk K C f ∧ mg x = some (.ref C)
section
variable {X : Cx} {C : Addr}
end
section
variable {X : Cx} {e : Expr} {te : TE} {p pos : Pos}
theorem pe_listD (B : Bl X.mg) (h : PE X e te) (hc : X.calm = true := by rfl) (hg : Gl X "list" := by rfl) (he : starEach [e] X.env = (false, eval e X.env) :: starEach [] X.env := by rfl) : PE X (.Call (.Name "list" p) [e] [] pos)
    (tCB (fun xs H Q => ∃ a kvs, xs = [.ref a] ∧ Rd H a (.dK kvs) ∧ ∀ l, H l = none → Q (.ref l) (upd H l (.lst (kvs.map fun kv => kV kv.1)))) (tCons te tNil)) :=
  pe_callTy (call_list_dict hc) hg B.list PyProof.Rows.boot_list (pa_cons h pa_nil he) (he := he)
end
section
variable {G : Hp} {σ : St} {ta : TE} {t : TA} {K : PySem.W.Frag}
end
end FL

set_option Elab.async false
set_option linter.all false
set_option maxRecDepth 100000
namespace PySem
section
variable {prog : Program} {w : World} {K : Type} [DecidableEq K] {knd : HeapKind prog w K} {A : Around} {E : Value → Shared → Prop} {s : Shared}
end
end PySem
namespace L2
open PySem PySem.Spec PyProof.Rows
section
variable {X : Cx}
end
end L2
namespace FL
open PySem L2
section
variable {X : Cx} {e : Expr} {te : TE} {p pos : Pos}
end
section
variable {X : Cx} {N' : List Str} {scope : Scope} {cl : List (Str × Addr)} {C : Addr} {fp : List Addr} {s : Shared} {H : Hp} {e : Expr} {te : TE} {p pos : Pos}
end
end FL
namespace FL
open PySem L2
section
variable {X : Cx} {N' : List Str} {scope : Scope} {cl : List (Str × Addr)} {C : Addr} {fp : List Addr} {s : Shared} {H : Hp} {e : Expr} {te : TE} {p pos : Pos} {f : Str}
end
end FL

set_option Elab.async false
set_option linter.all false
set_option maxRecDepth 100000
namespace FL
open PySem L2
def addB (B : List Str) (x : D) : List Str := if (blankD x && !decide (x.name ∈ B)) = true then B ++ [x.name] else B
def blanksOf (B : List Str) (l : List D) : List Str := l.foldl addB B
theorem blank_str {x : D} (h : blankD x = true) : x = .str x.name := by
  cases x with
  | str s => rfl
  | _ => cases h
theorem addB_sub {B : List Str} {x : D} {b : Str} (h : b ∈ B) : b ∈ addB B x := by
  unfold addB
  by_cases e : (blankD x && !decide (x.name ∈ B)) = true
  · rw [if_pos e]; exact List.mem_append_left _ h
  · rw [if_neg e]; exact h
theorem addB_mem {B : List Str} {x : D} (h : blankD x = true) : x.name ∈ addB B x := by
  unfold addB
  by_cases e : x.name ∈ B
  · rw [if_neg (by simp [e])]; exact e
  · rw [if_pos (by simp [e, h])]; exact List.mem_append_right _ (List.mem_singleton.mpr rfl)
theorem blanksOf_sub {l : List D} : ∀ {B : List Str} {b : Str}, b ∈ B → b ∈ blanksOf B l := by
  induction l with
  | nil => exact fun h => h
  | cons x r ih => exact fun h => ih (addB_sub h)
theorem blanksOf_mem {l : List D} {x : D} (hx : x ∈ l) (h : blankD x = true) : ∀ {B : List Str}, x.name ∈ blanksOf B l := by
  induction l with
  | nil => cases hx
  | cons y r ih =>
    intro B
    rcases List.mem_cons.mp hx with rfl | hx
    · exact blanksOf_sub (l := r) (B := addB B x) (addB_mem h)
    · exact ih hx
def matchO (A f : List D) (S : Pairs0) : Option Pairs0 := if A.headD .non = f.headD .non ∧ A.length = f.length then mRun S (A.zip f) else none
end FL

set_option Elab.async false
set_option linter.all false
set_option maxRecDepth 100000
namespace FL
open PySem L2
abbrev Way := Pairs0 × List Nat
def ext (facts : List (List D)) (a : List D) (w : Way) : List Way := facts.zipIdx.filterMap fun p => (matchO a p.1 w.1).map fun S => (S, w.2 ++ [p.2])
end FL

set_option Elab.async false
set_option linter.all false
set_option maxRecDepth 100000
namespace FL
open PySem L2
structure StepD where
  atom : List D
  ok : Pairs0 → Bool
end FL

set_option Elab.async false
set_option linter.all false
set_option maxRecDepth 100000
namespace FL
open PySem L2
def okS : D → Prop
  | .str s => s.length ≤ sizeLine ∧ ∃ c r, s.cps.toList = c :: r
  | _ => True
def RBlank : List D → D → Prop := fun ds d => ∃ x, ds = [x] ∧ okS x ∧ d = .bl (blankD x)
theorem blank_first {s : Str} {c : Nat} {r : List Nat} (h : s.cps.toList = c :: r) : s.cps.getD 0 0 = c := by
  have : s.cps.getD 0 0 = s.cps.toList.getD 0 0 := by simp
  rw [this, h]; rfl
structure OkA (A : List D) : Prop where
  sc : ∀ x ∈ A, x.sc = true ∧ okS x
  ne : A ≠ []
  len : A.length ≤ 100
def guardD (A : List D) : Bool := decide (A.headD .non = .str "less") || decide (A.headD .non = .str "unlike")
def RGuard : List D → D → Prop := fun ds d => ∃ A, ds = [.tup A] ∧ OkA A ∧ d = .bl (guardD A)
def blanksD (B : List Str) : D := .lst (B.map D.str)
def RBlanksIn : List D → D → Prop := fun ds d => ∃ A, ds = [.tup A] ∧ OkA A ∧ d = blanksD (blanksOf [] A)
def bodyD (as : List (List D)) : D := .tup (as.map D.tup)
def atomsL (as : List (List D)) : D := .lst (as.map D.tup)
def RAskers : List D → D → Prop := fun ds d => ∃ as, ds = [bodyD as] ∧ (∀ a ∈ as, OkA a) ∧ as.length ≤ 100 ∧ d = atomsL (as.filter fun a => !guardD a)
def RGuards : List D → D → Prop := fun ds d => ∃ as, ds = [bodyD as] ∧ (∀ a ∈ as, OkA a) ∧ as.length ≤ 100 ∧ d = atomsL (as.filter guardD)
def namesK (B : List Str) : List (Key × V) := B.map fun b => (Sum.inr b, V.bl true)
theorem put_names (B : List Str) (n : Str) : putK (namesK B) (Sum.inr n) (V.bl true) = namesK (if n ∈ B then B else B ++ [n]) := by
  have key : ∀ B : List Str, ((namesK B).any fun kv => decide (kv.1 = (Sum.inr n : Key))) = decide (n ∈ B) := by
    intro B
    induction B with
    | nil => rfl
    | cons b r ih =>
      show (decide ((Sum.inr b : Key) = Sum.inr n) || (namesK r).any fun kv => decide (kv.1 = (Sum.inr n : Key))) = _
      rw [ih]
      have : decide ((Sum.inr b : Key) = Sum.inr n) = decide (b = n) := by simp
      rw [this]
      by_cases e : b = n
      · simp [e]
      · have e' : ¬ n = b := fun z => e z.symm
        simp [e, e']
  unfold putK
  rw [key B]
  by_cases e : n ∈ B
  · rw [decide_eq_true e, if_pos rfl, if_pos e]
    unfold namesK
    rw [List.map_map]
    refine List.map_congr_left fun b _ => ?_
    show (if (Sum.inr b : Key) = Sum.inr n then ((Sum.inr b : Key), V.bl true) else (Sum.inr b, V.bl true)) = (Sum.inr b, V.bl true)
    split <;> rfl
  · rw [decide_eq_false e, if_neg Bool.false_ne_true, if_neg e]
    unfold namesK
    rw [List.map_append]
    rfl
theorem addB_blank {B : List Str} {x : D} (h : blankD x = true) : addB B x = if x.name ∈ B then B else B ++ [x.name] := by
  unfold addB
  by_cases e : x.name ∈ B
  · rw [if_neg (by simp [e]), if_pos e]
  · rw [if_pos (by simp [e, h]), if_neg e]
theorem addB_non {B : List Str} {x : D} (h : blankD x = false) : addB B x = B := by unfold addB; rw [if_neg (by simp [h])]
theorem blanksOf_take {l : List D} {j : Nat} {x : D} (h : l[j]? = some x) : blanksOf [] (l.take (j + 1)) = addB (blanksOf [] (l.take j)) x := by
  unfold blanksOf
  rw [List.take_add_one, h, List.foldl_append]
  rfl
theorem blanksOf_le (l : List D) : ∀ B : List Str, (blanksOf B l).length ≤ B.length + l.length := by
  induction l with
  | nil => intro B; exact Nat.le_refl _
  | cons x r ih =>
    intro B
    have h1 := ih (addB B x)
    have h2 : (addB B x).length ≤ B.length + 1 := by
      unfold addB
      split
      · rw [List.length_append]; exact Nat.le_refl _
      · omega
    show (blanksOf (addB B x) r).length ≤ _
    rw [List.length_cons]
    omega
section
variable {σ : St} {δ : Dn} {M : List Addr} {H : Hp} {ty tz : TE} {E : Ends} {K : PySem.W.Frag}
theorem s_newD {i : Nat} (l : Live M H) (hE : EnvR (but H M) σ δ) (hi : i < δ.length)
    (q : ∀ p σ' H', (∀ j : Nat, j ≠ i → σ'[j]? = σ[j]?) → σ'[i]? = some (some (.ref p)) → p ∉ M → H' p = some (.dK []) → Live (p :: M) H' → (∀ b o, H b = some o → b ≠ p ∧ H' b = some o) → EnvR (but H' (p :: M)) σ' (δ.set i none) → E.nx σ' H') : tAsg tDNewK (gName i) E σ H := fun p hp => by
  have hl := hE.len
  refine q p _ _ (fun j hj => List.getElem?_set_ne (Ne.symm hj)) (List.getElem?_set_self (by omega)) (l.fresh hp) upd_same (l.upd.cons upd_same) (fun b o e => ?_) (env_hide hE hp)
  have nb : b ≠ p := ne_of_none e hp
  exact ⟨nb, by rw [upd_ne nb]; exact e⟩
theorem s_putN {i : Nat} {p : Addr} {B : List Str} {n : Str} (l : Live M H) (hE : EnvR (but H M) σ δ) (hpM : p ∈ M) (e : σ[i]? = some (some (.ref p))) (hp : H p = some (.dK (namesK B))) (hz : B.length < 1000) (h : EvM ty (but H M) σ (.str n)) (h2 : EvM tz (but H M) σ (.bl true))
    (k : ∀ H', (∀ b o, b ≠ p → H b = some o → H' b = some o) → Live M H' → H' p = some (.dK (namesK (if n ∈ B then B else B ++ [n]))) → EnvR (but H' M) σ δ → E.nx σ H') : sDPut (tVar i) ty tz E σ H := by
  refine h2 M H (Same.refl _) l _ fun v H1 s1 rv => ⟨.ref p, e, h M H1 (s1.but M) (l.same s1) _ fun u H2 s2 ru => ?_⟩
  have hp2 := s2 _ _ (s1 _ _ hp)
  have eu := (rep_sc (d := .str n) rfl ru).2
  have ev := rv.of_bl
  have hlen : (namesK B).length < sizeLine := by unfold namesK; rw [List.length_map]; exact small1000 (by omega)
  refine ⟨p, _, rfl, by rw [eu]; exact DPut.k (k := Sum.inr n) hp2 hlen, ?_⟩
  have eb : but (upd H2 p (.dK (putK (namesK B) (Sum.inr n) v))) M = but H2 M := but_upd hpM
  refine k _ (fun b o hb q => by rw [upd_ne hb]; exact s2 _ _ (s1 _ _ q)) (l.same (s1.trans s2)).upd ?_ ?_
  · rw [upd_same, ev, put_names]
  · rw [eb]; exact hE.same (s1.trans s2)
end
theorem reps_strs {H : Hp} : ∀ (B : List Str), Reps H (B.map V.str) (B.map D.str)
  | [] => .nil
  | b :: r => .cons (.str b) (reps_strs r)
end FL

set_option Elab.async false
set_option linter.all false
set_option maxRecDepth 100000
namespace FL
open PySem PySem.StrLaws PySem.Builtin PySem.Builtin.Str
abbrev L := List Nat
def S (l : L) : Str := ⟨l.toArray⟩
def sp : Nat → L → Bool
  | _, [] => true
  | p, c :: r => (c != 32 || p == 44) && sp c r
end FL

set_option Elab.async false
set_option linter.all false
set_option maxRecDepth 100000
namespace L2
open PySem PySem.Spec PyProof.Rows PySem.Builtin PySem.Builtin.Str
section
variable {X : Cx}
end
section
variable {X : Cx} {e e1 e2 : Expr} {es : List Expr} {te : TE} {t : Str → TE} {pos : Pos}
def PJ (X : Cx) (es : List Expr) (t : Str → TE) : Prop :=
  ∀ (acc : Str) (pins : List (Addr × Obj)) (s : Shared) (σ : St) (H : Hp) (Q : VK), Inv X pins σ H s → t acc σ H Q → wpAny (model X.prog X.w) X.A (joinParts acc (evalEach es X.env)) (EP X pins σ Q) X.xe s
def tJ0 : Str → TE := fun acc _ H Q => acc.length ≤ sizeLine ∧ Q (.str acc) H
def tJ1 (te : TE) (t : Str → TE) : Str → TE := fun acc σ H Q => te σ H fun x H1 => ∃ y, x = .str y ∧ (acc ++ y).length ≤ sizeLine ∧ t (acc ++ y) σ H1 Q
theorem pj_nil : PJ X [] tJ0 := fun acc pins s σ H Q I h => joinParts_nilE (joinParts_nil ⟨.str acc, H, I.tok _, ⟨_, rfl⟩, h.2⟩ h.1)
theorem pj_cons (he : PE X e te) (hr : PJ X es t) : PJ X (e :: es) (tJ1 te t) := fun acc pins s σ H Q I h => by
  refine joinParts_consE (joinParts_cons (thn (he pins s σ H _ I h) fun v s1 ⟨x, H1, I1, r1, y, ey, hz, q⟩ => ?_))
  subst ey
  obtain ⟨tk, rfl⟩ := r1
  exact ⟨hz, hr (acc ++ y) pins s1 σ H1 Q I1 q⟩
theorem pe_fstr (h : PJ X (e1 :: e2 :: es) t) : PE X (.JoinedStr (e1 :: e2 :: es) pos) (t Str.empty) := fun pins s σ H Q I hq => JoinedStr_many (h Str.empty pins s σ H Q I hq)
def tFmt (te : TE) : TE := fun σ H Q => te σ H fun x H1 => ∃ y, x = .str y ∧ y.length ≤ sizeLine ∧ Q (.str y) H1
theorem pe_fmt (h : PE X e te) : PE X (.FormattedValue e (-1) none pos) (tFmt te) := fun pins s σ H Q I hq => by
  refine FormattedValue_plain (thn (h pins s σ H _ I hq) fun v s1 ⟨x, H1, I1, r1, y, ey, hz, q⟩ => ?_)
  subst ey
  obtain ⟨tk, rfl⟩ := r1
  exact formatField_str (fun t' k => ⟨.str y, H1, I1.kept (t' := k) fun b o e => e, ⟨_, rfl⟩, q⟩) hz
end
section
variable {X : Cx} {tg : Expr}
end
end L2
namespace FL
open PySem L2
section
variable {G : Hp} {σ : St} {ta tb te : TE} {t : TA} {d : D} {ds : List D} {K : PySem.W.Frag}
def EvJ (t : Str → TE) (G : Hp) (σ : St) (zs : List Str) : Prop := ∀ acc : Str, (zs.foldl (fun n z => n + z.length) acc.length) ≤ sizeLine → EvM (t acc) G σ (.str (zs.foldl (· ++ ·) acc))
theorem foldl_le (zs : List Str) : ∀ n : Nat, n ≤ zs.foldl (fun n z => n + z.length) n := by
  induction zs with
  | nil => intro n; exact Nat.le_refl _
  | cons z r ih => intro n; exact Nat.le_trans (Nat.le_add_right _ _) (ih _)
theorem app_len (a b : Str) : (a ++ b).length = a.length + b.length := by
  show (a.cps ++ b.cps).size = _
  rw [Array.size_append]; rfl
theorem ev_j0 : EvJ tJ0 G σ [] := fun acc hz M H s l Q k => ⟨hz, k _ H (Same.refl _) (.str _)⟩
theorem ev_j1 {z : Str} {zs : List Str} {tr : Str → TE} (ha : EvM ta G σ (.str z)) (hr : EvJ tr G σ zs) : EvJ (tJ1 ta tr) G σ (z :: zs) := fun acc hz M H s l Q k =>
  ha M H s l _ fun x H1 s1 rx => ⟨z, rx.of_str, by
    have := foldl_le zs (acc.length + z.length)
    rw [app_len]; exact Nat.le_trans this hz, hr (acc ++ z) (by rw [app_len]; exact hz) M H1 (s.trans (s1.but M)) (l.same s1) Q fun v H2 s2 r2 => k v H2 (s1.trans s2) r2⟩
theorem ev_fmt {z : Str} (hz : z.length ≤ sizeLine) (ha : EvM ta G σ (.str z)) : EvM (tFmt ta) G σ (.str z) := fun M H s l Q k => ha M H s l _ fun x H1 s1 rx => ⟨z, rx.of_str, hz, k _ H1 s1 (.str _)⟩
end
section
variable {X : Cx} {N' : List Str} {scope : Scope} {cl : List (Str × Addr)} {C : Addr} {fp : List Addr} {s : Shared} {H : Hp} {e : Expr} {te : TE} {p pos : Pos}
end
end FL

set_option Elab.async false
set_option linter.all false
set_option maxRecDepth 100000
namespace L2
open PySem PySem.Spec PyProof.Rows
def XRec (h : Heap) (ea T : Addr) (cls fl : Value) : Prop :=
  ∃ oe vs a0 oT ts, h.get? ea = some oe ∧ (oe.cls = cls ∧ vs[0]? = some a0) ∧ oe.data = .fields vs ∧ vs[1]? = some (.ref T) ∧ T ≠ ea ∧ h.get? T = some oT ∧ oT.data = .fields ts ∧ ts[3]? = some fl
def XNew (h : Heap) (ea : Addr) (cls : Value) : Prop := ∃ oe vs a0, h.get? ea = some oe ∧ (oe.cls = cls ∧ vs[0]? = some a0) ∧ oe.data = .fields vs ∧ vs[1]? = some .none
theorem ff_base {h b0 b1 : Heap} : ∀ {l : List Env}, h.FunFrames b0 l → (∀ b ∈ frs l, b1.get? b = none) → h.FunFrames b1 l
  | [], _, _ => trivial
  | env :: r, ⟨hk, ⟨L, o, hf, _, ho, hd⟩, hr⟩, hn => by
    have e : frs (env :: r) = L :: frs r := by unfold frs; rw [List.filterMap_cons, hf]
    rw [e] at hn
    exact ⟨hk, ⟨L, o, hf, hn L List.mem_cons_self, ho, hd⟩, ff_base hr fun b hb => hn b (List.mem_cons_of_mem _ hb)⟩
section
variable {X : Cx} {pins : List (Addr × Obj)} {σ : List (Option V)} {H H' : Hp} {s : Shared} {h' : Heap}
theorem Inv.stepN {g' : Array GenState} {t' : Nat} {d' : Drawn} {ch : List Addr} (I : Inv X pins σ H s)
    (hch : ∀ b ∈ ch, (b ∈ X.ex ∨ X.s₀.heap.get? b = none) ∧ b ≠ X.env.locals ∧ (∀ x c, X.env.cells.lookup x = some c → c ≠ b) ∧ ∀ p ∈ X.pn ++ pins, p.1 ≠ b)
    (keep : ∀ b o, b ≠ X.env.locals → b ∉ X.fs → b ∉ ch → s.heap.get? b = some o → H b = none → h'.get? b = some o)
    (slot : ∀ b o, b ≠ X.env.locals → b ∈ X.fs → b ∉ ch → s.heap.get? b = some o → H b = none → ∃ sl, h'.get? b = some { o with slots := sl }) (free : ∀ b o, b ∉ ch → s.heap.get? b = some o → H b = none → H' b = none)
    (there : ∀ b o, b ∉ ch → s.heap.get? b = some o → ∃ o', h'.get? b = some o')
    (tups : ∀ b xs, H b = some (.tup xs) → H' b = some (.tup xs)) (frzs : ∀ b o u, H b = some (.frz o u) → H' b = some (.frz o u)) (tbls : ∀ b ps, H b = some (.tbl ps) → ∃ more, H' b = some (.tbl (ps ++ more)))
    (ns : ∀ m, s.heap.Ns X.env.locals m → h'.Ns X.env.locals m) (hok : HOk X.prog X.w H' h') (hg : AllBare g') :
    Inv X pins σ H' { s with heap := h', gens := g', drawn := d', toks := t' } := by
  have neL : ∀ b o, X.s₀.heap.get? b = some o → b ≠ X.env.locals := fun b o e => Nat.ne_of_lt (Nat.lt_of_lt_of_le (Heap.lt_size e) I.ok.above)
  have neC : ∀ b o, X.s₀.heap.get? b = some o → b ∉ X.ex → b ∉ ch := fun b o e hx hb => by
    rcases (hch b hb).1 with z | z
    · exact hx z
    · rw [z] at e; cases e
  have cellK : ∀ x c, X.env.cells.lookup x = some c → ∀ v, s.heap.IsCell c v → h'.IsCell c v := fun x c e v ⟨o, ho, hd⟩ => by
    have nch : c ∉ ch := fun z => (hch c z).2.2.1 x c e rfl
    by_cases hc : c ∈ X.fs
    · obtain ⟨sl, q⟩ := slot c o (I.cne x c e) hc nch ho (I.freeC x c e)
      exact ⟨_, q, hd⟩
    · exact ⟨o, keep c o (I.cne x c e) hc nch ho (I.freeC x c e), hd⟩
  refine ⟨I.ok, I.os, hg, ⟨fun b o e n hb hx => ?_, fun b o e n hb hx => ?_, fun b o e n hx => ?_, fun b o e hx => ?_, fun b xs e => tups b xs (I.base.tups b xs e), fun b o xs e => frzs b o xs (I.base.frzs b o xs e), fun b ps e => ?_⟩, ?_, fun x c e => ?_, ?_, fun x c e => ?_, fun p hp => ?_, hok, I.len⟩
  · exact keep b o (neL b o e) hb (neC b o e hx) (I.base.keep b o e n hb hx) (I.base.free b o e n hx)
  · obtain ⟨sl, e1⟩ := I.base.slot b o e n hb hx
    obtain ⟨sl', e2⟩ := slot b _ (neL b o e) hb (neC b o e hx) e1 (I.base.free b o e n hx)
    exact ⟨sl', e2⟩
  · obtain ⟨o', e1⟩ := I.base.there b o e hx
    exact free b o' (neC b o e hx) e1 (I.base.free b o e n hx)
  · obtain ⟨o', e1⟩ := I.base.there b o e hx
    exact there b o' (neC b o e hx) e1
  · obtain ⟨m1, e1⟩ := I.base.tbls b ps e
    obtain ⟨m2, e2⟩ := tbls b _ e1
    exact ⟨m1 ++ m2, by rw [e2, Array.append_assoc]⟩
  · obtain ⟨m, hn, hl⟩ := I.loc
    refine ⟨m, ns m hn, fun i x v e1 e2 e3 => ?_⟩
    obtain ⟨u, r, l⟩ := hl i x v e1 e2 e3
    refine ⟨u, r, ?_⟩
    rcases l with l | ⟨k, c, e, z⟩
    · exact .inl l
    · exact .inr ⟨k, c, e, cellK x c e _ z⟩
  · obtain ⟨v, z⟩ := I.cell x c e
    exact ⟨v, cellK x c e v z⟩
  · obtain ⟨m, ⟨o, _, _, ho, _⟩, _⟩ := I.loc
    exact free _ o (fun z => (hch _ z).2.1 rfl) ho I.free
  · obtain ⟨v, o, ho, hd⟩ := I.cell x c e
    exact free c o (fun z => (hch c z).2.2.1 x c e rfl) ho (I.freeC x c e)
  · obtain ⟨e, n, ne, nf, d⟩ := I.pin p hp
    have nch : p.1 ∉ ch := fun z => (hch p.1 z).2.2.2 p hp rfl
    exact ⟨keep p.1 p.2 ne nf nch e n, free p.1 p.2 nch e n, ne, nf, d⟩
theorem Inv.aloft {ch : List Addr} (I : Inv X pins σ H s) (hst : frs X.stack = X.env.locals :: X.fs) (hch : ∀ b ∈ ch, H b = none ∧ X.s₀.heap.get? b = none ∧ (∃ o vs, s.heap.get? b = some o ∧ o.data = .fields vs) ∧ ∀ p ∈ X.pn ++ pins, p.1 ≠ b)
    (k : ∀ b o, b ∉ frs X.stack → b ∉ ch → s.heap.get? b = some o → h'.get? b = some o) (sl : s.heap.UpToSlots h') : Inv X pins σ H { s with heap := h' } := by
  have frN : ∀ b ∈ frs X.stack, ∃ o, s.heap.get? b = some o ∧ ∀ vs, o.data ≠ .fields vs := fun b hb => (I.stack.mem hb).2
  have chF : ∀ b ∈ ch, b ∉ frs X.stack := fun b hb hf => by
    obtain ⟨o, ho, hd⟩ := frN b hf
    obtain ⟨_, _, ⟨o', vs, ho', hd'⟩, _⟩ := hch b hb
    rw [ho] at ho'; cases ho'
    exact hd vs hd'
  refine I.stepN (g' := s.gens) (d' := s.drawn) (t' := s.toks) (ch := ch) (fun b hb => ?_) (fun b o h1 h2 h3 e _ => k b o ?_ h3 e) (fun b o _ h2 _ e _ => ?_) (fun _ _ _ _ n => n) (fun b o h3 e => ?_) (fun _ _ e => e) (fun _ _ _ e => e) (fun b ps e => ⟨#[], by rw [e]; simp⟩) (fun m hm => sl.ns hm) (fun b u e => ?_) I.bare
  · obtain ⟨h1, h2, ⟨o, vs, ho, hd⟩, h4⟩ := hch b hb
    refine ⟨.inr h2, fun z => chF b hb (by rw [hst, z]; exact List.mem_cons_self), fun x c e z => ?_, h4⟩
    obtain ⟨v, oc, hc, hcd⟩ := I.cell x c e
    rw [z, ho] at hc; cases hc
    rw [hd] at hcd; cases hcd
  · rw [hst]
    intro z
    rcases List.mem_cons.mp z with z | z
    · exact h1 z
    · exact h2 z
  · obtain ⟨o', ho', hd⟩ := frN b (by rw [hst]; exact List.mem_cons_of_mem _ h2)
    rw [e] at ho'; cases ho'
    exact sl b o e hd
  · by_cases hf : b ∈ frs X.stack
    · obtain ⟨o', ho', hd⟩ := frN b hf
      rw [e] at ho'; cases ho'
      obtain ⟨z, hz⟩ := sl b o e hd
      exact ⟨_, hz⟩
    · exact ⟨o, k b o hf h3 e⟩
  · have nf : ∀ c u, H c = some u → c ∉ frs X.stack ∧ c ∉ ch := fun c u q => ⟨fun z => (by rw [I.stkFree c z] at q; cases q), fun z => (by rw [(hch c z).1] at q; cases q)⟩
    refine (I.hok b u e).stay (fun c v hc q => ?_) (fun _ q => q) fun _ _ q => q
    rcases hc with z | z
    · subst z; exact k _ v (nf _ u e).1 (nf _ u e).2 q
    · exact k c v (nf c _ z).1 (nf c _ z).2 q
end
def Air (X : Cx) (E : Value → St → Hp → Prop) (e : Value) (s' : Shared) : Prop :=
  ∃ ea cls σ' H', e = .ref ea ∧ Inv X [] σ' H' s' ∧ H' ea = none ∧ X.s₀.heap.get? ea = none ∧ E cls σ' H' ∧
    (XNew s'.heap ea cls ∨ ∃ T fl, XRec s'.heap ea T cls fl ∧ (fl = .none ∨ fl = rawInt X.env.locals) ∧ H' T = none ∧ X.s₀.heap.get? T = none)
abbrev CXA (P : Program) (w : World) : CXT := fun outer H s E e s' =>
  ∃ ea T cls H', e = .ref ea ∧ s'.os = s.os ∧ AllBare s'.gens ∧ Un (frs outer) [] H H' s.heap s'.heap ∧ HOk P w H' s'.heap ∧ XRec s'.heap ea T cls .none ∧ H' ea = none ∧ H' T = none ∧ s.heap.get? ea = none ∧ s.heap.get? T = none ∧ E cls none H'
theorem ObjOk.obj {P : Program} {w : World} {H : Hp} {h : Heap} {a : Addr} {o : HO} (x : ObjOk P w H h a o) : ∃ ob, h.get? a = some ob := by
  induction o with
  | lst xs => obtain ⟨_, _, _, _, e⟩ := x; exact ⟨_, e⟩
  | tup xs => obtain ⟨_, _, _, ob, e, _⟩ := x; exact ⟨_, e⟩
  | dK kvs => obtain ⟨_, _, _, _, o, _, _, e, _⟩ := x; exact ⟨_, e⟩
  | dT kvs => obtain ⟨_, _, _, _, o, _, _, e, _⟩ := x; exact ⟨_, e⟩
  | set S n => obtain ⟨o, _, _, _, e, _⟩ := x; exact ⟨_, e⟩
  | ins C dx fs => obtain ⟨_, _, _, e, _⟩ := x; exact ⟨_, e⟩
  | own y => obtain ⟨_, e⟩ := x; exact ⟨_, e⟩
  | xd fs => obtain ⟨_, ⟨_, _, _, e, _⟩, _⟩ := x; exact ⟨_, e⟩
  | rng lo hi => obtain ⟨_, _, _, e⟩ := x; exact ⟨_, e⟩
  | frz ob u ih => obtain ⟨e, _⟩ := x; exact ⟨_, e⟩
  | tbl ps => exact ⟨_, (show h.get? a = some _ from x)⟩
  | met f y => exact ⟨_, (show h.get? a = some _ from x)⟩
  | ext φ => obtain ⟨_, ⟨_, e⟩, _⟩ := x; exact ⟨_, e⟩
structure Own (X : Cx) : Prop where
  stk : X.stack = X.env :: X.outer
  fr : X.env.frame = some X.env.locals
  pn : X.pn = []
  ex : X.ex = []
theorem Own.frs {X : Cx} (O : Own X) : frs X.stack = X.env.locals :: X.fs := by
  unfold L2.frs Cx.fs L2.frs
  rw [O.stk, List.filterMap_cons, O.fr]
def hidX (h : Heap) (l : List Env) (ch : List Addr) : Heap := PySem.W.hideAll h (frs l ++ ch)
theorem hidX_stays {h : Heap} {l : List Env} {ch : List Addr} : (hidX h l ch).StaysIn h := fun b o q => PySem.W.of_hideAll _ q
theorem hidX_none {h : Heap} {l : List Env} {ch : List Addr} {b : Addr} (hb : b ∈ frs l ∨ b ∈ ch) : (hidX h l ch).get? b = none := PySem.W.hideAll_none _ (List.mem_append.mpr hb)
theorem hidX_get {h : Heap} {l : List Env} {ch : List Addr} {b : Addr} {o : Obj} (h1 : b ∉ frs l) (h2 : b ∉ ch) (e : h.get? b = some o) : (hidX h l ch).get? b = some o :=
  PySem.W.hideAll_get _ e fun z => (List.mem_append.mp z).elim h1 h2
section
variable {X : Cx} {σ : St} {H : Hp} {s : Shared} {ea T : Addr} {cls fl : Value} {E : Value → St → Hp → Prop}
theorem XRec.rec {h : Heap} (x : XRec h ea T cls fl) : (∃ o vs, h.get? ea = some o ∧ o.data = .fields vs) ∧ ∃ o vs, h.get? T = some o ∧ o.data = .fields vs := by
  obtain ⟨oe, vs, a0, oT, ts, h1, _, h3, _, _, h6, h7, _⟩ := x
  exact ⟨⟨oe, vs, h1, h3⟩, oT, ts, h6, h7⟩
theorem trace_step {h' : Heap} {ch : List Addr} {fl' a0 : Value} (O : Own X) (I : Inv X [] σ H s) (hch : ∀ b ∈ ch, H b = none ∧ X.s₀.heap.get? b = none ∧ ∃ o vs, s.heap.get? b = some o ∧ o.data = .fields vs) (hea : ea ∈ ch)
    (h1 : (hidX s.heap X.stack ch).StaysIn h') (h2 : h'.FunFrames (hidX s.heap X.stack ch) X.stack) (h3 : h'.TracedAtW (hidX s.heap X.stack ch) ea cls a0 fl')
    (h4 : ∀ b o, s.heap.get? b = some o → (∀ vs, o.data ≠ .fields vs) → ∃ sl, h'.get? b = some { o with slots := sl }) :
    Inv X [] σ H { s with heap := h' } ∧ ∃ T', XRec h' ea T' cls fl' ∧ H T' = none ∧ X.s₀.heap.get? T' = none := by
  refine ⟨I.aloft O.frs (ch := ch) (fun b hb => ⟨(hch b hb).1, (hch b hb).2.1, (hch b hb).2.2, fun p hp => by rw [O.pn] at hp; cases hp⟩) (fun b o n1 n2 e => h1 b o (hidX_get n1 n2 e)) h4, ?_⟩
  obtain ⟨oe, vs, T', oT, ts, a1, a2, a3, a4, a5, a6, a7, a8, a9⟩ := h3
  refine ⟨T', ⟨oe, vs, a0, oT, ts, a1, a2, a3, a4, a6, a7, a8, a9⟩, ?_⟩
  by_cases hc : T' ∈ ch
  · exact ⟨(hch T' hc).1, (hch T' hc).2.1⟩
  · by_cases hf : T' ∈ frs X.stack
    · obtain ⟨_, o, ho, hd⟩ := h2.mem hf
      rw [a7] at ho; cases ho
      exact absurd a8 (hd ts)
    · have hn : s.heap.get? T' = none := by
        cases q : s.heap.get? T' with
        | none => rfl
        | some o => rw [hidX_get hf hc q] at a5; cases a5
      refine ⟨?_, ?_⟩
      · cases q : H T' with
        | none => rfl
        | some u =>
          obtain ⟨o, e⟩ := (I.hok T' u q).obj
          rw [hn] at e; cases e
      · cases q : X.s₀.heap.get? T' with
        | none => rfl
        | some o =>
          obtain ⟨o', e⟩ := I.base.there T' o q (by rw [O.ex]; simp)
          rw [hn] at e; cases e
theorem air_leaves {e : Value} {s' : Shared} {Q : Unit → Shared → Prop} {EE : Value → Shared → Prop} (O : Own X) (hA : Air X E e s')
    (k : ∀ ea T cls σ H h', e = .ref ea → Inv X [] σ H { s' with heap := h' } → XRec h' ea T cls .none → H ea = none → H T = none → X.s₀.heap.get? ea = none → X.s₀.heap.get? T = none → E cls σ H → Q () { s' with heap := h' }) :
    wpAny (model X.prog X.w) X.A (leaving X.env e) Q EE s' := by
  obtain ⟨ea, cls, σ, H, rfl, I, hea, sea, hE, hx⟩ := hA
  have hfr : X.A.frames = some (X.env :: X.outer) := by rw [I.ok.frames, O.stk]
  rcases hx with ⟨oe, vs, a0, b1, ⟨b2, b2'⟩, b3, b4⟩ | ⟨T, fl, hx, hfl, hT, sT⟩
  · have hch : ∀ b ∈ [ea], H b = none ∧ X.s₀.heap.get? b = none ∧ ∃ o vs, s'.heap.get? b = some o ∧ o.data = .fields vs := fun b hb => by
      obtain rfl : b = ea := by simpa using hb
      exact ⟨hea, sea, oe, vs, b1, b3⟩
    have hff : s'.heap.FunFrames (hidX s'.heap X.stack [ea]) (X.env :: X.outer) := by
      have := ff_base I.stack (b1 := hidX s'.heap X.stack [ea]) fun b hb => hidX_none (.inl hb)
      rw [O.stk] at this ⊢; exact this
    refine wpAny_leaving_firstW hfr hff O.fr b1 hidX_stays (hidX_none (.inr (by simp))) b3 b4 b2' fun h' ⟨k1, k2, k3, k4⟩ => ?_
    obtain ⟨I', T', x', hT', sT'⟩ := trace_step O I hch (by simp) k1 (by rw [O.stk] at k2 ⊢; exact k2) k3 k4
    rw [b2] at x'
    exact k ea T' cls σ H h' rfl I' x' hea hT' sea sT' hE
  · obtain ⟨⟨o1, v1, c1, c2⟩, o2, v2, c3, c4⟩ := hx.rec
    have hch : ∀ b ∈ [ea, T], H b = none ∧ X.s₀.heap.get? b = none ∧ ∃ o vs, s'.heap.get? b = some o ∧ o.data = .fields vs := fun b hb => by
      simp only [List.mem_cons, List.not_mem_nil, or_false] at hb
      rcases hb with rfl | rfl
      · exact ⟨hea, sea, o1, v1, c1, c2⟩
      · exact ⟨hT, sT, o2, v2, c3, c4⟩
    have hff : s'.heap.FunFrames (hidX s'.heap X.stack [ea, T]) (X.env :: X.outer) := by
      have := ff_base I.stack (b1 := hidX s'.heap X.stack [ea, T]) fun b hb => hidX_none (.inl hb)
      rw [O.stk] at this ⊢; exact this
    obtain ⟨oe, vs, a0, oT, ts, a1, a2, a3, a4, a6, a7, a8, a9⟩ := hx
    have tr : s'.heap.TracedAtW (hidX s'.heap X.stack [ea, T]) ea cls a0 fl := ⟨oe, vs, T, oT, ts, a1, a2, a3, a4, hidX_none (.inr (by simp)), a6, a7, a8, a9⟩
    rcases hfl with rfl | rfl
    · refine wpAny_leaving_nextW hfr hff O.fr tr hidX_stays (hidX_none (.inr (by simp))) fun h' ⟨k1, k2, k3, k4⟩ => ?_
      obtain ⟨I', T', x', hT', sT'⟩ := trace_step O I hch (by simp) k1 (by rw [O.stk] at k2 ⊢; exact k2) k3 k4
      exact k ea T' cls σ H h' rfl I' x' hea hT' sea sT' hE
    · unfold leaving
      refine wpAny_bind (wpAny_noteFrame_againW O.fr tr ?_)
      refine wpAny_setFlight_noneW hidX_stays hff tr fun h' k1 k2 k3 k4 => ?_
      obtain ⟨I', T', x', hT', sT'⟩ := trace_step O I hch (by simp) k1 (by rw [O.stk] at k2 ⊢; exact k2) k3 fun b o e n => ⟨o.slots, k4 b o e n⟩
      exact k ea T' cls σ H h' rfl I' x' hea hT' sea sT' hE
theorem air_call {pins : List (Addr × Obj)} {e : Value} {s' : Shared} (O : Own X) (I : Inv X pins σ H s) (h : CXA X.prog X.w X.stack H s (fun cls _ H' => E cls σ H') e s') : Air X E e s' := by
  obtain ⟨ea, T, cls, H', rfl, os, bare, un, hok, x, h1, h2, h3, h4, hE⟩ := h
  have J : Inv X pins σ H' s' := I.call' os un hok bare fun b z => nomatch z
  have gone : ∀ b, s.heap.get? b = none → X.s₀.heap.get? b = none := fun b hb => by
    cases q : X.s₀.heap.get? b with
    | none => rfl
    | some o =>
      obtain ⟨o', e⟩ := I.base.there b o q (by rw [O.ex]; simp)
      rw [hb] at e; cases e
  exact ⟨ea, cls, σ, H', rfl, J.pins_of (fun p hp => nomatch hp), h1, gone _ h3, hE, .inr ⟨T, .none, x, .inl rfl, h2, gone _ h4⟩⟩
theorem flight {M : Model} {A : Around} {EE : Value → Shared → Prop} {o : Option Addr} {Q : Unit → Shared → Prop} (x : XRec s.heap ea T cls fl)
    (k : ∀ h', (∀ b u, b ≠ T → s.heap.get? b = some u → h'.get? b = some u) → s.heap.UpToSlots h' → XRec h' ea T cls (o.elim Value.none fun f => rawInt f) → Q () { s with heap := h' }) : wpAny M A (setFlight (.ref ea) o) Q EE s := by
  obtain ⟨oe, vs, a0, oT, ts, a1, a2, a3, a4, a6, a7, a8, a9⟩ := x
  have hsz : 3 < ts.size := (Array.getElem?_eq_some_iff.mp a9).1
  have other : ∀ b, b ≠ T → (s.heap.update T (Obj.mapFields (·.setIfInBounds 3 (o.elim Value.none fun f => rawInt f)))).get? b = s.heap.get? b := fun b hb => Heap.get?_update_other _ _ (Ne.symm hb)
  unfold setFlight
  refine wpAny_bind (wpAny_field a1 a3 a4 ?_)
  rw [if_pos (show (Value.ref T != Value.none) = true from by simp)]
  refine wpAny_setField a7 a8 hsz (k _ (fun b u hb e => (other b hb).trans e) (fun b u e hn => ⟨u.slots, (other b fun z => ?_).trans e⟩) ?_)
  · rw [z, a7] at e; cases e
    exact hn ts a8
  · exact ⟨oe, vs, a0, _, _, (other ea (Ne.symm a6)).trans a1, a2, a3, a4, a6, Heap.get?_update_self _ a7 (Obj.isFreed_of_fields (Obj.data_mapFields a8 _)), Obj.data_mapFields a8 _, by simp [hsz]⟩
theorem air_flight {M : Model} {A : Around} {EE : Value → Shared → Prop} {o : Option Addr} {Q : Unit → Shared → Prop} (O : Own X) (I : Inv X [] σ H s) (x : XRec s.heap ea T cls fl) (hT : H T = none) (sT : X.s₀.heap.get? T = none)
    (k : ∀ h', Inv X [] σ H { s with heap := h' } → XRec h' ea T cls (o.elim Value.none fun f => rawInt f) → Q () { s with heap := h' }) : wpAny M A (setFlight (.ref ea) o) Q EE s := by
  obtain ⟨_, o2, v2, c3, c4⟩ := x.rec
  refine flight x fun h' k1 k2 k3 => k h' (I.aloft O.frs (ch := [T]) (fun b hb => ?_) (fun b u _ h2 e => k1 b u (fun z => h2 (by simp [z])) e) k2) k3
  obtain rfl : b = T := by simpa using hb
  exact ⟨hT, sT, ⟨o2, v2, c3, c4⟩, fun p hp => by rw [O.pn] at hp; cases hp⟩
theorem air_noted {e : Value} {s' : Shared} {Q : Unit → Shared → Prop} {EE : Value → Shared → Prop} (O : Own X) (hA : Air X E e s')
    (k : ∀ ea T cls σ H h', e = .ref ea → Inv X [] σ H { s' with heap := h' } → XRec h' ea T cls (rawInt X.env.locals) → H ea = none → H T = none → X.s₀.heap.get? ea = none → X.s₀.heap.get? T = none → E cls σ H → Q () { s' with heap := h' }) :
    wpAny (model X.prog X.w) X.A (noteFrame e X.env) Q EE s' := by
  obtain ⟨ea, cls, σ, H, rfl, I, hea, sea, hE, hx⟩ := hA
  have hfr : X.A.frames = some (X.env :: X.outer) := by rw [I.ok.frames, O.stk]
  rcases hx with ⟨oe, vs, a0, b1, ⟨b2, b2'⟩, b3, b4⟩ | ⟨T, fl, hx, hfl, hT, sT⟩
  · have hch : ∀ b ∈ [ea], H b = none ∧ X.s₀.heap.get? b = none ∧ ∃ o vs, s'.heap.get? b = some o ∧ o.data = .fields vs := fun b hb => by
      obtain rfl : b = ea := by simpa using hb
      exact ⟨hea, sea, oe, vs, b1, b3⟩
    have hff : s'.heap.FunFrames (hidX s'.heap X.stack [ea]) (X.env :: X.outer) := by
      have := ff_base I.stack (b1 := hidX s'.heap X.stack [ea]) fun b hb => hidX_none (.inl hb)
      rw [O.stk] at this ⊢; exact this
    unfold noteFrame
    simp only [O.fr]
    refine wpAny_bind (wpAny_field b1 b3 b4 ?_)
    rw [if_neg (by decide)]
    refine wpAny_entryW hfr hff O.fr b1 hidX_stays (hidX_none (.inr (by simp))) b3 (Array.getElem?_eq_some_iff.mp b4).1 b2' fun h' ⟨k1, k2, k3, k4⟩ => ?_
    obtain ⟨I', T', x', hT', sT'⟩ := trace_step O I hch (by simp) k1 (by rw [O.stk] at k2 ⊢; exact k2) k3 k4
    rw [b2] at x'
    exact k ea T' cls σ H h' rfl I' x' hea hT' sea sT' hE
  · obtain ⟨⟨o1, v1, c1, c2⟩, o2, v2, c3, c4⟩ := hx.rec
    have hch : ∀ b ∈ [ea, T], H b = none ∧ X.s₀.heap.get? b = none ∧ ∃ o vs, s'.heap.get? b = some o ∧ o.data = .fields vs := fun b hb => by
      simp only [List.mem_cons, List.not_mem_nil, or_false] at hb
      rcases hb with rfl | rfl
      · exact ⟨hea, sea, o1, v1, c1, c2⟩
      · exact ⟨hT, sT, o2, v2, c3, c4⟩
    have hff : s'.heap.FunFrames (hidX s'.heap X.stack [ea, T]) (X.env :: X.outer) := by
      have := ff_base I.stack (b1 := hidX s'.heap X.stack [ea, T]) fun b hb => hidX_none (.inl hb)
      rw [O.stk] at this ⊢; exact this
    have hx0 := hx
    obtain ⟨oe, vs, a0, oT, ts, a1, a2, a3, a4, a6, a7, a8, a9⟩ := hx
    have tr : s'.heap.TracedAtW (hidX s'.heap X.stack [ea, T]) ea cls a0 fl := ⟨oe, vs, T, oT, ts, a1, a2, a3, a4, hidX_none (.inr (by simp)), a6, a7, a8, a9⟩
    rcases hfl with rfl | rfl
    · refine wpAny_noteFrame_onW hfr hff O.fr tr hidX_stays (hidX_none (.inr (by simp))) fun h' ⟨k1, k2, k3, k4⟩ => ?_
      obtain ⟨I', T', x', hT', sT'⟩ := trace_step O I hch (by simp) k1 (by rw [O.stk] at k2 ⊢; exact k2) k3 k4
      exact k ea T' cls σ H h' rfl I' x' hea hT' sea sT' hE
    · exact wpAny_noteFrame_againW O.fr tr (k ea T cls σ H s'.heap rfl I hx0 hea hT sea sT hE)
theorem air_own (O : Own X) : PassesOwn (model X.prog X.w) X.A X.env (Air X E) := fun e s' hA => by
  refine air_noted O hA fun ea T cls σ H h' ee I x h1 h2 h3 h4 hE => ?_
  subst ee
  have x0 := x
  obtain ⟨oe, vs, a0, oT, ts, a1, a2, a3, a4, a6, a7, a8, a9⟩ := x
  show wpAny _ _ (do if (← field (.ref ea) 1) == .none then unsupported "frame.own-activation:exception-without-traceback"
                     setFlight (.ref ea) X.env.frame) _ _ _
  refine wpAny_bind (wpAny_field a1 a3 a4 ?_)
  rw [if_neg (show ¬ ((Value.ref T == Value.none) = true) from by simp)]
  rw [O.fr]
  exact air_flight O I x0 h2 h4 fun h'' I' x' => ⟨ea, cls, σ, H, rfl, I', h1, h3, hE, .inr ⟨T, _, x', .inr rfl, h2, h4⟩⟩
end
section
variable {P : Program} {w : World} {K : PySem.W.Frag} {mg : Str → Option Value} {base : Heap}
theorem own_cx {CX : CXT} {N : List Str} {qual : Str} {scope : Scope} {f : Addr} {cd : Value} {A : Around} {outer : List Env} {s : Shared} {H : Hp} {E : XK} : Own (cxOf CX P w K mg base N qual scope f cd A outer s H E) := ⟨rfl, rfl, rfl, rfl⟩
theorem Fun.okA {x qual : Str} {st : Stmt} {f : Addr} {fd : FuncData} {N ps : List Str} {k : Nat} {sp : Sp} (F : Fun K x qual st f fd) (S : FnScope N ps (defScope st)) (len : ∀ vs H Q E, sp vs H Q E → vs.length = ps.length)
    (hbody : ∀ (cdv : Value) (A : Around) (outer : List Env) (s : Shared) (H : Hp) (vs : List V) (Q : VK) (E : XK), Room k (A.deeper (envOfC qual (defScope st) s.heap.objs.size f cdv)) → sp vs H Q E →
      ∃ t, PSs ((cxOf (CXA P w) P w K mg base N qual (defScope st) f cdv A outer s H E).wish (Air (cxOf (CXA P w) P w K mg base N qual (defScope st) f cdv A outer s H E) fun cls _ H' => E cls none H')) (defBody st) t ∧ t { nx := fun _ H' => Q .non H', rt := Q } (start N vs) H) :
    FnOk P w K mg base (CXA P w) (k + 1) f fd ps sp := by
  obtain ⟨oc, od, kV, doc, pm, an, cdv, ct, osl, rfl, lk, hcd⟩ := F.ex
  refine fn_of lk hcd S len fun A outer s H vs Q E hr hsp => ?_
  obtain ⟨t, h, q⟩ := hbody cdv A outer s H vs Q E hr hsp
  refine ⟨t, fun pins s1 σ H1 D I hw => ?_, q⟩
  refine wpAny_mono (h pins s1 σ H1 D (I.wish _) hw) (fun _ _ z => z.unwish) fun e s' hA => ?_
  refine air_leaves (X := cxOf (CXA P w) P w K mg base N qual (defScope st) f cdv A outer s H E) own_cx hA fun ea T cls σ' H' h' ee J x h1 h2 h3 h4 hE => ?_
  exact ⟨ea, T, cls, H', ee, J.os, J.bare, J.base, J.hok, x, h1, h2, h3, h4, hE⟩
end
structure HasA (P : Program) (w : World) (K : PySem.W.Frag) (mg : Str → Option Value) (base : Heap) (n : Nat) (x : Str) (ps : List Str) (sp : Sp) : Prop where
  ex : ∃ f fd, FnOk P w K mg base (CXA P w) n f fd ps sp ∧ Binds K fd ps [] ∧ PySem.W.keepIn K (.ref f) = true ∧ mg x = some (.ref f)
def tCallA (sp : Sp) (E : Value → St → Hp → Prop) (t : TA) : TE := fun σ H Q => t σ H fun vs H1 => sp vs H1 Q fun cls _ H' => E cls σ H'
theorem pe_ownA {X : Cx} {E : Value → St → Hp → Prop} {n : Nat} {x : Str} {ps : List Str} {sp : Sp} {e : Expr} {es : List Expr} {t : TA} {p pos : Pos} {m : Nat} (O : Own X) (h : HasA X.prog X.w X.K X.mg X.base n x ps sp) (hr : Room m X.A) (ha : PA (X.wish (Air X E)) (e :: es) t) (hle : n ≤ m := by decide)
    (hg : Gl X x := by rfl) (hdb : (x == ("__debug__" : Str)) = false := by decide) (he : starEach (e :: es) X.env = (false, eval e X.env) :: starEach es X.env := by rfl) (hpl : (backTo pos (starEach es X.env)).any (·.1) = false := by rfl) :
    PE (X.wish (Air X E)) (.Call (.Name x p) (e :: es) [] pos) (tCallA sp E t) := by
  obtain ⟨f, fd, F, hb, hk, hm⟩ := h.ex
  intro pins s σ H Q I hq
  refine wpAny_Call_Name_kw (ld_glob I hg hm ?_ hdb)
  refine PySem.W.callWith_K (h₀ := X.base) I.ok.mod.kin hk (thn (ha pos pins s σ H _ I hq) fun us s1 ⟨vs, H1, I1, r, q⟩ => ⟨I1.kIn, ?_⟩) he hpl
  have J := I1.unwish
  have hl : (us ++ []).length = ps.length := by rw [List.append_nil, ← r.length]; exact F.len _ _ _ _ q
  have hb' := hb s1 us J.kIn hl
  rw [List.append_nil] at hb'
  refine wpAny_call (codeAny_mono ((F.mono hle).run X.A X.stack s1 H1 ⟨us, []⟩ us vs Q _ hr J.env0 hb' r q) fun r' s' hq' => ?_)
  cases r' with
  | error e' => exact air_call O J hq'
  | ok fl =>
    cases fl with
    | ret u =>
      obtain ⟨v, H', I3, rv, q3⟩ := J.after hq'
      exact ⟨v, H', I3.wish _, rv, q3⟩
    | next => exact False.elim hq'
    | brk => exact False.elim hq'
    | cont => exact False.elim hq'
theorem exc_obj {K : PySem.W.Frag} {h : Heap} {C : Addr} {bmB : List Value} {newId : String} (X : K.In h) (q : PySem.W.excIn K C bmB newId = true) :
    ∃ bm N nm qn bs hd sn sub ab col dd k0 k1 k2 k3 k5 mN, h.get? C = some (excClassObj nm qn C N bs bm hd sn sub ab col dd k0 k1 k2 k3 k5 newId) ∧ h.Ns N mN ∧ mN "__init__" = none ∧ OwnTail h bmB bm := by
  unfold PySem.W.excIn at q
  split at q
  · rename_i dd cd sl ho
    split at q
    · rename_i C' bm k0 k1 k2 k3 n k5 hm hs
      simp only [Bool.and_eq_true, beq_iff_eq, Bool.not_eq_true'] at q
      obtain ⟨⟨⟨⟨⟨q1, q2⟩, q3⟩, q4⟩, q5⟩, q6⟩ := q
      subst q1 q2
      obtain ⟨nm, bs, mro, ns, qn, hd, sn, sub, ab, col, del⟩ := cd
      dsimp only at hm q3 q5 q6
      subst hm q3
      obtain ⟨l⟩ := sl
      simp only at hs
      subst hs
      exact ⟨bm, ns, nm, qn, bs, hd, sn, sub, ab, col, dd, k0, k1, k2, k3, k5, _, X _ _ ho, .of_isNs (PySem.W.isNs_of_in X q5), PySem.W.nsMap_none_of_in X q5 q6, PySem.W.tail_of_in X q4⟩
    · cases q
  · cases q
def tRaise (C : Addr) (E : Value → St → Hp → Prop) (t : TA) : TS := fun _ σ H => t σ H fun vs H1 => vs.length ≤ sizeLine ∧ E (.ref C) σ H1
theorem ps_raise {X : Cx} {E : Value → St → Hp → Prop} {x : Str} {C : Addr} {B newId initId : String} {bmB : List Value} {e : Expr} {es : List Expr} {t : TA} {np cpos pos : Pos} (O : Own X) (FB : ExcBaseFacts B newId initId bmB) (hq : PySem.W.excIn X.K C bmB newId = true) (hm : X.mg x = some (.ref C))
    (ha : PA (X.wish (Air X E)) (e :: es) t) (hc : X.calm = true := by rfl) (hg : Gl X x := by rfl) (hdb : (x == ("__debug__" : Str)) = false := by decide) (he : starEach (e :: es) X.env = (false, eval e X.env) :: starEach es X.env := by rfl) (hpl : (backTo cpos (starEach es X.env)).any (·.1) = false := by rfl) :
    PS (X.wish (Air X E)) (.Raise (some (.Call (.Name x np) (e :: es) [] cpos)) none pos) (tRaise C E t) := by
  intro pins s σ H D I h
  obtain ⟨bm, N, nm, qn, bs, hd, sn, sub, ab, col, dd, k0, k1, k2, k3, k5, mN, hC, hN, hni, T⟩ := exc_obj I.ok.mod.kin hq
  refine wpAny_Raise_call_subU (C := C) (nm := nm) (q := qn) (N := N) (bs := bs) (bm := bm) (hdct := hd) (sn := sn) (sub := sub) (ab := ab) (col := col) (dd := dd) (k0 := k0) (k1 := k1) (k2 := k2) (k3 := k3) (k5 := k5)
    FB FB.hasB FB (mN := mN) (T.hasType FB.hasBase) (I.ok.hd hc) (by show (backTo cpos (starEach (e :: es) X.env)).any (·.1) = false; rw [he]; show (false || (backTo cpos (starEach es X.env)).any (·.1)) = false; rw [hpl]; rfl) hni (ld_glob I hg hm ⟨rfl, ?_⟩ hdb)
  have hA := ha cpos pins s σ H _ I h
  show wpAny _ _ (evalArgs (.ref C) true (backTo cpos (starEach (e :: es) X.env)) []) _ _ _
  rw [show (X.wish (Air X E)).env = X.env from rfl] at hA
  rw [he] at hA ⊢
  refine Calls.evalArgs_plain (thn hA fun us s2 ⟨vs, H2, I2, r, hz, hE⟩ => ⟨rfl, by rw [← r.length]; exact hz, I2.bk _ _ hC, hN.keeps I2.bk, T.keeps I2.bk, fun h' ea hmk => ?_⟩)
  have J : Inv X pins σ H2 s2 := I2.unwish
  obtain ⟨tt, h1, _, _⟩ := hmk.there
  refine ⟨ea, .ref C, σ, H2, rfl, (J.kept (t' := s2.toks) hmk.keeps).pins_of (fun p hp => nomatch hp), ?_, ?_, hE, .inl ⟨_, _, _, h1, ⟨rfl, rfl⟩, rfl, rfl⟩⟩
  · cases q : H2 ea with
    | none => rfl
    | some u =>
      obtain ⟨o, e'⟩ := (J.hok ea u q).obj
      rw [hmk.new] at e'; cases e'
  · cases q : X.s₀.heap.get? ea with
    | none => rfl
    | some o =>
      obtain ⟨o', e'⟩ := J.base.there ea o q (by rw [O.ex]; simp)
      rw [hmk.new] at e'; cases e'
def PS0 (X : Cx) (st : Stmt) (t : TS) : Prop := ∀ (s : Shared) (σ : St) (H : Hp) (D : Ends), Inv X [] σ H s → t D σ H → wpAny (model X.prog X.w) X.A (exec st X.env) (SP X [] D) X.xe s
def PSs0 (X : Cx) (st : List Stmt) (t : TS) : Prop := ∀ (s : Shared) (σ : St) (H : Hp) (D : Ends), Inv X [] σ H s → t D σ H → wpAny (model X.prog X.w) X.A (execs st X.env) (SP X [] D) X.xe s
section
variable {X : Cx} {st : Stmt} {rest : List Stmt} {t u : TS}
theorem PS.z (h : PS X st t) : PS0 X st t := fun s σ H D I q => h [] s σ H D I q
theorem PSs.z (h : PSs X rest t) : PSs0 X rest t := fun s σ H D I q => h [] s σ H D I q
theorem pss0_cons (h1 : PS0 X st t) (h2 : PSs0 X rest u) : PSs0 X (st :: rest) (tSeq t u) := by
  intro s σ H D I h
  refine wpAny_execs_cons (thn (h1 s σ H { D with nx := u D } I h) fun f s1 q => ?_)
  cases f with
  | next =>
    obtain ⟨σ', H', I', q⟩ := q
    exact h2 s1 σ' H' D I' q
  | ret v => exact q
  | brk => exact q
  | cont => exact q
theorem pss0_one (h1 : PS0 X st t) : PSs0 X [st] t := by
  intro s σ H D I h
  refine wpAny_execs_cons (thn (h1 s σ H D I h) fun f s1 q => ?_)
  cases f with
  | next => exact wpAny_execs_nil q
  | ret v => exact q
  | brk => exact q
  | cont => exact q
theorem PSs0.nox (h : PSs0 X.nox rest t) : PSs0 X rest t := fun s σ H D I hw =>
  wpAny_mono (h s σ H D (I.wish _) hw) (fun _ _ q => q.unwish) fun _ _ z => False.elim z
end
theorem fn_of0 {CX : CXT} {P : Program} {w : World} {K : PySem.W.Frag} {mg : Str → Option Value} {base : Heap} {k : Nat} {f : Addr} {name qual : Str} {params : Arguments} {body : List Stmt} {scope : Scope} {dV kV doc pm cdv ct oc : Value} {an od : Option Addr}
    {osl : Array (Option Value)} {N ps : List Str} {sp : Sp} (lk : K.lookup f = some ⟨oc, od, .func (PySem.W.fnOf name qual params body scope dV kV doc pm an cdv ct), osl⟩) (hcd : PySem.W.codeIn K cdv qual = true) (S : FnScope N ps scope)
    (len : ∀ vs H Q E, sp vs H Q E → vs.length = ps.length)
    (hbody : ∀ (A : Around) (outer : List Env) (s : Shared) (H : Hp) (vs : List V) (Q : VK) (E : XK), Room k (A.deeper (envOfC qual scope s.heap.objs.size f cdv)) → sp vs H Q E →
      ∃ t, PSs0 (cxOf CX P w K mg base N qual scope f cdv A outer s H E) body t ∧ t { nx := fun _ H' => Q .non H', rt := Q } (start N vs) H) :
    FnOk P w K mg base CX (k + 1) f (PySem.W.fnOf name qual params body scope dV kV doc pm an cdv ct) ps sp := by
  refine ⟨len, fun A outer s H args us vs Q E hr e0 hb r hsp => ?_⟩
  have hl := len _ _ _ _ hsp
  have KX : K.In s.heap := e0.mod.kin.keeps fun b o e => (e0.bs b o e).1
  have lim : s.heap.NoLimit := e0.mod.nolimit.keeps fun b o e => (e0.bs b o e).1
  have hkind : ∀ y ∈ ps.zip us, scope.names.lookup y.1 = some .local ∨ (scope.names.lookup y.1 = some .cell ∧ ((cellsFrom (s.heap.objs.size + 1) scope.names []).lookup y.1).isSome = true) := fun ⟨n, v⟩ hy => by
    rcases S.par n (List.of_mem_zip hy).1 with q | q
    · exact .inl q
    · exact .inr ⟨q, PySem.W.cellsFrom_some _ _ _ (.inl q)⟩
  refine codeAny_call_function hr.depth (KX _ _ lk) rfl S.co S.gen rfl (PySem.W.codeRec_of KX hcd) (hb _ _ _ _ ?_)
  refine wpAny_newFunctionEnv_cells S.kind hkind fun env he s1 x => ?_
  subst he
  refine ⟨lim.keeps x.toInCall.keep, codeAny_func ?_⟩
  obtain ⟨t, ht, hq⟩ := hbody A outer s H vs Q E (hr.deeper _) hsp
  have I : Inv (cxOf CX P w K mg base N qual scope f cdv A outer s H E) [] (start N vs) H s1 := inv_start S hr.hd e0 hl r x
  refine wpAny_mono (ht s1 (start N vs) H _ I hq) (fun fl s' hs => ?_) fun e s' hs => hs
  have fin : ∀ {σ' : St} {H' : Hp} {v : V} {u : Value}, Inv (cxOf CX P w K mg base N qual scope f cdv A outer s H E) [] σ' H' s' → RelV v u → Q v H' → CE outer P w H s Q u s' :=
    fun {σ' H' v u} J rv q => ⟨v, H', J.os, J.bare, J.base, J.hok, rv, q⟩
  cases fl with
  | ret u =>
    obtain ⟨v, σ', H', J, rv, q⟩ := hs
    exact fin J rv q
  | next =>
    obtain ⟨σ', H', J, q⟩ := hs
    exact fin (v := V.non) (u := Value.none) J rfl q
  | brk =>
    obtain ⟨_, _, _, q⟩ := hs
    exact False.elim q
  | cont =>
    obtain ⟨_, _, _, q⟩ := hs
    exact False.elim q
section
variable {P : Program} {w : World} {K : PySem.W.Frag} {mg : Str → Option Value} {base : Heap}
theorem Fun.ok0 {x qual : Str} {st : Stmt} {f : Addr} {fd : FuncData} {N ps : List Str} {k : Nat} {sp : Sp} (F : Fun K x qual st f fd) (S : FnScope N ps (defScope st)) (len : ∀ vs H Q E, sp vs H Q E → vs.length = ps.length)
    (hbody : ∀ (cdv : Value) (A : Around) (outer : List Env) (s : Shared) (H : Hp) (vs : List V) (Q : VK) (E : XK), Room k (A.deeper (envOfC qual (defScope st) s.heap.objs.size f cdv)) → sp vs H Q E →
      ∃ t, PSs0 (cxOf CX0 P w K mg base N qual (defScope st) f cdv A outer s H E).nox (defBody st) t ∧ t { nx := fun _ H' => Q .non H', rt := Q } (start N vs) H) : FnOk P w K mg base CX0 (k + 1) f fd ps sp := by
  obtain ⟨oc, od, kV, doc, pm, an, cdv, ct, osl, rfl, lk, hcd⟩ := F.ex
  refine fn_of0 lk hcd S len fun A outer s H vs Q E hr hsp => ?_
  obtain ⟨t, h, q⟩ := hbody cdv A outer s H vs Q E hr hsp
  exact ⟨t, h.nox, q⟩
end
def Cx.held (X : Cx) (e : Value) : Cx := { X with A := X.A.mark (some e), calm := false, xe := fun _ _ => False }
theorem Inv.held {X : Cx} {pins : List (Addr × Obj)} {σ : St} {H : Hp} {s : Shared} (I : Inv X pins σ H s) (e : Value) : Inv (X.held e) pins σ H s :=
  ⟨⟨I.ok.mod, I.ok.kind, I.ok.glob, I.ok.blt, I.ok.above, I.ok.inj, I.ok.has, I.ok.cab, (fun z => nomatch z), I.ok.frames, I.ok.stk, I.ok.exf, I.ok.bs, I.ok.bsz, I.ok.noex, I.ok.exfs, I.ok.funs, I.ok.frf⟩, I.os, I.bare, I.base, I.loc, I.cell, I.free, I.freeC, I.pin, I.hok, I.len⟩
theorem Inv.unheld {X : Cx} {pins : List (Addr × Obj)} {σ : St} {H : Hp} {s : Shared} {e : Value} (ok : X.Ok) (I : Inv (X.held e) pins σ H s) : Inv X pins σ H s := ⟨ok, I.os, I.bare, I.base, I.loc, I.cell, I.free, I.freeC, I.pin, I.hok, I.len⟩
theorem SP.unheld {X : Cx} {pins : List (Addr × Obj)} {D : Ends} {f : Flow} {s' : Shared} {e : Value} (ok : X.Ok) (h : SP (X.held e) pins D f s') : SP X pins D f s' := by
  cases f with
  | next => obtain ⟨σ', H', I, q⟩ := h; exact ⟨σ', H', I.unheld ok, q⟩
  | brk => obtain ⟨σ', H', I, q⟩ := h; exact ⟨σ', H', I.unheld ok, q⟩
  | cont => obtain ⟨σ', H', I, q⟩ := h; exact ⟨σ', H', I.unheld ok, q⟩
  | ret u => obtain ⟨v, σ', H', I, r, q⟩ := h; exact ⟨v, σ', H', I.unheld ok, r, q⟩
end L2

set_option Elab.async false
set_option linter.all false
set_option maxRecDepth 100000
namespace L2
open PySem PySem.Spec PyProof.Rows
structure XK1 (K : PySem.W.Frag) (C : Addr) : Prop where
  ga : PySem.W.findIn K (.ref C) "__getattribute__" = some (some (.builtin "BaseException.__getattribute__"))
  cl : PySem.W.findIn K (.ref C) "__class__" = some (some (.builtin "object.__class__"))
  no : PySem.W.findIn K (.ref C) "__getattr__" = some none
  be : PySem.W.mroIn K C (.type "BaseException") = some true
  ob : PySem.W.mroIn K C (.type "object") = some true
section
variable {prog : Program} {w : World} {A : Around} {E : Value → Shared → Prop} {K : PySem.W.Frag} {h : Heap} {g : Array GenState} {d : Drawn} {t : Nat} {os : OsState} {a C : Addr} {o : Obj}
theorem xcls_get {R : Result → Shared → Prop} (X : K.In h) (F1 : XK1 K C) (hx : h.get? a = some o) (hc : o.cls = .ref C) (hq : R (.ok (.ret (.ref C))) ⟨h, g, d, t, os⟩) :
    codeAny (model prog w) A (.call (.builtin "getset_descriptor.__get__") ⟨[.builtin "object.__class__", .ref a, .ref C], []⟩) R ⟨h, g, d, t, os⟩ := by
  have hT5 : (⟨h, g, d, t, os⟩ : Shared).TypeIs (.builtin "object.__class__") "getset_descriptor" := F.typeOf_object_class
  have L1 : PySem.W.Looks (model prog w) h (isSubtype (.ref C) (.type (".".intercalate ("object.__class__".cutAt '.').dropLast))) true := by
    rw [F.owner_object_class]; exact PySem.W.looks_mroIn X F1.ob
  refine codeAny_call_builtin F.slot_gs_get.plain F.entry_gs_get (F.slot_gs_get.check _ _ _ _ _ _ _ _ hT5 (F.args_gs_get _ _ _) ?_)
  repeat (any_goals (first | assumption | (with_reducible refine wpAny_loadPart_at hx ?_; rw [hc]) | (with_reducible refine L1.here ?_) | wp_step))
  refine ⟨Code.quiet_builtin _ (by decide +kernel), codeAny_builtin F.entry_object_class ?_⟩
  repeat (any_goals (first | assumption | (with_reducible refine wpAny_loadPart_at hx ?_; rw [hc]) | wp_step))
theorem xcls_check {M : Model} {nameV : Value} {Q : Unit → Shared → Prop} (X : K.In h) (F1 : XK1 K C) (hx : h.get? a = some o) (hc : o.cls = .ref C) (hq : Q () ⟨h, g, d, t, os⟩) : wpAny M A (checkBuiltinCall "BaseException.__getattribute__" ⟨[.ref a, nameV], []⟩) Q E ⟨h, g, d, t, os⟩ := by
  have hk : builtinKind "BaseException.__getattribute__" = some .slot := by decide +kernel
  have hs : splitId "BaseException.__getattribute__" = some ("BaseException", "__getattribute__") := by decide +kernel
  have L1 : PySem.W.Looks M h (isSubtype (.ref C) (.type "BaseException")) true := PySem.W.looks_mroIn X F1.be
  have ha := F.args_bexc_ga (.ref a) nameV
  simp only [checkBuiltinCall, hk, hs]
  refine wpAny_bind ?_
  · unfold isInstance
    repeat (first | (with_reducible refine wpAny_loadPart_at hx ?_; rw [hc]) | (with_reducible refine L1.here ?_) | wp_step)
    exact hq
theorem xcls_entry {tk : Tok} {Q : Fin → Shared → Prop} (X : K.In h) (F1 : XK1 K C) (hx : h.get? a = some o) (hc : o.cls = .ref C) (hq : Q (.done (.ret (.ref C))) ⟨h, g, d, t, os⟩) :
    wpAny (model prog w) A (Builtin.«object.__getattribute__» ⟨[.ref a, .str "__class__" tk], []⟩) Q E ⟨h, g, d, t, os⟩ := by
  have hT5 : (⟨h, g, d, t, os⟩ : Shared).TypeIs (.builtin "object.__class__") "getset_descriptor" := F.typeOf_object_class
  have f5 := F.typeOf_object_class
  have f6 := F.slot_gs_get.lookup
  have f7 := F.slot_gs_set.lookup
  have L1 : PySem.W.Looks (model prog w) h (typeLookup (.ref C) "__class__") (some (.builtin "object.__class__")) := PySem.W.looks_findIn X F1.cl
  repeat (any_goals (first | assumption | (with_reducible refine wpAny_loadPart_at hx ?_; rw [hc]) | (with_reducible refine L1.here ?_) | wp_step))
  refine xcls_get X F1 hx hc ?_
  repeat (any_goals (first | assumption | wp_step))
theorem xcls_by {tk : Tok} {Q : Value → Shared → Prop} (X : K.In h) (F1 : XK1 K C) (hx : h.get? a = some o) (hc : o.cls = .ref C) (hq : Q (.ref C) ⟨h, g, d, t, os⟩) :
    wpAny (model prog w) A (getAttrBy (.ref a) (.str "__class__" tk) false) Q E ⟨h, g, d, t, os⟩ := by
  have f3 := F.excAttr_ValueError.ga.bind (.ref a)
  have hx2 : (Value.builtin "BaseException.__getattribute__" == Value.builtin "object.__getattribute__") = false := by decide +kernel
  have hx1 : (onTheHeap (Value.ref C) && Value.builtin "BaseException.__getattribute__" == Value.builtin "object.__getattribute__") = false := by rw [hx2]; rfl
  have L1 : PySem.W.Looks (model prog w) h (typeLookup (.ref C) "__getattribute__") (some (.builtin "BaseException.__getattribute__")) := PySem.W.looks_findIn X F1.ga
  have L2' : PySem.W.Looks (model prog w) h (typeLookup (.ref C) "__getattr__") none := PySem.W.looks_findIn X F1.no
  repeat (any_goals (first | assumption | (with_reducible refine wpAny_loadPart_at hx ?_; rw [hc]) | (with_reducible refine L1.here ?_) | (with_reducible refine L2'.here ?_) | wp_step))
  refine codeAny_call_builtin F.excAttr_ValueError.ga.plain F.entry_bexc_ga (xcls_check X F1 hx hc (xcls_entry X F1 hx hc ?_))
  repeat (any_goals (first | assumption | wp_step))
theorem xcls_attr {Q : Option Value → Shared → Prop} (X : K.In h) (F1 : XK1 K C) (hx : h.get? a = some o) (hc : o.cls = .ref C) (hq : Q (some (.ref C)) ⟨h, g, d, t + 1, os⟩) : wpAny (model prog w) A (getAttr? (.ref a) "__class__") Q E ⟨h, g, d, t, os⟩ := by
  unfold getAttr? getAttrBy?
  repeat (any_goals (first | assumption | with_reducible apply xcls_by X F1 hx hc | wp_step))
end
def IsX (a C : Addr) (h : Heap) : Prop := ∃ o vs, h.get? a = some o ∧ o.cls = .ref C ∧ o.data = .fields vs
theorem kitx_exc {K : PySem.W.Frag} {a C : Addr} (F1 : XK1 K C) : PySem.W.KitX K (.ref a) (.ref C) (IsX a C) where
  ty := fun M h X p => by
    obtain ⟨o, vs, h1, h2, h3⟩ := p
    exact h2 ▸ (PySem.W.Looks.ld h1).andThen .now
  it := fun M h X p => by
    obtain ⟨cd, hcD, _⟩ := Option.bind_eq_some_iff.mp F1.be
    unfold PySem.W.clsIn at hcD
    split at hcD
    · rename_i c' d' cd' sl' ho
      intro A' Q' E' s' k q
      unfold isType loadHead
      exact wpAny_bind (wpAny_loadPart (k _ _ (X _ _ ho)) (wpAny_pure q))
    · cases hcD
  ne := fun h tp dd its n sl X htp => by
    obtain ⟨cd, hcD, _⟩ := Option.bind_eq_some_iff.mp F1.be
    refine Bool.eq_false_iff.mpr fun q => ?_
    have e : C = tp := Value.ref.inj (beq_iff_eq.mp q)
    subst e
    unfold PySem.W.clsIn at hcD
    split at hcD
    · rename_i c' d' cd' sl' ho
      have z := (X _ _ ho).symm.trans htp
      cases z
    · cases hcD
  ca := fun {prog w A E Q s} X p k => by
    obtain ⟨o, vs, h1, h2, h3⟩ := p
    obtain ⟨hh, g, d, t, os⟩ := s
    exact xcls_attr X F1 h1 h2 k
abbrev xO (a C : Addr) : HO := .ext (IsX a C)
theorem xO_ok {P : Program} {w : World} {H : Hp} {h : Heap} {a C : Addr} (x : IsX a C h) : ObjOk P w H h a (xO a C) := by
  obtain ⟨o, vs, h1, h2, h3⟩ := id x
  exact ⟨x, ⟨o, h1⟩, fun g1 g2 ⟨o', vs', e1, e2, e3⟩ k => ⟨o', vs', k _ e1, e2, e3⟩⟩
section
variable {X : Cx} {pins : List (Addr × Obj)} {σ : St} {H : Hp} {s : Shared} {ea C : Addr}
theorem Inv.track {o : HO} (I : Inv X [] σ H s) (hpn : X.pn = []) (hea : H ea = none) (sea : X.s₀.heap.get? ea = none) (hrec : ∃ ob vs, s.heap.get? ea = some ob ∧ ob.data = .fields vs) (new : ObjOk X.prog X.w (upd H ea o) s.heap ea o) : Inv X [] σ (upd H ea o) s := by
  obtain ⟨ob, vs, ho, hd⟩ := hrec
  have neH : ∀ b u, H b = some u → b ≠ ea := fun b u e z => by rw [z, hea] at e; cases e
  refine I.stepN (h' := s.heap) (g' := s.gens) (d' := s.drawn) (t' := s.toks) (ch := [ea]) (fun b hb => ?_) (fun b o _ _ _ e _ => e) (fun b o _ _ _ e _ => ⟨o.slots, e⟩) (fun b o hb _ n => ?_) (fun b o _ e => ⟨o, e⟩) (fun b xs e => by rw [upd_ne (neH _ _ e)]; exact e) (fun b o u e => by rw [upd_ne (neH _ _ e)]; exact e)
    (fun b ps e => ⟨#[], by rw [upd_ne (neH _ _ e), e]; simp⟩) (fun m hm => hm) (fun b u e => ?_) I.bare
  · obtain rfl : b = ea := by simpa using hb
    refine ⟨.inr sea, fun z => ?_, fun x c e z => ?_, fun p hp => by rw [hpn] at hp; cases hp⟩
    · obtain ⟨m, ⟨o', es, ep, ho', hd', _⟩, _⟩ := I.loc
      rw [← z, ho] at ho'; cases ho'
      rw [hd] at hd'; cases hd'
    · obtain ⟨v, oc, hc, hcd⟩ := I.cell x c e
      rw [z, ho] at hc; cases hc
      rw [hd] at hcd; cases hcd
  · rw [upd_ne fun z => hb (by simp [z])]; exact n
  · by_cases hb : b = ea
    · subst hb; rw [upd_same] at e; cases e; exact new
    · rw [upd_ne hb] at e
      exact (I.hok b u e).stay (fun c v _ q => q) (fun c q => by rw [upd_ne (neH _ _ q)]; exact q) fun c xs q => by rw [upd_ne (neH _ _ q)]; exact q
theorem Inv.blank {h' : Heap} {m' : Str → Option Value} {t' : Nat} (I : Inv X [] σ H s) (hn : h'.Ns X.env.locals m') (hs : Heap.SameBut X.env.locals s.heap h') : Inv X [] (List.replicate X.N.length none) H { s with heap := h', toks := t' } := by
  have neL : ∀ b o, X.s₀.heap.get? b = some o → b ≠ X.env.locals := fun b o e => Nat.ne_of_lt (Nat.lt_of_lt_of_le (Heap.lt_size e) I.ok.above)
  refine ⟨I.ok, I.os, I.bare, ⟨fun b o e n hb hx => (hs.2 b (neL b o e)).trans (I.base.keep b o e n hb hx), fun b o e n hb hx => ?_, I.base.free, fun b o e hx => ?_, I.base.tups, I.base.frzs, I.base.tbls⟩, ⟨m', hn, fun i x v e1 e2 _ => ?_⟩, fun x c e => ?_, I.free, I.freeC, fun p hp => ?_, fun b u e => ?_, by simp⟩
  · obtain ⟨sl, e1⟩ := I.base.slot b o e n hb hx
    exact ⟨sl, (hs.2 b (neL b o e)).trans e1⟩
  · obtain ⟨o', e1⟩ := I.base.there b o e hx
    exact ⟨o', (hs.2 b (neL b o e)).trans e1⟩
  · obtain ⟨_, h2⟩ := List.getElem?_eq_some_iff.mp e2
    simp at h2
  · obtain ⟨v, z⟩ := I.cell x c e
    exact ⟨v, z.sameBut hs (I.cne x c e)⟩
  · obtain ⟨e, n, ne, nf, d⟩ := I.pin p hp
    exact ⟨(hs.2 p.1 ne).trans e, n, ne, nf, d⟩
  · have nf : ∀ c u, H c = some u → c ≠ X.env.locals := fun c u q z => by rw [z, I.free] at q; cases q
    refine (I.hok b u e).stay (fun c v hc q => (hs.2 c ?_).trans q) (fun _ q => q) fun _ _ q => q
    rcases hc with z | z
    · rw [z]; exact nf b u e
    · exact nf c _ z
end
end L2

set_option Elab.async false
set_option linter.all false
set_option maxRecDepth 100000
namespace L2
open PySem PySem.Spec PyProof.Rows
abbrev Hnd := Addr × (Value → TS)
def tHd (K : PySem.W.Frag) : List Hnd → Value → TS
  | [], _ => fun _ _ _ => False
  | (C, t) :: r, cls => fun D σ H => ∃ b, PySem.W.exmOne K cls (.ref C) = some b ∧ if b = true then t cls D σ H else tHd K r cls D σ H
def tAs (i N : Nat) (t : TS) : Value → TS := fun cls D σ H => ∃ C0, cls = .ref C0 ∧ ∀ ea, H ea = none →
  t { nx := fun _ H' => D.nx (List.replicate N none) H', rt := D.rt, bk := fun _ H' => D.bk (List.replicate N none) H', ct := fun _ H' => D.ct (List.replicate N none) H' } (σ.set i (some (.ref ea))) (upd H ea (xO ea C0))
inductive PHd (X : Cx) : List ExceptHandler → List Hnd → Prop
  | nil : PHd X [] []
  | cons {x : Str} {C : Addr} {b₀ : Stmt} {suite : List Stmt} {t : TS} {np pos : Pos} {hs : List ExceptHandler} {r : List Hnd} (hm : X.mg x = some (.ref C)) (hg : Gl X x) (hd : (x == ("__debug__" : Str)) = false) (h : ∀ e, PSs (X.held e) (b₀ :: suite) t) (hr : PHd X hs r) :
      PHd X (.ExceptHandler (some (.Name x np)) none (b₀ :: suite) pos :: hs) ((C, fun _ => t) :: r)
  | as {x n : Str} {C : Addr} {i : Nat} {b₀ : Stmt} {suite : List Stmt} {t : TS} {np pos : Pos} {hs : List ExceptHandler} {r : List Hnd} (hm : X.mg x = some (.ref C)) (hg : Gl X x) (hd : (x == ("__debug__" : Str)) = false) (hN : X.N.Nodup) (hi : X.N[i]? = some n) (hl : X.env.scope.names.lookup n = some .local)
      (h : ∀ e, PSs (X.held e) (b₀ :: suite) t) (hr : PHd X hs r) : PHd X (.ExceptHandler (some (.Name x np)) (some n) (b₀ :: suite) pos :: hs) ((C, tAs i X.N.length t) :: r)
theorem hd_ok {X : Cx} {EE : Value → Shared → Prop} (O : Own X) : ∀ {hs : List ExceptHandler} {r : List Hnd}, PHd X hs r → ∀ {s : Shared} {σ : St} {H : Hp} {D : Ends} {ea T : Addr} {cls : Value}, Inv X [] σ H s → XRec s.heap ea T cls .none → H ea = none → H T = none → X.s₀.heap.get? ea = none → X.s₀.heap.get? T = none → tHd X.K r cls D σ H →
    wpAny (model X.prog X.w) X.A (handleBy (.ref ea) X.env hs) (SP X [] D) EE s := by
  intro hs r P
  induction P with
  | nil => intro s σ H D ea T cls I xr hea hT sea sT h; exact False.elim h
  | cons hm hg hd hsu hr ih =>
    intro s σ H D ea T cls I xr hea hT sea sT h
    obtain ⟨b, hb, h⟩ := h
    refine wpAny_handleBy_cons (codeAny_handlers_test (ld_glob (X := X.held (.ref ea)) (I.held (.ref ea)) hg hm ?_ hd)) (by intro q; cases q)
    obtain ⟨oe, vs, a0, oT, ts, a1, a2, a3, a4, a6, a7, a8, a9⟩ := id xr
    have LT : PySem.W.Looks (model X.prog X.w) s.heap (typeOf (.ref ea)) cls := by
      rw [← a2.1]
      exact (PySem.W.Looks.ld a1).andThen .now
    refine (PySem.W.exm_one I.kIn LT hb).here ?_
    cases b with
    | true =>
      rw [if_pos rfl] at h
      refine codeAny_handlers_suite (air_flight (o := none) O I xr hT sT fun h' I' x' => ?_)
      exact wpAny_mono (hsu (.ref ea) [] _ σ H D (I'.held (.ref ea)) h) (fun f s2 q => q.unheld I.ok) fun _ _ z => False.elim z
    | false =>
      rw [if_neg Bool.false_ne_true] at h
      exact ih I xr hea hT sea sT h
  | as hm hg hd hN hi hl hsu hr ih =>
    rename_i n C i b₀ suite t np pos hs r
    intro s σ H D ea T cls I xr hea hT sea sT h
    obtain ⟨b, hb, h⟩ := h
    refine wpAny_handleBy_cons (codeAny_handlers_test (ld_glob (X := X.held (.ref ea)) (I.held (.ref ea)) hg hm ?_ hd)) (by intro q; cases q)
    obtain ⟨oe, vs, a0, oT, ts, a1, a2, a3, a4, a6, a7, a8, a9⟩ := id xr
    have LT : PySem.W.Looks (model X.prog X.w) s.heap (typeOf (.ref ea)) cls := by
      rw [← a2.1]
      exact (PySem.W.Looks.ld a1).andThen .now
    refine (PySem.W.exm_one I.kIn LT hb).here ?_
    cases b with
    | true =>
      rw [if_pos rfl] at h
      obtain ⟨C0, rfl, h⟩ := h
      refine codeAny_handlers_suite_as (air_flight (o := none) O I xr hT sT fun h' I' x' => ?_)
      obtain ⟨oe', vs', a0', oT', ts', c1, c2, c3, _⟩ := id x'
      have isx : IsX ea C0 h' := ⟨oe', vs', c1, c2.1, c3⟩
      have trk : Inv X [] σ (upd H ea (xO ea C0)) { s with heap := h' } := I'.track O.pn hea sea ⟨oe', vs', c1, c3⟩ (xO_ok isx)
      refine store_ok (X := X) trk hN hi (Or.inl hl) (show RelV (.ref ea) (.ref ea) from rfl) (fun s2 I2 => ?_) (.inr hl)
      refine wpAny_mono (hsu (.ref ea) [] s2 _ _ _ (I2.held (.ref ea)) (h ea hea)) (fun f s3 q => ?_) fun _ _ z => False.elim z
      have q := q.unheld I.ok
      have hp : (X.env.scope.kind == .class || (X.env.scope.kind == .module && X.env.locals != X.env.globals)) = false := by rw [I.ok.kind]; rfl
      have go : ∀ {σ' : St} {H' : Hp} {P : Shared → Prop}, Inv X [] σ' H' s3 → (∀ s4, Inv X [] (List.replicate X.N.length none) H' s4 → P s4) → wpAny (model X.prog X.w) X.A (do bindName X.env n .none; unbindBehindTheSuite X.env n pos) (fun _ s4 => P s4) EE s3 := fun {σ' H' P} J k => by
        obtain ⟨m, hns, _⟩ := id J.loc
        exact wpAny_nameGoes hl hns hp fun h4 m4 n4 sb => k _ (J.blank n4 sb)
      cases f with
      | next => obtain ⟨σ', H', J, q⟩ := q; exact go J fun s4 J4 => ⟨_, H', J4, q⟩
      | brk => obtain ⟨σ', H', J, q⟩ := q; exact go J fun s4 J4 => ⟨_, H', J4, q⟩
      | cont => obtain ⟨σ', H', J, q⟩ := q; exact go J fun s4 J4 => ⟨_, H', J4, q⟩
      | ret u => obtain ⟨v, σ', H', J, rv, q⟩ := q; exact go J fun s4 J4 => ⟨v, _, H', J4, rv, q⟩
    | false =>
      rw [if_neg Bool.false_ne_true] at h
      exact ih I xr hea hT sea sT h
def tTry (K : PySem.W.Frag) (tb : (Value → St → Hp → Prop) → TS) (r : List Hnd) : TS := fun D σ H => tb (fun cls σ' H' => tHd K r cls D σ' H') D σ H
theorem ps_try {X : Cx} {body : List Stmt} {h₀ : ExceptHandler} {hs : List ExceptHandler} {tb : (Value → St → Hp → Prop) → TS} {r : List Hnd} {pos : Pos} (O : Own X) (hb : ∀ ES, PSs (X.wish (Air X ES)) body (tb ES)) (hh : PHd X (h₀ :: hs) r) : PS0 X (.Try body (h₀ :: hs) [] [] pos) (tTry X.K tb r) := by
  intro s σ H D I h
  refine wpAny_Try_except (wpAny_mono (hb _ [] s σ H D (I.wish _) h) (fun f s1 q => ?_) fun e s1 hA => ?_)
  · have q' := SP.unwish q
    cases f with
    | next => exact wpAny_execs_nil q'
    | brk => exact q'
    | cont => exact q'
    | ret u => exact q'
  · refine air_noted O hA fun ea T cls σ' H' h' ee I' x h1 h2 h3 h4 hE => ?_
    subst ee
    exact air_flight (s := { s1 with heap := h' }) (o := none) O I' x h2 h4 fun h'' I'' x'' => hd_ok O hh I'' x'' h1 h2 h3 h4 hE
theorem relV_inj {c : V} {u u' : Value} (hc : (∃ a, c = .ref a) ∨ ∃ n, c = .ty n) (h : RelV c u) (h' : RelV c u') : u = u' := by
  rcases hc with ⟨a, rfl⟩ | ⟨n, rfl⟩
  · cases h; cases h'; rfl
  · cases h; cases h'; rfl
theorem call_isX {X : Cx} : CallR X (.builtin "isinstance") (fun xs H Q => ∃ a C c cv b, xs = [.ref a, c] ∧ ((∃ p, c = .ref p) ∨ ∃ n, c = .ty n) ∧ RelV c cv ∧ H a = some (xO a C) ∧ XK1 X.K C ∧ PySem.W.kitOne X.K (.ref C) cv = some b ∧ Q (.bl b) H) := by
  intro pins s σ H xs us Q I r h
  obtain ⟨a, C, c, cv, b, rfl, hc, rc, ha, F1, e, q⟩ := h
  obtain ⟨u, w', rfl, ru, rw'⟩ := vals2 r
  cases ru
  obtain rfl := relV_inj hc rc rw'
  obtain ⟨p, _, _⟩ := (show ObjOk X.prog X.w H s.heap a (xO a C) from I.hok a _ ha)
  exact PySem.W.kia_one (kitx_exc F1) I.kIn p e (fun z => nomatch z) fun tk => ⟨.bl b, H, I.tok _, rfl, q⟩
end L2

set_option Elab.async false
set_option linter.all false
set_option maxRecDepth 100000
namespace L2
open PySem PySem.Spec PyProof.Rows
theorem own_nox {P : Program} {w : World} {K : PySem.W.Frag} {mg : Str → Option Value} {base : Heap} {CX : CXT} {N : List Str} {qual : Str} {scope : Scope} {f : Addr} {cd : Value} {A : Around} {outer : List Env} {s : Shared} {H : Hp} {E : XK} : Own (cxOf CX P w K mg base N qual scope f cd A outer s H E).nox := ⟨rfl, rfl, rfl, rfl⟩
theorem pe_never {X : Cx} {e : Expr} : PE X e (fun _ _ _ => False) := fun _ _ _ _ _ _ h => h.elim
def spNever : Sp := fun _ _ _ _ => False
theorem fn_never {P : Program} {w : World} {K : PySem.W.Frag} {mg : Str → Option Value} {base : Heap} {CX : CXT} {k : Nat} {f : Addr} {fd : FuncData} {ps : List Str} : FnOk P w K mg base CX k f fd ps spNever := ⟨fun _ _ _ _ h => h.elim, fun _ _ _ _ _ _ _ _ _ _ _ _ _ h => h.elim⟩
def rCount : V → List V → Hp → VK → Prop := fun x vs H Q => ∃ (l : Addr) (bs : List Bool) (b : Bool), x = .ref l ∧ vs = [.bl b] ∧ H l = some (.lst (bs.map V.bl)) ∧ Q (.int (bs.countP (· == b) : Nat)) H
theorem countP_bools (b : Bool) : ∀ {bs : List Bool} {us : List Value}, Vals (bs.map V.bl) us → us.countP (fun y => match y with | .bool a => a == b | _ => false) = bs.countP (· == b)
  | [], _, .nil => rfl
  | a :: r, _, .cons q t => by
    cases q
    rw [List.countP_cons, List.countP_cons, countP_bools b t]
theorem bools_mem : ∀ {bs : List Bool} {us : List Value} {y : Value}, Vals (bs.map V.bl) us → y ∈ us → ∃ a, y = .bool a
  | [], _, _, .nil, h => nomatch h
  | a :: r, _, y, .cons q t, h => by
    cases q
    rcases List.mem_cons.mp h with e | e
    · exact ⟨a, e⟩
    · exact bools_mem t e
theorem mt_count {X : Cx} : MtM X "list.count" rCount := by
  intro pins s σ H x vs v us Q I rx rv h
  obtain ⟨l, bs, b, rfl, rfl, hH, q⟩ := h
  cases rx
  obtain ⟨u, rfl, ru⟩ := rv.one
  cases ru
  obtain ⟨z, its, n, r, hl, e⟩ := I.lstM hH
  refine call_meets F.slot_list_count ⟨_, e, rfl⟩ F.entry_list_count (F.args_list_count_2 _ _) (PySem.SeqAt.list_countAt l its.toArray n none #[] (.bool b) (fun y => match y with | .bool a => a == b | _ => false)) ⟨e, fun y hy => ?_, ?_⟩
  · obtain ⟨a, rfl⟩ := bools_mem r (by simpa using hy)
    exact SeqAt.EqAt.bool_bool a b
  · have : (its.toArray.toList.countP fun y => match y with | .bool a => a == b | _ => false) = bs.countP (· == b) := countP_bools b r
    rw [this]
    exact ⟨.int _, H, I.tok _, ⟨_, rfl⟩, q⟩
theorem pe_isX {X : Cx} {e c : Expr} {te tc : TE} {p pos : Pos} (B : FL.Bl X.mg) (h : PE X e te) (hc : PE X c tc) (hg : Gl X "isinstance" := by rfl) (he : starEach [e, c] X.env = (false, eval e X.env) :: starEach [c] X.env := by rfl) (he' : starEach [c] X.env = (false, eval c X.env) :: starEach [] X.env := by rfl) :
    PE X (.Call (.Name "isinstance" p) [e, c] [] pos) (tCB (fun xs H Q => ∃ a C c cv b, xs = [.ref a, c] ∧ ((∃ p, c = .ref p) ∨ ∃ n, c = .ty n) ∧ RelV c cv ∧ H a = some (xO a C) ∧ XK1 X.K C ∧ PySem.W.kitOne X.K (.ref C) cv = some b ∧ Q (.bl b) H) (tCons te (tCons tc tNil))) :=
  pe_callB call_isX hg B.isinstance PyProof.Rows.boot_isinstance (pa_cons h (pa_cons hc pa_nil he') he) (he := he) (hpl := by rw [he']; rfl)
structure XInfo (K : PySem.W.Frag) (mg : Str → Option Value) (x : Str) (C : Addr) : Prop where
  mg : mg x = some (.ref C)
  ex : PySem.W.excIn K C [.type "ValueError", .type "Exception", .type "BaseException", .type "object"] "ValueError.__new__" = true
theorem XInfo.fb {K : PySem.W.Frag} {mg : Str → Option Value} {x : Str} {C : Addr} (_ : XInfo K mg x C) : ExcBaseFacts "ValueError" "ValueError.__new__" "ValueError.__init__" [.type "ValueError", .type "Exception", .type "BaseException", .type "object"] := F.excBase_ValueError
end L2
namespace FL
open PySem L2
inductive Ref | head | guard | blank
  deriving DecidableEq
structure ClsA where
  h : Addr
  g : Addr
  b : Addr
def ClsA.of (c : ClsA) : Ref → Addr
  | .head => c.h | .guard => c.g | .blank => c.b
def spK (c : ClsA) (R : List D → Option Ref → Prop) : Sp := fun vs H Q E => ∃ M ds o, Live M H ∧ Reps (but H M) vs ds ∧ R ds o ∧ (o = none → ∀ H', Same H H' → Q .non H') ∧ ∀ r, o = some r → ∀ H', Same H H' → E (.ref (c.of r)) none H'
theorem spK_len {c : ClsA} {R : List D → Option Ref → Prop} {n : Nat} (hn : ∀ ds o, R ds o → ds.length = n) : ∀ vs H Q E, spK c R vs H Q E → vs.length = n := fun vs H Q E ⟨M, ds, o, l, r, e, _⟩ => by rw [r.length]; exact hn ds o e
section
variable {c : ClsA} {R : List D → Option Ref → Prop} {ES : Value → St → Hp → Prop} {t : TA} {σ : St} {δ : Dn} {M : List Addr} {H : Hp} {ds : List D} {o : Option Ref} {E : Ends}
theorem s_callK (l : Live M H) (hE : EnvR (but H M) σ δ) (hR : R ds o) (ha : EvA t (but H M) σ ds) (k0 : o = none → ∀ H', Same H H' → Live M H' → EnvR (but H' M) σ δ → E.nx σ H') (k1 : ∀ r, o = some r → ∀ H', Same H H' → Live M H' → EnvR (but H' M) σ δ → ES (.ref (c.of r)) σ H') : tDrop (tCallA (spK c R) ES t) E σ H :=
  ha M H (Same.refl _) l _ fun vs H1 s1 rs => ⟨M, ds, o, l.same s1, rs, hR, fun e H' s' => k0 e H' (s1.trans s') (l.same (s1.trans s')) (hE.same (s1.trans s')), fun r e H' s' => k1 r e H' (s1.trans s') (l.same (s1.trans s')) (hE.same (s1.trans s'))⟩
theorem t_raises {r : Ref} (l : Live M H) (hR : R ds (some r)) (ha : EvA t (but H M) σ ds) (k1 : ∀ H', Same H H' → ES (.ref (c.of r)) σ H') (Q : VK) : tCallA (spK c R) ES t σ H Q :=
  ha M H (Same.refl _) l _ fun vs H1 s1 rs => ⟨M, ds, some r, l.same s1, rs, hR, (fun e => nomatch e), fun r' e H' s' => by cases e; exact k1 H' (s1.trans s')⟩
end
theorem val_names (B : List Str) (n : Str) : (valV (namesK B) (Sum.inr n)).isSome = decide (n ∈ B) := by
  unfold valV
  rw [Option.isSome_map]
  induction B with
  | nil => rfl
  | cons b r ih =>
    unfold namesK at ih ⊢
    rw [List.map_cons, List.find?_cons]
    by_cases e : b = n
    · subst e; simp
    · have e' : ¬ n = b := fun z => e z.symm
      have : decide (((Sum.inr b : Key), V.bl true).1 = (Sum.inr n : Key)) = false := by simp [e]
      rw [this]
      dsimp only
      rw [ih]
      simp [e']
theorem tv_notinN {σ : St} {M : List Addr} {H : Hp} {ty : TE} {i : Nat} {p : Addr} {B : List Str} {n : Str} (e : σ[i]? = some (some (.ref p))) (hp : H p = some (.dK (namesK B))) (l : Live M H) (h : EvM ty (but H M) σ (.str n)) : TV (tB (tDNotIn ty (tVar i))) σ H (!decide (n ∈ B)) :=
  fun H1 s1 Q k => h M H1 (s1.but M) (l.same s1) _ fun y H2 s2 ry => ⟨.ref p, e, p, valV (namesK B) (Sum.inr n), rfl, by rw [(rep_sc (d := .str n) rfl ry).2]; exact DGet.k (s2 _ _ (s1 _ _ hp)), _, rfl, by rw [val_names]; exact k H2 s2⟩
def addN (B : List Str) (n : Str) : List Str := if n ∈ B then B else B ++ [n]
theorem mem_addN {B : List Str} {n m : Str} : m ∈ addN B n ↔ m ∈ B ∨ m = n := by
  unfold addN
  split
  · constructor
    · exact .inl
    · rintro (h | h)
      · exact h
      · subst h; assumption
  · simp
theorem mem_foldN : ∀ {l B : List Str} {m : Str}, m ∈ l.foldl addN B ↔ m ∈ B ∨ m ∈ l
  | [], B, m => by simp
  | n :: r, B, m => by
    rw [List.foldl_cons, mem_foldN, mem_addN, List.mem_cons]
    constructor
    · rintro ((h | h) | h)
      · exact .inl h
      · exact .inr (.inl h)
      · exact .inr (.inr h)
    · rintro (h | h | h)
      · exact .inl (.inl h)
      · exact .inl (.inr h)
      · exact .inr h
theorem len_addN (B : List Str) (n : Str) : (addN B n).length ≤ B.length + 1 := by unfold addN; split <;> simp
theorem len_foldN : ∀ (l B : List Str), (l.foldl addN B).length ≤ B.length + l.length
  | [], B => by simp
  | n :: r, B => by
    have := len_foldN r (addN B n)
    have := len_addN B n
    rw [List.foldl_cons, List.length_cons]
    omega
def boundOf (as : List (List D)) : List Str := (as.filter fun a => !guardD a).foldl (fun B a => (blanksOf [] a).foldl addN B) []
def looseIn (xs as : List (List D)) : Bool := xs.any fun a => (blanksOf [] a).any fun n => !decide (n ∈ boundOf as)
def longG (as : List (List D)) : Bool := (as.filter guardD).any fun g => !decide (g.length = 3)
def chkB (as : List (List D)) : Option Ref := if longG as = true then some .guard else if looseIn (as.filter guardD) as = true then some .blank else none
def chkR (hd : List D) (as : List (List D)) : Option Ref := if guardD hd = true then some .head else match chkB as with
  | some r => some r
  | none => if looseIn [hd] as = true then some .blank else none
structure OkC (a : List D) : Prop where
  ok : OkA a
  len8 : a.length ≤ 8
  rel : ∃ r ps, a = .str r :: ps
  txt : ∀ s, D.str s ∈ a → s.length ≤ 100
structure OkB (as : List (List D)) : Prop where
  atm : ∀ a ∈ as, OkC a
  len : as.length ≤ 70
theorem OkB.okA {as : List (List D)} (h : OkB as) : ∀ a ∈ as, OkA a := fun a ha => (h.atm a ha).ok
theorem OkB.len100 {as : List (List D)} (h : OkB as) : as.length ≤ 100 := by have := h.len; omega
def ruleD (hd : List D) (as : List (List D)) : D := .tup [.tup hd, bodyD as]
theorem blanks_mem : ∀ {l : List D} {B : List Str} {n : Str}, n ∈ blanksOf B l → n ∈ B ∨ (D.str n ∈ l ∧ blankD (.str n) = true)
  | [], B, n, h => .inl h
  | x :: r, B, n, h => by
    have h : n ∈ blanksOf (addB B x) r := h
    rcases blanks_mem h with z | ⟨z1, z2⟩
    · unfold addB at z
      split at z
      · rename_i hc
        rcases List.mem_append.mp z with y | y
        · exact .inl y
        · have e := List.mem_singleton.mp y
          have hb : blankD x = true := by simp at hc; first | exact hc.1 | exact hc.2
          have hx := blank_str hb
          refine .inr ⟨?_, ?_⟩
          · rw [e, ← hx]; exact List.mem_cons_self
          · rw [e, ← hx]; exact hb
      · exact .inl z
    · exact .inr ⟨List.mem_cons_of_mem _ z1, z2⟩
section
variable {ES : Value → St → Hp → Prop} {t : TA} {σ : St} {M : List Addr} {H : Hp} {ds : List D} {E : Ends} {C : Addr}
theorem s_raise (l : Live M H) (ha : EvA t (but H M) σ ds) (hz : ds.length ≤ 100) (k : ∀ H', Same H H' → ES (.ref C) σ H') : tRaise C ES t E σ H :=
  ha M H (Same.refl _) l _ fun vs H1 s1 rs => ⟨by rw [rs.length]; exact Nat.le_of_lt (small1000 (by omega)), k H1 s1⟩
end
theorem _root_.L2.FnOk.calm {P : Program} {w : World} {K : PySem.W.Frag} {mg : Str → Option Value} {base : Heap} {k : Nat} {f : Addr} {fd : FuncData} {ps : List Str} {sp : Sp} (F : FnOk P w K mg base (CXA P w) k f fd ps sp) : FnOk P w K mg base CX0 k f fd ps (fun vs H Q _ => sp vs H Q L2.E0) :=
  ⟨fun vs H Q E h => F.len vs H Q L2.E0 h, fun A outer s H args us vs Q E hr he hb hv h => codeAny_mono (F.run A outer s H args us vs Q L2.E0 hr he hb hv h) fun r s' q => by
    cases r with
    | ok fl => cases fl <;> exact q
    | error e =>
      obtain ⟨_, _, _, _, _, _, _, _, _, _, _, _, _, _, z⟩ := q
      exact z.elim⟩
end FL

set_option Elab.async false
set_option linter.all false
set_option maxRecDepth 100000
set_option maxHeartbeats 4000000
namespace K04
open PySem L2 FL
def top (i : Nat) : Stmt := PySem.Challenge.pw_factloom_k04_sound_rules.main.body.getD i (.Pass ⟨0, 0, 0, 0⟩)
abbrev s_is_blank : Stmt := top 3
abbrev s_is_guard : Stmt := top 4
abbrev s_blanks_in : Stmt := top 5
abbrev s_holds : Stmt := top 8
abbrev s_askers_in : Stmt := top 17
abbrev s_guards_in : Stmt := top 18
abbrev s_check_rule : Stmt := top 19
abbrev s_check_body : Stmt := top 20
abbrev s_refuse_loose : Stmt := top 21
abbrev s_facts_of : Stmt := top 30
abbrev s_reasons_by_round : Stmt := top 31
abbrev s_rounds : Stmt := top 32
abbrev s_reasons : Stmt := top 33
abbrev s_grounds : Stmt := top 36
abbrev s_asked : Stmt := top 37
abbrev s_law_at : Stmt := top 39
abbrev s_law_atom_by : Stmt := top 40
abbrev s_law_head_by : Stmt := top 41
abbrev s_law_refusal : Stmt := top 42
abbrev s_law_asked : Stmt := top 43
abbrev s_law_said : Stmt := top 44
abbrev s_law_refuses : Stmt := top 45
abbrev s_law : Stmt := top 46
section
variable {P : Program} {w : World} {K : PySem.W.Frag} {mg : Str → Option Value} {base : Heap} {f : Addr} {fd : FuncData}
theorem sc_is_blank : FnScope ["part"] ["part"] (defScope s_is_blank) := ⟨rfl, rfl, rfl, by decide +kernel, rfl, by decide +kernel, by decide +kernel⟩
theorem ok_is_blank (F : Fun K "is_blank" "is_blank" s_is_blank f fd) (B : Bl mg) : FnOk P w K mg base CX0 1 f fd ["part"] (spR RBlank) := by
  refine F.ok sc_is_blank (spR_len (n := 1) fun ds d ⟨x, e, _⟩ => by rw [e]; rfl) (fun cdv A outer s H vs Q E hr h => ?_)
  obtain ⟨M, ds, d, lv, rs, ⟨x, rfl, hx, rfl⟩, q⟩ := h
  refine ⟨_, (pss_one (ps_ret (pe_and (pe_isin B (pv 0) B.str PyProof.Rows.boot_str) (pe_one (pe_upper (pe_ixS (pv 0) pe_int)))))), ?_⟩
  have E0 := env_start rs ["part"]
  cases x with
  | str s =>
    obtain ⟨hz, c, r, e⟩ := hx
    exact s_ret lv ((ev_and (b := true) (ev_isStr (d := .str s) (ev_v E0 rfl)) fun _ => ev_upper (ev_ixs hz (c := c) (by rw [e]; exact atI_zero) (ev_v E0 rfl) ev_int)).eq (by show D.bl (true && _) = D.bl (Txt.isupper _); rw [blank_first e, Bool.true_and])) q
  | non => exact s_ret lv (ev_and (b := false) (c := false) (ev_isStr (d := .non) (ev_v E0 rfl)) fun z => nomatch z) q
  | bl b => exact s_ret lv (ev_and (b := false) (c := false) (ev_isStr (d := .bl b) (ev_v E0 rfl)) fun z => nomatch z) q
  | int b => exact s_ret lv (ev_and (b := false) (c := false) (ev_isStr (d := .int b) (ev_v E0 rfl)) fun z => nomatch z) q
  | tup b => exact s_ret lv (ev_and (b := false) (c := false) (ev_isStr (d := .tup b) (ev_v E0 rfl)) fun z => nomatch z) q
  | lst b => exact s_ret lv (ev_and (b := false) (c := false) (ev_isStr (d := .lst b) (ev_v E0 rfl)) fun z => nomatch z) q
theorem sc_is_guard : FnScope ["atom"] ["atom"] (defScope s_is_guard) := ⟨rfl, rfl, rfl, by decide +kernel, rfl, by decide +kernel, by decide +kernel⟩
theorem ok_is_guard {uL uU : Value} (F : Fun K "is_guard" "is_guard" s_is_guard f fd) (B : Bl mg) (c_LESS : mg "LESS" = some uL ∧ RelV (.str "less") uL) (c_UNLIKE : mg "UNLIKE" = some uU ∧ RelV (.str "unlike") uU) : FnOk P w K mg base CX0 1 f fd ["atom"] (spR RGuard) := by
  refine F.ok sc_is_guard (spR_len (n := 1) fun ds d ⟨x, e, _⟩ => by rw [e]; rfl) (fun cdv A outer s H vs Q E hr h => ?_)
  obtain ⟨M, ds, d, lv, rs, ⟨At, rfl, hA, rfl⟩, q⟩ := h
  have hu := hu50 hr
  refine ⟨_, (pss_one (ps_ret (pe_or (pe_cmpR (op_eqA (by exact hu)) (pe_ixS (pv 0) pe_int) (pe_glob rfl c_LESS.1 c_LESS.2) (nomark _)) (pe_one (pe_cmpR (op_eqA (by exact hu)) (pe_ixS (pv 0) pe_int) (pe_glob rfl c_UNLIKE.1 c_UNLIKE.2) (nomark _)))))), ?_⟩
  have E0 := env_start rs ["atom"]
  obtain ⟨x0, A', rfl⟩ := List.exists_cons_of_ne_nil hA.ne
  have h0 := (hA.sc x0 List.mem_cons_self).1
  have c1 := sc_cmp (a := x0) (b := .str "less") h0 rfl
  have c2 := sc_cmp (a := x0) (b := .str "unlike") h0 rfl
  exact s_ret lv (ev_or (ev_eqA c1.1 c1.2 (ev_ixt (d := x0) atI_zero (ev_v E0 rfl) ev_int) ev_str) fun _ => ev_eqA c2.1 c2.2 (ev_ixt (d := x0) atI_zero (ev_v E0 rfl) ev_int) ev_str) q
theorem sc_blanks_in : FnScope ["atom", "found", "part"] ["atom"] (defScope s_blanks_in) := ⟨rfl, rfl, rfl, by decide +kernel, rfl, by decide +kernel, by decide +kernel⟩
theorem ok_blanks_in (F : Fun K "blanks_in" "blanks_in" s_blanks_in f fd) (B : Bl mg) (G_is_blank : Has P w K mg base 1 "is_blank" ["part"] (spR RBlank)) : FnOk P w K mg base CX0 2 f fd ["atom"] (spR RBlanksIn) := by
  refine F.ok sc_blanks_in (spR_len (n := 1) fun ds d ⟨x, e, _⟩ => by rw [e]; rfl) (fun cdv A outer s H vs Q E hr h => ?_)
  obtain ⟨M, ds, d, lv, rs, ⟨At, rfl, hA, rfl⟩, q⟩ := h
  have hu := hu50 hr
  have hu1 := hu_of hr
  refine ⟨_, (pss_cons (ps_set (i := 1) sc_blanks_in.nd rfl (Or.inl rfl) pe_dnewK)
      (pss_cons (ps_for PassesOwn.never rfl (pi_seq (pv 0)) (pg_name (i := 2) sc_blanks_in.nd rfl (by first | exact Or.inl rfl | exact Or.inr rfl)) (pss_one (ps_if (pt_val (pe_own G_is_blank hr (pa_cons (pv 2) pa_nil))) (pss_one (ps_dput hu1 (pv 1) (pv 2) pe_bl rfl)) pss_nil)))
      (pss_one (ps_ret (pe_listD B (pv 1)))))), ?_⟩
  have E0 := env_start rs ["atom", "found", "part"]
  refine s_newD (i := 1) lv E0 (by simp) fun p σ1 H1 o1 i1 n1 h1 l1 k1 E1 => ?_
  have s01 : Same H H1 := fun b o e => (k1 b o e).2
  have Hp0 : H p = none := none_of (Same.refl H) k1
  refine st_for (M := p :: M) (ds := At) (walk_seqT (ev_v E1 rfl)) l1 fun H2 s2 => ?_
  refine ⟨fun j σ' H' => σ'[1]? = some (some (.ref p)) ∧ H' p = some (.dK (namesK (blanksOf [] (At.take j)))) ∧ Same H H' ∧ Live (p :: M) H' ∧ Same (but H2 (p :: M)) (but H' (p :: M)) ∧ EnvR (but H' (p :: M)) σ' [some (.tup At), none, none],
    ⟨i1, s2 _ _ h1, s01.trans s2, l1.same s2, Same.refl _, E1.same s2⟩, fun j σ' H' ⟨_, _, _, x, y, _⟩ => ⟨y, x⟩, ?_, ?_⟩
  · rintro j d x σ' H' H'' hd ⟨j1, hp, S0, l', S', E'⟩ s3 rx
    have hx := hA.sc d (List.mem_of_getElem? hd)
    have hj : j < At.length := (List.getElem?_eq_some_iff.mp hd).1
    have E3 : EnvR (but H'' (p :: M)) (σ'.set 2 (some x)) [some (.tup At), none, some d] := (E'.same s3).set 2 rx
    have b1 : (σ'.set 2 (some x))[1]? = some (some (.ref p)) := (List.getElem?_set_ne (by decide)).trans j1
    refine s_if (l'.same s3) E3 (evt_tB (ev_callR ⟨d, rfl, hx.2, rfl⟩ (ev_cons (ev_v E3 rfl) ev_nil))) (fun e H4 s4 l4 E4 => ?_) (fun e H4 s4 l4 E4 => nx ?_)
    · have hdn := blank_str e
      have hlen := blanksOf_le (At.take j) []
      rw [List.length_nil, List.length_take] at hlen
      refine s_putN (n := d.name) l4 E4 (by simp) b1 (s4 _ _ (s3 _ _ hp)) (by have := hA.len; omega) ((ev_v E4 rfl).eq hdn) (ev_bl (b := true)) fun H5 k5 l5 h5 E5 => ?_
      have S5 : Same (but H4 (p :: M)) (but H5 (p :: M)) := hide_same (by simp) k5
      refine ⟨b1, ?_, same_keep (S0.trans (s3.trans s4)) Hp0 k5, l5, S'.trans (((s3.trans s4).but _).trans S5), E5.drop 2⟩
      rw [blanksOf_take hd, addB_blank e]
      exact h5
    · refine ⟨b1, ?_, S0.trans (s3.trans s4), l4, S'.trans ((s3.trans s4).but _), E4.drop 2⟩
      rw [blanksOf_take hd, addB_non e]
      exact s4 _ _ (s3 _ _ hp)
  · rintro σ' H' ⟨j1, hp, S0, l', S', E'⟩
    rw [List.take_of_length_le (Nat.le_refl _)] at hp
    refine ⟨.ref p, j1, p, _, rfl, .inl hp, fun a ha => q (.ref a) _ (S0.trans (same_new ha _)) ?_⟩
    have e1 : (namesK (blanksOf [] At)).map (fun kv => kV kv.1) = (blanksOf [] At).map V.str := by
      unfold namesK
      rw [List.map_map]
      rfl
    rw [e1]
    have haM : a ∉ M := (lv.same S0).fresh ha
    refine .lst (vs := (blanksOf [] At).map V.str) ?_ (reps_strs _)
    rw [but_out haM]
    exact upd_same
theorem filter_tups (p : D → Bool) (g : List D → Bool) (as : List (List D)) (h : ∀ a ∈ as, p (.tup a) = g a) : ((as.map D.tup).filter p).map (fun d => d) = (as.filter g).map D.tup := by
  rw [List.map_id', List.filter_map]
  congr 1
  exact List.filter_congr h
def guardP : D → Bool
  | .tup A => guardD A
  | _ => false
theorem sc_askers_in : FnScope ["body"] ["body"] (defScope s_askers_in) := ⟨rfl, rfl, rfl, by decide +kernel, rfl, by decide +kernel, by decide +kernel⟩
theorem ok_askers_in (F : Fun K "askers_in" "askers_in" s_askers_in f fd) (B : Bl mg) (G_is_guard : Has P w K mg base 1 "is_guard" ["atom"] (spR RGuard)) : FnOk P w K mg base CX0 2 f fd ["body"] (spR RAskers) := by
  refine F.ok sc_askers_in (spR_len (n := 1) fun ds d ⟨x, e, _⟩ => by rw [e]; rfl) (fun cdv A outer s H vs Q E hr h => ?_)
  obtain ⟨M, ds, d, lv, rs, ⟨as, rfl, hA, hz, rfl⟩, q⟩ := h
  refine ⟨_, (pss_one (ps_ret (pe_compC ["atom"] [] 1 (pi_seq (pv 0)) (fun _ _ _ _ _ => (pg_name (i := 0) (show (["atom"] : List Str).Nodup from by decide +kernel) rfl (by first | exact Or.inl rfl | exact Or.inr rfl))) (fun _ _ _ _ _ => (pts_one (pt_not (pt_val (pe_ownc G_is_guard hr (pa_cons (pv 0) pa_nil)))))) (fun _ _ _ _ _ => (pv 0))))), ?_⟩
  have E0 := env_start rs ["body"]
  refine s_ret lv (EvM.eq (ev_comp (caps := capsOf [] 1) (i := 0) (p := fun d => !guardP d) (f := fun d => d) (walk_seqT (ds := as.map D.tup) (ev_v E0 rfl)) (fun G' v d sG hd r => ?_) (fun G' v d sG hd _ r => ev_var ?_ r) (by rw [List.length_map]; exact small1000 (by omega))) ?_) q
  · obtain ⟨a, ha, rfl⟩ := List.mem_map.mp hd
    exact evt_not (evt_tB (ev_callR (d := .bl (guardP (.tup a))) ⟨a, rfl, hA a ha, rfl⟩ (ev_cons (ev_var (by simp [capsOf]) r) ev_nil)))
  · simp [capsOf]
  · rw [filter_tups _ (fun a => !guardD a) as fun a _ => rfl]
    rfl
theorem sc_guards_in : FnScope ["body"] ["body"] (defScope s_guards_in) := ⟨rfl, rfl, rfl, by decide +kernel, rfl, by decide +kernel, by decide +kernel⟩
theorem ok_guards_in (F : Fun K "guards_in" "guards_in" s_guards_in f fd) (B : Bl mg) (G_is_guard : Has P w K mg base 1 "is_guard" ["atom"] (spR RGuard)) : FnOk P w K mg base CX0 2 f fd ["body"] (spR RGuards) := by
  refine F.ok sc_guards_in (spR_len (n := 1) fun ds d ⟨x, e, _⟩ => by rw [e]; rfl) (fun cdv A outer s H vs Q E hr h => ?_)
  obtain ⟨M, ds, d, lv, rs, ⟨as, rfl, hA, hz, rfl⟩, q⟩ := h
  refine ⟨_, (pss_one (ps_ret (pe_compC ["atom"] [] 1 (pi_seq (pv 0)) (fun _ _ _ _ _ => (pg_name (i := 0) (show (["atom"] : List Str).Nodup from by decide +kernel) rfl (by first | exact Or.inl rfl | exact Or.inr rfl))) (fun _ _ _ _ _ => (pts_one (pt_val (pe_ownc G_is_guard hr (pa_cons (pv 0) pa_nil))))) (fun _ _ _ _ _ => (pv 0))))), ?_⟩
  have E0 := env_start rs ["body"]
  refine s_ret lv (EvM.eq (ev_comp (caps := capsOf [] 1) (i := 0) (p := guardP) (f := fun d => d) (walk_seqT (ds := as.map D.tup) (ev_v E0 rfl)) (fun G' v d sG hd r => ?_) (fun G' v d sG hd _ r => ev_var ?_ r) (by rw [List.length_map]; exact small1000 (by omega))) ?_) q
  · obtain ⟨a, ha, rfl⟩ := List.mem_map.mp hd
    exact evt_tB (ev_callR (d := .bl (guardP (.tup a))) ⟨a, rfl, hA a ha, rfl⟩ (ev_cons (ev_var (by simp [capsOf]) r) ev_nil))
  · simp [capsOf]
  · rw [filter_tups _ guardD as fun a _ => rfl]
    rfl
end
end K04

set_option Elab.async false
set_option linter.all false
set_option maxRecDepth 100000
set_option maxHeartbeats 4000000
namespace K04
open PySem L2 FL
section
variable {P : Program} {w : World} {K : PySem.W.Frag} {mg : Str → Option Value} {base : Heap} {f : Addr} {fd : FuncData}
def RLoose : List D → Option Ref → Prop := fun ds o => ∃ xs as, ds = [atomsL xs, bodyD as] ∧ (∀ a ∈ xs, OkC a) ∧ xs.length ≤ 100 ∧ OkB as ∧ o = if looseIn xs as = true then some .blank else none
theorem fitsJ {a b : Str} (ha : a.length ≤ 100) (hb : b.length ≤ 100) : ([a, b] : List Str).foldl (fun n z => n + z.length) Str.empty.length ≤ sizeLine := by
  simp only [List.foldl_cons, List.foldl_nil]
  have h0 : Str.empty.length = 0 := rfl
  have : sizeLine = 16777216 := sizeLine_eq
  omega
theorem size100 {n : Nat} (h : n ≤ 100) : n ≤ sizeLine := Nat.le_of_lt (small1000 (by omega))
theorem sc_refuse_loose : FnScope ["atoms", "body", "bound", "asker", "blank", "atom"] ["atoms", "body"] (defScope s_refuse_loose) := ⟨rfl, rfl, rfl, by decide +kernel, rfl, by decide +kernel, by decide +kernel⟩
theorem ok_refuse_loose {c : ClsA} (F : Fun K "refuse_loose" "refuse_loose" s_refuse_loose f fd) (B : Bl mg) (X_LooseBlank : XInfo K mg "LooseBlank" c.b) (G_askers_in : Has P w K mg base 2 "askers_in" ["body"] (spR RAskers)) (G_blanks_in : Has P w K mg base 2 "blanks_in" ["atom"] (spR RBlanksIn)) :
    FnOk P w K mg base (CXA P w) 3 f fd ["atoms", "body"] (spK c RLoose) := by
  refine F.okA sc_refuse_loose (spK_len (n := 2) fun ds d ⟨xs, as, e, _⟩ => by rw [e]; rfl) (fun cdv A outer s H vs Q E hr h => ?_)
  obtain ⟨M, ds, o, lv, rs, ⟨xs, as, rfl, hx, hxl, hb, ho⟩, q0, q1⟩ := h
  have hu := hu50 hr
  have hu1 := hu_of hr
  refine ⟨_, (pss_cons (ps_set (i := 2) sc_refuse_loose.nd rfl (Or.inl rfl) pe_dnewK)
      (pss_cons (ps_for (air_own own_cx) rfl (pi_seq (pe_own G_askers_in hr (pa_cons (pv 1) pa_nil))) (pg_name (i := 3) sc_refuse_loose.nd rfl (by first | exact Or.inl rfl | exact Or.inr rfl)) (pss_one (ps_for (air_own own_cx) rfl (pi_seq (pe_own G_blanks_in hr (pa_cons (pv 3) pa_nil))) (pg_name (i := 4) sc_refuse_loose.nd rfl (by first | exact Or.inl rfl | exact Or.inr rfl)) (pss_one (ps_dput hu1 (pv 2) (pv 4) pe_bl rfl)))))
      (pss_one (ps_for (air_own own_cx) rfl (pi_seq (pv 0)) (pg_name (i := 5) sc_refuse_loose.nd rfl (by first | exact Or.inl rfl | exact Or.inr rfl)) (pss_one (ps_for (air_own own_cx) rfl (pi_seq (pe_own G_blanks_in hr (pa_cons (pv 5) pa_nil))) (pg_name (i := 4) sc_refuse_loose.nd rfl (by first | exact Or.inl rfl | exact Or.inr rfl)) (pss_one (ps_if (pt_cmp (pc_dnotin (by exact hu1) (pv 4) (pv 2))) (pss_one (ps_raise own_cx X_LooseBlank.fb X_LooseBlank.ex X_LooseBlank.mg (pa_cons (pe_fstr (pj_cons pe_str (pj_cons (pe_fmt (pv 4)) pj_nil))) pa_nil))) pss_nil)))))))), ?_⟩
  have E0 := env_start rs ["atoms", "body", "bound", "asker", "blank", "atom"]
  refine s_newD (i := 2) lv E0 (by simp) fun p σ1 H1 o1 i1 n1 h1 l1 k1 E1 => ?_
  have s01 : Same H H1 := fun b o e => (k1 b o e).2
  have Hp0 : H p = none := none_of (Same.refl H) k1
  let asks := as.filter fun a => !guardD a
  have hasks : ∀ a ∈ asks, OkC a := fun a ha => hb.atm a (List.mem_filter.mp ha).1
  have halen : asks.length ≤ 70 := Nat.le_trans (List.length_filter_le _ _) hb.len
  let Bd : Nat → List Str := fun j => (asks.take j).foldl (fun B a => (blanksOf [] a).foldl addN B) []
  refine st_for (M := p :: M) (ds := asks.map D.tup) (walk_seqL (ev_callR ⟨as, rfl, hb.okA, hb.len100, rfl⟩ (ev_cons (ev_v E1 rfl) ev_nil))) l1 fun H2 s2 => ?_
  refine ⟨fun j σ' H' => σ'[2]? = some (some (.ref p)) ∧ H' p = some (.dK (namesK (Bd j))) ∧ (Bd j).length ≤ 8 * j ∧ Same H H' ∧ Live (p :: M) H' ∧ Same (but H2 (p :: M)) (but H' (p :: M)) ∧ EnvR (but H' (p :: M)) σ' [some (atomsL xs), some (bodyD as), none, none, none, none],
    ⟨i1, s2 _ _ h1, Nat.le_refl _, s01.trans s2, l1.same s2, Same.refl _, E1.same s2⟩, fun j σ' H' ⟨_, _, _, _, x, y, _⟩ => ⟨y, x⟩, ?_, ?_⟩
  · rintro j d x σ' H' H'' hd ⟨j1, hp, hlen, S0, l', S', E'⟩ s3 rx
    obtain ⟨a, hda, rfl⟩ : ∃ a, asks[j]? = some a ∧ d = .tup a := by
      rw [List.getElem?_map] at hd
      cases e : asks[j]? with
      | none => rw [e] at hd; cases hd
      | some y => rw [e] at hd; exact ⟨y, rfl, (Option.some.inj hd).symm⟩
    have hj : j < asks.length := (List.getElem?_eq_some_iff.mp hda).1
    have oka := hasks a (List.mem_of_getElem? hda)
    have E3 : EnvR (but H'' (p :: M)) (σ'.set 3 (some x)) [some (atomsL xs), some (bodyD as), none, some (.tup a), none, none] := (E'.same s3).set 3 rx
    have b1 : (σ'.set 3 (some x))[2]? = some (some (.ref p)) := (List.getElem?_set_ne (by decide)).trans j1
    have hBl : (blanksOf [] a).length ≤ 8 := by
      have := blanksOf_le a []
      have := oka.len8
      simp only [List.length_nil] at *
      omega
    have hnext : Bd (j + 1) = (blanksOf [] a).foldl addN (Bd j) := by
      show (asks.take (j + 1)).foldl _ [] = _
      rw [List.take_add_one, hda, List.foldl_append]
      rfl
    refine st_for (M := p :: M) (ds := (blanksOf [] a).map D.str) (walk_seqL (ev_callR ⟨a, rfl, oka.ok, rfl⟩ (ev_cons (ev_v E3 rfl) ev_nil))) (l'.same s3) fun H4 s4 => ?_
    refine ⟨fun i σ' H' => σ'[2]? = some (some (.ref p)) ∧ H' p = some (.dK (namesK (((blanksOf [] a).take i).foldl addN (Bd j)))) ∧ Same H H' ∧ Live (p :: M) H' ∧ Same (but H4 (p :: M)) (but H' (p :: M)) ∧ EnvR (but H' (p :: M)) σ' [some (atomsL xs), some (bodyD as), none, some (.tup a), none, none],
      ⟨b1, s4 _ _ (s3 _ _ hp), S0.trans (s3.trans s4), (l'.same s3).same s4, Same.refl _, E3.same s4⟩, fun j σ' H' ⟨_, _, _, x, y, _⟩ => ⟨y, x⟩, ?_, ?_⟩
    · rintro i d x2 σ2 H5 H6 hd2 ⟨j2, hp2, S2, l2, S3, E2⟩ s5 rx2
      obtain ⟨n, hn, rfl⟩ : ∃ n, (blanksOf [] a)[i]? = some n ∧ d = .str n := by
        rw [List.getElem?_map] at hd2
        cases e : (blanksOf [] a)[i]? with
        | none => rw [e] at hd2; cases hd2
        | some y => rw [e] at hd2; exact ⟨y, rfl, (Option.some.inj hd2).symm⟩
      have E6 : EnvR (but H6 (p :: M)) (σ2.set 4 (some x2)) [some (atomsL xs), some (bodyD as), none, some (.tup a), some (.str n), none] := (E2.same s5).set 4 rx2
      have b2 : (σ2.set 4 (some x2))[2]? = some (some (.ref p)) := (List.getElem?_set_ne (by decide)).trans j2
      have hl9 := len_foldN ((blanksOf [] a).take i) (Bd j)
      have hl10 : ((blanksOf [] a).take i).length ≤ 8 := by rw [List.length_take]; omega
      refine s_putN (n := n) (l2.same s5) E6 (by simp) b2 (s5 _ _ hp2) (by omega) (ev_v E6 rfl) (ev_bl (b := true)) fun H7 k7 l7 h7 E7 => ?_
      have S7 : Same (but H6 (p :: M)) (but H7 (p :: M)) := hide_same (by simp) k7
      refine ⟨b2, ?_, same_keep (S2.trans s5) Hp0 k7, l7, S3.trans ((s5.but _).trans S7), E7.drop 4⟩
      rw [List.take_add_one, hn, List.foldl_append]
      exact h7
    · rintro σ2 H5 ⟨j2, hp2, S2, l2, S3, E2⟩
      rw [List.length_map, List.take_of_length_le (Nat.le_refl _)] at hp2
      have hl9 := len_foldN (blanksOf [] a) (Bd j)
      refine ⟨j2, by rw [hnext]; exact hp2, by rw [hnext]; omega, S2, l2, S'.trans ((s3.trans s4).but _ |>.trans S3), E2.drop 3⟩
  · rintro σ' H' ⟨j1, hp, _, S0, l', S', E'⟩
    rw [List.length_map] at hp
    have hbd : Bd asks.length = boundOf as := by
      show (asks.take asks.length).foldl _ [] = _
      rw [List.take_of_length_le (Nat.le_refl _)]
      rfl
    rw [hbd] at hp
    refine st_for (M := p :: M) (ds := xs.map D.tup) (walk_seqL (ev_v E' rfl)) l' fun H2 s2 => ?_
    refine ⟨fun j σ' H' => σ'[2]? = some (some (.ref p)) ∧ H' p = some (.dK (namesK (boundOf as))) ∧ Same H H' ∧ Live (p :: M) H' ∧ Same (but H2 (p :: M)) (but H' (p :: M)) ∧ EnvR (but H' (p :: M)) σ' [some (atomsL xs), some (bodyD as), none, none, none, none] ∧ looseIn (xs.take j) as = false,
      ⟨j1, s2 _ _ hp, S0.trans s2, l'.same s2, Same.refl _, E'.same s2, rfl⟩, fun j σ' H' ⟨_, _, _, x, y, _, _⟩ => ⟨y, x⟩, ?_, ?_⟩
    · rintro j d x σ' H' H'' hd ⟨j1, hp, S0, l', S', E', hno⟩ s3 rx
      obtain ⟨a, hda, rfl⟩ : ∃ a, xs[j]? = some a ∧ d = .tup a := by
        rw [List.getElem?_map] at hd
        cases e : xs[j]? with
        | none => rw [e] at hd; cases hd
        | some y => rw [e] at hd; exact ⟨y, rfl, (Option.some.inj hd).symm⟩
      have ham := List.mem_of_getElem? hda
      have oka := hx a ham
      have E3 : EnvR (but H'' (p :: M)) (σ'.set 5 (some x)) [some (atomsL xs), some (bodyD as), none, none, none, some (.tup a)] := (E'.same s3).set 5 rx
      have b1 : (σ'.set 5 (some x))[2]? = some (some (.ref p)) := (List.getElem?_set_ne (by decide)).trans j1
      refine st_for (M := p :: M) (ds := (blanksOf [] a).map D.str) (walk_seqL (ev_callR ⟨a, rfl, oka.ok, rfl⟩ (ev_cons (ev_v E3 rfl) ev_nil))) (l'.same s3) fun H4 s4 => ?_
      refine ⟨fun i σ' H' => σ'[2]? = some (some (.ref p)) ∧ H' p = some (.dK (namesK (boundOf as))) ∧ Same H H' ∧ Live (p :: M) H' ∧ Same (but H4 (p :: M)) (but H' (p :: M)) ∧ EnvR (but H' (p :: M)) σ' [some (atomsL xs), some (bodyD as), none, none, none, some (.tup a)] ∧ ∀ n ∈ (blanksOf [] a).take i, n ∈ boundOf as,
        ⟨b1, s4 _ _ (s3 _ _ hp), S0.trans (s3.trans s4), (l'.same s3).same s4, Same.refl _, E3.same s4, fun n hn => nomatch hn⟩, fun j σ' H' ⟨_, _, _, x, y, _, _⟩ => ⟨y, x⟩, ?_, ?_⟩
      · rintro i d x2 σ2 H5 H6 hd2 ⟨j2, hp2, S2, l2, S3, E2, hin⟩ s5 rx2
        obtain ⟨n, hn, rfl⟩ : ∃ n, (blanksOf [] a)[i]? = some n ∧ d = .str n := by
          rw [List.getElem?_map] at hd2
          cases e : (blanksOf [] a)[i]? with
          | none => rw [e] at hd2; cases hd2
          | some y => rw [e] at hd2; exact ⟨y, rfl, (Option.some.inj hd2).symm⟩
        have hnm := List.mem_of_getElem? hn
        have E6 : EnvR (but H6 (p :: M)) (σ2.set 4 (some x2)) [some (atomsL xs), some (bodyD as), none, none, some (.str n), some (.tup a)] := (E2.same s5).set 4 rx2
        have b2 : (σ2.set 4 (some x2))[2]? = some (some (.ref p)) := (List.getElem?_set_ne (by decide)).trans j2
        have l6 := l2.same s5
        refine s_ifV l6 E6 (tv_notinN b2 (s5 _ _ hp2) l6 (ev_v E6 rfl)) (fun e H7 s7 l7 E7 => ?_) (fun e H7 s7 l7 E7 => ?_)
        · have hnb : ¬ n ∈ boundOf as := by simpa using e
          have hl : looseIn xs as = true := List.any_eq_true.mpr ⟨a, ham, List.any_eq_true.mpr ⟨n, hnm, by simp [hnb]⟩⟩
          have hnl : n.length ≤ 100 := by
            rcases blanks_mem hnm with z | z
            · cases z
            · exact oka.txt n z.1
          try dsimp only
          refine s_raise (ds := [.str _]) l7 (ev_cons (ev_j1 ev_str (ev_j1 (ev_fmt (size100 hnl) (ev_v E7 rfl)) ev_j0) Str.empty (fitsJ (by decide +kernel) hnl)) ev_nil) (by simp) fun H8 s8 => ?_
          exact q1 .blank (by rw [ho, if_pos hl]) H8 (S2.trans (s5.trans (s7.trans s8)))
        · have hnb : n ∈ boundOf as := by simpa using e
          refine nx ⟨b2, s7 _ _ (s5 _ _ hp2), S2.trans (s5.trans s7), l7, S3.trans ((s5.trans s7).but _), E7.drop 4, fun m hm => ?_⟩
          rw [List.take_add_one, hn] at hm
          rcases List.mem_append.mp hm with z | z
          · exact hin m z
          · rw [List.mem_singleton.mp z]; exact hnb
      · rintro σ2 H5 ⟨j2, hp2, S2, l2, S3, E2, hin⟩
        rw [List.length_map, List.take_of_length_le (Nat.le_refl _)] at hin
        refine ⟨j2, hp2, S2, l2, S'.trans ((s3.trans s4).but _ |>.trans S3), E2.drop 5, ?_⟩
        rw [List.take_add_one, hda]
        show (xs.take j ++ [a]).any _ = false
        rw [List.any_append, show (xs.take j).any _ = false from hno, Bool.false_or]
        simp only [List.any_cons, List.any_nil, Bool.or_false]
        rw [List.any_eq_false]
        intro n hn
        simp [hin n hn]
    · rintro σ' H' ⟨j1, hp, S0, l', S', E', hno⟩
      rw [List.length_map, List.take_of_length_le (Nat.le_refl _)] at hno
      exact q0 (by rw [ho, hno]; rfl) H' S0
def RCheckB : List D → Option Ref → Prop := fun ds o => ∃ as, ds = [bodyD as] ∧ OkB as ∧ o = chkB as
theorem sc_check_body : FnScope ["body", "guards", "guard", "relation"] ["body"] (defScope s_check_body) := ⟨rfl, rfl, rfl, by decide +kernel, rfl, by decide +kernel, by decide +kernel⟩
theorem ok_check_body {c : ClsA} (F : Fun K "check_body" "check_body" s_check_body f fd) (B : Bl mg) (X_BadGuard : XInfo K mg "BadGuard" c.g) (G_guards_in : Has P w K mg base 2 "guards_in" ["body"] (spR RGuards)) (G_refuse_loose : HasA P w K mg base 3 "refuse_loose" ["atoms", "body"] (spK c RLoose)) :
    FnOk P w K mg base (CXA P w) 4 f fd ["body"] (spK c RCheckB) := by
  refine F.okA sc_check_body (spK_len (n := 1) fun ds d ⟨as, e, _⟩ => by rw [e]; rfl) (fun cdv A outer s H vs Q E hr h => ?_)
  obtain ⟨M, ds, o, lv, rs, ⟨as, rfl, hb, ho⟩, q0, q1⟩ := h
  have hu := hu50 hr
  refine ⟨_, (pss_cons (ps_set (i := 1) sc_check_body.nd rfl (Or.inl rfl) (pe_own G_guards_in hr (pa_cons (pv 0) pa_nil)))
      (pss_cons (ps_for (air_own own_cx) rfl (pi_seq (pv 1)) (pg_name (i := 2) sc_check_body.nd rfl (by first | exact Or.inl rfl | exact Or.inr rfl)) (pss_one (ps_if (pt_cmpR (op_neA (by exact hu)) (pe_len B (pv 2)) pe_int (nomark _)) (pss_cons (ps_set (i := 3) sc_check_body.nd rfl (Or.inl rfl) (pe_ixS (pv 2) pe_int))
      (pss_one (ps_raise own_cx X_BadGuard.fb X_BadGuard.ex X_BadGuard.mg (pa_cons (pe_fstr (pj_cons pe_str (pj_cons (pe_fmt (pv 3)) pj_nil))) pa_nil)))) pss_nil)))
      (pss_one (ps_expr (pe_ownA own_cx G_refuse_loose hr (pa_cons (pv 1) (pa_cons (pv 0) pa_nil))))))), ?_⟩
  have E0 := env_start rs ["body", "guards", "guard", "relation"]
  let gs := as.filter guardD
  have hgs : ∀ a ∈ gs, OkC a := fun a ha => hb.atm a (List.mem_filter.mp ha).1
  have hgl : gs.length ≤ 70 := Nat.le_trans (List.length_filter_le _ _) hb.len
  refine s_set (d := atomsL gs) lv E0 (ev_callR ⟨as, rfl, hb.okA, hb.len100, rfl⟩ (ev_cons (ev_v E0 rfl) ev_nil)) fun σ1 H1 s1 l1 E1 => ?_
  refine st_for (M := M) (ds := gs.map D.tup) (walk_seqL (ev_v E1 rfl)) l1 fun H2 s2 => ?_
  refine ⟨fun j σ' H' => Same H2 H' ∧ EnvR (but H' M) σ' [some (bodyD as), some (atomsL gs), none, none] ∧ ∀ g ∈ gs.take j, g.length = 3, ⟨Same.refl _, E1.same s2, fun g hg => nomatch hg⟩, fun j σ' H' ⟨a, b, _⟩ => ⟨a.but M, (l1.same s2).same a⟩, ?_, ?_⟩
  · rintro j d x σ' H' H'' hd ⟨a, b, hall⟩ s3 rx
    obtain ⟨g, hdg, rfl⟩ : ∃ a, gs[j]? = some a ∧ d = .tup a := by
      rw [List.getElem?_map] at hd
      cases e : gs[j]? with
      | none => rw [e] at hd; cases hd
      | some y => rw [e] at hd; exact ⟨y, rfl, (Option.some.inj hd).symm⟩
    have hgm := List.mem_of_getElem? hdg
    have okg := hgs g hgm
    have E3 : EnvR (but H'' M) (σ'.set 2 (some x)) [some (bodyD as), some (atomsL gs), some (.tup g), none] := (b.same s3).set 2 rx
    have l3 : Live M H'' := (l1.same (s2.trans a)).same s3
    refine s_if l3 E3 (evt_test (ev_neI (ev_lenT (ev_cons (ev_v E3 rfl) ev_nil)) ev_int)) (fun e H4 s4 l4 E4 => ?_) (fun e H4 s4 l4 E4 => ?_)
    · obtain ⟨r, ps, er⟩ := okg.rel
      have hne : ¬ g.length = 3 := by
        have := e
        simp only [Bool.not_eq_true', decide_eq_false_iff_not] at this
        omega
      have hrl : r.length ≤ 100 := okg.txt r (by rw [er]; exact List.mem_cons_self)
      have hlong : longG as = true := List.any_eq_true.mpr ⟨g, hgm, by simp [hne]⟩
      subst er
      refine s_set l4 E4 (ev_ixt (d := .str r) atI_zero (ev_v E4 rfl) ev_int) fun σ5 H5 s5 l5 E5 => ?_
      try dsimp only
      refine s_raise (ds := [.str _]) l5 (ev_cons (ev_j1 (z := Str.ofString "a guard must have two parts: ") ev_str (ev_j1 (ev_fmt (size100 hrl) (ev_v (i := 3) E5 rfl)) ev_j0) Str.empty (fitsJ (by decide +kernel) hrl)) ev_nil) (by simp) fun H6 s6 => ?_
      refine q1 .guard ?_ H6 (s1.trans (s2.trans (a.trans (s3.trans (s4.trans (s5.trans s6))))))
      rw [ho]; unfold chkB; rw [if_pos hlong]
    · refine nx ⟨a.trans (s3.trans s4), E4.drop 2, fun m hm => ?_⟩
      rw [List.take_add_one, hdg] at hm
      rcases List.mem_append.mp hm with z | z
      · exact hall m z
      · rw [List.mem_singleton.mp z]
        have := e
        simp only [Bool.not_eq_false', decide_eq_true_eq] at this
        omega
  · rintro σ' H' ⟨a, b, hall⟩
    rw [List.length_map, List.take_of_length_le (Nat.le_refl _)] at hall
    have hlong : longG as = false := by
      unfold longG
      rw [List.any_eq_false]
      intro g hg
      simp [hall g hg]
    have l5 := (l1.same s2).same a
    try dsimp only
    refine s_callK (R := RLoose) (ds := [atomsL gs, bodyD as]) (o := if looseIn gs as = true then some .blank else none) l5 b ⟨gs, as, rfl, hgs, by omega, hb, rfl⟩ (ev_cons (ev_v (i := 1) b rfl) (ev_cons (ev_v (i := 0) b rfl) ev_nil)) (fun e H6 s6 l6 E6 => ?_) (fun r e H6 s6 l6 E6 => ?_)
    · refine q0 ?_ H6 (s1.trans (s2.trans (a.trans s6)))
      rw [ho]; unfold chkB; rw [hlong, if_neg Bool.false_ne_true]
      exact e
    · refine q1 r ?_ H6 (s1.trans (s2.trans (a.trans s6)))
      rw [ho]; unfold chkB; rw [hlong, if_neg Bool.false_ne_true]
      exact e
def RCheckR : List D → Option Ref → Prop := fun ds o => ∃ hd as, ds = [ruleD hd as] ∧ OkC hd ∧ OkB as ∧ o = chkR hd as
theorem sc_check_rule : FnScope ["rule", "head", "body", "relation"] ["rule"] (defScope s_check_rule) := ⟨rfl, rfl, rfl, by decide +kernel, rfl, by decide +kernel, by decide +kernel⟩
theorem ok_check_rule {c : ClsA} (F : Fun K "check_rule" "check_rule" s_check_rule f fd) (B : Bl mg) (X_BadHead : XInfo K mg "BadHead" c.h) (G_is_guard : Has P w K mg base 1 "is_guard" ["atom"] (spR RGuard)) (G_check_body : HasA P w K mg base 4 "check_body" ["body"] (spK c RCheckB)) (G_refuse_loose : HasA P w K mg base 3 "refuse_loose" ["atoms", "body"] (spK c RLoose)) :
    FnOk P w K mg base (CXA P w) 5 f fd ["rule"] (spK c RCheckR) := by
  refine F.okA sc_check_rule (spK_len (n := 1) fun ds d ⟨hd, as, e, _⟩ => by rw [e]; rfl) (fun cdv A outer s H vs Q E hr h => ?_)
  obtain ⟨M, ds, o, lv, rs, ⟨hd, as, rfl, oh, hb, ho⟩, q0, q1⟩ := h
  have hu := hu50 hr
  refine ⟨_, (pss_cons (ps_set (i := 1) sc_check_rule.nd rfl (Or.inl rfl) (pe_ixS (pv 0) pe_int))
      (pss_cons (ps_set (i := 2) sc_check_rule.nd rfl (Or.inl rfl) (pe_ixS (pv 0) pe_int))
      (pss_cons (ps_if (pt_val (pe_own G_is_guard hr (pa_cons (pv 1) pa_nil))) (pss_cons (ps_set (i := 3) sc_check_rule.nd rfl (Or.inl rfl) (pe_ixS (pv 1) pe_int))
      (pss_one (ps_raise own_cx X_BadHead.fb X_BadHead.ex X_BadHead.mg (pa_cons (pe_fstr (pj_cons pe_str (pj_cons (pe_fmt (pv 3)) pj_nil))) pa_nil)))) pss_nil)
      (pss_cons (ps_expr (pe_ownA own_cx G_check_body hr (pa_cons (pv 2) pa_nil)))
      (pss_one (ps_expr (pe_ownA own_cx G_refuse_loose hr (pa_cons (pe_lst (pa_cons (pv 1) pa_nil)) (pa_cons (pv 2) pa_nil))))))))), ?_⟩
  have E0 := env_start rs ["rule", "head", "body", "relation"]
  refine s_set (d := .tup hd) lv E0 (ev_ixt atI_zero (ev_v E0 rfl) ev_int) fun σ1 H1 s1 l1 E1 => ?_
  refine s_set (d := bodyD as) l1 E1 (ev_ixt (ds := [.tup hd, bodyD as]) (atI_of_nat (by decide) rfl) (ev_v E1 rfl) ev_int) fun σ2 H2 s2 l2 E2 => ?_
  refine s_if l2 E2 (evt_tB (ev_callR ⟨hd, rfl, oh.ok, rfl⟩ (ev_cons (ev_v E2 rfl) ev_nil))) (fun e H3 s3 l3 E3 => ?_) (fun e H3 s3 l3 E3 => ?_)
  · obtain ⟨r, ps, er⟩ := oh.rel
    have hrl : r.length ≤ 100 := oh.txt r (by rw [er]; exact List.mem_cons_self)
    subst er
    refine s_set l3 E3 (ev_ixt (d := .str r) atI_zero (ev_v E3 rfl) ev_int) fun σ5 H5 s5 l5 E5 => ?_
    try dsimp only
    refine s_raise (ds := [.str _]) l5 (ev_cons (ev_j1 (z := Str.ofString "a head must not be a guard: ") ev_str (ev_j1 (ev_fmt (size100 hrl) (ev_v (i := 3) E5 rfl)) ev_j0) Str.empty (fitsJ (by decide +kernel) hrl)) ev_nil) (by simp) fun H6 s6 => ?_
    refine q1 .head ?_ H6 (s1.trans (s2.trans (s3.trans (s5.trans s6))))
    rw [ho]; unfold chkR; rw [if_pos e]
  · refine nx ?_
    have hch : chkR hd as = match chkB as with | some r => some r | none => if looseIn [hd] as = true then some .blank else none := if_neg (by rw [e]; exact Bool.false_ne_true)
    try dsimp only
    refine s_callK (R := RCheckB) (ds := [bodyD as]) (o := chkB as) l3 E3 ⟨as, rfl, hb, rfl⟩ (ev_cons (ev_v (i := 2) E3 rfl) ev_nil) (fun e4 H4 s4 l4 E4 => ?_) (fun r e4 H4 s4 l4 E4 => ?_)
    · rw [e4] at hch
      try dsimp only
      refine s_callK (R := RLoose) (ds := [atomsL [hd], bodyD as]) (o := if looseIn [hd] as = true then some .blank else none) l4 E4 ⟨[hd], as, rfl, fun a ha => by rw [List.mem_singleton.mp ha]; exact oh, by simp, hb, rfl⟩ (ev_cons (ev_lst (ds := [.tup hd]) (ev_cons (ev_v (i := 1) E4 rfl) ev_nil)) (ev_cons (ev_v (i := 2) E4 rfl) ev_nil)) (fun e5 H5 s5 l5 E5 => ?_) (fun r e5 H5 s5 l5 E5 => ?_)
      · exact q0 (by rw [ho, hch]; exact e5) H5 (s1.trans (s2.trans (s3.trans (s4.trans s5))))
      · exact q1 r (by rw [ho, hch]; exact e5) H5 (s1.trans (s2.trans (s3.trans (s4.trans s5))))
    · rw [e4] at hch
      exact q1 r (by rw [ho, hch]) H4 (s1.trans (s2.trans (s3.trans s4)))
end
end K04

set_option Elab.async false
set_option linter.all false
set_option maxRecDepth 100000
set_option maxHeartbeats 4000000
namespace K04
open PySem L2 FL
section
variable {P : Program} {w : World} {K : PySem.W.Frag} {mg : Str → Option Value} {base : Heap} {f : Addr} {fd : FuncData}
structure Two (h1 : List D) (a1 : List (List D)) (h2 : List D) (a2 : List (List D)) (r : Ref) : Prop where
  o1 : OkC h1
  b1 : OkB a1
  c1 : chkR h1 a1 = none
  o2 : OkC h2
  b2 : OkB a2
  c2 : chkR h2 a2 = some r
def RRules : List D → Option Ref → Prop := fun ds o => ∃ h1 a1 h2 a2 odd r, ds = [.lst [ruleD h1 a1, ruleD h2 a2, odd]] ∧ Two h1 a1 h2 a2 r ∧ o = some r
def RRulesF : List D → Option Ref → Prop := fun ds o => ∃ h1 a1 h2 a2 odd r y, ds = [.lst [ruleD h1 a1, ruleD h2 a2, odd], y] ∧ Two h1 a1 h2 a2 r ∧ o = some r
theorem sc_reasons_by_round : FnScope ["rules", "rule", "weaving", "found", "latest"] ["rules"] (defScope s_reasons_by_round) := ⟨rfl, rfl, rfl, by decide +kernel, rfl, by decide +kernel, by decide +kernel⟩
theorem ok_reasons_by_round {c : ClsA} (F : Fun K "reasons_by_round" "reasons_by_round" s_reasons_by_round f fd) (B : Bl mg) (G_check_rule : HasA P w K mg base 5 "check_rule" ["rule"] (spK c RCheckR)) : FnOk P w K mg base (CXA P w) 6 f fd ["rules"] (spK c RRules) := by
  refine F.okA sc_reasons_by_round (spK_len (n := 1) fun ds d ⟨_, _, _, _, _, _, e, _⟩ => by rw [e]; rfl) (fun cdv A outer s H vs Q E hr h => ?_)
  obtain ⟨M, ds, o, lv, rs, ⟨h1, a1, h2, a2, odd, r, rfl, T, rfl⟩, q0, q1⟩ := h
  refine ⟨_, (pss_cons (ps_for (air_own own_cx) rfl (pi_seq (pv 0)) (pg_name (i := 1) sc_reasons_by_round.nd rfl (by first | exact Or.inl rfl | exact Or.inr rfl)) (pss_one (ps_expr (pe_ownA own_cx G_check_rule hr (pa_cons (pv 1) pa_nil))))) pss_never), ?_⟩
  have E0 := env_start rs ["rules", "rule", "weaving", "found", "latest"]
  refine st_for (M := M) (ds := [ruleD h1 a1, ruleD h2 a2, odd]) (walk_seqL (ev_v E0 rfl)) lv fun H2 s2 => ?_
  refine ⟨fun j σ' H' => j ≤ 1 ∧ Same H2 H' ∧ EnvR (but H' M) σ' [some (.lst [ruleD h1 a1, ruleD h2 a2, odd]), none, none, none, none], ⟨by decide, Same.refl _, E0.same s2⟩, fun j σ' H' ⟨_, a, b⟩ => ⟨a.but M, (lv.same s2).same a⟩, ?_, ?_⟩
  · rintro j d x σ' H' H'' hd ⟨hj, a, b⟩ s3 rx
    have E3 : EnvR (but H'' M) (σ'.set 1 (some x)) [some (.lst [ruleD h1 a1, ruleD h2 a2, odd]), some d, none, none, none] := (b.same s3).set 1 rx
    have l3 : Live M H'' := (lv.same (s2.trans a)).same s3
    have hj2 : j = 0 ∨ j = 1 := by omega
    try dsimp only
    rcases hj2 with rfl | rfl
    · obtain rfl : ruleD h1 a1 = d := Option.some.inj hd
      exact s_callK (R := RCheckR) (ds := [ruleD h1 a1]) (o := chkR h1 a1) l3 E3 ⟨h1, a1, rfl, T.o1, T.b1, rfl⟩ (ev_cons (ev_v (i := 1) E3 rfl) ev_nil) (fun e H4 s4 l4 E4 => ⟨by decide, a.trans (s3.trans s4), E4.drop 1⟩) (fun r e => by rw [T.c1] at e; cases e)
    · obtain rfl : ruleD h2 a2 = d := Option.some.inj hd
      exact s_callK (R := RCheckR) (ds := [ruleD h2 a2]) (o := chkR h2 a2) l3 E3 ⟨h2, a2, rfl, T.o2, T.b2, rfl⟩ (ev_cons (ev_v (i := 1) E3 rfl) ev_nil) (fun e => by rw [T.c2] at e; cases e) (fun r' e H4 s4 l4 E4 => q1 r' (by rw [← e, T.c2]) H4 (s2.trans (a.trans (s3.trans s4))))
  · rintro σ' H' ⟨hj, a, b⟩
    simp at hj
theorem sc_reasons : FnScope ["rules", "every", "found"] ["rules"] (defScope s_reasons) := ⟨rfl, rfl, rfl, by decide +kernel, rfl, by decide +kernel, by decide +kernel⟩
theorem ok_reasons {c : ClsA} (F : Fun K "reasons" "reasons" s_reasons f fd) (B : Bl mg) (G_reasons_by_round : HasA P w K mg base 6 "reasons_by_round" ["rules"] (spK c RRules)) : FnOk P w K mg base (CXA P w) 7 f fd ["rules"] (spK c RRules) := by
  refine F.okA sc_reasons (spK_len (n := 1) fun ds d ⟨_, _, _, _, _, _, e, _⟩ => by rw [e]; rfl) (fun cdv A outer s H vs Q E hr h => ?_)
  obtain ⟨M, ds, o, lv, rs, ⟨h1, a1, h2, a2, odd, r, rfl, T, rfl⟩, q0, q1⟩ := h
  refine ⟨_, (pss_cons (ps_set (i := 1) sc_reasons.nd rfl (Or.inl rfl) (pe_lst pa_nil)) (pss_cons (ps_for (air_own own_cx) rfl (pi_seq (pe_ownA own_cx G_reasons_by_round hr (pa_cons (pv 0) pa_nil))) (pg_name (i := 2) sc_reasons.nd rfl (by first | exact Or.inl rfl | exact Or.inr rfl)) pss_never) pss_never)), ?_⟩
  have E0 := env_start rs ["rules", "every", "found"]
  refine s_set (d := .lst []) lv E0 (ev_lst ev_nil) fun σ1 H1 s1 l1 E1 => ?_
  exact .inl (t_raises (c := c) (ES := fun cls _ H' => E cls none H') (R := RRules) (ds := [.lst [ruleD h1 a1, ruleD h2 a2, odd]]) (r := r) l1 ⟨h1, a1, h2, a2, odd, r, rfl, T, rfl⟩ (ev_cons (ev_v (i := 0) E1 rfl) ev_nil) (fun H' s' => q1 r rfl H' (s1.trans s')) _)
theorem sc_rounds : FnScope ["rules"] ["rules"] (defScope s_rounds) := ⟨rfl, rfl, rfl, by decide +kernel, rfl, by decide +kernel, by decide +kernel⟩
theorem ok_rounds {c : ClsA} (F : Fun K "rounds" "rounds" s_rounds f fd) (B : Bl mg) (G_reasons_by_round : HasA P w K mg base 6 "reasons_by_round" ["rules"] (spK c RRules)) : FnOk P w K mg base (CXA P w) 7 f fd ["rules"] (spK c RRules) := by
  refine F.okA sc_rounds (spK_len (n := 1) fun ds d ⟨_, _, _, _, _, _, e, _⟩ => by rw [e]; rfl) (fun cdv A outer s H vs Q E hr h => ?_)
  obtain ⟨M, ds, o, lv, rs, ⟨h1, a1, h2, a2, odd, r, rfl, T, rfl⟩, q0, q1⟩ := h
  refine ⟨_, (pss_one (ps_ret (pe_compC ["found"] [] 1 (pi_seq (pe_ownA own_cx G_reasons_by_round hr (pa_cons (pv 0) pa_nil))) (fun _ _ _ _ _ => (pg_name (i := 0) (show (["found"] : List Str).Nodup from by decide +kernel) rfl (by first | exact Or.inl rfl | exact Or.inr rfl))) (fun _ _ _ _ _ => pts_nil) (fun _ _ _ _ _ => pe_never)))), ?_⟩
  have E0 := env_start rs ["rules"]
  exact .inl (t_raises (c := c) (ES := fun cls _ H' => E cls none H') (R := RRules) (ds := [.lst [ruleD h1 a1, ruleD h2 a2, odd]]) (r := r) lv ⟨h1, a1, h2, a2, odd, r, rfl, T, rfl⟩ (ev_cons (ev_v (i := 0) E0 rfl) ev_nil) (fun H' s' => q1 r rfl H' s') _)
theorem sc_grounds : FnScope ["rules", "fact", "found", "facts", "kept", "new_places", "place", "reason"] ["rules", "fact"] (defScope s_grounds) := ⟨rfl, rfl, rfl, by decide +kernel, rfl, by decide +kernel, by decide +kernel⟩
theorem ok_grounds {c : ClsA} (F : Fun K "grounds" "grounds" s_grounds f fd) (B : Bl mg) (G_reasons : HasA P w K mg base 7 "reasons" ["rules"] (spK c RRules)) : FnOk P w K mg base (CXA P w) 8 f fd ["rules", "fact"] (spK c RRulesF) := by
  refine F.okA sc_grounds (spK_len (n := 2) fun ds d ⟨_, _, _, _, _, _, _, e, _⟩ => by rw [e]; rfl) (fun cdv A outer s H vs Q E hr h => ?_)
  obtain ⟨M, ds, o, lv, rs, ⟨h1, a1, h2, a2, odd, r, y, rfl, T, rfl⟩, q0, q1⟩ := h
  refine ⟨_, (pss_cons (ps_set (i := 2) sc_grounds.nd rfl (Or.inl rfl) (pe_ownA own_cx G_reasons hr (pa_cons (pv 0) pa_nil))) pss_never), ?_⟩
  have E0 := env_start rs ["rules", "fact", "found", "facts", "kept", "new_places", "place", "reason"]
  exact (t_raises (c := c) (ES := fun cls _ H' => E cls none H') (R := RRules) (ds := [.lst [ruleD h1 a1, ruleD h2 a2, odd]]) (r := r) lv ⟨h1, a1, h2, a2, odd, r, rfl, T, rfl⟩ (ev_cons (ev_v (i := 0) E0 rfl) ev_nil) (fun H' s' => q1 r rfl H' s') _)
theorem sc_asked : FnScope ["rules", "body", "facts"] ["rules", "body"] (defScope s_asked) := ⟨rfl, rfl, rfl, by decide +kernel, rfl, by decide +kernel, by decide +kernel⟩
theorem ok_asked {c : ClsA} (F : Fun K "asked" "asked" s_asked f fd) (B : Bl mg) (G_facts_of : Has P w K mg base 1 "facts_of" ["found"] spNever) (G_reasons : HasA P w K mg base 7 "reasons" ["rules"] (spK c RRules)) : FnOk P w K mg base (CXA P w) 8 f fd ["rules", "body"] (spK c RRulesF) := by
  refine F.okA sc_asked (spK_len (n := 2) fun ds d ⟨_, _, _, _, _, _, _, e, _⟩ => by rw [e]; rfl) (fun cdv A outer s H vs Q E hr h => ?_)
  obtain ⟨M, ds, o, lv, rs, ⟨h1, a1, h2, a2, odd, r, y, rfl, T, rfl⟩, q0, q1⟩ := h
  refine ⟨_, (pss_cons (ps_set (i := 2) sc_asked.nd rfl (Or.inl rfl) (pe_own G_facts_of hr (pa_cons (pe_ownA own_cx G_reasons hr (pa_cons (pv 0) pa_nil)) pa_nil))) pss_never), ?_⟩
  have E0 := env_start rs ["rules", "body", "facts"]
  exact (t_raises (c := c) (ES := fun cls _ H' => E cls none H') (R := RRules) (ds := [.lst [ruleD h1 a1, ruleD h2 a2, odd]]) (r := r) lv ⟨h1, a1, h2, a2, odd, r, rfl, T, rfl⟩ (ev_cons (ev_v (i := 0) E0 rfl) ev_nil) (fun H' s' => q1 r rfl H' s') _)
def RSound : List D → D → Prop := fun ds d => ∃ hd as, ds = [ruleD hd as] ∧ OkC hd ∧ OkB as ∧ chkR hd as = none ∧ d = .non
theorem sound_of {c : ClsA} (h : HasA P w K mg base 5 "check_rule" ["rule"] (spK c RCheckR)) : Has P w K mg base 5 "check_rule" ["rule"] (spR RSound) := by
  obtain ⟨f, fd, F, b, k, m⟩ := h.ex
  refine ⟨f, fd, F.calm.imp fun vs H Q E ⟨M, ds, d, l, r, ⟨hd, as, e, h1, h2, h3, h4⟩, q⟩ => ?_, b, k, m⟩
  subst h4
  exact ⟨M, ds, none, l, r, ⟨hd, as, e, h1, h2, h3.symm⟩, fun _ H' s' => q .non H' s' .non, fun r e => nomatch e⟩
def RAskedW : List D → Option Ref → Prop := fun ds o => ∃ (way : Int) (h2 : List D) (a2 : List (List D)) (odd : D), ds = [.int way, ruleD h2 a2, odd] ∧ OkC h2 ∧ OkB a2 ∧ o = chkR h2 a2 ∧ (way = 0 ∨ (0 < way ∧ o ≠ none))
def rainA : List D := [.str (Str.ofString "rain")]
theorem rain_ok : OkC rainA := by
  refine ⟨⟨fun x hx => ?_, by simp [rainA], by simp [rainA]⟩, by simp [rainA], ⟨_, _, rfl⟩, fun s hs => ?_⟩
  · rw [List.mem_singleton.mp hx]
    exact ⟨rfl, by decide +kernel, ⟨114, [97, 105, 110], by decide +kernel⟩⟩
  · have : D.str s = .str (Str.ofString "rain") := List.mem_singleton.mp hs
    injection this with e
    rw [e]; decide +kernel
theorem none_ok : OkB [] := ⟨(fun a h => nomatch h), by simp⟩
theorem rain_sound : chkR rainA [] = none := by decide +kernel
theorem sc_law_asked : FnScope ["_law_way", "_law_rule", "_law_odd", "_law_rules"] ["_law_way", "_law_rule", "_law_odd"] (defScope s_law_asked) := ⟨rfl, rfl, rfl, by decide +kernel, rfl, by decide +kernel, by decide +kernel⟩
theorem ok_law_asked {c : ClsA} (F : Fun K "_law_asked" "_law_asked" s_law_asked f fd) (B : Bl mg) (G_check_rule : HasA P w K mg base 5 "check_rule" ["rule"] (spK c RCheckR)) (G_reasons : HasA P w K mg base 7 "reasons" ["rules"] (spK c RRules)) (G_rounds : HasA P w K mg base 7 "rounds" ["rules"] (spK c RRules))
    (G_grounds : HasA P w K mg base 8 "grounds" ["rules", "fact"] (spK c RRulesF)) (G_asked : HasA P w K mg base 8 "asked" ["rules", "body"] (spK c RRulesF)) : FnOk P w K mg base (CXA P w) 9 f fd ["_law_way", "_law_rule", "_law_odd"] (spK c RAskedW) := by
  refine F.okA sc_law_asked (spK_len (n := 3) fun ds d ⟨_, _, _, _, e, _⟩ => by rw [e]; rfl) (fun cdv A outer s H vs Q E hr h => ?_)
  obtain ⟨M, ds, o, lv, rs, ⟨way, h2, a2, odd, rfl, o2, b2, ho, hw⟩, q0, q1⟩ := h
  have hu := hu50 hr
  refine ⟨_, (pss_cons (ps_set (i := 3) sc_law_asked.nd rfl (Or.inl rfl) (pe_lst (pa_cons (pe_tup (pa_cons (pe_tup (pa_cons pe_str pa_nil)) (pa_cons (pe_tup pa_nil) pa_nil))) (pa_cons (pv 1) (pa_cons (pv 2) pa_nil)))))
      (pss_one (ps_if (pt_cmpR (op_eqA (by exact hu)) (pv 0) pe_int (nomark _)) (pss_one (ps_expr (pe_ownA own_cx G_check_rule hr (pa_cons (pv 1) pa_nil)))) (pss_one (ps_if (pt_cmpR (op_eqA (by exact hu)) (pv 0) pe_int (nomark _)) (pss_one (ps_expr (pe_ownA own_cx G_reasons hr (pa_cons (pv 3) pa_nil)))) (pss_one (ps_if (pt_cmpR (op_eqA (by exact hu)) (pv 0) pe_int (nomark _)) (pss_one (ps_expr (pe_ownA own_cx G_rounds hr (pa_cons (pv 3) pa_nil)))) (pss_one (ps_if (pt_cmpR (op_eqA (by exact hu)) (pv 0) pe_int (nomark _)) (pss_one (ps_expr (pe_ownA own_cx G_grounds hr (pa_cons (pv 3) (pa_cons (pe_tup (pa_cons pe_str pa_nil)) pa_nil))))) (pss_one (ps_expr (pe_ownA own_cx G_asked hr (pa_cons (pv 3) (pa_cons (pe_tup (pa_cons (pe_tup (pa_cons pe_str pa_nil)) pa_nil)) pa_nil)))))))))))))), ?_⟩
  have E0 := env_start rs ["_law_way", "_law_rule", "_law_odd", "_law_rules"]
  refine s_set (d := .lst [ruleD rainA [], ruleD h2 a2, odd]) lv E0 (ev_lst (ev_cons (ev_tup (ev_cons (ev_tup (ev_cons ev_str ev_nil) (hz := by show 1 ≤ sizeLine; decide)) (ev_cons (ev_tup ev_nil) ev_nil))) (ev_cons (ev_v E0 rfl) (ev_cons (ev_v E0 rfl) ev_nil)))) fun σ1 H1 s1 l1 E1 => ?_
  refine s_if l1 E1 (evt_test (ev_eqI (ev_v E1 rfl) ev_int)) (fun e H2 s2 l2 E2 => ?_) (fun e H2 s2 l2 E2 => ?_)
  · try dsimp only
    exact s_callK (R := RCheckR) (ds := [ruleD h2 a2]) (o := chkR h2 a2) l2 E2 ⟨h2, a2, rfl, o2, b2, rfl⟩ (ev_cons (ev_v (i := 1) E2 rfl) ev_nil) (fun e H4 s4 l4 E4 => q0 (by rw [ho]; exact e) H4 (s1.trans (s2.trans s4))) (fun r e H4 s4 l4 E4 => q1 r (by rw [ho]; exact e) H4 (s1.trans (s2.trans s4)))
  · have hne : way ≠ 0 := of_decide_eq_false e
    obtain ⟨r, hr2⟩ : ∃ r, o = some r := by
      rcases hw with z | ⟨_, z⟩
      · exact absurd z hne
      · cases o with
        | none => exact absurd rfl z
        | some r => exact ⟨r, rfl⟩
    have T : Two rainA [] h2 a2 r := ⟨rain_ok, none_ok, rain_sound, o2, b2, by rw [← ho, hr2]⟩
    have fin : ∀ {H' : Hp}, Same H H' → E (.ref (c.of r)) none H' := fun s' => q1 r hr2 _ s'
    have E2' : EnvR (but H2 M) σ1 [some (.int way), some (ruleD h2 a2), some odd, some (.lst [ruleD rainA [], ruleD h2 a2, odd])] := E2
    clear E2
    refine s_if l2 E2' (evt_test (ev_eqI (ev_v E2' rfl) ev_int)) (fun e H3 s3 l3 E3 => ?_) (fun e H3 s3 l3 E3 => ?_)
    · exact t_raises (c := c) (ES := fun cls _ H' => E cls none H') (R := RRules) (ds := [.lst [ruleD rainA [], ruleD h2 a2, odd]]) (r := r) l3 ⟨rainA, [], h2, a2, odd, r, rfl, T, rfl⟩ (ev_cons (ev_v (i := 3) E3 rfl) ev_nil) (fun H' s' => fin (s1.trans (s2.trans (s3.trans s')))) _
    refine s_if l3 E3 (evt_test (ev_eqI (ev_v E3 rfl) ev_int)) (fun e H4 s4 l4 E4 => ?_) (fun e H4 s4 l4 E4 => ?_)
    · exact t_raises (c := c) (ES := fun cls _ H' => E cls none H') (R := RRules) (ds := [.lst [ruleD rainA [], ruleD h2 a2, odd]]) (r := r) l4 ⟨rainA, [], h2, a2, odd, r, rfl, T, rfl⟩ (ev_cons (ev_v (i := 3) E4 rfl) ev_nil) (fun H' s' => fin (s1.trans (s2.trans (s3.trans (s4.trans s'))))) _
    refine s_if l4 E4 (evt_test (ev_eqI (ev_v E4 rfl) ev_int)) (fun e H5 s5 l5 E5 => ?_) (fun e H5 s5 l5 E5 => ?_)
    · exact t_raises (c := c) (ES := fun cls _ H' => E cls none H') (R := RRulesF) (ds := [.lst [ruleD rainA [], ruleD h2 a2, odd], .tup rainA]) (r := r) l5 ⟨rainA, [], h2, a2, odd, r, _, rfl, T, rfl⟩ (ev_cons (ev_v (i := 3) E5 rfl) (ev_cons (ev_tup (ev_cons ev_str ev_nil) (hz := by show 1 ≤ sizeLine; decide)) ev_nil)) (fun H' s' => fin (s1.trans (s2.trans (s3.trans (s4.trans (s5.trans s')))))) _
    · exact t_raises (c := c) (ES := fun cls _ H' => E cls none H') (R := RRulesF) (ds := [.lst [ruleD rainA [], ruleD h2 a2, odd], .tup [.tup rainA]]) (r := r) l5 ⟨rainA, [], h2, a2, odd, r, _, rfl, T, rfl⟩ (ev_cons (ev_v (i := 3) E5 rfl) (ev_cons (ev_tup (ev_cons (ev_tup (ev_cons ev_str ev_nil) (hz := by show 1 ≤ sizeLine; decide)) ev_nil)) ev_nil)) (fun H' s' => fin (s1.trans (s2.trans (s3.trans (s4.trans (s5.trans s')))))) _
def wordR : Option Ref → Str
  | none => Str.ofString "sound"
  | some .head => Str.ofString "head"
  | some .guard => Str.ofString "guard"
  | some .blank => Str.ofString "blank"
def RSaid : List D → D → Prop := fun ds d => ∃ (way : Int) (h2 : List D) (a2 : List (List D)) (odd : D), ds = [.int way, ruleD h2 a2, odd] ∧ OkC h2 ∧ OkB a2 ∧ (way = 0 ∨ (0 < way ∧ chkR h2 a2 ≠ none)) ∧ d = .str (wordR (chkR h2 a2))
structure ExmF (K : PySem.W.Frag) (c : ClsA) (L : Addr) : Prop where
  hh : PySem.W.exmOne K (.ref c.h) (.ref c.h) = some true
  gh : PySem.W.exmOne K (.ref c.g) (.ref c.h) = some false
  bh : PySem.W.exmOne K (.ref c.b) (.ref c.h) = some false
  gg : PySem.W.exmOne K (.ref c.g) (.ref c.g) = some true
  bg : PySem.W.exmOne K (.ref c.b) (.ref c.g) = some false
  bb : PySem.W.exmOne K (.ref c.b) (.ref c.b) = some true
  hl : PySem.W.exmOne K (.ref c.h) (.ref L) = some true
  gl : PySem.W.exmOne K (.ref c.g) (.ref L) = some true
  bl : PySem.W.exmOne K (.ref c.b) (.ref L) = some true
theorem sc_law_said : FnScope ["_law_way", "_law_rule", "_law_odd", "_law_told"] ["_law_way", "_law_rule", "_law_odd"] (defScope s_law_said) := ⟨rfl, rfl, rfl, by decide +kernel, rfl, by decide +kernel, by decide +kernel⟩
theorem ok_law_said {c : ClsA} {L : Addr} (F : Fun K "_law_said" "_law_said" s_law_said f fd) (B : Bl mg) (XF : ExmF K c L) (X_BadHead : XInfo K mg "BadHead" c.h) (X_BadGuard : XInfo K mg "BadGuard" c.g) (X_LooseBlank : XInfo K mg "LooseBlank" c.b) (G_law_asked : HasA P w K mg base 9 "_law_asked" ["_law_way", "_law_rule", "_law_odd"] (spK c RAskedW)) :
    FnOk P w K mg base CX0 10 f fd ["_law_way", "_law_rule", "_law_odd"] (spR RSaid) := by
  refine F.ok0 sc_law_said (spR_len (n := 3) fun ds d ⟨_, _, _, _, e, _⟩ => by rw [e]; rfl) (fun cdv A outer s H vs Q E hr h => ?_)
  obtain ⟨M, ds, d, lv, rs, ⟨way, h2, a2, odd, rfl, o2, b2, hw, rfl⟩, q⟩ := h
  refine ⟨_, (pss0_cons (ps_set (i := 3) sc_law_said.nd rfl (Or.inl rfl) pe_str).z
      (pss0_cons (ps_try own_nox (fun _ => (pss_one (ps_expr (pe_ownA own_nox G_law_asked hr (pa_cons (pv 0) (pa_cons (pv 1) (pa_cons (pv 2) pa_nil))))))) (PHd.cons X_BadHead.mg rfl (by decide) (fun _ => (pss_one (ps_set (i := 3) sc_law_said.nd rfl (Or.inl rfl) pe_str))) (PHd.cons X_BadGuard.mg rfl (by decide) (fun _ => (pss_one (ps_set (i := 3) sc_law_said.nd rfl (Or.inl rfl) pe_str))) (PHd.cons X_LooseBlank.mg rfl (by decide) (fun _ => (pss_one (ps_set (i := 3) sc_law_said.nd rfl (Or.inl rfl) pe_str))) PHd.nil))))
      (pss0_one (ps_ret (pv 3)).z))), ?_⟩
  have E0 := env_start rs ["_law_way", "_law_rule", "_law_odd", "_law_told"]
  refine s_set lv E0 ev_str fun σ1 H1 s1 l1 E1 => ?_
  refine s_callK (R := RAskedW) (ds := [.int way, ruleD h2 a2, odd]) (o := chkR h2 a2) l1 E1 ⟨way, h2, a2, odd, rfl, o2, b2, rfl, hw⟩ (ev_cons (ev_v (i := 0) E1 rfl) (ev_cons (ev_v (i := 1) E1 rfl) (ev_cons (ev_v (i := 2) E1 rfl) ev_nil))) (fun e H2 s2 l2 E2 => ?_) (fun r e H2 s2 l2 E2 => ?_)
  · rw [e] at q
    exact s_ret l2 (ev_v (i := 3) E2 rfl) fun v H' s' r' => q v H' (s1.trans (s2.trans s')) r'
  · rw [e] at q
    cases r with
    | head =>
      refine ⟨true, XF.hh, ?_⟩
      rw [if_pos rfl]
      refine s_set l2 E2 ev_str fun σ3 H3 s3 l3 E3 => ?_
      exact s_ret l3 (ev_v (i := 3) E3 rfl) fun v H' s' r' => q v H' (s1.trans (s2.trans (s3.trans s'))) r'
    | guard =>
      refine ⟨false, XF.gh, ?_⟩
      rw [if_neg Bool.false_ne_true]
      refine ⟨true, XF.gg, ?_⟩
      rw [if_pos rfl]
      refine s_set l2 E2 ev_str fun σ3 H3 s3 l3 E3 => ?_
      exact s_ret l3 (ev_v (i := 3) E3 rfl) fun v H' s' r' => q v H' (s1.trans (s2.trans (s3.trans s'))) r'
    | blank =>
      refine ⟨false, XF.bh, ?_⟩
      rw [if_neg Bool.false_ne_true]
      refine ⟨false, XF.bg, ?_⟩
      rw [if_neg Bool.false_ne_true]
      refine ⟨true, XF.bb, ?_⟩
      rw [if_pos rfl]
      refine s_set l2 E2 ev_str fun σ3 H3 s3 l3 E3 => ?_
      exact s_ret l3 (ev_v (i := 3) E3 rfl) fun v H' s' r' => q v H' (s1.trans (s2.trans (s3.trans s'))) r'
end
end K04

set_option Elab.async false
set_option linter.all false
set_option maxRecDepth 100000
set_option maxHeartbeats 4000000
namespace K04
open PySem L2 FL
section
variable {P : Program} {w : World} {K : PySem.W.Frag} {mg : Str → Option Value} {base : Heap} {f : Addr} {fd : FuncData}
def XYZ : List D := [.str "X", .str "Xy", .str "Z"]
def okSb : D → Bool
  | .str s => decide (s.length ≤ 100) && !s.cps.toList.isEmpty
  | .int _ => true
  | _ => false
def good (a : List D) : Bool := (a.all fun x => x.sc && okSb x && decide (blankD x = decide (x ∈ XYZ))) && decide (a.length ≤ 8) && (match a with | .str _ :: _ => true | _ => false) && !decide (a.headD .non ∈ XYZ)
structure Own4 (a : List D) : Prop where
  ok : OkC a
  hd : a.headD .non ∉ XYZ
  bl : ∀ x ∈ a, blankD x = decide (x ∈ XYZ)
  sc : ∀ x ∈ a, (∃ s, x = .str s) ∨ ∃ i, x = .int i
theorem good_own {a : List D} (h : good a = true) : Own4 a := by
  unfold good at h
  simp only [Bool.and_eq_true, List.all_eq_true, decide_eq_true_eq, Bool.not_eq_true', decide_eq_false_iff_not] at h
  obtain ⟨⟨⟨h1, h2⟩, h3⟩, h4⟩ := h
  have hr : ∃ r ps, a = D.str r :: ps := by
    split at h3
    · exact ⟨_, _, rfl⟩
    · cases h3
  refine ⟨⟨⟨fun x hx => ?_, ?_, by omega⟩, h2, hr, fun s hs => ?_⟩, h4, fun x hx => (h1 x hx).2, fun x hx => ?_⟩
  · obtain ⟨⟨a1, a2⟩, a3⟩ := h1 x hx
    refine ⟨a1, ?_⟩
    cases x with
    | str s =>
      simp only [okSb, Bool.and_eq_true, decide_eq_true_eq, Bool.not_eq_true'] at a2
      refine ⟨Nat.le_of_lt (small1000 (by omega)), ?_⟩
      cases e : s.cps.toList with
      | nil => rw [e] at a2; simp at a2
      | cons c r => exact ⟨c, r, rfl⟩
    | _ => trivial
  · obtain ⟨r, ps, e⟩ := hr
    rw [e]; simp
  · have := (h1 _ hs).1.2
    simp only [okSb, Bool.and_eq_true, decide_eq_true_eq] at this
    exact this.1
  · have := (h1 x hx).1.2
    cases x with
    | str s => exact .inl ⟨s, rfl⟩
    | int i => exact .inr ⟨i, rfl⟩
    | _ => simp [okSb] at this
theorem mem_bound : ∀ {l : List (List D)} {B : List Str} {n : Str}, n ∈ l.foldl (fun B a => (blanksOf [] a).foldl addN B) B ↔ n ∈ B ∨ ∃ b ∈ l, n ∈ blanksOf [] b
  | [], B, n => by simp
  | a :: r, B, n => by
    rw [List.foldl_cons, mem_bound, mem_foldN]
    constructor
    · rintro ((h | h) | ⟨b, h1, h2⟩)
      · exact .inl h
      · exact .inr ⟨a, List.mem_cons_self, h⟩
      · exact .inr ⟨b, List.mem_cons_of_mem _ h1, h2⟩
    · rintro (h | ⟨b, h1, h2⟩)
      · exact .inl (.inl h)
      · rcases List.mem_cons.mp h1 with e | e
        · subst e; exact .inl (.inr h2)
        · exact .inr ⟨b, e, h2⟩
def bdOf (as : List (List D)) : List D := (as.filter fun a => !guardD a).flatMap (List.drop 1)
def gdOf (as : List (List D)) : List D := (as.filter guardD).flatMap (List.drop 1)
def askOf (hd : List D) (as : List (List D)) : List D := hd.drop 1 ++ gdOf as
def looseP (as : List (List D)) (x : D) : Bool := decide (x ∈ XYZ) && !decide (x ∈ bdOf as)
theorem Own4.drop {a : List D} (h : Own4 a) {x : D} (hx : x ∈ a) (hX : x ∈ XYZ) : x ∈ a.drop 1 := by
  obtain ⟨r, ps, e⟩ := h.ok.rel
  have h2 := h.hd
  subst e
  rcases List.mem_cons.mp hx with z | z
  · rw [z] at hX; exact absurd hX h2
  · exact z
theorem Own4.blanks {a : List D} (h : Own4 a) {n : Str} : n ∈ blanksOf [] a ↔ D.str n ∈ a.drop 1 ∧ D.str n ∈ XYZ := by
  constructor
  · intro hn
    rcases blanks_mem hn with z | ⟨z1, z2⟩
    · cases z
    · have hX : D.str n ∈ XYZ := by
        have := h.bl _ z1
        rw [z2] at this
        exact of_decide_eq_true this.symm
      exact ⟨h.drop z1 hX, hX⟩
  · rintro ⟨h1, h2⟩
    have hm : D.str n ∈ a := List.mem_of_mem_drop h1
    exact blanksOf_mem (x := .str n) hm (by rw [h.bl _ hm]; exact decide_eq_true h2)
theorem bound_iff {as : List (List D)} (ha : ∀ a ∈ as, Own4 a) {n : Str} (hX : D.str n ∈ XYZ) : n ∈ boundOf as ↔ D.str n ∈ bdOf as := by
  unfold boundOf bdOf
  rw [mem_bound, List.mem_flatMap]
  constructor
  · rintro (h | ⟨b, h1, h2⟩)
    · cases h
    · exact ⟨b, h1, ((ha b (List.mem_filter.mp h1).1).blanks.mp h2).1⟩
  · rintro ⟨b, h1, h2⟩
    exact .inr ⟨b, h1, (ha b (List.mem_filter.mp h1).1).blanks.mpr ⟨h2, hX⟩⟩
theorem loose_eq {xs as : List (List D)} (hx : ∀ a ∈ xs, Own4 a) (ha : ∀ a ∈ as, Own4 a) : looseIn xs as = (xs.flatMap (List.drop 1)).any (looseP as) := by
  rw [Bool.eq_iff_iff]
  unfold looseIn
  rw [List.any_eq_true, List.any_eq_true]
  constructor
  · rintro ⟨a, h1, h2⟩
    obtain ⟨n, h3, h4⟩ := List.any_eq_true.mp h2
    obtain ⟨h5, h6⟩ := (hx a h1).blanks.mp h3
    refine ⟨.str n, List.mem_flatMap.mpr ⟨a, h1, h5⟩, ?_⟩
    unfold looseP
    rw [decide_eq_true h6, Bool.true_and]
    have : ¬ n ∈ boundOf as := by simpa using h4
    rw [bound_iff ha h6] at this
    simp [this]
  · rintro ⟨x, h1, h2⟩
    obtain ⟨a, h3, h4⟩ := List.mem_flatMap.mp h1
    unfold looseP at h2
    simp only [Bool.and_eq_true, decide_eq_true_eq, Bool.not_eq_true', decide_eq_false_iff_not] at h2
    obtain ⟨h5, h6⟩ := h2
    have hm : x ∈ a := List.mem_of_mem_drop h4
    obtain ⟨n, rfl⟩ : ∃ n, x = .str n := ⟨x.name, blank_str (by rw [(hx a h3).bl x hm]; exact decide_eq_true h5)⟩
    refine ⟨a, h3, List.any_eq_true.mpr ⟨n, (hx a h3).blanks.mpr ⟨h4, h5⟩, ?_⟩⟩
    have : ¬ n ∈ boundOf as := fun z => h6 ((bound_iff ha h5).mp z)
    simp [this]
def dueW (hd : List D) (as : List (List D)) : Str := if guardD hd = true then Str.ofString "head" else if longG as = true then Str.ofString "guard" else if (askOf hd as).any (looseP as) = true then Str.ofString "blank" else Str.ofString "sound"
theorem due_eq {hd : List D} {as : List (List D)} (hh : Own4 hd) (ha : ∀ a ∈ as, Own4 a) : dueW hd as = wordR (chkR hd as) := by
  have e1 : looseIn (as.filter guardD) as = (gdOf as).any (looseP as) := loose_eq (fun a h => ha a (List.mem_filter.mp h).1) ha
  have e2 : looseIn [hd] as = (hd.drop 1).any (looseP as) := by
    rw [loose_eq (fun a h => by rw [List.mem_singleton.mp h]; exact hh) ha]
    simp
  unfold dueW chkR chkB askOf
  rw [List.any_append, e1, e2]
  cases guardD hd <;> cases longG as <;> cases (gdOf as).any (looseP as) <;> cases (hd.drop 1).any (looseP as) <;> rfl
def blk (c : Int) : D := XYZ.getD (c % 3).toNat .non
theorem blk_at (c : Int) : atI XYZ (c % 3) = some (blk c) ∧ blk c ∈ XYZ := by
  obtain ⟨d, h1, h2, h3⟩ := at_mod (l := XYZ) (n := 3) c (by decide) rfl
  have e : d = blk c := h3
  subst e
  exact ⟨h1, h2⟩
def unT : D → List D
  | .tup l => l
  | _ => []
def atomRows (x y : D) : List D := [.tup [.str "road", x, .str "ashenashenashen"], .tup [.str "mark", x], .tup [.str "less", x, .int 3], .tup [.str "unlike", x, y], .tup [.str "rain"], .tup [.str "roam", y, x]]
def atomD (c : Int) : D := if c % 6 = 5 ∧ c / 6 % 10 = 1 then .tup [.str "less", blk (c / 6)] else if c % 6 = 5 ∧ c / 6 % 10 = 2 then .tup [.str "unlike", blk (c / 6), blk (c / 18), .int 3] else (atomRows (blk (c / 6)) (blk (c / 18))).getD (c % 6).toNat .non
def atomBy (c : Int) : List D := unT (atomD c)
def goodD (d : D) : Bool := (match d with | .tup _ => true | _ => false) && good (unT d)
theorem goodD_tup {d : D} (h : goodD d = true) : d = .tup (unT d) ∧ Own4 (unT d) := by
  unfold goodD at h
  rw [Bool.and_eq_true] at h
  refine ⟨?_, good_own h.2⟩
  cases d with
  | tup l => rfl
  | _ => simp at h
theorem rows_good : ∀ x ∈ XYZ, ∀ y ∈ XYZ, goodD (.tup [.str "less", x]) = true ∧ goodD (.tup [.str "unlike", x, y, .int 3]) = true ∧ ∀ d ∈ atomRows x y, goodD d = true := by decide +kernel
theorem rows_at (x y : D) (c : Int) : atI (atomRows x y) (c % 6) = some ((atomRows x y).getD (c % 6).toNat .non) ∧ (atomRows x y).getD (c % 6).toNat .non ∈ atomRows x y := by
  obtain ⟨d, h1, h2, h3⟩ := at_mod (l := atomRows x y) (n := 6) c (by decide) rfl
  have e : d = (atomRows x y).getD (c % 6).toNat .non := h3
  subst e
  exact ⟨h1, h2⟩
theorem atom_good (c : Int) : atomD c = .tup (atomBy c) ∧ Own4 (atomBy c) := by
  refine goodD_tup ?_
  obtain ⟨h1, h2, h3⟩ := rows_good _ (blk_at (c / 6)).2 _ (blk_at (c / 18)).2
  unfold atomD
  split
  · exact h1
  · split
    · exact h2
    · exact h3 _ (rows_at _ _ c).2
def heads5 : List D := [.tup [.str "roam", .str "X", .str "Xy"], .tup [.str "rain"], .tup [.str "mark", .str "Z"], .tup [.str "road", .str "X", .int 2], .tup [.str "kin", .str "ashenashenashen", .str "X"]]
def heads2 : List D := [.tup [.str "less", .str "X", .int 1], .tup [.str "unlike", .str "X", .str "Xy"]]
def headD (c : Int) : D := if c % 9 = 8 then heads2.getD (c / 9 % 2).toNat .non else heads5.getD (c % 9 % 5).toNat .non
def headBy (c : Int) : List D := unT (headD c)
theorem heads_good : (∀ d ∈ heads2, goodD d = true) ∧ ∀ d ∈ heads5, goodD d = true := by decide +kernel
theorem heads2_at (c : Int) : atI heads2 (c % 2) = some (heads2.getD (c % 2).toNat .non) ∧ heads2.getD (c % 2).toNat .non ∈ heads2 := by
  obtain ⟨d, h1, h2, h3⟩ := at_mod (l := heads2) (n := 2) c (by decide) rfl
  have e : d = heads2.getD (c % 2).toNat .non := h3
  subst e
  exact ⟨h1, h2⟩
theorem heads5_at (c : Int) : atI heads5 (c % 5) = some (heads5.getD (c % 5).toNat .non) ∧ heads5.getD (c % 5).toNat .non ∈ heads5 := by
  obtain ⟨d, h1, h2, h3⟩ := at_mod (l := heads5) (n := 5) c (by decide) rfl
  have e : d = heads5.getD (c % 5).toNat .non := h3
  subst e
  exact ⟨h1, h2⟩
theorem head_good (c : Int) : headD c = .tup (headBy c) ∧ Own4 (headBy c) := by
  refine goodD_tup ?_
  unfold headD
  split
  · exact heads_good.1 _ (heads2_at _).2
  · exact heads_good.2 _ (heads5_at _).2
def extraA : List (List D) := [[.str "road", .str "X", .str "Xy"], [.str "mark", .str "Z"]]
theorem extra_own : ∀ a ∈ extraA, Own4 a := fun a ha => good_own ((by decide +kernel : ∀ a ∈ extraA, good a = true) a ha)
theorem Own4.lenD {as : List (List D)} (h : ∀ a ∈ as, Own4 a) : ∀ {p : List D → Bool}, ((as.filter p).flatMap (List.drop 1)).length ≤ 8 * as.length := fun {p} => by
  induction as with
  | nil => simp
  | cons a r ih =>
    have i2 := ih fun b hb => h b (List.mem_cons_of_mem _ hb)
    have i3 := (h a List.mem_cons_self).ok.len8
    rw [List.filter_cons]
    split
    · rw [List.flatMap_cons, List.length_append, List.length_drop, List.length_cons]
      omega
    · rw [List.length_cons]
      omega
end
end K04

set_option Elab.async false
set_option linter.all false
set_option maxRecDepth 100000
set_option maxHeartbeats 4000000
namespace K04
open PySem L2 FL
section
variable {P : Program} {w : World} {K : PySem.W.Frag} {mg : Str → Option Value} {base : Heap} {f : Addr} {fd : FuncData}
theorem sc_law_at : FnScope ["_law_script", "_law_k"] ["_law_script", "_law_k"] (defScope s_law_at) := ⟨rfl, rfl, rfl, by decide +kernel, rfl, by decide +kernel, by decide +kernel⟩
theorem ok_law_at (F : Fun K "_law_at" "_law_at" s_law_at f fd) (B : Bl mg) : FnOk P w K mg base CX0 1 f fd ["_law_script", "_law_k"] (spR RAt) := by
  refine F.ok sc_law_at (spR_len (n := 2) fun ds d ⟨l, k, e, _⟩ => by rw [e]; rfl) (fun cdv A outer s H vs Q E hr h => ?_)
  obtain ⟨M, ds, d, lv, rs, ⟨l, k, rfl, h0, rfl⟩, q⟩ := h
  have hu := hu50 hr
  refine ⟨_, (pss_cons (ps_if (pt_cmpR op_lt (pv 1) (pe_len B (pv 0)) (nomark _)) (pss_one (ps_ret (pe_ixS (pv 0) (pv 1)))) pss_nil)
      (pss_one (ps_ret pe_int))), ?_⟩
  have E0 := env_start rs ["_law_script", "_law_k"]
  refine s_if lv E0 (evt_test (ev_lt (ev_v E0 rfl) (ev_lenL (ev_cons (ev_v E0 rfl) ev_nil)))) (fun e H1 s1 l1 E1 => ?_) (fun e H1 s1 l1 E1 => ?_)
  · have hlt := of_decide_eq_true e
    have hg : l[k.toNat]? = some (cellD l k) := by
      unfold cellD
      rw [if_pos hlt, List.getD, List.getElem?_eq_getElem (by omega)]
      rfl
    exact s_ret l1 (ev_ix (atI_of_nat h0 hg) (ev_v E1 rfl) (ev_v E1 rfl)) fun v H2 s2 r2 => q v H2 (s1.trans s2) r2
  · have hlt := of_decide_eq_false e
    have hg : cellD l k = .int 0 := by unfold cellD; rw [if_neg hlt]
    rw [hg] at q
    exact q (.int 0) H1 s1 (.int 0)
section
variable {σ : St} {δ : Dn} {d : D} {M : List Addr} {H : Hp} {ta te : TE} {E : Ends} {ds : List D}
theorem s_ext {i : Nat} {a : Addr} {vs : List V} {es : List D} (l : Live M H) (hE : EnvR (but H M) σ δ) (ha' : a ∈ M) (e : σ[i]? = some (some (.ref a))) (ha : H a = some (.lst vs)) (r : Reps (but H M) vs ds) (hz : ds.length + es.length ≤ 1000) (h : EvM te (but H M) σ (.lst es))
    (k : ∀ ws H', (∀ b o, b ≠ a → H b = some o → H' b = some o) → Live M H' → H' a = some (.lst (vs ++ ws)) → Reps (but H' M) (vs ++ ws) (ds ++ es) → EnvR (but H' M) σ δ → E.nx σ H') : tDrop (tBM K "list" rExtend (tVar i) (tCons te tNil)) E σ H :=
  ⟨.ref a, e, (show tyV K "list" (.ref a) H from .inl ⟨rfl, vs, SqL.of ha⟩), h.at l fun v H' s rv => by
    obtain ⟨b, ws, rfl, h1, h2⟩ := rv.of_lst
    have eb : but (upd H' a (.lst (vs ++ ws))) M = but H' M := but_upd ha'
    have n1 := r.length
    have n2 := h2.length
    refine ⟨a, b, vs, ws, rfl, rfl, s _ _ ha, (but_some h1).2, Nat.le_of_lt (small1000 (by omega)), k ws _ (fun b o hb q => by rw [upd_ne hb]; exact s b o q) (l.same s).upd upd_same ?_ ?_⟩
    · rw [eb]; exact (r.mono (s.but M)).append h2
    · rw [eb]; exact hE.same s⟩
theorem s_listT {i : Nat} (l : Live M H) (hE : EnvR (but H M) σ δ) (hi : i < δ.length) (h : EvM te (but H M) σ (.tup ds))
    (k : ∀ p vs σ' H', (∀ j : Nat, j ≠ i → σ'[j]? = σ[j]?) → σ'[i]? = some (some (.ref p)) → p ∉ M → H' p = some (.lst vs) → Reps (but H' (p :: M)) vs ds → Live (p :: M) H' → (∀ b o, H b = some o → b ≠ p ∧ H' b = some o) → EnvR (but H' (p :: M)) σ' (δ.set i none) → E.nx σ' H') :
    tAsg (tCB (fun xs H Q => ∃ p ys, xs = [.ref p] ∧ (SqL K H p ys ∨ SqT K H p ys) ∧ ∀ l, H l = none → Q (.ref l) (upd H l (.lst ys))) (tCons te tNil)) (gName i) E σ H :=
  h.at l fun v H1 s1 rv => by
    obtain ⟨a, us, rfl, h1, h2⟩ := rv.of_tup
    refine ⟨a, us, rfl, .inr (SqT.of (but_some h1).2), fun p hp => ?_⟩
    have hl := hE.len
    refine k p us _ _ (fun j hj => List.getElem?_set_ne (Ne.symm hj)) (List.getElem?_set_self (by omega)) ((l.same s1).fresh hp) upd_same (reps_hide hp h2) ((l.same s1).upd.cons upd_same) (fun b o e => ?_) ?_
    · have e1 := s1 b o e
      have nb : b ≠ p := ne_of_none e1 hp
      exact ⟨nb, by rw [upd_ne nb]; exact e1⟩
    · have h3 : EnvR (but (upd H1 p (.lst us)) (p :: M)) σ δ := ⟨hE.len, fun j d q => let ⟨v, a, b⟩ := (hE.same s1).get j d q; ⟨v, a, rep_hide hp b⟩⟩
      exact h3.off i _
end
def RAtomBy : List D → D → Prop := fun ds d => ∃ c, ds = [.int c] ∧ d = atomD c
theorem sc_law_atom_by : FnScope ["_law_cell", "_law_one", "_law_two", "_law_rows"] ["_law_cell"] (defScope s_law_atom_by) := ⟨rfl, rfl, rfl, by decide +kernel, rfl, by decide +kernel, by decide +kernel⟩
theorem ok_law_atom_by (F : Fun K "_law_atom_by" "_law_atom_by" s_law_atom_by f fd) (B : Bl mg) : FnOk P w K mg base CX0 1 f fd ["_law_cell"] (spR RAtomBy) := by
  refine F.ok sc_law_atom_by (spR_len (n := 1) fun ds d ⟨c, e, _⟩ => by rw [e]; rfl) (fun cdv A outer s H vs Q E hr h => ?_)
  obtain ⟨M, ds, d, lv, rs, ⟨c, rfl, rfl⟩, q⟩ := h
  have hu := hu50 hr
  refine ⟨_, (pss_cons (ps_set (i := 1) sc_law_atom_by.nd rfl (Or.inl rfl) (pe_ixS (pe_lst (pa_cons pe_str (pa_cons pe_str (pa_cons pe_str pa_nil)))) (pe_op op_mod (pe_op op_fdiv (pv 0) pe_int) pe_int)))
      (pss_cons (ps_set (i := 2) sc_law_atom_by.nd rfl (Or.inl rfl) (pe_ixS (pe_lst (pa_cons pe_str (pa_cons pe_str (pa_cons pe_str pa_nil)))) (pe_op op_mod (pe_op op_fdiv (pv 0) pe_int) pe_int)))
      (pss_cons (ps_if (pw_and (pt_cmpR (op_eqA (by exact hu)) (pe_op op_mod (pv 0) pe_int) pe_int (nomark _)) (pw_and1 (pt_cmpR (op_eqA (by exact hu)) (pe_op op_mod (pe_op op_fdiv (pv 0) pe_int) pe_int) pe_int (nomark _)))).pt (pss_one (ps_ret (pe_tup (pa_cons pe_str (pa_cons (pv 1) pa_nil))))) pss_nil)
      (pss_cons (ps_if (pw_and (pt_cmpR (op_eqA (by exact hu)) (pe_op op_mod (pv 0) pe_int) pe_int (nomark _)) (pw_and1 (pt_cmpR (op_eqA (by exact hu)) (pe_op op_mod (pe_op op_fdiv (pv 0) pe_int) pe_int) pe_int (nomark _)))).pt (pss_one (ps_ret (pe_tup (pa_cons pe_str (pa_cons (pv 1) (pa_cons (pv 2) (pa_cons pe_int pa_nil))))))) pss_nil)
      (pss_cons (ps_set (i := 3) sc_law_atom_by.nd rfl (Or.inl rfl) (pe_lst (pa_cons (pe_tup (pa_cons pe_str (pa_cons (pv 1) (pa_cons pe_str pa_nil)))) (pa_cons (pe_tup (pa_cons pe_str (pa_cons (pv 1) pa_nil))) (pa_cons (pe_tup (pa_cons pe_str (pa_cons (pv 1) (pa_cons pe_int pa_nil)))) pa_nil)))))
      (pss_one (ps_ret (pe_ixS (pe_op op_cat (pv 3) (pe_lst (pa_cons (pe_tup (pa_cons pe_str (pa_cons (pv 1) (pa_cons (pv 2) pa_nil)))) (pa_cons (pe_tup (pa_cons pe_str pa_nil)) (pa_cons (pe_tup (pa_cons pe_str (pa_cons (pv 2) (pa_cons (pv 1) pa_nil)))) pa_nil))))) (pe_op op_mod (pv 0) pe_int))))))))), ?_⟩
  have E0 := env_start rs ["_law_cell", "_law_one", "_law_two", "_law_rows"]
  have dv : ∀ {G : Hp} {σ : St} {ta : TE} (j : Int) (hc : CDiv c j) (h : EvM ta G σ (.int c)), EvM (tOp (rI CDiv fun i j => .int (i / j)) ta (tC (.int j))) G σ (.int (c / j)) := fun j hc h => ev_fdiv hc h ev_int
  refine s_set (d := blk (c / 6)) lv E0 (ev_ix (ds := XYZ) (blk_at _).1 (ev_lst (ev_cons ev_str (ev_cons ev_str (ev_cons ev_str ev_nil))) (hz := by show 3 ≤ sizeLine; decide)) (ev_mod (by decide) (ev_fdiv ⟨by decide, by decide⟩ (ev_v E0 rfl) ev_int) ev_int)) fun σ1 H1 s1 l1 E1 => ?_
  refine s_set (d := blk (c / 18)) l1 E1 (ev_ix (ds := XYZ) (blk_at _).1 (ev_lst (ev_cons ev_str (ev_cons ev_str (ev_cons ev_str ev_nil))) (hz := by show 3 ≤ sizeLine; decide)) (ev_mod (by decide) (ev_fdiv ⟨by decide, by decide⟩ (ev_v E1 rfl) ev_int) ev_int)) fun σ2 H2 s2 l2 E2 => ?_
  refine s_if l2 E2 (evt_and (evt_test (ev_eqI (ev_mod (by decide) (ev_v E2 rfl) ev_int) ev_int)) fun _ => evt_test (ev_eqI (ev_mod (by decide) (ev_fdiv ⟨by decide, by decide⟩ (ev_v E2 rfl) ev_int) ev_int) ev_int)) (fun e H3 s3 l3 E3 => ?_) (fun e H3 s3 l3 E3 => ?_)
  · rw [Bool.and_eq_true] at e
    have hq : atomD c = .tup [.str "less", blk (c / 6)] := if_pos ⟨of_decide_eq_true e.1, of_decide_eq_true e.2⟩
    exact s_ret l3 ((ev_tup (ev_cons ev_str (ev_cons (ev_v (i := 1) E3 rfl) ev_nil))).eq hq.symm) fun v H' s' r' => q v H' (s1.trans (s2.trans (s3.trans s'))) r'
  · have n1 : ¬ (c % 6 = 5 ∧ c / 6 % 10 = 1) := fun z => by simp [z.1, z.2] at e
    refine nx ?_
    refine s_if l3 E3 (evt_and (evt_test (ev_eqI (ev_mod (by decide) (ev_v E3 rfl) ev_int) ev_int)) fun _ => evt_test (ev_eqI (ev_mod (by decide) (ev_fdiv ⟨by decide, by decide⟩ (ev_v E3 rfl) ev_int) ev_int) ev_int)) (fun e H4 s4 l4 E4 => ?_) (fun e H4 s4 l4 E4 => ?_)
    · rw [Bool.and_eq_true] at e
      have hq : atomD c = .tup [.str "unlike", blk (c / 6), blk (c / 18), .int 3] := (if_neg n1).trans (if_pos ⟨of_decide_eq_true e.1, of_decide_eq_true e.2⟩)
      exact s_ret l4 ((ev_tup (ev_cons ev_str (ev_cons (ev_v (i := 1) E4 rfl) (ev_cons (ev_v (i := 2) E4 rfl) (ev_cons ev_int ev_nil))))).eq hq.symm) fun v H' s' r' => q v H' (s1.trans (s2.trans (s3.trans (s4.trans s')))) r'
    · have n2 : ¬ (c % 6 = 5 ∧ c / 6 % 10 = 2) := fun z => by simp [z.1, z.2] at e
      refine nx ?_
      have hq : atomD c = (atomRows (blk (c / 6)) (blk (c / 18))).getD (c % 6).toNat .non := (if_neg n1).trans (if_neg n2)
      refine s_set (d := .lst ((atomRows (blk (c / 6)) (blk (c / 18))).take 3)) l4 E4 (ev_lst (ev_cons (ev_tup (ev_cons ev_str (ev_cons (ev_v (i := 1) E4 rfl) (ev_cons ev_str ev_nil)))) (ev_cons (ev_tup (ev_cons ev_str (ev_cons (ev_v (i := 1) E4 rfl) ev_nil))) (ev_cons (ev_tup (ev_cons ev_str (ev_cons (ev_v (i := 1) E4 rfl) (ev_cons ev_int ev_nil)))) ev_nil))) (hz := by show 3 ≤ sizeLine; decide)) fun σ5 H5 s5 l5 E5 => ?_
      refine s_ret l5 ((ev_ix (ds := atomRows (blk (c / 6)) (blk (c / 18))) (rows_at _ _ c).1 (ev_catL (xs := (atomRows (blk (c / 6)) (blk (c / 18))).take 3) (ys := (atomRows (blk (c / 6)) (blk (c / 18))).drop 3) (by show 6 ≤ 1000; decide) (ev_v (i := 3) E5 rfl) (ev_lst (ev_cons (ev_tup (ev_cons ev_str (ev_cons (ev_v (i := 1) E5 rfl) (ev_cons (ev_v (i := 2) E5 rfl) ev_nil)))) (ev_cons (ev_tup (ev_cons ev_str ev_nil)) (ev_cons (ev_tup (ev_cons ev_str (ev_cons (ev_v (i := 2) E5 rfl) (ev_cons (ev_v (i := 1) E5 rfl) ev_nil)))) ev_nil))) (hz := by show 3 ≤ sizeLine; decide))) (ev_mod (by decide) (ev_v (i := 0) E5 rfl) ev_int)).eq hq.symm) fun v H' s' r' => q v H' (s1.trans (s2.trans (s3.trans (s4.trans (s5.trans s'))))) r'
end
end K04

set_option Elab.async false
set_option linter.all false
set_option maxRecDepth 100000
namespace L2
open PySem PySem.Spec PyProof.Rows
structure WE (X : Cx) (e : Expr) (t : TE) : Prop where
  h : PE X e t
structure WA (X : Cx) (es : List Expr) (t : TA) : Prop where
  h : PA X es t
structure WS (X : Cx) (st : Stmt) (t : TS) : Prop where
  h : PS X st t
structure WSs (X : Cx) (l : List Stmt) (t : TS) : Prop where
  h : PSs X l t
structure WT (X : Cx) (e : Expr) (t : TT) : Prop where
  h : PT X e t
section
variable {X : Cx} {e a b c : Expr} {es : List Expr} {te ta tb : TE} {t : TA} {st : Stmt} {rest : List Stmt} {ts us : TS} {pos : Pos}
theorem we_str {x : Str} {j} : WE X (.Constant (.str x) j pos) (tC (.str x)) := ⟨pe_str⟩
theorem we_int {i : Int} {j} : WE X (.Constant (.int i) j pos) (tC (.int i)) := ⟨pe_int⟩
theorem wv (i : Nat) {x : Str} (hN : X.N[i]? = some x := by rfl) (hv : Vis X.env.scope x := by first | exact Or.inl rfl | exact Or.inr (Or.inl rfl) | exact Or.inr (Or.inr rfl)) (hd : (x == ("__debug__" : Str)) = false := by decide) (hcd : (x == ("__classdict__" : Str)) = false := by decide) : WE X (.Name x pos) (tVar i) := ⟨pe_var hN hv hd hcd⟩
theorem wa_nil : WA X [] tNil := ⟨pa_nil⟩
theorem wa_cons (ha : WE X e te) (hr : WA X es t) (hs : starEach (e :: es) X.env = (false, eval e X.env) :: starEach es X.env := by rfl) : WA X (e :: es) (tCons te t) := ⟨pa_cons ha.h hr.h hs⟩
theorem we_tup {x1} (h : WA X es t) : WE X (.Tuple es x1 pos) (tTup t) := ⟨pe_tup h.h⟩
theorem we_lst (h : WA X es t) : WE X (.List es pos) (tLst t) := ⟨pe_lst h.h⟩
theorem we_op {op : Operator} {r : R2} (ho : OpR X (binaryOp op) r) (ha : WE X a ta) (hb : WE X b tb) : WE X (.BinOp a op b pos) (tOp r ta tb) := ⟨pe_op ho ha.h hb.h⟩
theorem we_ixS (ha : WE X a ta) (hb : WE X b tb) (hs : PlainIx b := by intro _ _; rfl) : WE X (.Subscript a b pos) (tOp (rIx X.K) ta tb) := ⟨FL.pe_ixS ha.h hb.h hs⟩
theorem wss_nil : WSs X [] tNext := ⟨pss_nil⟩
theorem wss_one (h : WS X st ts) : WSs X [st] ts := ⟨pss_one h.h⟩
theorem wss_cons (h : WS X st ts) (h2 : WSs X rest us) : WSs X (st :: rest) (tSeq ts us) := ⟨pss_cons h.h h2.h⟩
theorem ws_ret (h : WE X e te) : WS X (.Return (some e) pos) (tRet te) := ⟨ps_ret h.h⟩
theorem ws_if {tc : TT} {l1 l2 : List Stmt} (hc : PT X c tc) (ha : WSs X l1 ts) (hb : WSs X l2 us) : WS X (.If c l1 l2 pos) (tIfS tc ts us) := ⟨ps_if hc ha.h hb.h⟩
theorem ws_set {i : Nat} {x : Str} {pos' : Pos} (hN : X.N.Nodup) (hi : X.N[i]? = some x) (hx : Loc X.env.scope x) (he : WE X e te) (hs : swapsWith e (some (.Name x pos')) pos.line X.env = pure false := by rfl) (hf : X.fn x = true ∨ X.env.scope.names.lookup x = some .local := by first | exact .inl rfl | exact .inr rfl | assumption) :
    WS X (.Assign [.Name x pos'] e pos) (tAsg te (gName i)) := ⟨ps_set hN hi hx he.h hs hf⟩
end
section
variable {P : Program} {w : World} {K : PySem.W.Frag} {mg : Str → Option Value} {base : Heap}
theorem Fun.okW {x qual : Str} {st : Stmt} {f : Addr} {fd : FuncData} {N ps : List Str} {k : Nat} {sp : Sp} (F : Fun K x qual st f fd) (S : FnScope N ps (defScope st)) (len : ∀ vs H Q E, sp vs H Q E → vs.length = ps.length)
    (hbody : ∀ (cdv : Value) (A : Around) (outer : List Env) (s : Shared) (H : Hp) (vs : List V) (Q : VK) (E : XK), Room k (A.deeper (envOfC qual (defScope st) s.heap.objs.size f cdv)) → sp vs H Q E →
      ∃ t, WSs (cxOf CX0 P w K mg base N qual (defScope st) f cdv A outer s H E).nox (defBody st) t ∧ t { nx := fun _ H' => Q .non H', rt := Q } (start N vs) H) : FnOk P w K mg base CX0 (k + 1) f fd ps sp :=
  F.ok S len fun cdv A outer s H vs Q E hr hsp => let ⟨t, h, q⟩ := hbody cdv A outer s H vs Q E hr hsp; ⟨t, h.h, q⟩
end
end L2

set_option Elab.async false
set_option linter.all false
set_option maxRecDepth 100000
set_option maxHeartbeats 4000000
namespace K04
open PySem L2 FL
section
variable {P : Program} {w : World} {K : PySem.W.Frag} {mg : Str → Option Value} {base : Heap} {f : Addr} {fd : FuncData}
def RHeadBy : List D → D → Prop := fun ds d => ∃ c, ds = [.int c] ∧ d = headD c
theorem sc_law_head_by : FnScope ["_law_cell", "_law_rows"] ["_law_cell"] (defScope s_law_head_by) := ⟨rfl, rfl, rfl, by decide +kernel, rfl, by decide +kernel, by decide +kernel⟩
section
theorem ok_law_head_by (F : Fun K "_law_head_by" "_law_head_by" s_law_head_by f fd) (B : Bl mg) : FnOk P w K mg base CX0 1 f fd ["_law_cell"] (spR RHeadBy) := by
  refine F.okW sc_law_head_by (spR_len (n := 1) fun ds d ⟨c, e, _⟩ => by rw [e]; rfl) (fun cdv A outer s H vs Q E hr h => ?_)
  obtain ⟨M, ds, d, lv, rs, ⟨c, rfl, rfl⟩, q⟩ := h
  have hu := hu50 hr
  refine ⟨_, (wss_cons (ws_set (i := 1) sc_law_head_by.nd rfl (Or.inl rfl) (we_lst (wa_cons (we_tup (wa_cons we_str (wa_cons we_str (wa_cons we_str wa_nil)))) (wa_cons (we_tup (wa_cons we_str wa_nil)) (wa_cons (we_tup (wa_cons we_str (wa_cons we_str wa_nil))) (wa_cons (we_tup (wa_cons we_str (wa_cons we_str (wa_cons we_int wa_nil)))) (wa_cons (we_tup (wa_cons we_str (wa_cons we_str (wa_cons we_str wa_nil)))) wa_nil)))))))
      (wss_cons (ws_if (pt_cmpR (op_eqA (by exact hu)) (pe_op op_mod (pv 0) pe_int) pe_int (nomark _)) (wss_one (ws_ret (we_ixS (we_lst (wa_cons (we_tup (wa_cons we_str (wa_cons we_str (wa_cons we_int wa_nil)))) (wa_cons (we_tup (wa_cons we_str (wa_cons we_str (wa_cons we_str wa_nil)))) wa_nil))) (we_op op_mod (we_op op_fdiv (wv 0) we_int) we_int)))) wss_nil)
      (wss_one (ws_ret (we_ixS (wv 1) (we_op op_mod (we_op op_mod (wv 0) we_int) we_int)))))), ?_⟩
  have E0 := env_start rs ["_law_cell", "_law_rows"]
  refine s_set (d := .lst heads5) lv E0 (ev_lst (ev_cons (ev_tup (ev_cons ev_str (ev_cons ev_str (ev_cons ev_str ev_nil)))) (ev_cons (ev_tup (ev_cons ev_str ev_nil)) (ev_cons (ev_tup (ev_cons ev_str (ev_cons ev_str ev_nil))) (ev_cons (ev_tup (ev_cons ev_str (ev_cons ev_str (ev_cons ev_int ev_nil)))) (ev_cons (ev_tup (ev_cons ev_str (ev_cons ev_str (ev_cons ev_str ev_nil)))) ev_nil))))) (hz := by show 5 ≤ sizeLine; decide)) fun σ1 H1 s1 l1 E1 => ?_
  refine s_if l1 E1 (evt_test (ev_eqI (ev_mod (by decide) (ev_v (i := 0) E1 rfl) ev_int) ev_int)) (fun e H2 s2 l2 E2 => ?_) (fun e H2 s2 l2 E2 => ?_)
  · have hq : headD c = heads2.getD (c / 9 % 2).toNat .non := if_pos (of_decide_eq_true e)
    exact s_ret l2 ((ev_ix (ds := heads2) (heads2_at _).1 (ev_lst (ev_cons (ev_tup (ev_cons ev_str (ev_cons ev_str (ev_cons ev_int ev_nil)))) (ev_cons (ev_tup (ev_cons ev_str (ev_cons ev_str (ev_cons ev_str ev_nil)))) ev_nil)) (hz := by show 2 ≤ sizeLine; decide)) (ev_mod (by decide) (ev_fdiv ⟨by decide, by decide⟩ (ev_v (i := 0) E2 rfl) ev_int) ev_int)).eq hq.symm) fun v H' s' r' => q v H' (s1.trans (s2.trans s')) r'
  · have hq : headD c = heads5.getD (c % 9 % 5).toNat .non := if_neg (of_decide_eq_false e)
    refine nx ?_
    exact s_ret l2 ((ev_ix (ds := heads5) (heads5_at _).1 (ev_v (i := 1) E2 rfl) (ev_mod (by decide) (ev_mod (by decide) (ev_v (i := 0) E2 rfl) ev_int) ev_int)).eq hq.symm) fun v H' s' r' => q v H' (s1.trans (s2.trans s')) r'
end
end
end K04

set_option Elab.async false
set_option linter.all false
set_option maxRecDepth 100000
set_option maxHeartbeats 4000000
namespace K04
open PySem L2 FL
section
variable {P : Program} {w : World} {K : PySem.W.Frag} {mg : Str → Option Value} {base : Heap} {f : Addr} {fd : FuncData}
def RRefusal : List D → D → Prop := fun ds d => ∃ hd as, ds = [.tup hd, atomsL as] ∧ Own4 hd ∧ (∀ a ∈ as, Own4 a) ∧ as.length ≤ 70 ∧ d = .str (dueW hd as)
abbrev NRf : List Str := ["_law_head", "_law_body", "_law_bound", "_law_asks", "_law_word", "_law_atom", "_law_part"]
def wordJ (as : List (List D)) : Str := if longG as = true then Str.ofString "guard" else Str.ofString "sound"
def wordA (as : List (List D)) (xs : List D) : Str := if longG as = true then Str.ofString "guard" else if xs.any (looseP as) = true then Str.ofString "blank" else Str.ofString "sound"
theorem bd_snoc (as : List (List D)) (a : List D) : bdOf (as ++ [a]) = bdOf as ++ if guardD a = true then [] else a.drop 1 := by
  unfold bdOf
  rw [List.filter_append, List.flatMap_append]
  cases e : guardD a <;> simp [e]
theorem gd_snoc (as : List (List D)) (a : List D) : gdOf (as ++ [a]) = gdOf as ++ if guardD a = true then a.drop 1 else [] := by
  unfold gdOf
  rw [List.filter_append, List.flatMap_append]
  cases e : guardD a <;> simp [e]
theorem long_snoc (as : List (List D)) (a : List D) : longG (as ++ [a]) = (longG as || (guardD a && !decide (a.length = 3))) := by
  unfold longG
  rw [List.filter_append, List.any_append]
  cases e : guardD a <;> simp [e]
theorem sc_cmp {x y : D} (hx : (∃ s, x = .str s) ∨ ∃ i, x = .int i) (hy : (∃ s, y = .str s) ∨ ∃ i, y = .int i) : cmpb x y = true ∧ x.dep ≤ 40 := by
  rcases hx with ⟨s, rfl⟩ | ⟨i, rfl⟩ <;> rcases hy with ⟨t, rfl⟩ | ⟨j, rfl⟩ <;> exact ⟨rfl, Nat.zero_le _⟩
theorem own_parts {as : List (List D)} (h : ∀ a ∈ as, Own4 a) {p : List D → Bool} {x : D} (hx : x ∈ (as.filter p).flatMap (List.drop 1)) : (∃ s, x = .str s) ∨ ∃ i, x = .int i := by
  obtain ⟨a, h1, h2⟩ := List.mem_flatMap.mp hx
  exact (h a (List.mem_filter.mp h1).1).sc x (List.mem_of_mem_drop h2)
theorem sc_law_refusal : FnScope NRf ["_law_head", "_law_body"] (defScope s_law_refusal) := ⟨rfl, rfl, rfl, by decide +kernel, rfl, by decide +kernel, by decide +kernel⟩
section
theorem ok_law_refusal (F : Fun K "_law_refusal" "_law_refusal" s_law_refusal f fd) (B : Bl mg) : FnOk P w K mg base CX0 1 f fd ["_law_head", "_law_body"] (spR RRefusal) := by
  refine F.ok sc_law_refusal (spR_len (n := 2) fun ds d ⟨hd, as, e, _⟩ => by rw [e]; rfl) (fun cdv A outer s H vs Q E hr h => ?_)
  obtain ⟨M, ds, d, lv, rs, ⟨hd, as, rfl, oh, oa, hlen, rfl⟩, q⟩ := h
  have hu := hu50 hr
  refine ⟨_, (pss_cons (ps_set (i := 2) sc_law_refusal.nd rfl (Or.inl rfl) (pe_lst pa_nil))
      (pss_cons (ps_set (i := 3) sc_law_refusal.nd rfl (Or.inl rfl) (pe_listC B (pe_slice sl_tup (pv 0) (po_some pe_int) po_none)))
      (pss_cons (ps_set (i := 4) sc_law_refusal.nd rfl (Or.inl rfl) pe_str)
      (pss_cons (ps_for PassesOwn.never rfl (pi_seq (pv 1)) (pg_name (i := 5) sc_law_refusal.nd rfl (by first | exact Or.inl rfl | exact Or.inr rfl)) (pss_one (ps_if (pw_or (pt_cmpR (op_eqA (by exact hu)) (pe_ixS (pv 5) pe_int) pe_str (nomark _)) (pw_or1 (pt_cmpR (op_eqA (by exact hu)) (pe_ixS (pv 5) pe_int) pe_str (nomark _)))).pt (pss_cons (ps_expr (pe_bm PySem.F.plainAttrs_list PySem.F.slot_list_extend PySem.F.type_list_extend mt_extend (pv 3) (pa_cons (pe_listC B (pe_slice sl_tup (pv 5) (po_some pe_int) po_none)) pa_nil)))
      (pss_one (ps_if (pt_cmpR (op_neA (by exact hu)) (pe_len B (pv 5)) pe_int (nomark _)) (pss_one (ps_set (i := 4) sc_law_refusal.nd rfl (Or.inl rfl) pe_str)) pss_nil))) (pss_one (ps_expr (pe_bm PySem.F.plainAttrs_list PySem.F.slot_list_extend PySem.F.type_list_extend mt_extend (pv 2) (pa_cons (pe_listC B (pe_slice sl_tup (pv 5) (po_some pe_int) po_none)) pa_nil)))))))
      (pss_cons (ps_if (pw_or (pt_cmpR (op_eqA (by exact hu)) (pe_ixS (pv 0) pe_int) pe_str (nomark _)) (pw_or1 (pt_cmpR (op_eqA (by exact hu)) (pe_ixS (pv 0) pe_int) pe_str (nomark _)))).pt (pss_one (ps_ret pe_str)) pss_nil)
      (pss_cons (ps_for PassesOwn.never rfl (pi_seq (pv 3)) (pg_name (i := 6) sc_law_refusal.nd rfl (by first | exact Or.inl rfl | exact Or.inr rfl)) (pss_one (ps_if (pw_and (pt_cmpR (op_inD hu) (pv 6) (pe_tup (pa_cons pe_str (pa_cons pe_str (pa_cons pe_str pa_nil)))) rfl) (pw_and (pt_cmpR (op_notInD hu) (pv 6) (pv 2) rfl) (pw_and1 (pt_cmpR (op_eqA (by exact hu)) (pv 4) pe_str (nomark _))))).pt (pss_one (ps_set (i := 4) sc_law_refusal.nd rfl (Or.inl rfl) pe_str)) pss_nil)))
      (pss_one (ps_ret (pv 4))))))))), ?_⟩
  have E0 := env_start rs NRf
  have hdl := oh.ok.len8
  obtain ⟨hr0, hps, hhd⟩ := oh.ok.rel
  refine s_new (i := 2) lv E0 (by simp) ev_nil (Nat.zero_le _) fun pB vB0 σ1 H1 o1 i1 n1 hB1 r1 l1 k1 E1 => ?_
  have s01 : Same H H1 := fun b o e => (k1 b o e).2
  have HpB : H pB = none := none_of (Same.refl H) k1
  refine s_listT (i := 3) (ds := hd.drop 1) l1 E1 (by simp) (ev_fromT (k := 1) (by decide) (by rw [hhd]; simp) (ev_v (i := 0) E1 rfl)) fun pA vA0 σ2 H2 o2 i2 n2 hA2 r2 l2 k2 E2 => ?_
  have s12 : Same H1 H2 := fun b o e => (k2 b o e).2
  have HpA : H pA = none := by
    cases e : H pA with
    | none => rfl
    | some o => exact absurd rfl (k2 pA _ (s01 _ _ e)).1
  have nAB : pA ≠ pB := fun z => (k2 pB _ hB1).1 z.symm
  have hB2 : H2 pB = some (.lst vB0) := s12 _ _ hB1
  have rB2 : Reps (but H2 (pA :: pB :: M)) vB0 [] := by
    cases r1
    exact .nil
  have j2 : σ2[2]? = some (some (.ref pB)) := (o2 2 (by decide)).trans i1
  dsimp only
  refine s_setR (i := 4) l2 E2 (ev_str (x := Str.ofString "sound")) fun σ3 H3 o3 s3 l3 E3 => ?_
  have j3 : σ3[2]? = some (some (.ref pB)) := (o3 2 (by decide)).trans j2
  have k3 : σ3[3]? = some (some (.ref pA)) := (o3 3 (by decide)).trans i2
  refine st_for (M := pA :: pB :: M) (ds := as.map D.tup) (walk_seqL (ev_v (i := 1) E3 rfl)) l3 fun H4 s4 => ?_
  refine ⟨fun j σ' H' => σ'[2]? = some (some (.ref pB)) ∧ σ'[3]? = some (some (.ref pA)) ∧ (∃ vB vA, H' pB = some (.lst vB) ∧ H' pA = some (.lst vA) ∧ Reps (but H' (pA :: pB :: M)) vB (bdOf (as.take j)) ∧ Reps (but H' (pA :: pB :: M)) vA (askOf hd (as.take j))) ∧ Same H H' ∧ Live (pA :: pB :: M) H' ∧ Same (but H4 (pA :: pB :: M)) (but H' (pA :: pB :: M)) ∧ EnvR (but H' (pA :: pB :: M)) σ' [some (.tup hd), some (atomsL as), none, none, some (.str (wordJ (as.take j))), none, none],
    ⟨j3, k3, ⟨vB0, vA0, s4 _ _ (s3 _ _ hB2), s4 _ _ (s3 _ _ hA2), rB2.mono ((s3.trans s4).but _), by
      have : askOf hd (as.take 0) = hd.drop 1 := by simp [askOf, gdOf]
      rw [this]; exact r2.mono ((s3.trans s4).but _)⟩, s01.trans (s12.trans (s3.trans s4)), l3.same s4, Same.refl _, E3.same s4⟩, fun j σ' H' ⟨_, _, _, _, x, y, _⟩ => ⟨y, x⟩, ?_, ?_⟩
  · rintro j d x σ' H' H'' hdj ⟨b1, b2, ⟨vB, vA, hB, hA, rB, rA⟩, S0, l', S', E'⟩ s5 rx
    obtain ⟨a, hda, rfl⟩ : ∃ a, as[j]? = some a ∧ d = .tup a := by
      rw [List.getElem?_map] at hdj
      cases e : as[j]? with
      | none => rw [e] at hdj; cases hdj
      | some y => rw [e] at hdj; exact ⟨y, rfl, (Option.some.inj hdj).symm⟩
    have hj : j < as.length := (List.getElem?_eq_some_iff.mp hda).1
    have owa := oa a (List.mem_of_getElem? hda)
    have hal := owa.ok.len8
    have htk : as.take (j + 1) = as.take j ++ [a] := by rw [List.take_add_one, hda]; rfl
    have oT : ∀ b ∈ as.take j, Own4 b := fun b hb => oa b (List.mem_of_mem_take hb)
    have hlT : (as.take j).length ≤ 70 := by rw [List.length_take]; omega
    have n1 : (bdOf (as.take j)).length ≤ 8 * (as.take j).length := Own4.lenD oT
    have n2 : (gdOf (as.take j)).length ≤ 8 * (as.take j).length := Own4.lenD oT
    have n3 : (askOf hd (as.take j)).length ≤ 8 + 8 * (as.take j).length := by
      unfold askOf
      rw [List.length_append, List.length_drop]
      omega
    obtain ⟨r, ps, ea⟩ := owa.ok.rel
    have hd1 : (a.drop 1).length ≤ 8 := by rw [List.length_drop]; omega
    have E5 : EnvR (but H'' (pA :: pB :: M)) (σ'.set 5 (some x)) [some (.tup hd), some (atomsL as), none, none, some (.str (wordJ (as.take j))), some (.tup a), none] := (E'.same s5).set 5 rx
    have c1 : (σ'.set 5 (some x))[2]? = some (some (.ref pB)) := (List.getElem?_set_ne (by decide)).trans b1
    have c2 : (σ'.set 5 (some x))[3]? = some (some (.ref pA)) := (List.getElem?_set_ne (by decide)).trans b2
    have l5 := l'.same s5
    have hat : atI a 0 = some (.str r) := by rw [ea]; exact atI_zero
    refine s_if (b := guardD a) l5 E5 (EvT.eq (evt_or (evt_test (ev_eqA (d1 := .str r) (d2 := .str (Str.ofString "less")) rfl (Nat.zero_le _) (ev_ixt hat (ev_v (i := 5) E5 rfl) ev_int) ev_str)) fun _ => evt_test (ev_eqA (d1 := .str r) (d2 := .str (Str.ofString "unlike")) rfl (Nat.zero_le _) (ev_ixt hat (ev_v (i := 5) E5 rfl) ev_int) ev_str)) (by rw [ea]; rfl)) (fun e H6 s6 l6 E6 => ?_) (fun e H6 s6 l6 E6 => ?_)
    · have hw : wordJ (as.take (j + 1)) = if a.length = 3 then wordJ (as.take j) else Str.ofString "guard" := by
        unfold wordJ
        rw [htk, long_snoc, e]
        by_cases z : a.length = 3
        · simp [z]
        · simp [z]
      refine s_ext (i := 3) (a := pA) (es := a.drop 1) l6 E6 (by simp) c2 (s6 _ _ (s5 _ _ hA)) (rA.mono ((s5.trans s6).but _)) (by omega) (ev_listT (ev_cons (ev_fromT (k := 1) (by decide) (by rw [ea]; simp) (ev_v (i := 5) E6 rfl)) ev_nil)) fun ws H7 k7 l7 h7 r7 E7 => ?_
      have S7 : Same (but H6 (pA :: pB :: M)) (but H7 (pA :: pB :: M)) := hide_same (by simp) k7
      have hB7 : H7 pB = some (.lst vB) := k7 _ _ (Ne.symm nAB) (s6 _ _ (s5 _ _ hB))
      have rB7 : Reps (but H7 (pA :: pB :: M)) vB (bdOf (as.take (j + 1))) := by
        rw [htk, bd_snoc, if_pos e, List.append_nil]
        exact (rB.mono ((s5.trans s6).but _)).mono S7
      have rA7 : Reps (but H7 (pA :: pB :: M)) (vA ++ ws) (askOf hd (as.take (j + 1))) := by
        rw [htk]
        unfold askOf
        rw [gd_snoc, if_pos e, ← List.append_assoc]
        exact r7
      have S07 : Same H H7 := same_keep (S0.trans (s5.trans s6)) HpA k7
      have S47 := S'.trans (((s5.trans s6).but _).trans S7)
      refine s_if l7 E7 (evt_test (ev_neI (ev_lenT (ev_cons (ev_v (i := 5) E7 rfl) ev_nil)) ev_int)) (fun e2 H8 s8 l8 E8 => ?_) (fun e2 H8 s8 l8 E8 => ?_)
      · have hne : ¬ a.length = 3 := by
          simp only [Bool.not_eq_true', decide_eq_false_iff_not] at e2
          omega
        refine s_setR (i := 4) l8 E8 (ev_str (x := Str.ofString "guard")) fun σ9 H9 o9 s9 l9 E9 => ?_
        refine ⟨(o9 2 (by decide)).trans c1, (o9 3 (by decide)).trans c2, ⟨vB, vA ++ ws, s9 _ _ (s8 _ _ hB7), s9 _ _ (s8 _ _ h7), rB7.mono ((s8.trans s9).but _), rA7.mono ((s8.trans s9).but _)⟩, S07.trans (s8.trans s9), l9, S47.trans ((s8.trans s9).but _), ?_⟩
        rw [hw, if_neg hne]
        exact E9.drop 5
      · have heq : a.length = 3 := by
          simp only [Bool.not_eq_false', decide_eq_true_eq] at e2
          omega
        refine nx ⟨c1, c2, ⟨vB, vA ++ ws, s8 _ _ hB7, s8 _ _ h7, rB7.mono (s8.but _), rA7.mono (s8.but _)⟩, S07.trans s8, l8, S47.trans (s8.but _), ?_⟩
        rw [hw, if_pos heq]
        exact E8.drop 5
    · have hw : wordJ (as.take (j + 1)) = wordJ (as.take j) := by
        unfold wordJ
        rw [htk, long_snoc, e]
        simp
      refine s_ext (i := 2) (a := pB) (es := a.drop 1) l6 E6 (by simp) c1 (s6 _ _ (s5 _ _ hB)) (rB.mono ((s5.trans s6).but _)) (by omega) (ev_listT (ev_cons (ev_fromT (k := 1) (by decide) (by rw [ea]; simp) (ev_v (i := 5) E6 rfl)) ev_nil)) fun ws H7 k7 l7 h7 r7 E7 => ?_
      have S7 : Same (but H6 (pA :: pB :: M)) (but H7 (pA :: pB :: M)) := hide_same (by simp) k7
      have hA7 : H7 pA = some (.lst vA) := k7 _ _ nAB (s6 _ _ (s5 _ _ hA))
      have rB7 : Reps (but H7 (pA :: pB :: M)) (vB ++ ws) (bdOf (as.take (j + 1))) := by
        rw [htk, bd_snoc, if_neg (by rw [e]; exact Bool.false_ne_true)]
        exact r7
      have rA7 : Reps (but H7 (pA :: pB :: M)) vA (askOf hd (as.take (j + 1))) := by
        rw [htk]
        unfold askOf
        rw [gd_snoc, if_neg (by rw [e]; exact Bool.false_ne_true), List.append_nil]
        exact (rA.mono ((s5.trans s6).but _)).mono S7
      refine ⟨c1, c2, ⟨vB ++ ws, vA, h7, hA7, rB7, rA7⟩, same_keep (S0.trans (s5.trans s6)) HpB k7, l7, S'.trans (((s5.trans s6).but _).trans S7), ?_⟩
      rw [hw]
      exact E7.drop 5
  · rintro σ' H' ⟨b1, b2, ⟨vB, vA, hB, hA, rB, rA⟩, S0, l', S', E'⟩
    rw [List.length_map, List.take_of_length_le (Nat.le_refl _)] at rB rA E'
    have E5 := env_show (i := 3) (M := pB :: M) n2 (by simp) b2 hA rA E'
    have l5 : Live (pB :: M) H' := fun b hb => l' b (List.mem_cons_of_mem _ hb)
    have rB5 : Reps (but H' (pB :: M)) vB (bdOf as) := rB.mono (but_mono fun b hb => List.mem_cons_of_mem _ hb)
    have E6 := env_show (i := 2) (M := M) n1 (by simp) b1 hB rB5 E5
    have l6 : Live M H' := fun b hb => l5 b (List.mem_cons_of_mem _ hb)
    have E7 : EnvR (but H' M) σ' [some (.tup hd), some (atomsL as), some (.lst (bdOf as)), some (.lst (askOf hd as)), some (.str (wordJ as)), none, none] := E6
    clear E5 E6
    have hat : atI hd 0 = some (.str hr0) := by rw [hhd]; exact atI_zero
    refine s_if (b := guardD hd) l6 E7 (EvT.eq (evt_or (evt_test (ev_eqA (d1 := .str hr0) (d2 := .str (Str.ofString "less")) rfl (Nat.zero_le _) (ev_ixt hat (ev_v (i := 0) E7 rfl) ev_int) ev_str)) fun _ => evt_test (ev_eqA (d1 := .str hr0) (d2 := .str (Str.ofString "unlike")) rfl (Nat.zero_le _) (ev_ixt hat (ev_v (i := 0) E7 rfl) ev_int) ev_str)) (by rw [hhd]; rfl)) (fun e H8 s8 l8 E8 => ?_) (fun e H8 s8 l8 E8 => ?_)
    · have hq : dueW hd as = Str.ofString "head" := if_pos e
      rw [hq] at q
      exact s_ret l8 ev_str fun v H9 s9 r9 => q v H9 (S0.trans (s8.trans s9)) r9
    · refine nx ?_
      have hq : dueW hd as = wordA as (askOf hd as) := if_neg (by rw [e]; exact Bool.false_ne_true)
      have oX : ∀ x ∈ XYZ, (∃ s, x = .str s) ∨ ∃ i, x = .int i := fun x hx => by
        simp only [XYZ, List.mem_cons, List.not_mem_nil, or_false] at hx
        rcases hx with rfl | rfl | rfl <;> exact .inl ⟨_, rfl⟩
      have oA : ∀ x ∈ askOf hd as, (∃ s, x = .str s) ∨ ∃ i, x = .int i := fun x hx => by
        rcases List.mem_append.mp hx with z | z
        · exact oh.sc x (List.mem_of_mem_drop z)
        · exact own_parts oa z
      refine st_for (M := M) (ds := askOf hd as) (walk_seqL (ev_v (i := 3) E8 rfl)) l8 fun H9 s9 => ?_
      refine ⟨fun j σ' H' => Same H9 H' ∧ EnvR (but H' M) σ' [some (.tup hd), some (atomsL as), some (.lst (bdOf as)), some (.lst (askOf hd as)), some (.str (wordA as ((askOf hd as).take j))), none, none], ⟨Same.refl _, E8.same s9⟩, fun j σ' H' ⟨a, b⟩ => ⟨a.but M, (l8.same s9).same a⟩, ?_, ?_⟩
      · rintro j x u τ G' G'' hx ⟨a, b⟩ t3 ru
        have hxm := List.mem_of_getElem? hx
        have F3 : EnvR (but G'' M) (τ.set 6 (some u)) [some (.tup hd), some (atomsL as), some (.lst (bdOf as)), some (.lst (askOf hd as)), some (.str (wordA as ((askOf hd as).take j))), none, some x] := (b.same t3).set 6 ru
        have m3 : Live M G'' := ((l8.same s9).same a).same t3
        have htk : (askOf hd as).take (j + 1) = (askOf hd as).take j ++ [x] := by rw [List.take_add_one, hx]; rfl
        have hw : wordA as ((askOf hd as).take (j + 1)) = if looseP as x = true ∧ wordA as ((askOf hd as).take j) = Str.ofString "sound" then Str.ofString "blank" else wordA as ((askOf hd as).take j) := by
          have d1 : ¬ Str.ofString "guard" = Str.ofString "sound" := by decide +kernel
          have d2 : ¬ Str.ofString "blank" = Str.ofString "sound" := by decide +kernel
          unfold wordA
          rw [htk, List.any_append]
          cases longG as <;> cases ((askOf hd as).take j).any (looseP as) <;> cases e5 : looseP as x <;> simp [e5, d1, d2]
        refine s_if m3 F3 (evt_and (evt_test (ev_inT (es := XYZ) (fun e he => sc_cmp (oX e he) (oA x hxm)) (ev_v (i := 6) F3 rfl) (ev_tup (ev_cons ev_str (ev_cons ev_str (ev_cons ev_str ev_nil))) (hz := by show 3 ≤ sizeLine; decide)))) fun _ => evt_and (evt_test (ev_ninL (es := bdOf as) (fun e he => sc_cmp (own_parts oa he) (oA x hxm)) (ev_v (i := 6) F3 rfl) (ev_v (i := 2) F3 rfl))) fun _ => evt_test (ev_eqA (d1 := .str (wordA as ((askOf hd as).take j))) (d2 := .str (Str.ofString "sound")) rfl (Nat.zero_le _) (ev_v (i := 4) F3 rfl) ev_str)) (fun e2 G4 t4 m4 F4 => ?_) (fun e2 G4 t4 m4 F4 => ?_)
        · simp only [Bool.and_eq_true, decide_eq_true_eq, Bool.not_eq_true', decide_eq_false_iff_not, D.str.injEq] at e2
          have hl : looseP as x = true := by unfold looseP; simp [e2.1, e2.2.1]
          refine s_set (i := 4) m4 F4 (ev_str (x := Str.ofString "blank")) fun τ5 G5 t5 m5 F5 => ?_
          refine ⟨a.trans (t3.trans (t4.trans t5)), ?_⟩
          rw [hw, if_pos ⟨hl, e2.2.2⟩]
          exact F5.drop 6
        · refine nx ⟨a.trans (t3.trans t4), ?_⟩
          rw [hw, if_neg ?_]
          · exact F4.drop 6
          · rintro ⟨z1, z2⟩
            unfold looseP at z1
            rw [z2] at e2
            revert e2 z1
            cases decide (x ∈ XYZ) <;> cases decide (x ∈ bdOf as) <;> simp
      · rintro τ G' ⟨a, b⟩
        rw [List.take_of_length_le (Nat.le_refl _)] at b
        rw [hq] at q
        exact s_ret ((l8.same s9).same a) (ev_v (i := 4) b rfl) fun v G5 t5 r5 => q v G5 (S0.trans (s8.trans (s9.trans (a.trans t5)))) r5
end
end
end K04

set_option Elab.async false
set_option linter.all false
set_option maxRecDepth 100000
set_option maxHeartbeats 4000000
namespace K04
open PySem L2 FL
section
variable {P : Program} {w : World} {K : PySem.W.Frag} {mg : Str → Option Value} {base : Heap} {f : Addr} {fd : FuncData}
structure KitF (K : PySem.W.Frag) (c : ClsA) (nt nr : Addr) : Prop where
  x : ∀ r, XK1 K (c.of r)
  k : ∀ r r', PySem.W.kitOne K (.ref (c.of r)) (.ref (c.of r')) = some (decide (r = r'))
  nt : ∀ r, PySem.W.kitOne K (.ref (c.of r)) (.ref nt) = some false
  nr : ∀ r, PySem.W.kitOne K (.ref (c.of r)) (.ref nr) = some false
  ve : ∀ r, PySem.W.kitOne K (.ref (c.of r)) (.type "ValueError") = some true
section
variable {G : Hp} {σ : St} {ta : TE}
theorem ev_isX {i : Nat} {ea C C' : Addr} {b : Bool} (e : σ[i]? = some (some (.ref ea))) (hG : G ea = some (xO ea C)) (x : XK1 K C) (hk : PySem.W.kitOne K (.ref C) (.ref C') = some b) :
    EvM (tCB (fun xs H Q => ∃ a C c cv b, xs = [.ref a, c] ∧ ((∃ p, c = .ref p) ∨ ∃ n, c = .ty n) ∧ RelV c cv ∧ H a = some (xO a C) ∧ XK1 K C ∧ PySem.W.kitOne K (.ref C) cv = some b ∧ Q (.bl b) H) (tCons (tVar i) (tCons (tC (.ref C')) tNil))) G σ (.bl b) :=
  fun M H s l Q k => ⟨.ref ea, e, ea, C, .ref C', .ref C', b, rfl, .inl ⟨_, rfl⟩, rfl, (but_some (s _ _ hG)).2, x, hk, k _ H (Same.refl _) (.bl b)⟩
theorem ev_isXT {i : Nat} {ea C : Addr} {n : String} {b : Bool} (e : σ[i]? = some (some (.ref ea))) (hG : G ea = some (xO ea C)) (x : XK1 K C) (hk : PySem.W.kitOne K (.ref C) (.type n) = some b) :
    EvM (tCB (fun xs H Q => ∃ a C c cv b, xs = [.ref a, c] ∧ ((∃ p, c = .ref p) ∨ ∃ n, c = .ty n) ∧ RelV c cv ∧ H a = some (xO a C) ∧ XK1 K C ∧ PySem.W.kitOne K (.ref C) cv = some b ∧ Q (.bl b) H) (tCons (tVar i) (tCons (tC (.ty n)) tNil))) G σ (.bl b) :=
  fun M H s l Q k => ⟨.ref ea, e, ea, C, .ty n, .type n, b, rfl, .inr ⟨_, rfl⟩, rfl, (but_some (s _ _ hG)).2, x, hk, k _ H (Same.refl _) (.bl b)⟩
theorem reps_bl : ∀ {H : Hp} {vs : List V} {bs : List Bool}, Reps H vs (bs.map D.bl) → vs = bs.map V.bl
  | H, _, [], .nil => rfl
  | H, _, b :: r, .cons q t => by rw [q.of_bl, reps_bl t]; rfl
theorem ev_count {bs : List Bool} {b : Bool} (h : EvM ta G σ (.lst (bs.map D.bl))) : EvM (tBM K "list" rCount ta (tCons (tC (.bl b)) tNil)) G σ (.int (bs.countP (· == b) : Nat)) :=
  fun M H s l Q k => h M H s l _ fun v H1 s1 rv => by
    obtain ⟨a, vs, rfl, h1, h2⟩ := rv.of_lst
    have hH := (but_some h1).2
    have e := reps_bl h2
    subst e
    exact ⟨.inl ⟨rfl, _, SqL.of hH⟩, a, bs, b, rfl, rfl, hH, k _ H1 s1 (.int _)⟩
end
theorem pe_isXh {Y : Cx} {v : Value} {e c : Expr} {te tc : TE} {p pos : Pos} (B : FL.Bl Y.mg) (h : PE (Y.held v) e te) (hc : PE (Y.held v) c tc) (hg : Gl (Y.held v) "isinstance" := by rfl) (he : starEach [e, c] (Y.held v).env = (false, eval e (Y.held v).env) :: starEach [c] (Y.held v).env := by rfl) (he' : starEach [c] (Y.held v).env = (false, eval c (Y.held v).env) :: starEach [] (Y.held v).env := by rfl) :
    PE (Y.held v) (.Call (.Name "isinstance" p) [e, c] [] pos) (tCB (fun xs H Q => ∃ a C c cv b, xs = [.ref a, c] ∧ ((∃ p, c = .ref p) ∨ ∃ n, c = .ty n) ∧ RelV c cv ∧ H a = some (xO a C) ∧ XK1 Y.K C ∧ PySem.W.kitOne Y.K (.ref C) cv = some b ∧ Q (.bl b) H) (tCons te (tCons tc tNil))) :=
  pe_isX (X := Y.held v) B h hc hg he he'
theorem pe_counth {Y : Cx} {v : Value} {o e : Expr} {to te : TE} {apos cpos : Pos} (ho : PE (Y.held v) o to) (h : PE (Y.held v) e te) (he : starEach [e] (Y.held v).env = (false, eval e (Y.held v).env) :: starEach [] (Y.held v).env := by rfl) (hbase : attributeBase o "count" (Y.held v).env (eval o (Y.held v).env) = eval o (Y.held v).env := by rfl)
    (hfew : ((backTo cpos (starEach [e] (Y.held v).env)).all (fun x => !x.1) && (backToKw cpos (keywordEach [] (Y.held v).env)).all (fun x => x.1.isSome) && decide ([e].length + ([] : List Keyword).length + (if ([] : List Keyword).isEmpty then 0 else 1) < 30)) = true := by rfl)
    (hline : (apos.endLine == cpos.line) = true := by rfl) (hplain : (backTo cpos (starEach [] (Y.held v).env)).any (·.1) = false := by rfl) :
    PE (Y.held v) (.Call (.Attribute o "count" apos) [e] [] cpos) (tBM Y.K "list" rCount to (tCons te tNil)) :=
  pe_bm (X := Y.held v) PySem.F.plainAttrs_list PySem.F.slot_list_count PySem.F.type_list_count mt_count ho (pa_cons h pa_nil he) hbase hfew hline he hplain
def RRefuses : List D → D → Prop := fun ds d => ∃ (way : Int) (h2 : List D) (a2 : List (List D)) (odd : D), ds = [.int way, ruleD h2 a2, odd] ∧ OkC h2 ∧ OkB a2 ∧ (way = 0 ∨ 0 < way) ∧ chkR h2 a2 ≠ none ∧ d = .bl true
abbrev NRs : List Str := ["_law_way", "_law_rule", "_law_odd", "e", "_law_under"]
theorem sc_law_refuses : FnScope NRs ["_law_way", "_law_rule", "_law_odd"] (defScope s_law_refuses) := ⟨rfl, rfl, rfl, by decide +kernel, rfl, by decide +kernel, by decide +kernel⟩
theorem ok_law_refuses {c : ClsA} {L nt nr : Addr} (F : Fun K "_law_refuses" "_law_refuses" s_law_refuses f fd) (B : Bl mg) (XF : ExmF K c L) (KF : KitF K c nt nr) (X_BadHead : XInfo K mg "BadHead" c.h) (X_BadGuard : XInfo K mg "BadGuard" c.g) (X_LooseBlank : XInfo K mg "LooseBlank" c.b) (X_LoomError : XInfo K mg "LoomError" L) (X_NotTold : XInfo K mg "NotTold" nt) (X_NoRule : XInfo K mg "NoRule" nr) (B_ValueError : mg "ValueError" = none)
    (G_law_asked : HasA P w K mg base 9 "_law_asked" ["_law_way", "_law_rule", "_law_odd"] (spK c RAskedW)) :
    FnOk P w K mg base CX0 10 f fd ["_law_way", "_law_rule", "_law_odd"] (spR RRefuses) := by
  refine F.ok0 sc_law_refuses (spR_len (n := 3) fun ds d ⟨_, _, _, _, e, _⟩ => by rw [e]; rfl) (fun cdv A outer s H vs Q E hr h => ?_)
  obtain ⟨M, ds, d, lv, rs, ⟨way, h2, a2, odd, rfl, o2, b2, hw, hne, rfl⟩, q⟩ := h
  have hu := hu50 hr
  refine ⟨_, (pss0_cons (ps_try own_nox (fun _ => (pss_one (ps_expr (pe_ownA own_nox G_law_asked hr (pa_cons (pv 0) (pa_cons (pv 1) (pa_cons (pv 2) pa_nil))))))) (PHd.as (i := 3) X_LoomError.mg rfl (by decide) sc_law_refuses.nd rfl rfl (fun _ => (pss_cons (ps_set (i := 4) sc_law_refuses.nd rfl (Or.inl rfl) (pe_lst (pa_cons (pe_isXh B (pv 3) (pe_glob (v := .ref _) (by rfl) (by exact X_BadHead.mg) (by rfl))) (pa_cons (pe_isXh B (pv 3) (pe_glob (v := .ref _) (by rfl) (by exact X_BadGuard.mg) (by rfl))) (pa_cons (pe_isXh B (pv 3) (pe_glob (v := .ref _) (by rfl) (by exact X_LooseBlank.mg) (by rfl))) pa_nil)))))
      (pss_cons (ps_set (i := 4) sc_law_refuses.nd rfl (Or.inl rfl) (pe_op op_cat (pv 4) (pe_lst (pa_cons (pe_isXh B (pv 3) (pe_glob (v := .ref _) (by rfl) (by exact X_NotTold.mg) (by rfl))) (pa_cons (pe_isXh B (pv 3) (pe_glob (v := .ref _) (by rfl) (by exact X_NoRule.mg) (by rfl))) pa_nil)))))
      (pss_one (ps_ret (pe_and (pe_isXh B (pv 3) (pe_bltn (v := .ty "ValueError") (by rfl) (by exact B_ValueError) PyProof.Rows.Boot.«ValueError» (by rfl))) (pe_one (pe_cmpR (op_eqA (by exact hu)) (pe_counth (pv 4) pe_bl) pe_int (nomark _))))))))) PHd.nil))
      (pss0_one (ps_ret pe_bl).z)), ?_⟩
  have E0 := env_start rs NRs
  refine s_callK (R := RAskedW) (ds := [.int way, ruleD h2 a2, odd]) (o := chkR h2 a2) lv E0 ⟨way, h2, a2, odd, rfl, o2, b2, rfl, hw.imp id fun z => ⟨z, hne⟩⟩ (ev_cons (ev_v (i := 0) E0 rfl) (ev_cons (ev_v (i := 1) E0 rfl) (ev_cons (ev_v (i := 2) E0 rfl) ev_nil))) (fun e => absurd e hne) (fun r e H2 s2 l2 E2 => ?_)
  have hx : PySem.W.exmOne K (.ref (c.of r)) (.ref L) = some true := by
    cases r
    · exact XF.hl
    · exact XF.gl
    · exact XF.bl
  refine ⟨true, hx, ?_⟩
  rw [if_pos rfl]
  refine ⟨c.of r, rfl, fun ea hea => ?_⟩
  have s3 : Same H2 (upd H2 ea (xO ea (c.of r))) := same_new hea _
  have l3 := l2.same s3
  have hfr : ea ∉ M := l2.fresh hea
  have E3 : EnvR (but (upd H2 ea (xO ea (c.of r))) M) ((L2.start NRs vs).set 3 (some (.ref ea))) [some (.int way), some (ruleD h2 a2), some odd, none, none] := (E2.same s3).off 3 _
  have g3 : but (upd H2 ea (xO ea (c.of r))) M ea = some (xO ea (c.of r)) := by rw [but_out hfr]; exact upd_same
  have hl := E2.len
  have i3 : ((L2.start NRs vs).set 3 (some (.ref ea)))[3]? = some (some (.ref ea)) := List.getElem?_set_self (by rw [hl]; simp)
  generalize upd H2 ea (xO ea (c.of r)) = H3 at s3 l3 E3 g3
  generalize (L2.start NRs vs).set 3 (some (.ref ea)) = σ3 at E3 i3
  have x := KF.x r
  refine s_setR (i := 4) (d := .lst ([decide (r = .head), decide (r = .guard), decide (r = .blank)].map D.bl)) l3 E3 (ev_lst (ev_cons (ev_isX i3 g3 x (KF.k r .head)) (ev_cons (ev_isX i3 g3 x (KF.k r .guard)) (ev_cons (ev_isX i3 g3 x (KF.k r .blank)) ev_nil))) (hz := by show 3 ≤ sizeLine; decide)) fun σ4 H4 o4 s4 l4 E4 => ?_
  have i4 := (o4 3 (by decide)).trans i3
  have g4 := s4.but M _ _ g3
  refine s_setR (i := 4) (d := .lst ([decide (r = .head), decide (r = .guard), decide (r = .blank), false, false].map D.bl)) l4 E4 (ev_catL (xs := [decide (r = .head), decide (r = .guard), decide (r = .blank)].map D.bl) (ys := [false, false].map D.bl) (by show 5 ≤ 1000; decide) (ev_v (i := 4) E4 rfl) (ev_lst (ev_cons (ev_isX i4 g4 x (KF.nt r)) (ev_cons (ev_isX i4 g4 x (KF.nr r)) ev_nil)) (hz := by show 2 ≤ sizeLine; decide))) fun σ5 H5 o5 s5 l5 E5 => ?_
  have i5 := (o5 3 (by decide)).trans i4
  have g5 := s5.but M _ _ g4
  refine s_ret l5 (EvM.eq (ev_and (ev_isXT i5 g5 x (KF.ve r)) fun _ => ev_eqI (ev_count (b := true) (ev_v (i := 4) E5 rfl)) ev_int) ?_) fun v H6 s6 r6 => q v H6 (s2.trans (s3.trans (s4.trans (s5.trans s6)))) r6
  cases r <;> decide
end
end K04

set_option Elab.async false
set_option linter.all false
set_option maxRecDepth 100000
namespace FL
open PySem L2
section
variable {G : Hp} {σ : St} {ta tb tl te : TE} {tt : TT} {t : TA} {d : D} {ds : List D} {K : PySem.W.Frag} {wi : TI}
theorem s_compN {δ : Dn} {M : List Addr} {H : Hp} {E : Ends} {n : Nat} {caps : St → St} {i : Nat} {p : D → Bool} {f : D → D} (l : Live M H) (hE : EnvR (but H M) σ δ) (hn : n < δ.length) (hw : Walk wi (but H M) σ ds)
    (ht : ∀ G' v d, Same (but H M) G' → d ∈ ds → Rep G' v d → EvT tt G' ((caps σ).set i (some v)) (p d))
    (he : ∀ G' v d, Same (but H M) G' → d ∈ ds → p d = true → Rep G' v d → EvM te G' ((caps σ).set i (some v)) (f d)) (hz : ds.length < sizeLine)
    (k : ∀ q vs σ' H', (∀ j : Nat, j ≠ n → σ'[j]? = σ[j]?) → σ'[n]? = some (some (.ref q)) → q ∉ M → H' q = some (.lst vs) → Reps (but H' (q :: M)) vs ((ds.filter p).map f) → Live (q :: M) H' → (∀ b o, H b = some o → b ≠ q ∧ H' b = some o) → EnvR (but H' (q :: M)) σ' (δ.set n none) → E.nx σ' H') :
    tAsg (tComp wi caps (gName i) tt te) (gName n) E σ H := hw M H (Same.refl _) l _ fun J H1 s1 hgo hstop D hD => by
  have lf : D ∉ M := (l.same s1).fresh hD
  have sG1 : Same (but H M) (but H1 M) := s1.but M
  refine ⟨fun j m τ H' => m = ds.length - j ∧ j ≤ ds.length ∧ (∀ v, τ.set i (some v) = (caps σ).set i (some v)) ∧ Same H1 H' ∧ ∃ ys, H' D = some (.lst ys) ∧ Reps (but H' (D :: M)) ys (((ds.take j).filter p).map f),
    ⟨ds.length, by simp, Nat.zero_le _, fun _ => rfl, same_new hD _, [], upd_same, by simpa using Reps.nil⟩, ?_⟩
  rintro j m τ H' ⟨rfl, hj, hτ, s2, ys, hD', ry⟩
  have hs : Same (but H1 M) (but H' (D :: M)) := sub_hide hD s2
  have hl : Live (D :: M) H' := ((l.same s1).same s2).cons hD'
  by_cases hlt : j < ds.length
  · have hd : ds[j]? = some ds[j] := List.getElem?_eq_getElem hlt
    obtain ⟨go, gy⟩ := hgo j _ (D :: M) H' hd hs hl
    refine .inr ⟨go, fun τ' H'' => (∀ v, τ'.set i (some v) = (caps σ).set i (some v)) ∧ Same H1 H'' ∧ ∃ ys, H'' D = some (.lst ys) ∧ Reps (but H'' (D :: M)) ys (((ds.take (j + 1)).filter p).map f),
      fun τ' H'' ⟨a, b, c⟩ => ⟨ds.length - (j + 1), by omega, rfl, hlt, a, b, c⟩, fun x H'' hy => ?_⟩
    obtain ⟨s3, rx⟩ := gy x H'' hy
    have hm : ds[j] ∈ ds := List.getElem_mem hlt
    have sG : Same (but H M) (but H'' (D :: M)) := sG1.trans (hs.trans (s3.but _))
    have hl3 := hl.same s3
    show tt (τ.set i (some x)) H'' _
    rw [hτ x]
    have tk : (ds.take (j + 1)).filter p = (ds.take j).filter p ++ (if p ds[j] = true then [ds[j]] else []) := by
      rw [List.take_add_one, hd, List.filter_append]
      congr 1
      by_cases hp : p ds[j] = true
      · simp [hp]
      · simp [hp]
    refine ht _ x _ sG hm rx (D :: M) H'' (Same.refl _) hl3 _ fun H4 s4 => ?_
    have setset : ∀ v, ((caps σ).set i (some x)).set i (some v) = (caps σ).set i (some v) := fun v => by rw [List.set_set]
    by_cases hp : p ds[j] = true
    · rw [if_pos hp]
      refine he _ x _ (sG.trans (s4.but _)) hm hp (rx.mono (s4.but _)) (D :: M) H4 (Same.refl _) (hl3.same s4) _ fun v H5 s5 r5 => ?_
      have hD5 : H5 D = some (.lst ys) := s5 _ _ (s4 _ _ (s3 _ _ hD'))
      have hlen := ry.length
      have hle : (((ds.take j).filter p).map f).length ≤ j := by
        rw [List.length_map]
        have := List.length_filter_le p (ds.take j)
        rw [List.length_take] at this
        omega
      refine ⟨ys, hD5, by omega, setset, ?_, ys ++ [v], upd_same, ?_⟩
      · intro b o e
        rw [upd_ne (ne_of_none e hD)]
        exact s5 _ _ (s4 _ _ (s3 _ _ (s2 _ _ e)))
      · rw [but_upd List.mem_cons_self, tk, if_pos hp, List.map_append]
        exact (ry.mono (((s3.trans s4).trans s5).but _)).snoc r5
    · rw [if_neg hp]
      refine ⟨setset, s2.trans (s3.trans s4), ys, s4 _ _ (s3 _ _ hD'), ?_⟩
      rw [tk, if_neg hp, List.append_nil]
      exact ry.mono ((s3.trans s4).but _)
  · have e : j = ds.length := by omega
    subst e
    rw [List.take_of_length_le (Nat.le_refl _)] at ry
    have hlE := hE.len
    refine .inl ⟨hstop (D :: M) H' hs, k D ys _ H' (fun j hj => List.getElem?_set_ne (Ne.symm hj)) (List.getElem?_set_self (by omega)) lf hD' ry hl (fun b o eb => ?_) ?_⟩
    · have e1 := s1 _ _ eb
      exact ⟨ne_of_none e1 hD, s2 _ _ e1⟩
    · have h2 : EnvR (but H' (D :: M)) σ δ := ⟨hE.len, fun j d q => let ⟨v, a, b⟩ := (hE.same s1).get j d q; ⟨v, a, b.mono hs⟩⟩
      exact h2.off n _
end
end FL

set_option Elab.async false
set_option linter.all false
set_option maxRecDepth 100000
set_option maxHeartbeats 4000000
namespace K04
open PySem L2 FL
section
variable {P : Program} {w : World} {K : PySem.W.Frag} {mg : Str → Option Value} {base : Heap} {f : Addr} {fd : FuncData}
abbrev Nlaw : List Str := ["_law_script", "_law_head", "_law_body", "_law_rule", "_law_due", "_law_odd", "_law_way"]
theorem sc_law : FnScope Nlaw ["_law_script"] (defScope s_law) := ⟨rfl, rfl, rfl, by decide +kernel, rfl, by decide +kernel, by decide +kernel⟩
theorem word_dec (o : Option Ref) : decide (wordR o = Str.ofString "sound") = o.isNone ∧ decide (wordR o = Str.ofString "head") = decide (o = some .head) := by
  cases o with
  | none => exact ⟨by decide +kernel, by decide +kernel⟩
  | some r => cases r <;> exact ⟨by decide +kernel, by decide +kernel⟩
theorem ok_of {hd : List D} {as : List (List D)} (ha : ∀ a ∈ as, Own4 a) (hl : as.length ≤ 70) : OkB as := ⟨fun a h => (ha a h).ok, hl⟩
def Bd (c0 : Int) (ns : List Int) (as : List (List D)) (σ : St) (H : Hp) : Prop := ∃ p vs, σ[2]? = some (some (.ref p)) ∧ H p = some (.lst vs) ∧ Reps (but H [p]) vs (as.map D.tup) ∧ Live [p] H ∧ EnvR (but H [p]) σ [some (.lst (ns.map D.int)), some (.tup (headBy c0)), none, none, none, none, none]
def bodyOf (c0 : Int) (ns : List Int) : List (List D) := (ns.drop 1).map atomBy ++ if c0 / 9 % 3 = 1 then extraA else []
theorem body_own (c0 : Int) (ns : List Int) : ∀ a ∈ bodyOf c0 ns, Own4 a := fun a ha => by
  rcases List.mem_append.mp ha with z | z
  · obtain ⟨c, _, rfl⟩ := List.mem_map.mp z
    exact (atom_good c).2
  · split at z
    · exact extra_own a z
    · cases z
theorem body_len (c0 : Int) {ns : List Int} (h : ns.length ≤ 63) : (bodyOf c0 ns).length ≤ 70 := by
  unfold bodyOf
  rw [List.length_append, List.length_map, List.length_drop]
  split
  · show _ + 2 ≤ 70; omega
  · show _ + 0 ≤ 70; omega
section
theorem ok_law (F : Fun K "law" "law" s_law f fd) (B : Bl mg) (G_law_at : Has P w K mg base 1 "_law_at" ["_law_script", "_law_k"] (spR RAt)) (G_law_atom_by : Has P w K mg base 1 "_law_atom_by" ["_law_cell"] (spR RAtomBy)) (G_law_head_by : Has P w K mg base 1 "_law_head_by" ["_law_cell"] (spR RHeadBy)) (G_law_refusal : Has P w K mg base 1 "_law_refusal" ["_law_head", "_law_body"] (spR RRefusal))
    (G_check_rule : Has P w K mg base 5 "check_rule" ["rule"] (spR RSound)) (G_law_said : Has P w K mg base 10 "_law_said" ["_law_way", "_law_rule", "_law_odd"] (spR RSaid)) (G_law_refuses : Has P w K mg base 10 "_law_refuses" ["_law_way", "_law_rule", "_law_odd"] (spR RRefuses)) : FnOk P w K mg base CX0 12 f fd ["_law_script"] (spLaw K) := by
  refine F.ok sc_law (fun vs H Q E h => ?_) (fun cdv A outer s H vs Q E hr h => ?_)
  · obtain ⟨a, ns, rfl, _⟩ := h
    rfl
  obtain ⟨a, ns, rfl, hS, h63, q⟩ := h
  have hu := hu50 hr
  refine ⟨_, (pss_cons (ps_set (i := 0) sc_law.nd rfl (Or.inl rfl) (pe_slice sl_list (pv 0) po_none (po_some pe_int)))
      (pss_cons (ps_set (i := 1) sc_law.nd rfl (Or.inl rfl) (pe_own G_law_head_by hr (pa_cons (pe_own G_law_at hr (pa_cons (pv 0) (pa_cons pe_int pa_nil))) pa_nil)))
      (pss_cons (ps_compC (i := 2) ["_law_cell"] [] 1 sc_law.nd rfl (Or.inl rfl) (pi_seq (pe_slice sl_list (pv 0) (po_some pe_int) po_none)) (fun _ _ _ _ _ => (pg_name (i := 0) (show (["_law_cell"] : List Str).Nodup from by decide +kernel) rfl (by first | exact Or.inl rfl | exact Or.inr rfl))) (fun _ _ _ _ _ => pts_nil) (fun _ _ _ _ _ => (pe_ownc G_law_atom_by hr (pa_cons (pv 0) pa_nil))))
      (pss_cons (ps_if (pt_cmpR (op_eqA (by exact hu)) (pe_op op_mod (pe_op op_fdiv (pe_own G_law_at hr (pa_cons (pv 0) (pa_cons pe_int pa_nil))) pe_int) pe_int) pe_int (nomark _)) (pss_cons (ps_append (pv 2) (pe_tup (pa_cons pe_str (pa_cons pe_str (pa_cons pe_str pa_nil)))))
      (pss_one (ps_append (pv 2) (pe_tup (pa_cons pe_str (pa_cons pe_str pa_nil)))))) pss_nil)
      (pss_cons (ps_set (i := 3) sc_law.nd rfl (Or.inl rfl) (pe_tup (pa_cons (pv 1) (pa_cons (pe_tupleC B (pv 2)) pa_nil))))
      (pss_cons (ps_set (i := 4) sc_law.nd rfl (Or.inl rfl) (pe_own G_law_refusal hr (pa_cons (pv 1) (pa_cons (pv 2) pa_nil))))
      (pss_cons (ps_if (pt_cmpR (op_eqA (by exact hu)) (pv 4) pe_str (nomark _)) (pss_one (ps_ret (pe_and (pe_cmpR (op_eqA (by exact hu)) (pe_own G_law_said hr (pa_cons pe_int (pa_cons (pv 3) (pa_cons (pv 3) pa_nil)))) (pv 4) (nomark _)) (pe_one (pe_cmpR op_isN (pe_own G_check_rule hr (pa_cons (pv 3) pa_nil)) pe_non (nomark _)))))) pss_nil)
      (pss_cons (ps_set (i := 5) sc_law.nd rfl (Or.inl rfl) (pe_tup (pa_cons (pe_tup (pa_cons pe_str (pa_cons pe_str (pa_cons pe_int pa_nil)))) (pa_cons (pe_tup pa_nil) pa_nil))))
      (pss_cons (ps_if (pt_cmpR (op_eqA (by exact hu)) (pv 4) pe_str (nomark _)) (pss_one (ps_set (i := 5) sc_law.nd rfl (Or.inl rfl) (pe_tup (pa_cons (pe_tup (pa_cons pe_str (pa_cons pe_str pa_nil))) (pa_cons (pe_tup pa_nil) pa_nil))))) pss_nil)
      (pss_cons (ps_if (pt_cmpR (op_eqA (by exact hu)) (pe_op op_mod (pe_op op_fdiv (pe_own G_law_at hr (pa_cons (pv 0) (pa_cons pe_int pa_nil))) pe_int) pe_int) pe_int (nomark _)) (pss_one (ps_set (i := 5) sc_law.nd rfl (Or.inl rfl) (pe_tup (pa_cons (pe_tup (pa_cons pe_str pa_nil)) (pa_cons (pe_tup pa_nil) pa_nil))))) pss_nil)
      (pss_cons (ps_for PassesOwn.never rfl (pi_range1 rfl B.range (pa_cons pe_int pa_nil)) (pg_name (i := 6) sc_law.nd rfl (by first | exact Or.inl rfl | exact Or.inr rfl)) (pss_one (ps_if (pw_or (pt_cmpR (op_neA (by exact hu)) (pe_own G_law_said hr (pa_cons (pv 6) (pa_cons (pv 3) (pa_cons (pv 5) pa_nil)))) (pv 4) (nomark _)) (pw_or1 (pt_not (pt_val (pe_own G_law_refuses hr (pa_cons (pv 6) (pa_cons (pv 3) (pa_cons (pv 5) pa_nil)))))))).pt (pss_one (ps_ret pe_bl)) pss_nil)))
      (pss_one (ps_ret pe_bl))))))))))))), ?_⟩
  refine ⟨_, rfl, 500, rfl, a, _, rfl, hS, fun p hp => ?_⟩
  rw [cut500 h63]
  have E1 := env_law (H := H) (p := p) (ns := ns) Nlaw a 6 rfl
  dsimp only
  refine s_set (i := 1) (d := headD (ns.getD 0 0)) Live.nil E1 (ev_callR ⟨ns.getD 0 0, rfl, rfl⟩ (ev_cons (ev_callR (RAt_int ns 0) (ev_cons (ev_v (i := 0) E1 rfl) (ev_cons ev_int ev_nil))) ev_nil)) fun σ2 H2 s2 l2 E2 => ?_
  rw [(head_good (ns.getD 0 0)).1] at E2
  have oh := (head_good (ns.getD 0 0)).2
  generalize hc0 : ns.getD 0 0 = c0 at E2 oh
  have oB := body_own c0 ns
  have hBl := body_len c0 h63
  let g : D → D := fun d => match d with
    | .int c => atomD c
    | _ => .non
  refine s_compN (n := 2) (i := 0) (p := fun _ => true) (f := g) l2 E2 (by simp) (walk_seqL (ev_from (k := 1) (ev_v (i := 0) E2 rfl))) (fun G' v d _ _ _ => evt_yes) (fun G' v d sG hd _ r => ?_) (by rw [List.length_drop, List.length_map]; exact small1000 (by omega)) fun aB vB σ3 H3 o3 i3 n3 h3 r3 l3 k3 E3 => ?_
  · obtain ⟨c, _, rfl⟩ := List.mem_map.mp (List.mem_of_mem_drop hd)
    have h0 : ((capsOf [] 1 σ2).set 0 (some v))[0]? = some (some v) := by simp [capsOf]
    exact ev_callR (R := RAtomBy) ⟨c, rfl, rfl⟩ (ev_cons (ev_var h0 r) ev_nil)
  have r3' : Reps (but H3 [aB]) vB (((ns.drop 1).map atomBy).map D.tup) := by
    have e1 : (((ns.map D.int).drop 1).filter fun _ => true).map g = ((ns.drop 1).map atomBy).map D.tup := by
      rw [List.filter_eq_self.mpr fun _ _ => rfl, ← List.map_drop, List.map_map, List.map_map]
      exact List.map_congr_left fun c _ => (atom_good c).1
    rw [← e1]
    exact r3
  dsimp only
  refine s_ifK (Bd c0 ns (bodyOf c0 ns)) l3 E3 (evt_test (ev_eqI (ev_mod (by decide) (ev_fdiv ⟨by decide, by decide⟩ (ev_callR (RAt_int ns 0) (ev_cons (ev_v (i := 0) E3 rfl) (ev_cons ev_int ev_nil))) ev_int) ev_int) ev_int)) (fun hk e H4 s4 l4 E4 => ?_) (fun hk e H4 s4 l4 E4 => nx (hk _ _ ?_)) (fun σ4 H4 B4 => ?_)
  · rw [hc0] at e
    have hb : bodyOf c0 ns = (ns.drop 1).map atomBy ++ extraA := by unfold bodyOf; rw [if_pos (of_decide_eq_true e)]
    have n1 : (((ns.drop 1).map atomBy).map D.tup).length ≤ 63 := by
      rw [List.length_map, List.length_map, List.length_drop]; omega
    refine s_app l4 E4 (by simp) i3 (s4 _ _ h3) (r3'.mono (s4.but _)) (small1000 (by omega)) (ev_tup (ev_cons ev_str (ev_cons ev_str (ev_cons ev_str ev_nil)))) fun v5 H5 k5 l5 h5 r5 E5 => ?_
    refine s_app l5 E5 (by simp) i3 h5 r5 (by rw [List.length_append]; exact small1000 (by simp only [List.length_cons, List.length_nil]; omega)) (ev_tup (ev_cons ev_str (ev_cons ev_str ev_nil))) fun v6 H6 k6 l6 h6 r6 E6 => ?_
    refine hk _ _ ⟨aB, _, i3, h6, ?_, l6, E6⟩
    rw [hb, List.map_append]
    have e7 : ∀ (l : List D) (x y : D), l ++ [x] ++ [y] = l ++ [x, y] := fun l x y => by simp
    rw [e7] at r6
    exact r6
  · rw [hc0] at e
    have hb : bodyOf c0 ns = (ns.drop 1).map atomBy := by unfold bodyOf; rw [if_neg (of_decide_eq_false e), List.append_nil]
    refine ⟨aB, vB, i3, s4 _ _ h3, ?_, l4, E4⟩
    rw [hb]
    exact r3'.mono (s4.but _)
  obtain ⟨pB, vB4, i4, h4, r4, l4, E4⟩ := B4
  have E5 := env_show (i := 2) (M := []) (by simp) (by simp) i4 h4 r4 E4
  have E5 : EnvR (but H4 []) σ4 [some (.lst (ns.map D.int)), some (.tup (headBy c0)), some (atomsL (bodyOf c0 ns)), none, none, none, none] := E5
  have hbB := ok_of (hd := headBy c0) oB hBl
  have hdue := due_eq oh oB
  generalize bodyOf c0 ns = as at oB hBl hbB hdue E5
  generalize headBy c0 = hd at oh hdue E5
  clear E4 r4 h4
  refine s_set (i := 3) (d := ruleD hd as) Live.nil E5 (ev_tup (ev_cons (ev_v (i := 1) E5 rfl) (ev_cons (ev_tupleL (ev_cons (ev_v (i := 2) E5 rfl) ev_nil)) ev_nil))) fun σ6 H6 s6 l6 E6 => ?_
  refine s_set (i := 4) (d := .str (dueW hd as)) l6 E6 (ev_callR ⟨hd, as, rfl, oh, oB, hBl, rfl⟩ (ev_cons (ev_v (i := 1) E6 rfl) (ev_cons (ev_v (i := 2) E6 rfl) ev_nil))) fun σ7 H7 s7 l7 E7 => ?_
  rw [hdue] at E7
  have E7 : EnvR (but H7 []) σ7 [some (.lst (ns.map D.int)), some (.tup hd), some (atomsL as), some (ruleD hd as), some (.str (wordR (chkR hd as))), none, none] := E7
  obtain ⟨w1, w2⟩ := word_dec (chkR hd as)
  refine s_if l7 E7 (evt_test (ev_eqA (d1 := .str (wordR (chkR hd as))) (d2 := .str (Str.ofString "sound")) rfl (Nat.zero_le _) (ev_v (i := 4) E7 rfl) ev_str)) (fun e H8 s8 l8 E8 => ?_) (fun e H8 s8 l8 E8 => ?_)
  · have e1 : wordR (chkR hd as) = Str.ofString "sound" := by simpa using e
    rw [decide_eq_true e1] at w1
    have hn : chkR hd as = none := by
      cases e2 : chkR hd as with
      | none => rfl
      | some r => rw [e2] at w1; cases w1
    refine s_ret l8 (EvM.eq (ev_and (ev_eqA (d1 := .str (wordR (chkR hd as))) (d2 := .str (wordR (chkR hd as))) rfl (Nat.zero_le _) (ev_callR (R := RSaid) ⟨0, hd, as, ruleD hd as, rfl, oh.ok, hbB, .inl rfl, rfl⟩ (ev_cons ev_int (ev_cons (ev_v (i := 3) E8 rfl) (ev_cons (ev_v (i := 3) E8 rfl) ev_nil)))) (ev_v (i := 4) E8 rfl)) fun _ => ev_isN (d := .non) (ev_callR (R := RSound) ⟨hd, as, rfl, oh.ok, hbB, hn, rfl⟩ (ev_cons (ev_v (i := 3) E8 rfl) ev_nil)) (fun H v r => by rw [r.of_non]; rfl)) (show D.bl _ = D.bl true by simp)) fun v H9 s9 r9 => by rw [r9.of_bl]; exact q H9
  · have e1 : ¬ wordR (chkR hd as) = Str.ofString "sound" := by simpa using e
    have hn : chkR hd as ≠ none := fun z => e1 (by rw [z]; rfl)
    refine nx ?_
    refine s_set (i := 5) (d := .tup [.tup [.str "less", .str "X", .int 1], .tup []]) l8 E8 (ev_tup (ev_cons (ev_tup (ev_cons ev_str (ev_cons ev_str (ev_cons ev_int ev_nil)))) (ev_cons (ev_tup ev_nil) ev_nil))) fun σ9 H9 s9 l9 E9 => ?_
    let Pd : St → Hp → Prop := fun σ H => ∃ odd, Live [] H ∧ EnvR (but H []) σ [some (.lst (ns.map D.int)), some (.tup hd), some (atomsL as), some (ruleD hd as), some (.str (wordR (chkR hd as))), some odd, none]
    refine s_ifK Pd l9 E9 (evt_test (ev_eqA (d1 := .str (wordR (chkR hd as))) (d2 := .str (Str.ofString "head")) rfl (Nat.zero_le _) (ev_v (i := 4) E9 rfl) ev_str)) (fun hk e H10 s10 l10 E10 => ?_) (fun hk e H10 s10 l10 E10 => nx (hk _ _ ⟨_, l10, E10⟩)) (fun σ10 H10 B10 => ?_)
    · exact s_set (i := 5) (d := .tup [.tup [.str "mark", .str "Q"], .tup []]) l10 E10 (ev_tup (ev_cons (ev_tup (ev_cons ev_str (ev_cons ev_str ev_nil))) (ev_cons (ev_tup ev_nil) ev_nil))) fun σ11 H11 s11 l11 E11 => hk _ _ ⟨_, l11, E11⟩
    obtain ⟨odd1, l10, E10⟩ := B10
    refine s_ifK Pd l10 E10 (evt_test (ev_eqI (ev_mod (by decide) (ev_fdiv ⟨by decide, by decide⟩ (ev_callR (RAt_int ns 0) (ev_cons (ev_v (i := 0) E10 rfl) (ev_cons ev_int ev_nil))) ev_int) ev_int) ev_int)) (fun hk e H11 s11 l11 E11 => ?_) (fun hk e H11 s11 l11 E11 => nx (hk _ _ ⟨_, l11, E11⟩)) (fun σ11 H11 B11 => ?_)
    · exact s_set (i := 5) (d := .tup [.tup [.str "rain"], .tup []]) l11 E11 (ev_tup (ev_cons (ev_tup (ev_cons ev_str ev_nil)) (ev_cons (ev_tup ev_nil) ev_nil))) fun σ12 H12 s12 l12 E12 => hk _ _ ⟨_, l12, E12⟩
    obtain ⟨odd2, l11, E11⟩ := B11
    refine st_for (M := []) (ds := (List.range 5).map fun (k : Nat) => D.int (0 + k)) (walk_range1 (n := 5) (by decide) (ev_cons ev_int ev_nil)) l11 fun H12 s12 => ?_
    refine ⟨fun j σ' H' => Same H12 H' ∧ EnvR (but H' []) σ' [some (.lst (ns.map D.int)), some (.tup hd), some (atomsL as), some (ruleD hd as), some (.str (wordR (chkR hd as))), some odd2, none], ⟨Same.refl _, E11.same s12⟩, fun j σ' H' ⟨a, b⟩ => ⟨a.but [], (l11.same s12).same a⟩, ?_, ?_⟩
    · rintro j d x σ' H' H'' hdj ⟨a, b⟩ s13 rx
      obtain ⟨k, _, rfl⟩ := List.mem_map.mp (List.mem_of_getElem? hdj)
      have E13 : EnvR (but H'' []) (σ'.set 6 (some x)) [some (.lst (ns.map D.int)), some (.tup hd), some (atomsL as), some (ruleD hd as), some (.str (wordR (chkR hd as))), some odd2, some (.int (0 + k))] := (b.same s13).set 6 rx
      have l13 : Live [] H'' := ((l11.same s12).same a).same s13
      have hw : (0 + (k : Int)) = 0 ∨ 0 < (0 + (k : Int)) := by omega
      refine s_if (b := false) l13 E13 (EvT.eq (evt_or (evt_test (ev_neA (d1 := .str (wordR (chkR hd as))) (d2 := .str (wordR (chkR hd as))) rfl (Nat.zero_le _) (ev_callR (R := RSaid) ⟨0 + k, hd, as, odd2, rfl, oh.ok, hbB, hw.imp id fun z => ⟨z, hn⟩, rfl⟩ (ev_cons (ev_v (i := 6) E13 rfl) (ev_cons (ev_v (i := 3) E13 rfl) (ev_cons (ev_v (i := 5) E13 rfl) ev_nil)))) (ev_v (i := 4) E13 rfl))) fun _ => evt_not (evt_tB (ev_callR (R := RRefuses) ⟨0 + k, hd, as, odd2, rfl, oh.ok, hbB, hw, hn, rfl⟩ (ev_cons (ev_v (i := 6) E13 rfl) (ev_cons (ev_v (i := 3) E13 rfl) (ev_cons (ev_v (i := 5) E13 rfl) ev_nil)))))) (by simp)) (fun e => nomatch e) (fun e H14 s14 l14 E14 => ?_)
      exact nx ⟨a.trans (s13.trans s14), E14.drop 6⟩
    · rintro σ' H' ⟨a, b⟩
      exact q H'
end
end
end K04

set_option Elab.async false
set_option linter.all false
set_option maxRecDepth 100000
set_option maxHeartbeats 4000000
namespace K04
open PySem L2 FL
theorem exm_of {K : PySem.W.Frag} {C0 C : Addr} {b : Bool} (hT : PySem.W.typeIn K (.ref C) = some (.type "type")) (hB : PySem.W.mroIn K C (.type "BaseException") = some true) (hm : PySem.W.mroIn K C0 (.ref C) = some b) : PySem.W.exmOne K (.ref C0) (.ref C) = some b := by
  have h1 : (PySem.W.clsIn K C).isSome = true := by
    obtain ⟨cd, h, _⟩ := Option.bind_eq_some_iff.mp hB
    rw [h]; rfl
  have h2 : PySem.W.subIn K (.ref C) (.type "BaseException") = some true := hB
  show (if (PySem.W.subIn K (.ref C) (.type "BaseException") == some true) = true then (if ((PySem.W.clsIn K C).isSome && PySem.W.typeIn K (.ref C) == some (.type "type")) = true then PySem.W.mroIn K C0 (.ref C) else none) else none) = some b
  rw [h2, h1, hT, hm]
  have e1 : ((some true : Option Bool) == some true) = true := rfl
  have e2 : ((some (Value.type "type") : Option Value) == some (.type "type")) = true := by decide +kernel
  rw [if_pos e1, e2, Bool.true_and, if_pos rfl]
theorem kit_of {K : PySem.W.Frag} {C0 C : Addr} {b : Bool} (hT : PySem.W.typeIn K (.ref C) = some (.type "type")) (hB : PySem.W.mroIn K C (.type "BaseException") = some true) (hs : PySem.W.mroIn K C (.ref C) = some true) (hm : PySem.W.mroIn K C0 (.ref C) = some b) : PySem.W.kitOne K (.ref C0) (.ref C) = some b := by
  have h1 : (PySem.W.clsIn K C).isSome = true := by
    obtain ⟨cd, h, _⟩ := Option.bind_eq_some_iff.mp hB
    rw [h]; rfl
  show (if ((Value.ref C0) == (Value.ref C)) = true then some true else (if ((PySem.W.clsIn K C).isSome && PySem.W.typeIn K (.ref C) == some (.type "type")) = true then PySem.W.mroIn K C0 (.ref C) else none)) = some b
  by_cases e : ((Value.ref C0) == (Value.ref C)) = true
  · have e' : C0 = C := Value.ref.inj (beq_iff_eq.mp e)
    subst e'
    rw [if_pos e]
    exact hs.symm.trans hm
  · have e2 : ((some (Value.type "type") : Option Value) == some (.type "type")) = true := by decide +kernel
    rw [if_neg e, h1, hT, hm, e2, Bool.true_and, if_pos rfl]
theorem kit_ve {K : PySem.W.Frag} {C0 : Addr} (hm : PySem.W.mroIn K C0 (.type "ValueError") = some true) : PySem.W.kitOne K (.ref C0) (.type "ValueError") = some true := by
  show (if ((Value.ref C0) == (Value.type "ValueError")) = true then some true else (if PySem.W.kitMeta "ValueError" = true then PySem.W.mroIn K C0 (.type "ValueError") else none)) = some true
  have e : PySem.W.kitMeta "ValueError" = true := by decide +kernel
  rw [e, hm]
  split
  · rfl
  · rfl
theorem all_mk {l : PySem.W.OpenLaw} {w : World} {K : PySem.W.Frag} {h : Heap} {mg : Str → Option Value} {fa f_is_blank f_is_guard f_blanks_in f_askers_in f_guards_in f_refuse_loose f_check_body f_check_rule f_reasons_by_round f_reasons f_rounds f_grounds f_facts_of f_asked f_law_at f_law_atom_by f_law_head_by f_law_refusal f_law_asked f_law_said f_law_refuses f_law : Addr} (X : K.In h) (G : h.Ns mainGlobals mg) (hfa : mg "law" = some (.ref fa))
    {od_is_blank an_is_blank od_is_guard an_is_guard od_blanks_in an_blanks_in od_askers_in an_askers_in od_guards_in an_guards_in od_refuse_loose an_refuse_loose od_check_body an_check_body od_check_rule an_check_rule od_reasons_by_round an_reasons_by_round od_reasons an_reasons od_rounds an_rounds od_grounds an_grounds od_facts_of an_facts_of od_asked an_asked od_law_at an_law_at od_law_atom_by an_law_atom_by od_law_head_by an_law_head_by od_law_refusal an_law_refusal od_law_asked an_law_asked od_law_said an_law_said od_law_refuses an_law_refuses od_law an_law : Option Addr} {sl_is_blank sl_is_guard sl_blanks_in sl_askers_in sl_guards_in sl_refuse_loose sl_check_body sl_check_rule sl_reasons_by_round sl_reasons sl_rounds sl_grounds sl_facts_of sl_asked sl_law_at sl_law_atom_by sl_law_head_by sl_law_refusal sl_law_asked sl_law_said sl_law_refuses sl_law : Array (Option Value)} {oc_is_blank kV_is_blank dc_is_blank pm_is_blank cd_is_blank ct_is_blank oc_is_guard kV_is_guard dc_is_guard pm_is_guard cd_is_guard ct_is_guard oc_blanks_in kV_blanks_in dc_blanks_in pm_blanks_in cd_blanks_in ct_blanks_in oc_askers_in kV_askers_in dc_askers_in pm_askers_in cd_askers_in ct_askers_in oc_guards_in kV_guards_in dc_guards_in pm_guards_in cd_guards_in ct_guards_in oc_refuse_loose kV_refuse_loose dc_refuse_loose pm_refuse_loose cd_refuse_loose ct_refuse_loose oc_check_body kV_check_body dc_check_body pm_check_body cd_check_body ct_check_body oc_check_rule kV_check_rule dc_check_rule pm_check_rule cd_check_rule ct_check_rule oc_reasons_by_round kV_reasons_by_round dc_reasons_by_round pm_reasons_by_round cd_reasons_by_round ct_reasons_by_round oc_reasons kV_reasons dc_reasons pm_reasons cd_reasons ct_reasons oc_rounds kV_rounds dc_rounds pm_rounds cd_rounds ct_rounds oc_grounds kV_grounds dc_grounds pm_grounds cd_grounds ct_grounds oc_facts_of kV_facts_of dc_facts_of pm_facts_of cd_facts_of ct_facts_of oc_asked kV_asked dc_asked pm_asked cd_asked ct_asked oc_law_at kV_law_at dc_law_at pm_law_at cd_law_at ct_law_at oc_law_atom_by kV_law_atom_by dc_law_atom_by pm_law_atom_by cd_law_atom_by ct_law_atom_by oc_law_head_by kV_law_head_by dc_law_head_by pm_law_head_by cd_law_head_by ct_law_head_by oc_law_refusal kV_law_refusal dc_law_refusal pm_law_refusal cd_law_refusal ct_law_refusal oc_law_asked kV_law_asked dc_law_asked pm_law_asked cd_law_asked ct_law_asked oc_law_said kV_law_said dc_law_said pm_law_said cd_law_said ct_law_said oc_law_refuses kV_law_refuses dc_law_refuses pm_law_refuses cd_law_refuses ct_law_refuses oc_law kV_law dc_law pm_law cd_law ct_law : Value} {t_LESS t_UNLIKE : Tok} {A_BadHead A_BadGuard A_LooseBlank A_LoomError A_NotTold A_NoRule : Addr}
    (a_is_blank : PySem.W.nsIn K mainGlobals "is_blank" = some (some (.ref f_is_blank))) (l_is_blank : K.lookup f_is_blank = some ⟨oc_is_blank, od_is_blank, .func (PySem.W.fnOf "is_blank" "is_blank" (defArgs s_is_blank) (defBody s_is_blank) (defScope s_is_blank) .none kV_is_blank dc_is_blank pm_is_blank an_is_blank cd_is_blank ct_is_blank), sl_is_blank⟩) (c_is_blank : PySem.W.codeIn K cd_is_blank "is_blank" = true) (k_is_blank : PySem.W.keepIn K (.ref f_is_blank) = true)
    (a_is_guard : PySem.W.nsIn K mainGlobals "is_guard" = some (some (.ref f_is_guard))) (l_is_guard : K.lookup f_is_guard = some ⟨oc_is_guard, od_is_guard, .func (PySem.W.fnOf "is_guard" "is_guard" (defArgs s_is_guard) (defBody s_is_guard) (defScope s_is_guard) .none kV_is_guard dc_is_guard pm_is_guard an_is_guard cd_is_guard ct_is_guard), sl_is_guard⟩) (c_is_guard : PySem.W.codeIn K cd_is_guard "is_guard" = true) (k_is_guard : PySem.W.keepIn K (.ref f_is_guard) = true)
    (a_blanks_in : PySem.W.nsIn K mainGlobals "blanks_in" = some (some (.ref f_blanks_in))) (l_blanks_in : K.lookup f_blanks_in = some ⟨oc_blanks_in, od_blanks_in, .func (PySem.W.fnOf "blanks_in" "blanks_in" (defArgs s_blanks_in) (defBody s_blanks_in) (defScope s_blanks_in) .none kV_blanks_in dc_blanks_in pm_blanks_in an_blanks_in cd_blanks_in ct_blanks_in), sl_blanks_in⟩) (c_blanks_in : PySem.W.codeIn K cd_blanks_in "blanks_in" = true) (k_blanks_in : PySem.W.keepIn K (.ref f_blanks_in) = true)
    (a_askers_in : PySem.W.nsIn K mainGlobals "askers_in" = some (some (.ref f_askers_in))) (l_askers_in : K.lookup f_askers_in = some ⟨oc_askers_in, od_askers_in, .func (PySem.W.fnOf "askers_in" "askers_in" (defArgs s_askers_in) (defBody s_askers_in) (defScope s_askers_in) .none kV_askers_in dc_askers_in pm_askers_in an_askers_in cd_askers_in ct_askers_in), sl_askers_in⟩) (c_askers_in : PySem.W.codeIn K cd_askers_in "askers_in" = true) (k_askers_in : PySem.W.keepIn K (.ref f_askers_in) = true)
    (a_guards_in : PySem.W.nsIn K mainGlobals "guards_in" = some (some (.ref f_guards_in))) (l_guards_in : K.lookup f_guards_in = some ⟨oc_guards_in, od_guards_in, .func (PySem.W.fnOf "guards_in" "guards_in" (defArgs s_guards_in) (defBody s_guards_in) (defScope s_guards_in) .none kV_guards_in dc_guards_in pm_guards_in an_guards_in cd_guards_in ct_guards_in), sl_guards_in⟩) (c_guards_in : PySem.W.codeIn K cd_guards_in "guards_in" = true) (k_guards_in : PySem.W.keepIn K (.ref f_guards_in) = true)
    (a_refuse_loose : PySem.W.nsIn K mainGlobals "refuse_loose" = some (some (.ref f_refuse_loose))) (l_refuse_loose : K.lookup f_refuse_loose = some ⟨oc_refuse_loose, od_refuse_loose, .func (PySem.W.fnOf "refuse_loose" "refuse_loose" (defArgs s_refuse_loose) (defBody s_refuse_loose) (defScope s_refuse_loose) .none kV_refuse_loose dc_refuse_loose pm_refuse_loose an_refuse_loose cd_refuse_loose ct_refuse_loose), sl_refuse_loose⟩) (c_refuse_loose : PySem.W.codeIn K cd_refuse_loose "refuse_loose" = true) (k_refuse_loose : PySem.W.keepIn K (.ref f_refuse_loose) = true)
    (a_check_body : PySem.W.nsIn K mainGlobals "check_body" = some (some (.ref f_check_body))) (l_check_body : K.lookup f_check_body = some ⟨oc_check_body, od_check_body, .func (PySem.W.fnOf "check_body" "check_body" (defArgs s_check_body) (defBody s_check_body) (defScope s_check_body) .none kV_check_body dc_check_body pm_check_body an_check_body cd_check_body ct_check_body), sl_check_body⟩) (c_check_body : PySem.W.codeIn K cd_check_body "check_body" = true) (k_check_body : PySem.W.keepIn K (.ref f_check_body) = true)
    (a_check_rule : PySem.W.nsIn K mainGlobals "check_rule" = some (some (.ref f_check_rule))) (l_check_rule : K.lookup f_check_rule = some ⟨oc_check_rule, od_check_rule, .func (PySem.W.fnOf "check_rule" "check_rule" (defArgs s_check_rule) (defBody s_check_rule) (defScope s_check_rule) .none kV_check_rule dc_check_rule pm_check_rule an_check_rule cd_check_rule ct_check_rule), sl_check_rule⟩) (c_check_rule : PySem.W.codeIn K cd_check_rule "check_rule" = true) (k_check_rule : PySem.W.keepIn K (.ref f_check_rule) = true)
    (a_reasons_by_round : PySem.W.nsIn K mainGlobals "reasons_by_round" = some (some (.ref f_reasons_by_round))) (l_reasons_by_round : K.lookup f_reasons_by_round = some ⟨oc_reasons_by_round, od_reasons_by_round, .func (PySem.W.fnOf "reasons_by_round" "reasons_by_round" (defArgs s_reasons_by_round) (defBody s_reasons_by_round) (defScope s_reasons_by_round) .none kV_reasons_by_round dc_reasons_by_round pm_reasons_by_round an_reasons_by_round cd_reasons_by_round ct_reasons_by_round), sl_reasons_by_round⟩) (c_reasons_by_round : PySem.W.codeIn K cd_reasons_by_round "reasons_by_round" = true) (k_reasons_by_round : PySem.W.keepIn K (.ref f_reasons_by_round) = true)
    (a_reasons : PySem.W.nsIn K mainGlobals "reasons" = some (some (.ref f_reasons))) (l_reasons : K.lookup f_reasons = some ⟨oc_reasons, od_reasons, .func (PySem.W.fnOf "reasons" "reasons" (defArgs s_reasons) (defBody s_reasons) (defScope s_reasons) .none kV_reasons dc_reasons pm_reasons an_reasons cd_reasons ct_reasons), sl_reasons⟩) (c_reasons : PySem.W.codeIn K cd_reasons "reasons" = true) (k_reasons : PySem.W.keepIn K (.ref f_reasons) = true)
    (a_rounds : PySem.W.nsIn K mainGlobals "rounds" = some (some (.ref f_rounds))) (l_rounds : K.lookup f_rounds = some ⟨oc_rounds, od_rounds, .func (PySem.W.fnOf "rounds" "rounds" (defArgs s_rounds) (defBody s_rounds) (defScope s_rounds) .none kV_rounds dc_rounds pm_rounds an_rounds cd_rounds ct_rounds), sl_rounds⟩) (c_rounds : PySem.W.codeIn K cd_rounds "rounds" = true) (k_rounds : PySem.W.keepIn K (.ref f_rounds) = true)
    (a_grounds : PySem.W.nsIn K mainGlobals "grounds" = some (some (.ref f_grounds))) (l_grounds : K.lookup f_grounds = some ⟨oc_grounds, od_grounds, .func (PySem.W.fnOf "grounds" "grounds" (defArgs s_grounds) (defBody s_grounds) (defScope s_grounds) .none kV_grounds dc_grounds pm_grounds an_grounds cd_grounds ct_grounds), sl_grounds⟩) (c_grounds : PySem.W.codeIn K cd_grounds "grounds" = true) (k_grounds : PySem.W.keepIn K (.ref f_grounds) = true)
    (a_facts_of : PySem.W.nsIn K mainGlobals "facts_of" = some (some (.ref f_facts_of))) (l_facts_of : K.lookup f_facts_of = some ⟨oc_facts_of, od_facts_of, .func (PySem.W.fnOf "facts_of" "facts_of" (defArgs s_facts_of) (defBody s_facts_of) (defScope s_facts_of) .none kV_facts_of dc_facts_of pm_facts_of an_facts_of cd_facts_of ct_facts_of), sl_facts_of⟩) (c_facts_of : PySem.W.codeIn K cd_facts_of "facts_of" = true) (k_facts_of : PySem.W.keepIn K (.ref f_facts_of) = true)
    (a_asked : PySem.W.nsIn K mainGlobals "asked" = some (some (.ref f_asked))) (l_asked : K.lookup f_asked = some ⟨oc_asked, od_asked, .func (PySem.W.fnOf "asked" "asked" (defArgs s_asked) (defBody s_asked) (defScope s_asked) .none kV_asked dc_asked pm_asked an_asked cd_asked ct_asked), sl_asked⟩) (c_asked : PySem.W.codeIn K cd_asked "asked" = true) (k_asked : PySem.W.keepIn K (.ref f_asked) = true)
    (a_law_at : PySem.W.nsIn K mainGlobals "_law_at" = some (some (.ref f_law_at))) (l_law_at : K.lookup f_law_at = some ⟨oc_law_at, od_law_at, .func (PySem.W.fnOf "_law_at" "_law_at" (defArgs s_law_at) (defBody s_law_at) (defScope s_law_at) .none kV_law_at dc_law_at pm_law_at an_law_at cd_law_at ct_law_at), sl_law_at⟩) (c_law_at : PySem.W.codeIn K cd_law_at "_law_at" = true) (k_law_at : PySem.W.keepIn K (.ref f_law_at) = true)
    (a_law_atom_by : PySem.W.nsIn K mainGlobals "_law_atom_by" = some (some (.ref f_law_atom_by))) (l_law_atom_by : K.lookup f_law_atom_by = some ⟨oc_law_atom_by, od_law_atom_by, .func (PySem.W.fnOf "_law_atom_by" "_law_atom_by" (defArgs s_law_atom_by) (defBody s_law_atom_by) (defScope s_law_atom_by) .none kV_law_atom_by dc_law_atom_by pm_law_atom_by an_law_atom_by cd_law_atom_by ct_law_atom_by), sl_law_atom_by⟩) (c_law_atom_by : PySem.W.codeIn K cd_law_atom_by "_law_atom_by" = true) (k_law_atom_by : PySem.W.keepIn K (.ref f_law_atom_by) = true)
    (a_law_head_by : PySem.W.nsIn K mainGlobals "_law_head_by" = some (some (.ref f_law_head_by))) (l_law_head_by : K.lookup f_law_head_by = some ⟨oc_law_head_by, od_law_head_by, .func (PySem.W.fnOf "_law_head_by" "_law_head_by" (defArgs s_law_head_by) (defBody s_law_head_by) (defScope s_law_head_by) .none kV_law_head_by dc_law_head_by pm_law_head_by an_law_head_by cd_law_head_by ct_law_head_by), sl_law_head_by⟩) (c_law_head_by : PySem.W.codeIn K cd_law_head_by "_law_head_by" = true) (k_law_head_by : PySem.W.keepIn K (.ref f_law_head_by) = true)
    (a_law_refusal : PySem.W.nsIn K mainGlobals "_law_refusal" = some (some (.ref f_law_refusal))) (l_law_refusal : K.lookup f_law_refusal = some ⟨oc_law_refusal, od_law_refusal, .func (PySem.W.fnOf "_law_refusal" "_law_refusal" (defArgs s_law_refusal) (defBody s_law_refusal) (defScope s_law_refusal) .none kV_law_refusal dc_law_refusal pm_law_refusal an_law_refusal cd_law_refusal ct_law_refusal), sl_law_refusal⟩) (c_law_refusal : PySem.W.codeIn K cd_law_refusal "_law_refusal" = true) (k_law_refusal : PySem.W.keepIn K (.ref f_law_refusal) = true)
    (a_law_asked : PySem.W.nsIn K mainGlobals "_law_asked" = some (some (.ref f_law_asked))) (l_law_asked : K.lookup f_law_asked = some ⟨oc_law_asked, od_law_asked, .func (PySem.W.fnOf "_law_asked" "_law_asked" (defArgs s_law_asked) (defBody s_law_asked) (defScope s_law_asked) .none kV_law_asked dc_law_asked pm_law_asked an_law_asked cd_law_asked ct_law_asked), sl_law_asked⟩) (c_law_asked : PySem.W.codeIn K cd_law_asked "_law_asked" = true) (k_law_asked : PySem.W.keepIn K (.ref f_law_asked) = true)
    (a_law_said : PySem.W.nsIn K mainGlobals "_law_said" = some (some (.ref f_law_said))) (l_law_said : K.lookup f_law_said = some ⟨oc_law_said, od_law_said, .func (PySem.W.fnOf "_law_said" "_law_said" (defArgs s_law_said) (defBody s_law_said) (defScope s_law_said) .none kV_law_said dc_law_said pm_law_said an_law_said cd_law_said ct_law_said), sl_law_said⟩) (c_law_said : PySem.W.codeIn K cd_law_said "_law_said" = true) (k_law_said : PySem.W.keepIn K (.ref f_law_said) = true)
    (a_law_refuses : PySem.W.nsIn K mainGlobals "_law_refuses" = some (some (.ref f_law_refuses))) (l_law_refuses : K.lookup f_law_refuses = some ⟨oc_law_refuses, od_law_refuses, .func (PySem.W.fnOf "_law_refuses" "_law_refuses" (defArgs s_law_refuses) (defBody s_law_refuses) (defScope s_law_refuses) .none kV_law_refuses dc_law_refuses pm_law_refuses an_law_refuses cd_law_refuses ct_law_refuses), sl_law_refuses⟩) (c_law_refuses : PySem.W.codeIn K cd_law_refuses "_law_refuses" = true) (k_law_refuses : PySem.W.keepIn K (.ref f_law_refuses) = true)
    (a_law : PySem.W.nsIn K mainGlobals "law" = some (some (.ref f_law))) (l_law : K.lookup f_law = some ⟨oc_law, od_law, .func (PySem.W.fnOf "law" "law" (defArgs s_law) (defBody s_law) (defScope s_law) .none kV_law dc_law pm_law an_law cd_law ct_law), sl_law⟩) (c_law : PySem.W.codeIn K cd_law "law" = true) (k_law : PySem.W.keepIn K (.ref f_law) = true)
    (u_LESS : PySem.W.nsIn K mainGlobals "LESS" = some (some (.str "less" t_LESS)))
    (u_UNLIKE : PySem.W.nsIn K mainGlobals "UNLIKE" = some (some (.str "unlike" t_UNLIKE)))
    (n_BadHead : PySem.W.nsIn K mainGlobals "BadHead" = some (some (.ref A_BadHead))) (e_BadHead : PySem.W.excIn K A_BadHead [.type "ValueError", .type "Exception", .type "BaseException", .type "object"] "ValueError.__new__" = true)
    (n_BadGuard : PySem.W.nsIn K mainGlobals "BadGuard" = some (some (.ref A_BadGuard))) (e_BadGuard : PySem.W.excIn K A_BadGuard [.type "ValueError", .type "Exception", .type "BaseException", .type "object"] "ValueError.__new__" = true)
    (n_LooseBlank : PySem.W.nsIn K mainGlobals "LooseBlank" = some (some (.ref A_LooseBlank))) (e_LooseBlank : PySem.W.excIn K A_LooseBlank [.type "ValueError", .type "Exception", .type "BaseException", .type "object"] "ValueError.__new__" = true)
    (n_LoomError : PySem.W.nsIn K mainGlobals "LoomError" = some (some (.ref A_LoomError))) (e_LoomError : PySem.W.excIn K A_LoomError [.type "ValueError", .type "Exception", .type "BaseException", .type "object"] "ValueError.__new__" = true)
    (n_NotTold : PySem.W.nsIn K mainGlobals "NotTold" = some (some (.ref A_NotTold))) (e_NotTold : PySem.W.excIn K A_NotTold [.type "ValueError", .type "Exception", .type "BaseException", .type "object"] "ValueError.__new__" = true)
    (n_NoRule : PySem.W.nsIn K mainGlobals "NoRule" = some (some (.ref A_NoRule))) (e_NoRule : PySem.W.excIn K A_NoRule [.type "ValueError", .type "Exception", .type "BaseException", .type "object"] "ValueError.__new__" = true)
    (t_h : PySem.W.typeIn K (.ref A_BadHead) = some (.type "type"))
    (x4_h : PySem.W.mroIn K A_BadHead (.type "BaseException") = some true)
    (t_g : PySem.W.typeIn K (.ref A_BadGuard) = some (.type "type"))
    (x4_g : PySem.W.mroIn K A_BadGuard (.type "BaseException") = some true)
    (t_b : PySem.W.typeIn K (.ref A_LooseBlank) = some (.type "type"))
    (x4_b : PySem.W.mroIn K A_LooseBlank (.type "BaseException") = some true)
    (t_l : PySem.W.typeIn K (.ref A_LoomError) = some (.type "type"))
    (x4_l : PySem.W.mroIn K A_LoomError (.type "BaseException") = some true)
    (t_n : PySem.W.typeIn K (.ref A_NotTold) = some (.type "type"))
    (x4_n : PySem.W.mroIn K A_NotTold (.type "BaseException") = some true)
    (t_r : PySem.W.typeIn K (.ref A_NoRule) = some (.type "type"))
    (x4_r : PySem.W.mroIn K A_NoRule (.type "BaseException") = some true)
    (x1_h : PySem.W.findIn K (.ref A_BadHead) "__getattribute__" = some (some (.builtin "BaseException.__getattribute__")))
    (x2_h : PySem.W.findIn K (.ref A_BadHead) "__class__" = some (some (.builtin "object.__class__")))
    (x3_h : PySem.W.findIn K (.ref A_BadHead) "__getattr__" = some none)
    (x5_h : PySem.W.mroIn K A_BadHead (.type "object") = some true)
    (m_hh : PySem.W.mroIn K A_BadHead (.ref A_BadHead) = some true)
    (m_hg : PySem.W.mroIn K A_BadHead (.ref A_BadGuard) = some false)
    (m_hb : PySem.W.mroIn K A_BadHead (.ref A_LooseBlank) = some false)
    (m_hn : PySem.W.mroIn K A_BadHead (.ref A_NotTold) = some false)
    (m_hr : PySem.W.mroIn K A_BadHead (.ref A_NoRule) = some false)
    (m_hl : PySem.W.mroIn K A_BadHead (.ref A_LoomError) = some true)
    (m_hv : PySem.W.mroIn K A_BadHead (.type "ValueError") = some true)
    (x1_g : PySem.W.findIn K (.ref A_BadGuard) "__getattribute__" = some (some (.builtin "BaseException.__getattribute__")))
    (x2_g : PySem.W.findIn K (.ref A_BadGuard) "__class__" = some (some (.builtin "object.__class__")))
    (x3_g : PySem.W.findIn K (.ref A_BadGuard) "__getattr__" = some none)
    (x5_g : PySem.W.mroIn K A_BadGuard (.type "object") = some true)
    (m_gh : PySem.W.mroIn K A_BadGuard (.ref A_BadHead) = some false)
    (m_gg : PySem.W.mroIn K A_BadGuard (.ref A_BadGuard) = some true)
    (m_gb : PySem.W.mroIn K A_BadGuard (.ref A_LooseBlank) = some false)
    (m_gn : PySem.W.mroIn K A_BadGuard (.ref A_NotTold) = some false)
    (m_gr : PySem.W.mroIn K A_BadGuard (.ref A_NoRule) = some false)
    (m_gl : PySem.W.mroIn K A_BadGuard (.ref A_LoomError) = some true)
    (m_gv : PySem.W.mroIn K A_BadGuard (.type "ValueError") = some true)
    (x1_b : PySem.W.findIn K (.ref A_LooseBlank) "__getattribute__" = some (some (.builtin "BaseException.__getattribute__")))
    (x2_b : PySem.W.findIn K (.ref A_LooseBlank) "__class__" = some (some (.builtin "object.__class__")))
    (x3_b : PySem.W.findIn K (.ref A_LooseBlank) "__getattr__" = some none)
    (x5_b : PySem.W.mroIn K A_LooseBlank (.type "object") = some true)
    (m_bh : PySem.W.mroIn K A_LooseBlank (.ref A_BadHead) = some false)
    (m_bg : PySem.W.mroIn K A_LooseBlank (.ref A_BadGuard) = some false)
    (m_bb : PySem.W.mroIn K A_LooseBlank (.ref A_LooseBlank) = some true)
    (m_bn : PySem.W.mroIn K A_LooseBlank (.ref A_NotTold) = some false)
    (m_br : PySem.W.mroIn K A_LooseBlank (.ref A_NoRule) = some false)
    (m_bl : PySem.W.mroIn K A_LooseBlank (.ref A_LoomError) = some true)
    (m_bv : PySem.W.mroIn K A_LooseBlank (.type "ValueError") = some true)
    (m_nn : PySem.W.mroIn K A_NotTold (.ref A_NotTold) = some true)
    (m_rr : PySem.W.mroIn K A_NoRule (.ref A_NoRule) = some true)
    (z_ValueError : PySem.W.nsIn K mainGlobals "ValueError" = some none)
    (z_len : PySem.W.nsIn K mainGlobals "len" = some none) (z_isinstance : PySem.W.nsIn K mainGlobals "isinstance" = some none) (z_range : PySem.W.nsIn K mainGlobals "range" = some none) (z_int : PySem.W.nsIn K mainGlobals "int" = some none) (z_str : PySem.W.nsIn K mainGlobals "str" = some none) (z_bool : PySem.W.nsIn K mainGlobals "bool" = some none) (z_list : PySem.W.nsIn K mainGlobals "list" = some none) (z_tuple : PySem.W.nsIn K mainGlobals "tuple" = some none) (z_dict : PySem.W.nsIn K mainGlobals "dict" = some none) (z_zip : PySem.W.nsIn K mainGlobals "zip" = some none) (z_enumerate : PySem.W.nsIn K mainGlobals "enumerate" = some none) (z_all : PySem.W.nsIn K mainGlobals "all" = some none) (z_reversed : PySem.W.nsIn K mainGlobals "reversed" = some none) :
    ∃ fd : FuncData, (∀ (s : Shared) (v : Value), BindsTo s fd ⟨[v], []⟩ [("_law_script", v)]) ∧ ∀ base : Heap, K.In base → base.Ns mainGlobals mg → FnOk l.prog w K mg base CX0 12 fa fd ["_law_script"] (spLaw K) := by
  have e := hfa.symm.trans (PySem.W.mg_of X G a_law)
  cases e
  have B : Bl mg := ⟨PySem.W.mg_none_of X G z_len, PySem.W.mg_none_of X G z_isinstance, PySem.W.mg_none_of X G z_range, PySem.W.mg_none_of X G z_int, PySem.W.mg_none_of X G z_str, PySem.W.mg_none_of X G z_bool, PySem.W.mg_none_of X G z_list, PySem.W.mg_none_of X G z_tuple, PySem.W.mg_none_of X G z_dict, PySem.W.mg_none_of X G z_zip, PySem.W.mg_none_of X G z_enumerate, PySem.W.mg_none_of X G z_all, PySem.W.mg_none_of X G z_reversed⟩
  have F_is_blank := fun_mk (st := s_is_blank) l_is_blank c_is_blank k_is_blank
  have b_is_blank := F_is_blank.binds (ps := ["part"]) fun _ _ _ _ _ _ us hl => match us, hl with | [_], _ => rfl
  have m_is_blank := PySem.W.mg_of X G a_is_blank
  have F_is_guard := fun_mk (st := s_is_guard) l_is_guard c_is_guard k_is_guard
  have b_is_guard := F_is_guard.binds (ps := ["atom"]) fun _ _ _ _ _ _ us hl => match us, hl with | [_], _ => rfl
  have m_is_guard := PySem.W.mg_of X G a_is_guard
  have F_blanks_in := fun_mk (st := s_blanks_in) l_blanks_in c_blanks_in k_blanks_in
  have b_blanks_in := F_blanks_in.binds (ps := ["atom"]) fun _ _ _ _ _ _ us hl => match us, hl with | [_], _ => rfl
  have m_blanks_in := PySem.W.mg_of X G a_blanks_in
  have F_askers_in := fun_mk (st := s_askers_in) l_askers_in c_askers_in k_askers_in
  have b_askers_in := F_askers_in.binds (ps := ["body"]) fun _ _ _ _ _ _ us hl => match us, hl with | [_], _ => rfl
  have m_askers_in := PySem.W.mg_of X G a_askers_in
  have F_guards_in := fun_mk (st := s_guards_in) l_guards_in c_guards_in k_guards_in
  have b_guards_in := F_guards_in.binds (ps := ["body"]) fun _ _ _ _ _ _ us hl => match us, hl with | [_], _ => rfl
  have m_guards_in := PySem.W.mg_of X G a_guards_in
  have F_refuse_loose := fun_mk (st := s_refuse_loose) l_refuse_loose c_refuse_loose k_refuse_loose
  have b_refuse_loose := F_refuse_loose.binds (ps := ["atoms", "body"]) fun _ _ _ _ _ _ us hl => match us, hl with | [_, _], _ => rfl
  have m_refuse_loose := PySem.W.mg_of X G a_refuse_loose
  have F_check_body := fun_mk (st := s_check_body) l_check_body c_check_body k_check_body
  have b_check_body := F_check_body.binds (ps := ["body"]) fun _ _ _ _ _ _ us hl => match us, hl with | [_], _ => rfl
  have m_check_body := PySem.W.mg_of X G a_check_body
  have F_check_rule := fun_mk (st := s_check_rule) l_check_rule c_check_rule k_check_rule
  have b_check_rule := F_check_rule.binds (ps := ["rule"]) fun _ _ _ _ _ _ us hl => match us, hl with | [_], _ => rfl
  have m_check_rule := PySem.W.mg_of X G a_check_rule
  have F_reasons_by_round := fun_mk (st := s_reasons_by_round) l_reasons_by_round c_reasons_by_round k_reasons_by_round
  have b_reasons_by_round := F_reasons_by_round.binds (ps := ["rules"]) fun _ _ _ _ _ _ us hl => match us, hl with | [_], _ => rfl
  have m_reasons_by_round := PySem.W.mg_of X G a_reasons_by_round
  have F_reasons := fun_mk (st := s_reasons) l_reasons c_reasons k_reasons
  have b_reasons := F_reasons.binds (ps := ["rules"]) fun _ _ _ _ _ _ us hl => match us, hl with | [_], _ => rfl
  have m_reasons := PySem.W.mg_of X G a_reasons
  have F_rounds := fun_mk (st := s_rounds) l_rounds c_rounds k_rounds
  have b_rounds := F_rounds.binds (ps := ["rules"]) fun _ _ _ _ _ _ us hl => match us, hl with | [_], _ => rfl
  have m_rounds := PySem.W.mg_of X G a_rounds
  have F_grounds := fun_mk (st := s_grounds) l_grounds c_grounds k_grounds
  have b_grounds := F_grounds.binds (ps := ["rules", "fact"]) fun _ _ _ _ _ _ us hl => match us, hl with | [_, _], _ => rfl
  have m_grounds := PySem.W.mg_of X G a_grounds
  have F_facts_of := fun_mk (st := s_facts_of) l_facts_of c_facts_of k_facts_of
  have b_facts_of := F_facts_of.binds (ps := ["found"]) fun _ _ _ _ _ _ us hl => match us, hl with | [_], _ => rfl
  have m_facts_of := PySem.W.mg_of X G a_facts_of
  have F_asked := fun_mk (st := s_asked) l_asked c_asked k_asked
  have b_asked := F_asked.binds (ps := ["rules", "body"]) fun _ _ _ _ _ _ us hl => match us, hl with | [_, _], _ => rfl
  have m_asked := PySem.W.mg_of X G a_asked
  have F_law_at := fun_mk (st := s_law_at) l_law_at c_law_at k_law_at
  have b_law_at := F_law_at.binds (ps := ["_law_script", "_law_k"]) fun _ _ _ _ _ _ us hl => match us, hl with | [_, _], _ => rfl
  have m_law_at := PySem.W.mg_of X G a_law_at
  have F_law_atom_by := fun_mk (st := s_law_atom_by) l_law_atom_by c_law_atom_by k_law_atom_by
  have b_law_atom_by := F_law_atom_by.binds (ps := ["_law_cell"]) fun _ _ _ _ _ _ us hl => match us, hl with | [_], _ => rfl
  have m_law_atom_by := PySem.W.mg_of X G a_law_atom_by
  have F_law_head_by := fun_mk (st := s_law_head_by) l_law_head_by c_law_head_by k_law_head_by
  have b_law_head_by := F_law_head_by.binds (ps := ["_law_cell"]) fun _ _ _ _ _ _ us hl => match us, hl with | [_], _ => rfl
  have m_law_head_by := PySem.W.mg_of X G a_law_head_by
  have F_law_refusal := fun_mk (st := s_law_refusal) l_law_refusal c_law_refusal k_law_refusal
  have b_law_refusal := F_law_refusal.binds (ps := ["_law_head", "_law_body"]) fun _ _ _ _ _ _ us hl => match us, hl with | [_, _], _ => rfl
  have m_law_refusal := PySem.W.mg_of X G a_law_refusal
  have F_law_asked := fun_mk (st := s_law_asked) l_law_asked c_law_asked k_law_asked
  have b_law_asked := F_law_asked.binds (ps := ["_law_way", "_law_rule", "_law_odd"]) fun _ _ _ _ _ _ us hl => match us, hl with | [_, _, _], _ => rfl
  have m_law_asked := PySem.W.mg_of X G a_law_asked
  have F_law_said := fun_mk (st := s_law_said) l_law_said c_law_said k_law_said
  have b_law_said := F_law_said.binds (ps := ["_law_way", "_law_rule", "_law_odd"]) fun _ _ _ _ _ _ us hl => match us, hl with | [_, _, _], _ => rfl
  have m_law_said := PySem.W.mg_of X G a_law_said
  have F_law_refuses := fun_mk (st := s_law_refuses) l_law_refuses c_law_refuses k_law_refuses
  have b_law_refuses := F_law_refuses.binds (ps := ["_law_way", "_law_rule", "_law_odd"]) fun _ _ _ _ _ _ us hl => match us, hl with | [_, _, _], _ => rfl
  have m_law_refuses := PySem.W.mg_of X G a_law_refuses
  have F_law := fun_mk (st := s_law) l_law c_law k_law
  have c_LESS : mg "LESS" = some (.str "less" t_LESS) ∧ RelV (.str "less") (.str "less" t_LESS) := ⟨PySem.W.mg_of X G u_LESS, ⟨_, rfl⟩⟩
  have c_UNLIKE : mg "UNLIKE" = some (.str "unlike" t_UNLIKE) ∧ RelV (.str "unlike") (.str "unlike" t_UNLIKE) := ⟨PySem.W.mg_of X G u_UNLIKE, ⟨_, rfl⟩⟩
  have X_BadHead : XInfo K mg "BadHead" A_BadHead := ⟨PySem.W.mg_of X G n_BadHead, e_BadHead⟩
  have X_BadGuard : XInfo K mg "BadGuard" A_BadGuard := ⟨PySem.W.mg_of X G n_BadGuard, e_BadGuard⟩
  have X_LooseBlank : XInfo K mg "LooseBlank" A_LooseBlank := ⟨PySem.W.mg_of X G n_LooseBlank, e_LooseBlank⟩
  have X_LoomError : XInfo K mg "LoomError" A_LoomError := ⟨PySem.W.mg_of X G n_LoomError, e_LoomError⟩
  have X_NotTold : XInfo K mg "NotTold" A_NotTold := ⟨PySem.W.mg_of X G n_NotTold, e_NotTold⟩
  have X_NoRule : XInfo K mg "NoRule" A_NoRule := ⟨PySem.W.mg_of X G n_NoRule, e_NoRule⟩
  have B_ValueError : mg "ValueError" = none := PySem.W.mg_none_of X G z_ValueError
  refine ⟨PySem.W.fnOf "law" "law" (defArgs s_law) (defBody s_law) (defScope s_law) .none kV_law dc_law pm_law an_law cd_law ct_law, fun s v => .of_eq rfl, fun base _ _ => ?_⟩
  let c : ClsA := ⟨A_BadHead, A_BadGuard, A_LooseBlank⟩
  have XF : ExmF K c A_LoomError := ⟨exm_of t_h x4_h m_hh, exm_of t_h x4_h m_gh, exm_of t_h x4_h m_bh, exm_of t_g x4_g m_gg, exm_of t_g x4_g m_bg, exm_of t_b x4_b m_bb, exm_of t_l x4_l m_hl, exm_of t_l x4_l m_gl, exm_of t_l x4_l m_bl⟩
  have KF : KitF K c A_NotTold A_NoRule := ⟨fun r => match r with | .head => ⟨x1_h, x2_h, x3_h, x4_h, x5_h⟩ | .guard => ⟨x1_g, x2_g, x3_g, x4_g, x5_g⟩ | .blank => ⟨x1_b, x2_b, x3_b, x4_b, x5_b⟩, fun r r' => match r, r' with | .head, .head => kit_of t_h x4_h m_hh m_hh | .head, .guard => kit_of t_g x4_g m_gg m_hg | .head, .blank => kit_of t_b x4_b m_bb m_hb | .guard, .head => kit_of t_h x4_h m_hh m_gh | .guard, .guard => kit_of t_g x4_g m_gg m_gg | .guard, .blank => kit_of t_b x4_b m_bb m_gb | .blank, .head => kit_of t_h x4_h m_hh m_bh | .blank, .guard => kit_of t_g x4_g m_gg m_bg | .blank, .blank => kit_of t_b x4_b m_bb m_bb, fun r => match r with | .head => kit_of t_n x4_n m_nn m_hn | .guard => kit_of t_n x4_n m_nn m_gn | .blank => kit_of t_n x4_n m_nn m_bn, fun r => match r with | .head => kit_of t_r x4_r m_rr m_hr | .guard => kit_of t_r x4_r m_rr m_gr | .blank => kit_of t_r x4_r m_rr m_br, fun r => match r with | .head => kit_ve m_hv | .guard => kit_ve m_gv | .blank => kit_ve m_bv⟩
  have XH : XInfo K mg "BadHead" c.h := X_BadHead
  have XG : XInfo K mg "BadGuard" c.g := X_BadGuard
  have XB : XInfo K mg "LooseBlank" c.b := X_LooseBlank
  have G1 : Has l.prog w K mg base 1 "is_blank" ["part"] (spR RBlank) := ⟨f_is_blank, _, ok_is_blank F_is_blank B, b_is_blank, k_is_blank, m_is_blank⟩
  have G2 : Has l.prog w K mg base 1 "is_guard" ["atom"] (spR RGuard) := ⟨f_is_guard, _, ok_is_guard F_is_guard B c_LESS c_UNLIKE, b_is_guard, k_is_guard, m_is_guard⟩
  have G3 : Has l.prog w K mg base 2 "blanks_in" ["atom"] (spR RBlanksIn) := ⟨f_blanks_in, _, ok_blanks_in F_blanks_in B G1, b_blanks_in, k_blanks_in, m_blanks_in⟩
  have G4 : Has l.prog w K mg base 2 "askers_in" ["body"] (spR RAskers) := ⟨f_askers_in, _, ok_askers_in F_askers_in B G2, b_askers_in, k_askers_in, m_askers_in⟩
  have G5 : Has l.prog w K mg base 2 "guards_in" ["body"] (spR RGuards) := ⟨f_guards_in, _, ok_guards_in F_guards_in B G2, b_guards_in, k_guards_in, m_guards_in⟩
  have G6 : HasA l.prog w K mg base 3 "refuse_loose" ["atoms", "body"] (spK c RLoose) := ⟨f_refuse_loose, _, ok_refuse_loose F_refuse_loose B XB G4 G3, b_refuse_loose, k_refuse_loose, m_refuse_loose⟩
  have G7 : HasA l.prog w K mg base 4 "check_body" ["body"] (spK c RCheckB) := ⟨f_check_body, _, ok_check_body F_check_body B XG G5 G6, b_check_body, k_check_body, m_check_body⟩
  have G8 : HasA l.prog w K mg base 5 "check_rule" ["rule"] (spK c RCheckR) := ⟨f_check_rule, _, ok_check_rule F_check_rule B XH G2 G7 G6, b_check_rule, k_check_rule, m_check_rule⟩
  have G9 : HasA l.prog w K mg base 6 "reasons_by_round" ["rules"] (spK c RRules) := ⟨f_reasons_by_round, _, ok_reasons_by_round F_reasons_by_round B G8, b_reasons_by_round, k_reasons_by_round, m_reasons_by_round⟩
  have G10 : HasA l.prog w K mg base 7 "reasons" ["rules"] (spK c RRules) := ⟨f_reasons, _, ok_reasons F_reasons B G9, b_reasons, k_reasons, m_reasons⟩
  have G11 : HasA l.prog w K mg base 7 "rounds" ["rules"] (spK c RRules) := ⟨f_rounds, _, ok_rounds F_rounds B G9, b_rounds, k_rounds, m_rounds⟩
  have G12 : HasA l.prog w K mg base 8 "grounds" ["rules", "fact"] (spK c RRulesF) := ⟨f_grounds, _, ok_grounds F_grounds B G10, b_grounds, k_grounds, m_grounds⟩
  have G13 : Has l.prog w K mg base 1 "facts_of" ["found"] spNever := ⟨f_facts_of, _, fn_never, b_facts_of, k_facts_of, m_facts_of⟩
  have G14 : HasA l.prog w K mg base 8 "asked" ["rules", "body"] (spK c RRulesF) := ⟨f_asked, _, ok_asked F_asked B G13 G10, b_asked, k_asked, m_asked⟩
  have W1 : Has l.prog w K mg base 1 "_law_at" ["_law_script", "_law_k"] (spR RAt) := ⟨f_law_at, _, ok_law_at F_law_at B, b_law_at, k_law_at, m_law_at⟩
  have W2 : Has l.prog w K mg base 1 "_law_atom_by" ["_law_cell"] (spR RAtomBy) := ⟨f_law_atom_by, _, ok_law_atom_by F_law_atom_by B, b_law_atom_by, k_law_atom_by, m_law_atom_by⟩
  have W3 : Has l.prog w K mg base 1 "_law_head_by" ["_law_cell"] (spR RHeadBy) := ⟨f_law_head_by, _, ok_law_head_by F_law_head_by B, b_law_head_by, k_law_head_by, m_law_head_by⟩
  have W4 : Has l.prog w K mg base 1 "_law_refusal" ["_law_head", "_law_body"] (spR RRefusal) := ⟨f_law_refusal, _, ok_law_refusal F_law_refusal B, b_law_refusal, k_law_refusal, m_law_refusal⟩
  have W5 : HasA l.prog w K mg base 9 "_law_asked" ["_law_way", "_law_rule", "_law_odd"] (spK c RAskedW) := ⟨f_law_asked, _, ok_law_asked F_law_asked B G8 G10 G11 G12 G14, b_law_asked, k_law_asked, m_law_asked⟩
  have W6 : Has l.prog w K mg base 10 "_law_said" ["_law_way", "_law_rule", "_law_odd"] (spR RSaid) := ⟨f_law_said, _, ok_law_said F_law_said B XF XH XG XB W5, b_law_said, k_law_said, m_law_said⟩
  have W7 : Has l.prog w K mg base 10 "_law_refuses" ["_law_way", "_law_rule", "_law_odd"] (spR RRefuses) := ⟨f_law_refuses, _, ok_law_refuses F_law_refuses B XF KF XH XG XB X_LoomError X_NotTold X_NoRule B_ValueError W5, b_law_refuses, k_law_refuses, m_law_refuses⟩
  exact ok_law F_law B W1 W2 W3 W4 (sound_of G8) W6 W7
theorem walk {l : PySem.W.OpenLaw} {q : Program} {loose : List Str} {XP : (Str → Option Value) → Heap → Prop} {YP : World → Heap → Prop} {d : DefRec} {K : Params → PySem.W.Frag} (hn : l.most = some 63) (hdf : d.params.defaults = [])
    (hY : ∀ (w : World) (h : Heap), YP w h → (K w.params).In h)
    (F : ∀ (w : World) (mg : Str → Option Value) (fa : Addr) (h : Heap), (K w.params).In h → h.Ns mainGlobals mg → mg d.name = some (.ref fa) →
      ∃ fd : FuncData, (∀ (s : Shared) (u : Value), BindsTo s fd ⟨[u], []⟩ [("_law_script", u)]) ∧ ∀ base : Heap, (K w.params).In base → base.Ns mainGlobals mg → FnOk l.prog w (K w.params) mg base CX0 12 fa fd ["_law_script"] (spLaw (K w.params))) :
    PySem.W.WalkO q loose XP YP l.row.toRowW d [] (fun f vs => PySem.call f vs) :=
  L2.walk_of (n := 63) (k := 12) (x := "_law_script") (CX := fun _ => CX0) (sp := fun w => spLaw (K w.params)) hn (by decide) hdf ⟨rfl, by decide, by decide⟩ hY F (fun _ _ a ns hl _ hS => ⟨a, ns, rfl, hS, hl, fun _ => rfl⟩) fun _ _ _ _ _ z => z
end K04
/-! no twins of the heaps: these names are taken, so the library goes on with the plain heaps (and the file stays small) -/
def PySem.W.Fast.tw11682456714327335130 : Unit := ()
def PySem.W.Fast.tw8490737404440665199 : Unit := ()
def PySem.W.Fast.tw8101183382237655282 : Unit := ()
def PySem.W.Fast.tw11260586794762968332 : Unit := ()
def PySem.W.Fast.tw14651766295515466066 : Unit := ()
def PySem.W.Fast.tw15972441339511659561 : Unit := ()
def PySem.W.Fast.tw4579182378929156931 : Unit := ()
def PySem.W.Fast.tw12597412688472742896 : Unit := ()
def PySem.W.Fast.tw9876162715727491024 : Unit := ()
def PySem.W.Fast.tw4909078053948698299 : Unit := ()
def PySem.W.Fast.tw2638438398735880381 : Unit := ()
def PySem.W.Fast.tw7220298686852534723 : Unit := ()
def PySem.W.Fast.tw12153181685816815440 : Unit := ()
def PySem.W.Fast.tw1944259003003614774 : Unit := ()
def PySem.W.Fast.tw11472520110515789183 : Unit := ()
open PySem PySem.W PyProof.Rows
set_option maxRecDepth 100000 in
set_option maxHeartbeats 0 in
theorem PySem.Challenge.cw_factloom_k04_sound_rules_holds : PySem.Challenge.rw_factloom_k04_sound_rules.Holds := by
  w_on; o_law; k_head; (case hw => w_witness2)
  k_fill
  refine K04.walk (l := PySem.Challenge.rw_factloom_k04_sound_rules) rfl rfl (fun w h Y => PySem.W.kIn_of Y) ?F
  case F =>
    intro w mg fa h KX G hmg
    refine' K04.all_mk KX G hmg ?a_is_blank ?l_is_blank ?c_is_blank ?k_is_blank ?a_is_guard ?l_is_guard ?c_is_guard ?k_is_guard ?a_blanks_in ?l_blanks_in ?c_blanks_in ?k_blanks_in ?a_askers_in ?l_askers_in ?c_askers_in ?k_askers_in ?a_guards_in ?l_guards_in ?c_guards_in ?k_guards_in ?a_refuse_loose ?l_refuse_loose ?c_refuse_loose ?k_refuse_loose ?a_check_body ?l_check_body ?c_check_body ?k_check_body ?a_check_rule ?l_check_rule ?c_check_rule ?k_check_rule ?a_reasons_by_round ?l_reasons_by_round ?c_reasons_by_round ?k_reasons_by_round ?a_reasons ?l_reasons ?c_reasons ?k_reasons ?a_rounds ?l_rounds ?c_rounds ?k_rounds ?a_grounds ?l_grounds ?c_grounds ?k_grounds ?a_facts_of ?l_facts_of ?c_facts_of ?k_facts_of ?a_asked ?l_asked ?c_asked ?k_asked ?a_law_at ?l_law_at ?c_law_at ?k_law_at ?a_law_atom_by ?l_law_atom_by ?c_law_atom_by ?k_law_atom_by ?a_law_head_by ?l_law_head_by ?c_law_head_by ?k_law_head_by ?a_law_refusal ?l_law_refusal ?c_law_refusal ?k_law_refusal ?a_law_asked ?l_law_asked ?c_law_asked ?k_law_asked ?a_law_said ?l_law_said ?c_law_said ?k_law_said ?a_law_refuses ?l_law_refuses ?c_law_refuses ?k_law_refuses ?a_law ?l_law ?c_law ?k_law ?u_LESS ?u_UNLIKE ?n_BadHead ?e_BadHead ?n_BadGuard ?e_BadGuard ?n_LooseBlank ?e_LooseBlank ?n_LoomError ?e_LoomError ?n_NotTold ?e_NotTold ?n_NoRule ?e_NoRule ?t_h ?x4_h ?t_g ?x4_g ?t_b ?x4_b ?t_l ?x4_l ?t_n ?x4_n ?t_r ?x4_r ?x1_h ?x2_h ?x3_h ?x5_h ?m_hh ?m_hg ?m_hb ?m_hn ?m_hr ?m_hl ?m_hv ?x1_g ?x2_g ?x3_g ?x5_g ?m_gh ?m_gg ?m_gb ?m_gn ?m_gr ?m_gl ?m_gv ?x1_b ?x2_b ?x3_b ?x5_b ?m_bh ?m_bg ?m_bb ?m_bn ?m_br ?m_bl ?m_bv ?m_nn ?m_rr ?z_ValueError ?z_len ?z_isinstance ?z_range ?z_int ?z_str ?z_bool ?z_list ?z_tuple ?z_dict ?z_zip ?z_enumerate ?z_all ?z_reversed
    (case a_is_blank => k_is)
    (case l_is_blank => k_is)
    (case c_is_blank => k_is)
    (case k_is_blank => k_is)
    (case a_is_guard => k_is)
    (case l_is_guard => k_is)
    (case c_is_guard => k_is)
    (case k_is_guard => k_is)
    (case a_blanks_in => k_is)
    (case l_blanks_in => k_is)
    (case c_blanks_in => k_is)
    (case k_blanks_in => k_is)
    (case a_askers_in => k_is)
    (case l_askers_in => k_is)
    (case c_askers_in => k_is)
    (case k_askers_in => k_is)
    (case a_guards_in => k_is)
    (case l_guards_in => k_is)
    (case c_guards_in => k_is)
    (case k_guards_in => k_is)
    (case a_refuse_loose => k_is)
    (case l_refuse_loose => k_is)
    (case c_refuse_loose => k_is)
    (case k_refuse_loose => k_is)
    (case a_check_body => k_is)
    (case l_check_body => k_is)
    (case c_check_body => k_is)
    (case k_check_body => k_is)
    (case a_check_rule => k_is)
    (case l_check_rule => k_is)
    (case c_check_rule => k_is)
    (case k_check_rule => k_is)
    (case a_reasons_by_round => k_is)
    (case l_reasons_by_round => k_is)
    (case c_reasons_by_round => k_is)
    (case k_reasons_by_round => k_is)
    (case a_reasons => k_is)
    (case l_reasons => k_is)
    (case c_reasons => k_is)
    (case k_reasons => k_is)
    (case a_rounds => k_is)
    (case l_rounds => k_is)
    (case c_rounds => k_is)
    (case k_rounds => k_is)
    (case a_grounds => k_is)
    (case l_grounds => k_is)
    (case c_grounds => k_is)
    (case k_grounds => k_is)
    (case a_facts_of => k_is)
    (case l_facts_of => k_is)
    (case c_facts_of => k_is)
    (case k_facts_of => k_is)
    (case a_asked => k_is)
    (case l_asked => k_is)
    (case c_asked => k_is)
    (case k_asked => k_is)
    (case a_law_at => k_is)
    (case l_law_at => k_is)
    (case c_law_at => k_is)
    (case k_law_at => k_is)
    (case a_law_atom_by => k_is)
    (case l_law_atom_by => k_is)
    (case c_law_atom_by => k_is)
    (case k_law_atom_by => k_is)
    (case a_law_head_by => k_is)
    (case l_law_head_by => k_is)
    (case c_law_head_by => k_is)
    (case k_law_head_by => k_is)
    (case a_law_refusal => k_is)
    (case l_law_refusal => k_is)
    (case c_law_refusal => k_is)
    (case k_law_refusal => k_is)
    (case a_law_asked => k_is)
    (case l_law_asked => k_is)
    (case c_law_asked => k_is)
    (case k_law_asked => k_is)
    (case a_law_said => k_is)
    (case l_law_said => k_is)
    (case c_law_said => k_is)
    (case k_law_said => k_is)
    (case a_law_refuses => k_is)
    (case l_law_refuses => k_is)
    (case c_law_refuses => k_is)
    (case k_law_refuses => k_is)
    (case a_law => k_is)
    (case l_law => k_is)
    (case c_law => k_is)
    (case k_law => k_is)
    (case u_LESS => k_is)
    (case u_UNLIKE => k_is)
    (case n_BadHead => k_is)
    (case e_BadHead => k_exc)
    (case n_BadGuard => k_is)
    (case e_BadGuard => k_exc)
    (case n_LooseBlank => k_is)
    (case e_LooseBlank => k_exc)
    (case n_LoomError => k_is)
    (case e_LoomError => k_exc)
    (case n_NotTold => k_is)
    (case e_NotTold => k_exc)
    (case n_NoRule => k_is)
    (case e_NoRule => k_exc)
    (case t_h => k_is)
    (case x4_h => k_is)
    (case t_g => k_is)
    (case x4_g => k_is)
    (case t_b => k_is)
    (case x4_b => k_is)
    (case t_l => k_is)
    (case x4_l => k_is)
    (case t_n => k_is)
    (case x4_n => k_is)
    (case t_r => k_is)
    (case x4_r => k_is)
    (case x1_h => k_is)
    (case x2_h => k_is)
    (case x3_h => k_is)
    (case x5_h => k_is)
    (case m_hh => k_is)
    (case m_hg => k_is)
    (case m_hb => k_is)
    (case m_hn => k_is)
    (case m_hr => k_is)
    (case m_hl => k_is)
    (case m_hv => k_is)
    (case x1_g => k_is)
    (case x2_g => k_is)
    (case x3_g => k_is)
    (case x5_g => k_is)
    (case m_gh => k_is)
    (case m_gg => k_is)
    (case m_gb => k_is)
    (case m_gn => k_is)
    (case m_gr => k_is)
    (case m_gl => k_is)
    (case m_gv => k_is)
    (case x1_b => k_is)
    (case x2_b => k_is)
    (case x3_b => k_is)
    (case x5_b => k_is)
    (case m_bh => k_is)
    (case m_bg => k_is)
    (case m_bb => k_is)
    (case m_bn => k_is)
    (case m_br => k_is)
    (case m_bl => k_is)
    (case m_bv => k_is)
    (case m_nn => k_is)
    (case m_rr => k_is)
    (case z_ValueError => k_is)
    (case z_len => k_is)
    (case z_isinstance => k_is)
    (case z_range => k_is)
    (case z_int => k_is)
    (case z_str => k_is)
    (case z_bool => k_is)
    (case z_list => k_is)
    (case z_tuple => k_is)
    (case z_dict => k_is)
    (case z_zip => k_is)
    (case z_enumerate => k_is)
    (case z_all => k_is)
    (case z_reversed => k_is)
