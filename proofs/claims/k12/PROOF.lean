import PyProof.Rows.All
import Wide.All
import OpenK.AllK
import Wide.FinOn
import Lean
import PyProof.EqAt
import PyProof.EqKinds
import PyProof.TupleCall
import PyProof.CompFree
import OpenK.KRaise
import OpenK.KOwn
import KE.KTryMore
import PyProof.StationsW
import PyProof.AttrMissHeap
import PyProof.ListNew
import PyProof.DictUpdate
import PyProof.DictList
import PyProof.FactsAll.dict_1
import PyProof.Rows.DictSet
import PyProof.Seq
import PyProof.TupleIter
import KE.KDictOf
import PyProof.NeKinds
import KE.KIsAll
import PyProof.ExcArgsOwn
import PyProof.ZipIter
import PyProof.EnumIter
import PyProof.EnumFor
import PyProof.EnumMake
import KE.KRevIter
import KE.KDictLaws
import PyProof.DictRoadsH
import KE.KDictList
import PyProof.ConsumeWalk
import PyProof.DictTruth
import PyProof.StrLawsTight
import PyProof.Rows.StrNews2
import KE.KIntText
import PyProof.Rows.FStrParts
import PyProof.StrWalks
import PyProof.FString5
import PyProof.StrLawsRepr
import PySem.Challenge.RW_factloom_k12_whole_read_and_shown

set_option Elab.async false
set_option linter.all false
set_option maxRecDepth 100000
namespace L2
open PySem PySem.Spec PyProof.Rows

abbrev Key := Sum Int Str
def keyIs : Key → Value → Bool
  | .inl k, v => Value.isInt k v
  | .inr x, v => Value.isStrOf x v
def keyH (w : World) : Key → Int
  | .inl k => hashInt k
  | .inr x => hashStr w x
theorem keyIs_shape : ∀ {k : Key} {v : Value}, keyIs k v = true → (∃ i t, k = Sum.inl i ∧ v = Value.int i t) ∨ (∃ x t, k = Sum.inr x ∧ v = Value.str x t)
  | .inl i, v, h => by
    obtain ⟨t, e⟩ := Value.isInt_shape (k := i) (v := v) h
    exact .inl ⟨i, t, rfl, e⟩
  | .inr x, v, h => by
    obtain ⟨t, e⟩ := Value.isStrOf_shape (x := x) (v := v) h
    exact .inr ⟨x, t, rfl, e⟩
theorem key_ll (a b : Int) : decide ((Sum.inl a : Key) = Sum.inl b) = (a == b) := by
  by_cases e : a = b
  · subst e; simp
  · have h : ¬ (Sum.inl a : Key) = Sum.inl b := fun q => e (Sum.inl.inj q)
    rw [decide_eq_false h]
    exact (beq_eq_false_iff_ne.mpr e).symm
theorem key_rr (a b : Str) : decide ((Sum.inr a : Key) = Sum.inr b) = decide (a = b) := by
  by_cases e : a = b
  · subst e; simp
  · have h : ¬ (Sum.inr a : Key) = Sum.inr b := fun q => e (Sum.inr.inj q)
    rw [decide_eq_false h, decide_eq_false e]
theorem key_lr (a : Int) (b : Str) : decide ((Sum.inl a : Key) = Sum.inr b) = false := decide_eq_false (fun q => nomatch q)
theorem key_rl (a : Str) (b : Int) : decide ((Sum.inr a : Key) = Sum.inl b) = false := decide_eq_false (fun q => nomatch q)

def mixKind (prog : Program) (w : World) : PySem.KeyKind prog w Key where
  is := keyIs
  hash := keyH w
  inj := fun v a b ha hb => by
    rcases keyIs_shape ha with ⟨i, t, rfl, rfl⟩ | ⟨x, t, rfl, rfl⟩
    · rcases keyIs_shape hb with ⟨j, u, rfl, e⟩ | ⟨y, u, rfl, e⟩
      · injection e with e1 _; rw [e1]
      · exact nomatch e
    · rcases keyIs_shape hb with ⟨j, u, rfl, e⟩ | ⟨y, u, rfl, e⟩
      · exact nomatch e
      · injection e with e1 _; rw [e1]
  byValue := fun k v h => by
    rcases keyIs_shape h with ⟨i, t, rfl, rfl⟩ | ⟨x, t, rfl, rfl⟩ <;> rfl
  pyHash := fun hv h => by
    rcases keyIs_shape hv with ⟨i, t, rfl, rfl⟩ | ⟨x, t, rfl, rfl⟩
    · exact wpAny_pyHash_int h
    · exact wpAny_pyHash_str h
  eqBool := fun hu hv h => by
    rcases keyIs_shape hu with ⟨i, t, rfl, rfl⟩ | ⟨x, t, rfl, rfl⟩
    · rcases keyIs_shape hv with ⟨j, u, rfl, rfl⟩ | ⟨y, u, rfl, rfl⟩
      · rw [key_ll] at h; exact wpAny_eqBool_int h
      · rw [key_lr] at h; exact SeqAt.EqAt.int_str i t y u _ _ _ _ h
    · rcases keyIs_shape hv with ⟨j, u, rfl, rfl⟩ | ⟨y, u, rfl, rfl⟩
      · rw [key_rl] at h; exact SeqAt.EqAt.str_int x t j u _ _ _ _ h
      · rw [key_rr] at h; exact wpAny_eqBool_str h
  «strs» := fun k x t v h => by
    rcases keyIs_shape h with ⟨i, u, rfl, e⟩ | ⟨y, u, rfl, e⟩
    · exact nomatch e
    · injection e with e1 _
      subst e1
      cases v <;> rfl

end L2

namespace L2
open PySem PySem.Spec PyProof.Rows

inductive V where
  | non | bl (b : Bool) | int (i : Int) | str (x : Str) | byt (b : Array UInt8) | flt (b : UInt64) | ref (a : Addr) | ty (n : String)
  deriving DecidableEq

def RelV : V → Value → Prop
  | .non, u => u = Value.none
  | .bl b, u => u = Value.bool b
  | .int i, u => ∃ t, u = Value.int i t
  | .str x, u => ∃ t, u = Value.str x t
  | .byt b, u => ∃ t, u = Value.bytes b t
  | .flt b, u => ∃ t, u = Value.float b t
  | .ref a, u => u = Value.ref a
  | .ty n, u => u = Value.type n

abbrev Vals : List V → List Value → Prop := Paired RelV
theorem Vals.length {xs : List V} {us : List Value} (r : Vals xs us) : xs.length = us.length := Paired.length r
theorem Vals.get : ∀ {xs : List V} {us : List Value} {i : Nat} {x : V}, Vals xs us → xs[i]? = some x → ∃ u, us[i]? = some u ∧ RelV x u
  | _, _, _, _, .nil, e => by simp at e
  | _, _, 0, _, .cons r _, e => by simp at e; subst e; exact ⟨_, rfl, r⟩
  | _, _, i + 1, x, .cons _ t, e => by
    obtain ⟨u, h1, h2⟩ := Vals.get (i := i) (x := x) t (by simpa using e)
    exact ⟨u, by simpa using h1, h2⟩
theorem Vals.set {x : V} {u : Value} (r : RelV x u) : ∀ {xs : List V} {us : List Value} (i : Nat), Vals xs us → Vals (xs.set i x) (us.set i u)
  | _, _, _, .nil => .nil
  | _, _, 0, .cons _ t => .cons r t
  | _, _, i + 1, .cons q t => .cons q (Vals.set r i t)
theorem Vals.append : ∀ {xs ys : List V} {us ws : List Value}, Vals xs us → Vals ys ws → Vals (xs ++ ys) (us ++ ws)
  | _, _, _, _, .nil, s => s
  | _, _, _, _, .cons r t, s => .cons r (Vals.append t s)
theorem Vals.take : ∀ {xs : List V} {us : List Value} (n : Nat), Vals xs us → Vals (xs.take n) (us.take n)
  | _, _, 0, _ => .nil
  | _, _, _ + 1, .nil => .nil
  | _, _, n + 1, .cons r t => .cons r (Vals.take n t)
theorem Vals.drop : ∀ {xs : List V} {us : List Value} (n : Nat), Vals xs us → Vals (xs.drop n) (us.drop n)
  | _, _, 0, r => r
  | _, _, _ + 1, .nil => .nil
  | _, _, n + 1, .cons _ t => Vals.drop n t
def RelO : Option V → Option Value → Prop
  | some v, some u => RelV v u
  | none, none => True
  | _, _ => False
def KV {κ : Type} : List (κ × V) → List (κ × Value) → Prop := Paired fun (p : κ × V) (q : κ × Value) => p.1 = q.1 ∧ RelV p.2 q.2

def kV : Key → V
  | .inl i => .int i
  | .inr x => .str x

inductive HO where
  /-- a list -/
  | lst (xs : List V)
  /-- a tuple (never changes) -/
  | tup (xs : List V)
  /-- a dict whose keys are ints and texts; one whose keys are tuples of ints and texts (the empty one is both) -/
  | dK (kvs : List (Key × V)) | dT (kvs : List (List Key × V))
  /-- a set of ints: its members, its size -/
  | set (S : Int → Bool) (n : Nat)
  /-- an instance of the class at C, its dict at dx, its attributes -/
  | ins (C dx : Addr) (fs : List (Str × V))
  /-- the dict of the instance at x -/
  | own (x : Addr)
  /-- the dict of an exception -/
  | xd (fs : List (Str × V))
  /-- a bound method, f of x -/
  | met (f x : Addr)
  /-- a range object lo, lo + 1, .. below hi -/
  | rng (lo hi : Int)
  /-- a thing that is known to the object (the script; a dict while a loop walks it): read, never written while it is so -/
  | frz (o : Obj) (u : HO)
  /-- a code object's table -/
  | tbl (ps : Array Value)
  /-- any other thing, by what is true of its one object (a def of one's own: SetO a S n := HO.ext fun h => ..) -/
  | ext (φ : Heap → Prop)

abbrev Hp := Addr → Option HO
def upd (H : Hp) (a : Addr) (o : HO) : Hp := fun b => if b = a then some o else H b
theorem upd_same {H : Hp} {a : Addr} {o : HO} : upd H a o a = some o := by unfold upd; rw [if_pos rfl]
theorem upd_ne {H : Hp} {a b : Addr} {o : HO} (h : b ≠ a) : upd H a o b = H b := by unfold upd; rw [if_neg h]
theorem ne_of_none {H : Hp} {a b : Addr} {o : HO} (h : H a = some o) (h' : H b = none) : a ≠ b := by
  intro e; subst e; rw [h] at h'; cases h'

section
variable (P : Program) (w : World)
def ObjOk (H : Hp) (h : Heap) (a : Addr) : HO → Prop
  | .lst xs => xs.length ≤ sizeLine ∧ ∃ (its : List Value) (n : Nat), Vals xs its ∧ h.get? a = some { cls := .type "list", data := .seq its.toArray n }
  | .tup xs => xs.length ≤ sizeLine ∧ ∃ its : List Value, Vals xs its ∧ IsTup h a its.toArray
  | .dK kvs => kvs.length ≤ sizeLine ∧ (a == sysModules) = false ∧ ∃ vs, KV kvs vs ∧ h.DictOf (mixKind P w) a vs
  | .dT kvs => kvs.length ≤ sizeLine ∧ (a == sysModules) = false ∧ ∃ xs : List (List Key × Addr × Value),
      Paired (fun (p : List Key × V) (q : List Key × Addr × Value) => p.1 = q.1 ∧ H q.2.1 = some (.tup (p.1.map kV)) ∧ RelV p.2 q.2.2) kvs xs ∧
      ∃ o es ep, h.get? a = some o ∧ o.ExactDict ∧ o.data = .dict es ep ∧ es.toList = xs.map (entryOfKey (tupleKind (mixKind P w))) ∧ (xs.map (·.1)).Nodup
  | .set S n => h.SetOf (intKind P w) a S n
  | .ins C dx fs => H dx = some (.own a) ∧ fs.length ≤ 1000 ∧ dx ≠ a ∧ h.get? a = some (PySem.W.instObj C dx) ∧
      ∃ mA, h.Ns1 dx mA ∧ (∀ f, RelO (fs.lookup f) (mA f)) ∧ PySem.Within mA (fs.map (·.1))
  | .own _ => ∃ o, h.get? a = some o
  | .xd fs => ∃ mA, h.Ns1 a mA ∧ ∀ f, RelO (fs.lookup f) (mA f)
  | .rng lo hi => ∃ t u v, h.get? a = some { cls := .type "range", data := .fields #[.int lo t, .int hi u, .int 1 v] }
  | .frz o u => h.get? a = some o ∧ ObjOk H h a u
  | .tbl ps => h.get? a = some { cls := .none, data := .fields ps }
  | .met f x => h.get? a = some (PySem.W.methodObj (.ref f) (.ref x))
  | .ext φ => φ h ∧ (∃ o, h.get? a = some o) ∧ ∀ h1 h2 : Heap, φ h1 → (∀ o, h1.get? a = some o → h2.get? a = some o) → φ h2
def HOk (H : Hp) (h : Heap) : Prop := ∀ a o, H a = some o → ObjOk P w H h a o
end

section
variable {P : Program} {w : World} {H H' : Hp} {h h' : Heap} {a : Addr} {o : HO}
theorem ObjOk.lt (x : ObjOk P w H h a o) : a < h.objs.size := by
  cases o with
  | lst xs => obtain ⟨_, _, _, _, e⟩ := x; exact Heap.lt_size e
  | tup xs => obtain ⟨_, _, _, p⟩ := x; exact p.lt
  | dK kvs => obtain ⟨_, _, _, _, o, _, _, e, _⟩ := x; exact Heap.lt_size e
  | dT kvs => obtain ⟨_, _, _, _, o, _, _, e, _⟩ := x; exact Heap.lt_size e
  | set S n => obtain ⟨o, _, _, _, e, _⟩ := x; exact Heap.lt_size e
  | ins C dx fs => obtain ⟨_, _, _, e, _⟩ := x; exact Heap.lt_size e
  | own y => obtain ⟨_, e⟩ := x; exact Heap.lt_size e
  | xd fs => obtain ⟨_, ⟨_, _, _, e, _⟩, _⟩ := x; exact Heap.lt_size e
  | rng lo hi => obtain ⟨_, _, _, e⟩ := x; exact Heap.lt_size e
  | frz ob u => obtain ⟨e, _⟩ := x; exact Heap.lt_size e
  | tbl ps => exact Heap.lt_size (show h.get? a = some _ from x)
  | met f y => exact Heap.lt_size (show h.get? a = some _ from x)
  | ext φ => obtain ⟨_, ⟨_, e⟩, _⟩ := x; exact Heap.lt_size e
theorem Paired.mapP {α β : Type} {F G : α → β → Prop} : ∀ {l₁ : List α} {l₂ : List β}, Paired F l₁ l₂ → (∀ a b, F a b → G a b) → Paired G l₁ l₂
  | _, _, .nil, _ => .nil
  | _, _, .cons r t, f => .cons (f _ _ r) (Paired.mapP t f)
theorem ObjOk.stay (x : ObjOk P w H h a o) (k : ∀ b u, (b = a ∨ H b = some (.own a)) → h.get? b = some u → h'.get? b = some u)
    (ho : ∀ b, H b = some (.own a) → H' b = some (.own a)) (ht : ∀ b xs, H b = some (.tup xs) → H' b = some (.tup xs)) : ObjOk P w H' h' a o := by
  induction o with
  | lst xs => obtain ⟨z, its, n, r, e⟩ := x; exact ⟨z, its, n, r, k _ _ (.inl rfl) e⟩
  | tup xs => obtain ⟨z, its, r, ob, e, c⟩ := x; exact ⟨z, its, r, ob, k _ _ (.inl rfl) e, c⟩
  | dK kvs => obtain ⟨z, y, vs, r, ob, es, ep, e, c⟩ := x; exact ⟨z, y, vs, r, ob, es, ep, k _ _ (.inl rfl) e, c⟩
  | dT kvs =>
    obtain ⟨z, y, xs, r, ob, es, ep, e, c⟩ := x
    exact ⟨z, y, xs, Paired.mapP r fun p q z => ⟨z.1, ht _ _ z.2.1, z.2.2⟩, ob, es, ep, k _ _ (.inl rfl) e, c⟩
  | set S n => obtain ⟨ob, es, ep, t, e, c⟩ := x; exact ⟨ob, es, ep, t, k _ _ (.inl rfl) e, c⟩
  | ins C dx fs =>
    obtain ⟨d, z, ne, e, mA, ⟨od, es, ep, e2, c⟩, r⟩ := x
    exact ⟨ho _ d, z, ne, k _ _ (.inl rfl) e, mA, ⟨od, es, ep, k _ _ (.inr d) e2, c⟩, r⟩
  | own y => obtain ⟨ob, e⟩ := x; exact ⟨ob, k _ _ (.inl rfl) e⟩
  | xd fs => obtain ⟨mA, ⟨od, es, ep, e, c⟩, r⟩ := x; exact ⟨mA, ⟨od, es, ep, k _ _ (.inl rfl) e, c⟩, r⟩
  | rng lo hi => obtain ⟨t, u, v, e⟩ := x; exact ⟨t, u, v, k _ _ (.inl rfl) e⟩
  | frz ob u ih => obtain ⟨e, q⟩ := x; exact ⟨k _ _ (.inl rfl) e, ih q⟩
  | tbl ps =>
    have e : h.get? a = some { cls := .none, data := .fields ps } := x
    show h'.get? a = some { cls := .none, data := .fields ps }
    exact k a _ (.inl rfl) e
  | met f y =>
    have e : h.get? a = some (PySem.W.methodObj (.ref f) (.ref y)) := x
    show h'.get? a = some (PySem.W.methodObj (.ref f) (.ref y))
    exact k a _ (.inl rfl) e
  | ext φ => obtain ⟨p, ⟨o, e⟩, st⟩ := x; exact ⟨st _ _ p fun o q => k _ _ (.inl rfl) q, ⟨o, k _ _ (.inl rfl) e⟩, st⟩
theorem HOk.lt (x : HOk P w H h) (e : H a = some o) : a < h.objs.size := (x a o e).lt
theorem HOk.fresh (x : HOk P w H h) (e : h.objs.size ≤ a) : H a = none := by
  cases q : H a with
  | none => rfl
  | some u => exact absurd (Nat.lt_of_lt_of_le (x.lt q) e) (Nat.lt_irrefl _)
theorem HOk.kept (x : HOk P w H h) (k : ∀ b u, h.get? b = some u → h'.get? b = some u) : HOk P w H h' := fun a o e =>
  (x a o e).stay (fun b u _ q => k b u q) (fun _ q => q) fun _ _ q => q
theorem HOk.laid (x : HOk P w H h) (k : ∀ b u, h.get? b = some u → h'.get? b = some u) (hp : h.objs.size ≤ a) (new : ObjOk P w (upd H a o) h' a o) : HOk P w (upd H a o) h' := fun b u e => by
  have hn := x.fresh hp
  by_cases hb : b = a
  · subst hb; rw [upd_same] at e; cases e; exact new
  · rw [upd_ne hb] at e
    exact (x b u e).stay (fun c v _ q => k c v q) (fun c q => by rw [upd_ne (ne_of_none q hn)]; exact q) fun c xs q => by rw [upd_ne (ne_of_none q hn)]; exact q
end

def Rd (H : Hp) (a : Addr) (u : HO) : Prop := H a = some u ∨ ∃ o, H a = some (.frz o u)
theorem Rd.of {H : Hp} {a : Addr} {u : HO} (h : H a = some u) : Rd H a u := .inl h
theorem Rd.ok {P : Program} {w : World} {H : Hp} {h : Heap} {a : Addr} {u : HO} (r : Rd H a u) (x : HOk P w H h) : ObjOk P w H h a u := by
  rcases r with r | ⟨o, r⟩
  · exact x a u r
  · obtain ⟨_, q⟩ := x a _ r
    exact q
def Mut : Option HO → Prop
  | some (.lst _) => True
  | some (.dK _) => True
  | some (.dT _) => True
  | some (.set _ _) => True
  | some (.ins _ _ _) => True
  | some (.ext _) => True
  | _ => False
section
variable {P : Program} {w : World} {H : Hp} {h h' : Heap} {x e : Addr} {o' : HO}
theorem HOk.write (ok : HOk P w H h) (mu : Mut (H x)) (he : e = x ∨ H e = some (.own x)) (k : ∀ b u, b ≠ e → h.get? b = some u → h'.get? b = some u) (heo : ∃ u, h'.get? e = some u)
    (new : ObjOk P w (upd H x o') h' x o') : HOk P w (upd H x o') h' := fun b u q => by
  have nown : ∀ c y, H c = some (.own y) → c ≠ x := fun c y r z => by subst z; rw [r] at mu; exact mu
  have ntup : ∀ c xs, H c = some (.tup xs) → c ≠ x := fun c xs r z => by subst z; rw [r] at mu; exact mu
  by_cases hb : b = x
  · subst hb; rw [upd_same] at q; cases q; exact new
  · rw [upd_ne hb] at q
    by_cases hbe : b = e
    · have q' : H b = some (.own x) := by
        rcases he with z | z
        · exact absurd (hbe.trans z) hb
        · rw [hbe]; exact z
      rw [q] at q'; cases q'
      obtain ⟨v, hv⟩ := heo
      exact ⟨v, by rw [hbe]; exact hv⟩
    · refine (ok b u q).stay (fun c v hc r => k c v ?_ r) (fun c r => by rw [upd_ne (nown c b r)]; exact r) fun c xs r => by rw [upd_ne (ntup c xs r)]; exact r
      rcases hc with rfl | hc
      · exact hbe
      · rintro rfl
        rcases he with z | z
        · exact nown c b hc z
        · rw [hc] at z; cases z; exact hb rfl
end

structure Un (fs ex : List Addr) (H H' : Hp) (h h' : Heap) : Prop where
  keep : ∀ b o, h.get? b = some o → H b = none → b ∉ fs → b ∉ ex → h'.get? b = some o
  slot : ∀ b o, h.get? b = some o → H b = none → b ∈ fs → b ∉ ex → ∃ sl, h'.get? b = some { o with slots := sl }
  free : ∀ b o, h.get? b = some o → H b = none → b ∉ ex → H' b = none
  there : ∀ b o, h.get? b = some o → b ∉ ex → ∃ o', h'.get? b = some o'
  tups : ∀ b xs, H b = some (.tup xs) → H' b = some (.tup xs)
  frzs : ∀ b o u, H b = some (.frz o u) → H' b = some (.frz o u)
  tbls : ∀ b ps, H b = some (.tbl ps) → ∃ more, H' b = some (.tbl (ps ++ more))
section
variable {fs fs' ex ex' : List Addr} {H H1 H2 : Hp} {h h1 h2 h' : Heap} {a x e : Addr} {o : HO}
theorem Un.any (u : Un fs ex H H1 h h1) {b : Addr} {ob : Obj} (q : h.get? b = some ob) (n : H b = none) (hx : b ∉ ex) : ∃ sl, h1.get? b = some { ob with slots := sl } := by
  by_cases hb : b ∈ fs
  · exact u.slot b ob q n hb hx
  · exact ⟨ob.slots, u.keep b ob q n hb hx⟩
theorem Un.trans (a : Un fs ex H H1 h h1) (b : Un fs ex H1 H2 h1 h2) : Un fs ex H H2 h h2 where
  keep := fun c ob q n hc hx => b.keep c ob (a.keep c ob q n hc hx) (a.free c ob q n hx) hc hx
  slot := fun c ob q n hc hx => by
    obtain ⟨sl, e1⟩ := a.slot c ob q n hc hx
    obtain ⟨sl', e2⟩ := b.slot c _ e1 (a.free c ob q n hx) hc hx
    exact ⟨sl', e2⟩
  free := fun c ob q n hx => by
    obtain ⟨o', e1⟩ := a.there c ob q hx
    exact b.free c o' e1 (a.free c ob q n hx) hx
  there := fun c ob q hx => by
    obtain ⟨o', e1⟩ := a.there c ob q hx
    exact b.there c o' e1 hx
  tups := fun c xs q => b.tups c xs (a.tups c xs q)
  frzs := fun c ob xs q => b.frzs c ob xs (a.frzs c ob xs q)
  tbls := fun c ps q => by
    obtain ⟨m1, e1⟩ := a.tbls c ps q
    obtain ⟨m2, e2⟩ := b.tbls c _ e1
    exact ⟨m1 ++ m2, by rw [e2, Array.append_assoc]⟩
theorem Un.kept (k : ∀ b u, h.get? b = some u → h'.get? b = some u) : Un fs ex H H h h' :=
  ⟨fun b ob q _ _ _ => k b ob q, fun b ob q _ _ _ => ⟨ob.slots, k b ob q⟩, fun _ _ _ n _ => n, fun b ob q _ => ⟨ob, k b ob q⟩, fun _ _ q => q, fun _ _ _ q => q, fun _ ps q => ⟨#[], by rw [q]; simp⟩⟩
theorem Un.refl : Un fs ex H H h h := Un.kept fun _ _ q => q
theorem Un.laid (k : ∀ b u, h.get? b = some u → h'.get? b = some u) (hp : h.objs.size ≤ a) (hn : H a = none) : Un fs ex H (upd H a o) h h' where
  keep := fun b u q _ _ _ => k b u q
  slot := fun b u q _ _ _ => ⟨u.slots, k b u q⟩
  free := fun b u q n _ => by rw [upd_ne (Nat.ne_of_lt (Nat.lt_of_lt_of_le (Heap.lt_size q) hp))]; exact n
  there := fun b u q _ => ⟨u, k b u q⟩
  tups := fun b xs q => by rw [upd_ne (ne_of_none q hn)]; exact q
  frzs := fun b u xs q => by rw [upd_ne (ne_of_none q hn)]; exact q
  tbls := fun b ps q => ⟨#[], by rw [upd_ne (ne_of_none q hn), q]; simp⟩
theorem Un.write (mu : Mut (H x)) (he : e = x ∨ H e = some (.own x)) (k : ∀ b u, b ≠ e → h.get? b = some u → h'.get? b = some u) (heo : ∃ u, h'.get? e = some u) : Un fs ex H (upd H x o) h h' := by
  have hx : ∀ b, H b = none → b ≠ x := fun b n z => by subst z; rw [n] at mu; exact mu
  have hb : ∀ b, H b = none → b ≠ e := fun b n z => by
    subst z
    rcases he with r | r
    · exact hx b n r
    · rw [n] at r; cases r
  have hm : ∀ b u, H b = some u → ¬ Mut (some u) → b ≠ x := fun b u q nm z => by subst z; rw [q] at mu; exact nm mu
  refine ⟨fun b u q n _ _ => k b u (hb b n) q, fun b u q n _ _ => ⟨u.slots, k b u (hb b n) q⟩, fun b u q n _ => by rw [upd_ne (hx b n)]; exact n, fun b u q _ => ?_,
    fun b xs q => by rw [upd_ne (hm b _ q fun z => z)]; exact q, fun b u xs q => by rw [upd_ne (hm b _ q fun z => z)]; exact q, fun b ps q => ⟨#[], by rw [upd_ne (hm b _ q fun z => z), q]; simp⟩⟩
  by_cases hbe : b = e
  · subst hbe; exact heo
  · exact ⟨u, k b u hbe q⟩
theorem Un.mono (u : Un fs ex H H1 h h1) (hs : ∀ b ∈ fs, b ∈ fs') (hx : ∀ b ∈ ex, b ∈ ex') : Un fs' ex' H H1 h h1 :=
  ⟨fun b ob q n hb he => u.keep b ob q n (fun z => hb (hs b z)) fun z => he (hx b z), fun _ _ q n _ he => u.any q n fun z => he (hx _ z), fun b ob q n he => u.free b ob q n fun z => he (hx b z), fun b ob q he => u.there b ob q fun z => he (hx b z), u.tups, u.frzs, u.tbls⟩
end

def trk (h : Heap) (H : Hp) : List Addr := (List.range h.objs.size).filter fun a => (H a).isSome
def hidT (h : Heap) (H : Hp) : Heap := PySem.W.hideAll h (trk h H)
theorem hidT_size (h : Heap) (H : Hp) : (hidT h H).objs.size = h.objs.size := PySem.W.hideAll_size _ _
theorem hidT_get {h : Heap} {H : Hp} {b : Addr} {o : Obj} (e : h.get? b = some o) (n : H b = none) : (hidT h H).get? b = some o :=
  PySem.W.hideAll_get _ e fun hm => by
    have q : (H b).isSome = true := (List.mem_filter.mp hm).2
    rw [n] at q; simp at q
theorem of_hidT {h : Heap} {H : Hp} {b : Addr} {o : Obj} (e : (hidT h H).get? b = some o) : h.get? b = some o ∧ H b = none := by
  have e' : h.get? b = some o := PySem.W.of_hideAll (trk h H) e
  refine ⟨e', ?_⟩
  cases q : H b with
  | none => rfl
  | some x =>
    have hm : b ∈ trk h H := List.mem_filter.mpr ⟨List.mem_range.mpr (Heap.lt_size e'), by simp [q]⟩
    have z : (hidT h H).get? b = none := PySem.W.hideAll_none (trk h H) hm
    rw [z] at e; cases e

def allNews (g h : Heap) (L : Addr) : List (Addr × Obj) := (List.range h.objs.size).filterMap fun a => if a = L ∨ (g.get? a).isSome = true then none else (h.get? a).map fun o => (a, o)
def rest (g h : Heap) (L d : Addr) : List (Addr × Obj) := (allNews g h L).filter fun p => decide (p.1 ≠ d)
end L2

namespace L2
open PySem PySem.Spec PyProof.Rows

structure Mod (K : PySem.W.Frag) (mg : Str → Option Value) (base : Heap) : Prop where
  kin : K.In base
  glob : base.Ns mainGlobals mg
  blt : ∃ mb, base.Ns builtinsNs mb ∧ ∀ x : Str, x ≠ "__name__" → mb x = bootBuiltins x
  nolimit : base.NoLimit

structure Cx where
  prog : Program
  w : World
  K : PySem.W.Frag
  mg : Str → Option Value
  base : Heap
  A : Around
  N : List Str
  s₀ : Shared
  H₀ : Hp
  env : Env
  outer : List Env
  stack : List Env
  ex : List Addr
  fn : Str → Bool
  calm : Bool
  pn : List (Addr × Obj)
  xe : Value → Shared → Prop
def frs (l : List Env) : List Addr := l.filterMap (·.frame)
abbrev Cx.fs (X : Cx) : List Addr := frs X.outer

def Vis (sc : Scope) (x : Str) : Prop := sc.names.lookup x = some .local ∨ sc.names.lookup x = some .cell ∨ sc.names.lookup x = some .free
def Loc (sc : Scope) (x : Str) : Prop := sc.names.lookup x = some .local ∨ sc.names.lookup x = some .cell
def Look (env : Env) (h : Heap) (m : Str → Option Value) (x : Str) (u : Value) : Prop :=
  (env.kindOf x = some .local ∧ m x = some u) ∨ ((env.kindOf x = some .cell ∨ env.kindOf x = some .free) ∧ ∃ c, env.cells.lookup x = some c ∧ h.IsCell c (some u))

structure Cx.Ok (X : Cx) : Prop where
  mod : Mod X.K X.mg X.base
  kind : X.env.scope.kind = .function
  glob : X.env.globals = mainGlobals
  blt : X.env.builtins = builtinsNs
  above : X.s₀.heap.objs.size ≤ X.env.locals
  inj : ∀ x y c, X.env.cells.lookup x = some c → X.env.cells.lookup y = some c → x = y
  has : ∀ x, (X.env.kindOf x = some .cell ∨ X.env.kindOf x = some .free) → ∃ c, X.env.cells.lookup x = some c
  cab : ∀ x c, X.fn x = true → X.env.cells.lookup x = some c → X.s₀.heap.objs.size ≤ c
  hd : X.calm = true → X.A.handled = none
  frames : X.A.frames = some X.stack
  stk : X.stack = X.outer ∨ (X.stack = X.env :: X.outer ∧ X.env.frame = some X.env.locals)
  exf : ∀ b ∈ X.ex, b ≠ X.env.locals ∧ ∀ x c, X.env.cells.lookup x = some c → c ≠ b
  bs : ∀ b o, X.base.get? b = some o → X.s₀.heap.get? b = some o ∧ X.H₀ b = none
  bsz : X.base.objs.size ≤ X.s₀.heap.objs.size
  noex : ∀ b o, X.base.get? b = some o → b ∉ X.ex
  exfs : ∀ b ∈ X.ex, b ∉ X.fs
  funs : X.s₀.heap.FunFrames X.base X.outer
  frf : ∀ b ∈ X.fs, X.H₀ b = none

structure Inv (X : Cx) (pins : List (Addr × Obj)) (σ : List (Option V)) (H : Hp) (s : Shared) : Prop where
  ok : X.Ok
  os : s.os = X.s₀.os
  bare : AllBare s.gens
  base : Un X.fs X.ex X.H₀ H X.s₀.heap s.heap
  loc : ∃ m, s.heap.Ns X.env.locals m ∧ ∀ (i : Nat) (x : Str) (v : V), X.N[i]? = some x → σ[i]? = some (some v) → Vis X.env.scope x → ∃ u, RelV v u ∧ Look X.env s.heap m x u
  cell : ∀ x c, X.env.cells.lookup x = some c → ∃ v, s.heap.IsCell c v
  free : H X.env.locals = none
  freeC : ∀ x c, X.env.cells.lookup x = some c → H c = none
  pin : ∀ p ∈ X.pn ++ pins, s.heap.get? p.1 = some p.2 ∧ H p.1 = none ∧ p.1 ≠ X.env.locals ∧ p.1 ∉ X.fs ∧ ∀ v, p.2.data ≠ .cell v
  hok : HOk X.prog X.w H s.heap
  len : σ.length = X.N.length

section
variable {X : Cx} {pins : List (Addr × Obj)} {σ : List (Option V)} {H H' : Hp} {s : Shared} {h' : Heap}

theorem Cx.Ok.nofr (ok : X.Ok) {b : Addr} {o : Obj} (e : X.base.get? b = some o) : b ∉ X.fs := fun hb => by
  have := (ok.funs.mem hb).1
  rw [e] at this; cases this
theorem Inv.bs (I : Inv X pins σ H s) : ∀ b o, X.base.get? b = some o → s.heap.get? b = some o ∧ H b = none := fun b o e =>
  ⟨I.base.keep b o (I.ok.bs b o e).1 (I.ok.bs b o e).2 (I.ok.nofr e) (I.ok.noex b o e), I.base.free b o (I.ok.bs b o e).1 (I.ok.bs b o e).2 (I.ok.noex b o e)⟩
theorem Inv.bk (I : Inv X pins σ H s) : ∀ b o, X.base.get? b = some o → s.heap.get? b = some o := fun b o e => (I.bs b o e).1
theorem Inv.mod (I : Inv X pins σ H s) : Mod X.K X.mg X.base := I.ok.mod
theorem Inv.kIn (I : Inv X pins σ H s) : X.K.In s.heap := I.ok.mod.kin.keeps I.bk
theorem Inv.nolimit (I : Inv X pins σ H s) : s.heap.NoLimit := I.ok.mod.nolimit.keeps I.bk
theorem Inv.fr (I : Inv X pins σ H s) : ∃ m, Fr X.base X.env.locals s.heap m :=
  let ⟨m, hn, _⟩ := I.loc
  ⟨m, hn, I.bk, Nat.le_trans I.ok.bsz I.ok.above⟩
theorem Inv.lt (I : Inv X pins σ H s) : X.env.locals < s.heap.objs.size := let ⟨_, hn, _⟩ := I.loc; hn.lt
theorem Inv.sz (I : Inv X pins σ H s) : X.s₀.heap.objs.size ≤ s.heap.objs.size := Nat.le_trans I.ok.above (Nat.le_of_lt I.lt)
theorem Inv.nofs (I : Inv X pins σ H s) {a : Addr} (h : s.heap.objs.size ≤ a) : a ∉ X.fs := fun hb => by
  obtain ⟨_, o, ho, _⟩ := I.ok.funs.mem hb
  exact absurd (Nat.lt_of_lt_of_le (Heap.lt_size ho) (Nat.le_trans I.sz h)) (Nat.lt_irrefl _)
theorem Inv.cne (I : Inv X pins σ H s) : ∀ x c, X.env.cells.lookup x = some c → c ≠ X.env.locals := fun x c e z => by
  obtain ⟨v, o, ho, hd⟩ := I.cell x c e
  obtain ⟨m, ⟨o', es, ep, ho', hd', _⟩, _⟩ := I.loc
  rw [z, ho'] at ho; cases ho; rw [hd'] at hd; cases hd
theorem Inv.funs (I : Inv X pins σ H s) : s.heap.FunFrames X.base X.outer := by
  have all : ∀ (l : List Env), (∀ b ∈ frs l, b ∈ X.fs) → X.s₀.heap.FunFrames X.base l → s.heap.FunFrames X.base l := by
    intro l
    induction l with
    | nil => intro _ _; trivial
    | cons env r ih =>
      intro hs hl
      obtain ⟨hk, ⟨L, o, hf, hn, ho, hd⟩, hr⟩ := hl
      have hL : L ∈ X.fs := hs L (by unfold frs; rw [List.filterMap_cons, hf]; exact List.mem_cons_self)
      obtain ⟨sl, e⟩ := I.base.slot L o ho (I.ok.frf L hL) hL fun z => I.ok.exfs L z hL
      exact ⟨hk, ⟨L, _, hf, hn, e, hd⟩, ih (fun b hb => hs b (by unfold frs; rw [List.filterMap_cons, hf]; exact List.mem_cons_of_mem _ hb)) hr⟩
  exact all X.outer (fun _ hb => hb) I.ok.funs

theorem Inv.stack (I : Inv X pins σ H s) : s.heap.FunFrames X.base X.stack := by
  rcases I.ok.stk with e | ⟨e, hf⟩
  · rw [e]; exact I.funs
  · rw [e]
    obtain ⟨m, hn, _⟩ := I.loc
    refine .cons (by rw [I.ok.kind]; decide) hf hn ?_ I.funs
    exact Heap.get?_none_of_le (Nat.le_trans I.ok.bsz I.ok.above)
theorem Inv.stkSub (I : Inv X pins σ H s) : ∀ b ∈ frs X.stack, b ∈ X.env.locals :: X.fs := fun b hb => by
  rcases I.ok.stk with e | ⟨e, hf⟩
  · rw [e] at hb; exact List.mem_cons_of_mem _ hb
  · rw [e] at hb
    unfold frs at hb
    rw [List.filterMap_cons, hf] at hb
    exact hb
theorem Inv.stkFree (I : Inv X pins σ H s) : ∀ b ∈ frs X.stack, H b = none := fun b hb => by
  rcases List.mem_cons.mp (I.stkSub b hb) with e | hb
  · rw [e]; exact I.free
  · obtain ⟨_, o, ho, _⟩ := I.ok.funs.mem hb
    exact I.base.free b o ho (I.ok.frf b hb) fun z => I.ok.exfs b z hb

theorem Inv.step {g' : Array GenState} {t' : Nat} {d' : Drawn} {ch : List Addr} (I : Inv X pins σ H s)
    (hch : ∀ b ∈ ch, (b ∈ X.ex ∨ X.s₀.heap.objs.size ≤ b) ∧ b ≠ X.env.locals ∧ (∀ x c, X.env.cells.lookup x = some c → c ≠ b) ∧ ∀ p ∈ X.pn ++ pins, p.1 ≠ b)
    (keep : ∀ b o, b ≠ X.env.locals → b ∉ X.fs → b ∉ ch → s.heap.get? b = some o → H b = none → h'.get? b = some o)
    (slot : ∀ b o, b ≠ X.env.locals → b ∈ X.fs → b ∉ ch → s.heap.get? b = some o → H b = none → ∃ sl, h'.get? b = some { o with slots := sl }) (free : ∀ b o, b ∉ ch → s.heap.get? b = some o → H b = none → H' b = none)
    (there : ∀ b o, b ∉ ch → s.heap.get? b = some o → ∃ o', h'.get? b = some o')
    (tups : ∀ b xs, H b = some (.tup xs) → H' b = some (.tup xs)) (frzs : ∀ b o u, H b = some (.frz o u) → H' b = some (.frz o u)) (tbls : ∀ b ps, H b = some (.tbl ps) → ∃ more, H' b = some (.tbl (ps ++ more)))
    (ns : ∀ m, s.heap.Ns X.env.locals m → h'.Ns X.env.locals m) (hok : HOk X.prog X.w H' h') (hg : AllBare g') :
    Inv X pins σ H' { s with heap := h', gens := g', drawn := d', toks := t' } := by
  have neL : ∀ b o, X.s₀.heap.get? b = some o → b ≠ X.env.locals := fun b o e => Nat.ne_of_lt (Nat.lt_of_lt_of_le (Heap.lt_size e) I.ok.above)
  have neC : ∀ b o, X.s₀.heap.get? b = some o → b ∉ X.ex → b ∉ ch := fun b o e hx hb => by
    rcases (hch b hb).1 with z | z
    · exact hx z
    · exact absurd (Nat.lt_of_lt_of_le (Heap.lt_size e) z) (Nat.lt_irrefl _)
  have cellK : ∀ x c, X.env.cells.lookup x = some c → ∀ v, s.heap.IsCell c v → h'.IsCell c v := fun x c e v ⟨o, ho, hd⟩ => by
    have nch : c ∉ ch := fun z => (hch c z).2.2.1 x c e rfl
    by_cases hc : c ∈ X.fs
    · obtain ⟨sl, q⟩ := slot c o (I.cne x c e) hc nch ho (I.freeC x c e)
      exact ⟨_, q, hd⟩
    · exact ⟨o, keep c o (I.cne x c e) hc nch ho (I.freeC x c e), hd⟩
  refine ⟨I.ok, I.os, hg, ⟨fun b o e n hb hx => ?_, fun b o e n hb hx => ?_, fun b o e n hx => ?_, fun b o e hx => ?_, fun b xs e => tups b xs (I.base.tups b xs e), fun b o xs e => frzs b o xs (I.base.frzs b o xs e), fun b ps e => ?_⟩, ?_, fun x c e => ?_, ?_, fun x c e => ?_, fun p hp => ?_, hok, I.len⟩
  · exact keep b o (neL b o e) hb (neC b o e hx) (I.base.keep b o e n hb hx) (I.base.free b o e n hx)
  · obtain ⟨sl, e1⟩ := I.base.slot b o e n hb hx
    obtain ⟨sl', e2⟩ := slot b _ (neL b o e) hb (neC b o e hx) e1 (I.base.free b o e n hx)
    exact ⟨sl', e2⟩
  · obtain ⟨o', e1⟩ := I.base.there b o e hx
    exact free b o' (neC b o e hx) e1 (I.base.free b o e n hx)
  · obtain ⟨o', e1⟩ := I.base.there b o e hx
    exact there b o' (neC b o e hx) e1
  · obtain ⟨m1, e1⟩ := I.base.tbls b ps e
    obtain ⟨m2, e2⟩ := tbls b _ e1
    exact ⟨m1 ++ m2, by rw [e2, Array.append_assoc]⟩
  · obtain ⟨m, hn, hl⟩ := I.loc
    refine ⟨m, ns m hn, fun i x v e1 e2 e3 => ?_⟩
    obtain ⟨u, r, l⟩ := hl i x v e1 e2 e3
    refine ⟨u, r, ?_⟩
    rcases l with l | ⟨k, c, e, z⟩
    · exact .inl l
    · exact .inr ⟨k, c, e, cellK x c e _ z⟩
  · obtain ⟨v, z⟩ := I.cell x c e
    exact ⟨v, cellK x c e v z⟩
  · obtain ⟨m, ⟨o, _, _, ho, _⟩, _⟩ := I.loc
    exact free _ o (fun z => (hch _ z).2.1 rfl) ho I.free
  · obtain ⟨v, o, ho, hd⟩ := I.cell x c e
    exact free c o (fun z => (hch c z).2.2.1 x c e rfl) ho (I.freeC x c e)
  · obtain ⟨e, n, ne, nf, d⟩ := I.pin p hp
    have nch : p.1 ∉ ch := fun z => (hch p.1 z).2.2.2 p hp rfl
    exact ⟨keep p.1 p.2 ne nf nch e n, free p.1 p.2 nch e n, ne, nf, d⟩
theorem Inv.un {t' : Nat} (I : Inv X pins σ H s) (u : Un X.fs [] H H' s.heap h') (hok : HOk X.prog X.w H' h') : Inv X pins σ H' { s with heap := h', toks := t' } := by
  obtain ⟨m, ⟨o, es, ep, ho, r⟩, _⟩ := id I.loc
  obtain ⟨sl, hL⟩ := u.any ho I.free (by simp)
  exact I.step (g' := s.gens) (d' := s.drawn) (ch := []) (fun _ z => nomatch z) (fun b o _ hb _ e n => u.keep b o e n hb (by simp)) (fun b o _ hb _ e n => u.slot b o e n hb (by simp)) (fun b o _ e n => u.free b o e n (by simp)) (fun b o _ e => u.there b o e (by simp)) u.tups u.frzs u.tbls (fun m' hm => by
    obtain ⟨o', es', ep', ho', r'⟩ := hm
    rw [ho] at ho'; cases ho'
    exact ⟨_, es', ep', hL, r'⟩) hok I.bare
theorem Inv.call {g' : Array GenState} {t' : Nat} {d' : Drawn} {ch : List Addr} (I : Inv X pins σ H s) (u : Un (frs X.stack) ch H H' s.heap h') (hok : HOk X.prog X.w H' h') (hg : AllBare g')
    (hch : ∀ b ∈ ch, (b ∈ X.ex ∨ X.s₀.heap.objs.size ≤ b) ∧ b ≠ X.env.locals ∧ (∀ x c, X.env.cells.lookup x = some c → c ≠ b) ∧ ∀ p ∈ X.pn ++ pins, p.1 ≠ b) :
    Inv X pins σ H' { s with heap := h', gens := g', drawn := d', toks := t' } := by
  obtain ⟨m, ⟨o, es, ep, ho, r⟩, _⟩ := id I.loc
  obtain ⟨sl, hL⟩ := u.any ho I.free fun z => (hch _ z).2.1 rfl
  exact I.step (ch := ch) hch (fun b o hL hb hc e n => u.keep b o e n (fun z => (List.mem_cons.mp (I.stkSub b z)).elim hL hb) hc) (fun b o _ _ hc e n => u.any e n hc) (fun b o hc e n => u.free b o e n hc) (fun b o hc e => u.there b o e hc) u.tups u.frzs u.tbls (fun m' hm => by
    obtain ⟨o', es', ep', ho', r'⟩ := hm
    rw [ho] at ho'; cases ho'
    exact ⟨_, es', ep', hL, r'⟩) hok hg
theorem Inv.turned {t' : Nat} {it : Addr} (I : Inv X pins σ H s) (k : ∀ b o, b ≠ it → s.heap.get? b = some o → h'.get? b = some o) (hn : H it = none) (hL : it ≠ X.env.locals)
    (h1 : it ∈ X.ex ∨ X.s₀.heap.objs.size ≤ it) (h2 : ∀ x c, X.env.cells.lookup x = some c → c ≠ it) (h3 : ∀ p ∈ X.pn ++ pins, p.1 ≠ it) : Inv X pins σ H { s with heap := h', toks := t' } := by
  have nit : ∀ b u, H b = some u → b ≠ it := fun b u e z => by rw [z, hn] at e; cases e
  refine I.step (g' := s.gens) (d' := s.drawn) (ch := [it]) (fun b hb => ?_) (fun b o _ _ hc e _ => k b o (fun z => hc (by simp [z])) e) (fun b o _ _ hc e _ => ⟨o.slots, k b o (fun z => hc (by simp [z])) e⟩) (fun _ _ _ _ n => n)
    (fun b o hc e => ⟨o, k b o (fun z => hc (by simp [z])) e⟩) (fun _ _ e => e) (fun _ _ _ e => e) (fun b ps e => ⟨#[], by rw [e]; simp⟩) (fun m hm => ?_) (fun b u e => ?_) I.bare
  · have e : b = it := by simpa using hb
    subst e
    exact ⟨h1, hL, h2, h3⟩
  · obtain ⟨o, es, ep, ho, r⟩ := hm
    exact ⟨o, es, ep, k _ o (Ne.symm hL) ho, r⟩
  · refine (I.hok b u e).stay (fun c v hc q => k c v ?_ q) (fun _ q => q) fun _ _ q => q
    rcases hc with z | z
    · rw [z]; exact nit b u e
    · exact nit c _ z
theorem Inv.tok (I : Inv X pins σ H s) (t : Nat) : Inv X pins σ H { s with toks := t } := I.un (h' := s.heap) (t' := t) Un.refl I.hok
theorem Inv.kept {t' : Nat} (I : Inv X pins σ H s) (k : ∀ b u, s.heap.get? b = some u → h'.get? b = some u) : Inv X pins σ H { s with heap := h', toks := t' } := I.un (Un.kept k) (I.hok.kept k)
theorem Inv.laid {a : Addr} {o : HO} {t' : Nat} (I : Inv X pins σ H s) (k : ∀ b u, s.heap.get? b = some u → h'.get? b = some u) (hp : s.heap.objs.size ≤ a) (new : ObjOk X.prog X.w (upd H a o) h' a o) :
    Inv X pins σ (upd H a o) { s with heap := h', toks := t' } := I.un (Un.laid k hp (I.hok.fresh hp)) (I.hok.laid k hp new)
theorem Inv.write {x e : Addr} {o : HO} {t' : Nat} (I : Inv X pins σ H s) (mu : Mut (H x)) (he : e = x ∨ H e = some (.own x)) (k : ∀ b u, b ≠ e → s.heap.get? b = some u → h'.get? b = some u) (heo : ∃ u, h'.get? e = some u)
    (new : ObjOk X.prog X.w (upd H x o) h' x o) : Inv X pins σ (upd H x o) { s with heap := h', toks := t' } := I.un (Un.write mu he k heo) (I.hok.write mu he k heo new)
theorem Inv.weak {σ' : List (Option V)} (I : Inv X pins σ H s) (hl : σ'.length = σ.length) (w : ∀ (i : Nat) v, σ'[i]? = some (some v) → σ[i]? = some (some v)) : Inv X pins σ' H s :=
  ⟨I.ok, I.os, I.bare, I.base, let ⟨m, hn, hl'⟩ := I.loc; ⟨m, hn, fun i x v e1 e2 e3 => hl' i x v e1 (w i v e2) e3⟩, I.cell, I.free, I.freeC, I.pin, I.hok, hl.trans I.len⟩
theorem Inv.pins_of {pins' : List (Addr × Obj)} (I : Inv X pins σ H s) (h : ∀ p ∈ pins', s.heap.get? p.1 = some p.2 ∧ H p.1 = none ∧ p.1 ≠ X.env.locals ∧ p.1 ∉ X.fs ∧ ∀ v, p.2.data ≠ .cell v) : Inv X pins' σ H s :=
  ⟨I.ok, I.os, I.bare, I.base, I.loc, I.cell, I.free, I.freeC, fun p hp => (List.mem_append.mp hp).elim (fun z => I.pin p (List.mem_append_left _ z)) (h p), I.hok, I.len⟩

theorem nodup_ix {N : List Str} (hN : N.Nodup) {i j : Nat} {x : Str} (a : N[i]? = some x) (b : N[j]? = some x) : i = j := by
  obtain ⟨h1, e1⟩ := List.getElem?_eq_some_iff.mp a
  obtain ⟨h2, e2⟩ := List.getElem?_eq_some_iff.mp b
  exact (List.getElem_inj hN).mp (e1.trans e2.symm)

theorem store_ok2 {M : Model} {A : Around} {E : Value → Shared → Prop} {i : Nat} {x : Str} {v : V} {u : Value} {Q : Unit → Shared → Prop} (I : Inv X pins σ H s) (hN : X.N.Nodup) (hi : X.N[i]? = some x) (hx : Loc X.env.scope x) (r : RelV v u)
    (h : ∀ s', Inv X pins (σ.set i (some v)) H s' → (∃ a, Heap.SameBut a s.heap s'.heap ∧ (a = X.env.locals ∨ X.env.cells.lookup x = some a)) → Q () s') (hf : X.fn x = true ∨ X.env.scope.names.lookup x = some .local := by first | exact .inl rfl | exact .inr rfl | assumption) : wpAny M A (storeName X.env x u) Q E s := by
  obtain ⟨m, hn, hl⟩ := id I.loc
  have hcls : (X.env.scope.kind == .class || (X.env.scope.kind == .module && X.env.locals != X.env.globals)) = false := by rw [I.ok.kind]; rfl
  have hiσ : i < σ.length := by rw [I.len]; exact (List.getElem?_eq_some_iff.mp hi).1
  have cne := I.cne
  have tracked : ∀ {a : Addr} {h' : Heap}, (∃ o, s.heap.get? a = some o ∧ H a = none) → Heap.SameBut a s.heap h' → HOk X.prog X.w H h' := fun {a h'} ha hs b ob e => by
    obtain ⟨_, _, hfree⟩ := ha
    refine (I.hok b ob e).stay (fun c w' hc q => (hs.2 c ?_).trans q) (fun _ q => q) fun _ _ q => q
    rintro rfl
    rcases hc with rfl | hc
    · rw [hfree] at e; cases e
    · rw [hfree] at hc; cases hc
  rcases hx with hk | hk
  · refine wpAny_storeName_local hk hn (fun h' hn' hs => ?_) hcls
    obtain ⟨oL, _, _, hoL, _⟩ := id hn
    refine h _ ⟨I.ok, I.os, I.bare, ⟨fun b o e n hb hx => ?_, fun b o e n hb hx => ?_, I.base.free, fun b o e hx => ?_, I.base.tups, I.base.frzs, I.base.tbls⟩, ⟨_, hn', fun j y v' e1 e2 e3 => ?_⟩, fun y c e => ?_, I.free, I.freeC, fun p hp => ?_, tracked ⟨oL, hoL, I.free⟩ hs, by simpa using I.len⟩ ⟨_, hs, .inl rfl⟩
    · exact (hs.2 b (Nat.ne_of_lt (Nat.lt_of_lt_of_le (Heap.lt_size e) I.ok.above))).trans (I.base.keep b o e n hb hx)
    · obtain ⟨sl, e1⟩ := I.base.slot b o e n hb hx
      exact ⟨sl, (hs.2 b (Nat.ne_of_lt (Nat.lt_of_lt_of_le (Heap.lt_size e) I.ok.above))).trans e1⟩
    · obtain ⟨o', e1⟩ := I.base.there b o e hx
      exact ⟨o', (hs.2 b (Nat.ne_of_lt (Nat.lt_of_lt_of_le (Heap.lt_size e) I.ok.above))).trans e1⟩
    · by_cases hj : j = i
      · subst hj
        rw [hi] at e1; cases e1
        rw [List.getElem?_set_self hiσ] at e2
        cases e2
        exact ⟨u, r, .inl ⟨hk, by simp⟩⟩
      · rw [List.getElem?_set_ne (Ne.symm hj)] at e2
        obtain ⟨u', r', q⟩ := hl j y v' e1 e2 e3
        refine ⟨u', r', ?_⟩
        rcases q with ⟨k, e⟩ | ⟨k, c, e, z⟩
        · refine .inl ⟨k, ?_⟩
          have : y ≠ x := fun e => hj (nodup_ix hN e1 (e ▸ hi))
          simp [this, e]
        · exact .inr ⟨k, c, e, z.sameBut hs (cne y c e)⟩
    · obtain ⟨w', z⟩ := I.cell y c e
      exact ⟨w', z.sameBut hs (cne y c e)⟩
    · obtain ⟨e, n, ne, nf, d⟩ := I.pin p hp
      exact ⟨(hs.2 p.1 ne).trans e, n, ne, nf, d⟩
  · have hfn : X.fn x = true := by
      rcases hf with z | z
      · exact z
      · rw [z] at hk; cases hk
    obtain ⟨c, hc⟩ := I.ok.has x (.inl hk)
    obtain ⟨w', z⟩ := I.cell x c hc
    refine wpAny_storeName_cell I.ok.kind hk hc z (fun h' hc' hs => ?_)
    obtain ⟨oc, hoc, hocd⟩ := id z
    refine h { s with heap := h' } ⟨I.ok, I.os, I.bare, ⟨fun b o e n hb hx => ?_, fun b o e n hb hx => ?_, I.base.free, fun b o e hx => ?_, I.base.tups, I.base.frzs, I.base.tbls⟩, ⟨m, hn.sameBut hs (Ne.symm (cne x c hc)), fun j y v' e1 e2 e3 => ?_⟩, fun y c' e => ?_, I.free, I.freeC, fun p hp => ?_, tracked ⟨oc, hoc, I.freeC x c hc⟩ hs, by simpa using I.len⟩ ⟨c, hs, .inr hc⟩
    · exact (hs.2 b (Nat.ne_of_lt (Nat.lt_of_lt_of_le (Heap.lt_size e) (I.ok.cab x c hfn hc)))).trans (I.base.keep b o e n hb hx)
    · obtain ⟨sl, e1⟩ := I.base.slot b o e n hb hx
      exact ⟨sl, (hs.2 b (Nat.ne_of_lt (Nat.lt_of_lt_of_le (Heap.lt_size e) (I.ok.cab x c hfn hc)))).trans e1⟩
    · obtain ⟨o', e1⟩ := I.base.there b o e hx
      exact ⟨o', (hs.2 b (Nat.ne_of_lt (Nat.lt_of_lt_of_le (Heap.lt_size e) (I.ok.cab x c hfn hc)))).trans e1⟩
    · by_cases hj : j = i
      · subst hj
        rw [hi] at e1; cases e1
        rw [List.getElem?_set_self hiσ] at e2
        cases e2
        exact ⟨u, r, .inr ⟨.inl hk, c, hc, hc'⟩⟩
      · rw [List.getElem?_set_ne (Ne.symm hj)] at e2
        obtain ⟨u', r', q⟩ := hl j y v' e1 e2 e3
        refine ⟨u', r', ?_⟩
        rcases q with q | ⟨k, c', e, z'⟩
        · exact .inl q
        · refine .inr ⟨k, c', e, z'.sameBut hs ?_⟩
          rintro rfl
          exact hj (nodup_ix hN e1 (I.ok.inj _ _ _ e hc ▸ hi))
    · by_cases hcc : c' = c
      · subst hcc; exact ⟨_, hc'⟩
      · obtain ⟨w2, z2⟩ := I.cell y c' e
        exact ⟨w2, z2.sameBut hs hcc⟩
    · obtain ⟨e, n, ne, nf, d⟩ := I.pin p hp
      refine ⟨(hs.2 p.1 ?_).trans e, n, ne, nf, d⟩
      intro q
      rw [q, hoc] at e
      have q' : oc = p.2 := Option.some.inj e
      exact d w' (by rw [← q']; exact hocd)
theorem store_ok {M : Model} {A : Around} {E : Value → Shared → Prop} {i : Nat} {x : Str} {v : V} {u : Value} {Q : Unit → Shared → Prop} (I : Inv X pins σ H s) (hN : X.N.Nodup) (hi : X.N[i]? = some x) (hx : Loc X.env.scope x) (r : RelV v u)
    (h : ∀ s', Inv X pins (σ.set i (some v)) H s' → Q () s') (hf : X.fn x = true ∨ X.env.scope.names.lookup x = some .local := by first | exact .inl rfl | exact .inr rfl | assumption) : wpAny M A (storeName X.env x u) Q E s :=
  store_ok2 I hN hi hx r (fun s' I' _ => h s' I') hf
theorem Inv.call' {s' : Shared} {ch : List Addr} (I : Inv X pins σ H s) (ho : s'.os = s.os) (u : Un (frs X.stack) ch H H' s.heap s'.heap) (hok : HOk X.prog X.w H' s'.heap) (hg : AllBare s'.gens)
    (hch : ∀ b ∈ ch, (b ∈ X.ex ∨ X.s₀.heap.objs.size ≤ b) ∧ b ≠ X.env.locals ∧ (∀ x c, X.env.cells.lookup x = some c → c ≠ b) ∧ ∀ p ∈ X.pn ++ pins, p.1 ≠ b) : Inv X pins σ H' s' := by
  obtain ⟨h', g', d', t', o'⟩ := s'
  have e : o' = s.os := ho
  subst e
  exact I.call (g' := g') (t' := t') (d' := d') u hok hg hch
end

abbrev XK := Value → Option Addr → Hp → Prop
abbrev St := List (Option V)
abbrev VK := V → Hp → Prop
abbrev TE := St → Hp → VK → Prop
abbrev TT := St → Hp → (Bool → Hp → Prop) → Prop
abbrev TA := St → Hp → (List V → Hp → Prop) → Prop
structure Ends where
  nx : St → Hp → Prop
  rt : VK
  bk : St → Hp → Prop := fun _ _ => False
  ct : St → Hp → Prop := fun _ _ => False
abbrev TS := Ends → St → Hp → Prop

def EP (X : Cx) (pins : List (Addr × Obj)) (σ : St) (Q : VK) (u : Value) (s' : Shared) : Prop := ∃ v H', Inv X pins σ H' s' ∧ RelV v u ∧ Q v H'
def TP (X : Cx) (pins : List (Addr × Obj)) (σ : St) (Q : Bool → Hp → Prop) (b : Bool) (s' : Shared) : Prop := ∃ H', Inv X pins σ H' s' ∧ Q b H'
def AP (X : Cx) (pins : List (Addr × Obj)) (σ : St) (Q : List V → Hp → Prop) (us : List Value) (s' : Shared) : Prop := ∃ vs H', Inv X pins σ H' s' ∧ Vals vs us ∧ Q vs H'
def SP (X : Cx) (pins : List (Addr × Obj)) (D : Ends) (f : Flow) (s' : Shared) : Prop :=
  match f with
  | .next => ∃ σ' H', Inv X pins σ' H' s' ∧ D.nx σ' H'
  | .brk => ∃ σ' H', Inv X pins σ' H' s' ∧ D.bk σ' H'
  | .cont => ∃ σ' H', Inv X pins σ' H' s' ∧ D.ct σ' H'
  | .ret u => ∃ v σ' H', Inv X pins σ' H' s' ∧ RelV v u ∧ D.rt v H'

def PE (X : Cx) (e : Expr) (t : TE) : Prop :=
  ∀ (pins : List (Addr × Obj)) (s : Shared) (σ : St) (H : Hp) (Q : VK), Inv X pins σ H s → t σ H Q → wpAny (model X.prog X.w) X.A (eval e X.env) (EP X pins σ Q) X.xe s
def PT (X : Cx) (e : Expr) (t : TT) : Prop :=
  ∀ (pins : List (Addr × Obj)) (s : Shared) (σ : St) (H : Hp) (Q : Bool → Hp → Prop), Inv X pins σ H s → t σ H Q → wpAny (model X.prog X.w) X.A (isTrue e X.env (eval e X.env)) (TP X pins σ Q) X.xe s
def PW (X : Cx) (e : Expr) (t : TT) : Prop :=
  ∀ (whole : Sem Value) (pins : List (Addr × Obj)) (s : Shared) (σ : St) (H : Hp) (Q : Bool → Hp → Prop), Inv X pins σ H s → t σ H Q → wpAny (model X.prog X.w) X.A (isTrue e X.env whole) (TP X pins σ Q) X.xe s
theorem PW.pt {X : Cx} {e : Expr} {t : TT} (h : PW X e t) : PT X e t := h _
def PA (X : Cx) (es : List Expr) (t : TA) : Prop :=
  ∀ (pos : Pos) (pins : List (Addr × Obj)) (s : Shared) (σ : St) (H : Hp) (Q : List V → Hp → Prop), Inv X pins σ H s → t σ H Q → wpAny (model X.prog X.w) X.A (spliced (backTo pos (starEach es X.env))) (AP X pins σ Q) X.xe s
def PS (X : Cx) (st : Stmt) (t : TS) : Prop :=
  ∀ (pins : List (Addr × Obj)) (s : Shared) (σ : St) (H : Hp) (D : Ends), Inv X pins σ H s → t D σ H → wpAny (model X.prog X.w) X.A (exec st X.env) (SP X pins D) X.xe s
def PSs (X : Cx) (st : List Stmt) (t : TS) : Prop :=
  ∀ (pins : List (Addr × Obj)) (s : Shared) (σ : St) (H : Hp) (D : Ends), Inv X pins σ H s → t D σ H → wpAny (model X.prog X.w) X.A (execs st X.env) (SP X pins D) X.xe s
theorem thn {α : Type} {t : Sem α} {Q Q' : α → Shared → Prop} {M : Model} {A : Around} {E : Value → Shared → Prop} {s : Shared} (h : wpAny M A t Q E s) (hQ : ∀ a s, Q a s → Q' a s) : wpAny M A t Q' E s := wpAny_mono h hQ fun _ _ x => x
end L2

namespace L2
open PySem PySem.Spec PyProof.Rows
section
variable {X : Cx}

def tVar (i : Nat) : TE := fun σ H Q => ∃ v, σ[i]? = some (some v) ∧ Q v H
def tC (v : V) : TE := fun _ H Q => Q v H
theorem pe_var {i : Nat} {x : Str} {pos : Pos} (hN : X.N[i]? = some x) (hv : Vis X.env.scope x) (hd : (x == ("__debug__" : Str)) = false := by decide) (hcd : (x == ("__classdict__" : Str)) = false := by decide) : PE X (.Name x pos) (tVar i) := by
  intro pins s σ H Q I h
  obtain ⟨v, e, h⟩ := h
  obtain ⟨m, hn, hl⟩ := I.loc
  obtain ⟨u, r, l⟩ := hl i x v hN e hv
  have fin : EP X pins σ Q u s := ⟨v, H, I, r, h⟩
  rcases l with ⟨hk, hm⟩ | ⟨hk, c, hc, hcell⟩
  · exact wpAny_Name (wpAny_loadName_local I.ok.kind hk hn hm fin) hd
  · rcases hk with hk | hk
    · exact wpAny_Name (wpAny_loadName_cell I.ok.kind hk hc hcell fin) hd
    · exact wpAny_Name (wpAny_loadName_free I.ok.kind hk hc hcell fin hcd) hd
theorem pe_int {i j pos} : PE X (.Constant (.int i) j pos) (tC (.int i)) := fun _ _ _ H _ I h => wpAny_Constant_int ⟨.int i, H, I.tok _, ⟨_, rfl⟩, h⟩
theorem pe_bl {b j pos} : PE X (.Constant (.bool b) j pos) (tC (.bl b)) := fun _ _ _ H _ I h => Constant_bool ⟨.bl b, H, I, rfl, h⟩
theorem pe_non {j pos} : PE X (.Constant .none j pos) (tC .non) := fun _ _ _ H _ I h => Constant_none ⟨.non, H, I, rfl, h⟩
theorem pe_str {x j pos} : PE X (.Constant (.str x) j pos) (tC (.str x)) := fun _ _ _ H _ I h => Calls.Constant_str ⟨.str x, H, I.tok _, ⟨_, rfl⟩, h⟩

def Gl (X : Cx) (x : Str) : Prop := X.env.kindOf x = some .globalImplicit
theorem ld_glob {E : Value → Shared → Prop} {pins : List (Addr × Obj)} {s : Shared} {σ : St} {H : Hp} {x : Str} {u : Value} {pos : Pos} {Q : Value → Shared → Prop} (I : Inv X pins σ H s) (hg : Gl X x) (hm : X.mg x = some u) (h : Q u s)
    (hd : (x == ("__debug__" : Str)) = false := by decide) : wpAny (model X.prog X.w) X.A (eval (.Name x pos) X.env) Q E s :=
  Calls.Name_function_global I.ok.kind hg (Calls.loadGlobal_global (by rw [I.ok.glob]; exact I.mod.glob.keeps I.bk) hm h) hd
theorem ld_blt {E : Value → Shared → Prop} {pins : List (Addr × Obj)} {s : Shared} {σ : St} {H : Hp} {x : Str} {u : Value} {pos : Pos} {Q : Value → Shared → Prop} (I : Inv X pins σ H s) (hg : Gl X x) (hm : X.mg x = none) (hv : bootBuiltins x = some u) (h : Q u s)
    (hn : x ≠ "__name__" := by decide) (hd : (x == ("__debug__" : Str)) = false := by decide) : wpAny (model X.prog X.w) X.A (eval (.Name x pos) X.env) Q E s := by
  obtain ⟨mb, h1, h2⟩ := I.mod.blt
  exact Calls.Name_function_global I.ok.kind hg (Calls.loadGlobal_builtin (by rw [I.ok.glob]; exact I.mod.glob.keeps I.bk) hm (by rw [I.ok.blt]; exact h1.keeps I.bk) ((h2 x hn).trans hv) h) hd
theorem pe_glob {x : Str} {v : V} {u : Value} {pos : Pos} (hg : Gl X x) (hm : X.mg x = some u) (r : RelV v u) (hd : (x == ("__debug__" : Str)) = false := by decide) : PE X (.Name x pos) (tC v) :=
  fun _ _ _ H _ I h => ld_glob I hg hm ⟨v, H, I, r, h⟩ hd
theorem pe_bltn {x : Str} {v : V} {u : Value} {pos : Pos} (hg : Gl X x) (hm : X.mg x = none) (hv : bootBuiltins x = some u) (r : RelV v u) (hn : x ≠ "__name__" := by decide) (hd : (x == ("__debug__" : Str)) = false := by decide) : PE X (.Name x pos) (tC v) :=
  fun _ _ _ H _ I h => ld_blt I hg hm hv ⟨v, H, I, r, h⟩ hn hd

variable {a b : Expr} {ta tb : TE} {pos : Pos}
def tB (t : TE) : TT := fun σ H Q => t σ H fun x H1 => ∃ c, x = .bl c ∧ Q c H1
theorem pt_val {e : Expr} {t : TE} (h : PE X e t) (he : ∀ whole, isTrue e X.env whole = (do let v ← whole; standAt e.pos; holding [v] (truthy v)) := by intro _; rfl) : PT X e (tB t) := by
  intro pins s σ H Q I hw
  refine isTrue_plain (thn (h pins s σ H _ I hw) fun v s1 ⟨x, H1, I1, r1, q1⟩ => ?_) (he _)
  obtain ⟨d, rfl, q⟩ := q1
  cases r1
  exact wpAny_truthy_bool ⟨H1, I1, q⟩

variable {tA tB' : TT} {rest : List Expr}
def tAnd (t u : TT) : TT := fun σ H Q => t σ H fun c H1 => if c = true then u σ H1 Q else Q false H1
def tOr (t u : TT) : TT := fun σ H Q => t σ H fun c H1 => if c = true then Q true H1 else u σ H1 Q
def tNot (t : TT) : TT := fun σ H Q => t σ H fun c H1 => Q (!c) H1
theorem pw_and1 (ha : PT X a tA) : PW X (.BoolOp .And [a] pos) tA := by
  intro wh pins s σ H Q I h
  refine isTrue_and (thn (ha pins s σ H Q I h) fun c s1 e => ?_)
  cases c with
  | true => exact isTrue_and_nil e
  | false => exact e
theorem pw_or1 (ha : PT X a tA) : PW X (.BoolOp .Or [a] pos) tA := by
  intro wh pins s σ H Q I h
  refine isTrue_or (thn (ha pins s σ H Q I h) fun c s1 e => ?_)
  cases c with
  | false => exact isTrue_or_nil e
  | true => exact e
theorem pw_and (ha : PT X a tA) (hb : PW X (.BoolOp .And (b :: rest) pos) tB') : PW X (.BoolOp .And (a :: b :: rest) pos) (tAnd tA tB') := by
  intro wh pins s σ H Q I h
  refine isTrue_and (thn (ha pins s σ H _ I h) fun c s1 ⟨H1, I1, q1⟩ => ?_)
  cases c with
  | true => exact hb wh pins s1 σ H1 Q I1 q1
  | false => exact ⟨H1, I1, q1⟩
theorem pw_or (ha : PT X a tA) (hb : PW X (.BoolOp .Or (b :: rest) pos) tB') : PW X (.BoolOp .Or (a :: b :: rest) pos) (tOr tA tB') := by
  intro wh pins s σ H Q I h
  refine isTrue_or (thn (ha pins s σ H _ I h) fun c s1 ⟨H1, I1, q1⟩ => ?_)
  cases c with
  | true => exact ⟨H1, I1, q1⟩
  | false => exact hb wh pins s1 σ H1 Q I1 q1
theorem pt_not (ha : PT X a tA) : PT X (.UnaryOp .Not a pos) (tNot tA) := by
  intro pins s σ H Q I h
  exact isTrue_not (ha pins s σ H (fun c H1 => Q (!c) H1) I h)
def tAndV (ta tb : TE) : TE := fun σ H Q => ta σ H fun x H1 => ∃ c, x = .bl c ∧ if c = true then tb σ H1 Q else Q (.bl false) H1
def tOrV (ta tb : TE) : TE := fun σ H Q => ta σ H fun x H1 => ∃ c, x = .bl c ∧ if c = true then Q (.bl true) H1 else tb σ H1 Q
def tNotV (ta : TE) : TE := fun σ H Q => ta σ H fun x H1 => ∃ c, x = .bl c ∧ Q (.bl (!c)) H1
theorem pe_one {op} {t : TE} (h : PE X a t) : PE X (.BoolOp op [a] pos) t := fun pins s σ H Q I hw => BoolOp_one (h pins s σ H Q I hw)
theorem pe_and (ha : PE X a ta) (hb : PE X (.BoolOp .And (b :: rest) pos) tb) : PE X (.BoolOp .And (a :: b :: rest) pos) (tAndV ta tb) := by
  intro pins s σ H Q I h
  refine BoolOp_and (thn (ha pins s σ H _ I h) fun v s1 ⟨x, H1, I1, r1, q1⟩ => ?_)
  obtain ⟨c, rfl, q1⟩ := q1
  cases r1
  refine wpAny_truthy_bool ?_
  cases c with
  | true => exact hb pins s1 σ H1 Q I1 q1
  | false => exact ⟨.bl false, H1, I1, rfl, q1⟩
theorem pe_or (ha : PE X a ta) (hb : PE X (.BoolOp .Or (b :: rest) pos) tb) : PE X (.BoolOp .Or (a :: b :: rest) pos) (tOrV ta tb) := by
  intro pins s σ H Q I h
  refine BoolOp_or (thn (ha pins s σ H _ I h) fun v s1 ⟨x, H1, I1, r1, q1⟩ => ?_)
  obtain ⟨c, rfl, q1⟩ := q1
  cases r1
  refine wpAny_truthy_bool ?_
  cases c with
  | false => exact hb pins s1 σ H1 Q I1 q1
  | true => exact ⟨.bl true, H1, I1, rfl, q1⟩
theorem pe_not (ha : PE X a ta) : PE X (.UnaryOp .Not a pos) (tNotV ta) := by
  intro pins s σ H Q I h
  refine UnaryOp_ (thn (ha pins s σ H _ I h) fun v s1 ⟨x, H1, I1, r1, q1⟩ => ?_)
  obtain ⟨c, rfl, q1⟩ := q1
  cases r1
  exact not_of (wpAny_truthy_bool ⟨.bl (!c), H1, I1, rfl, q1⟩)
def tIf (t : TT) (ta tb : TE) : TE := fun σ H Q => t σ H fun c H1 => if c = true then ta σ H1 Q else tb σ H1 Q
theorem pe_ifExp {c : Expr} (hc : PT X c tA) (ha : PE X a ta) (hb : PE X b tb) : PE X (.IfExp c a b pos) (tIf tA ta tb) := by
  intro pins s σ H Q I h
  refine wpAny_IfExp (thn (hc pins s σ H _ I h) fun d s1 ⟨H1, I1, q1⟩ => ?_)
  cases d with
  | true => exact ha pins s1 σ H1 Q I1 q1
  | false => exact hb pins s1 σ H1 Q I1 q1
end
end L2

namespace L2
open PySem PySem.Spec PyProof.Rows

def SqL (K : PySem.W.Frag) (H : Hp) (a : Addr) (xs : List V) : Prop :=
  Rd H a (.lst xs) ∨
    ∃ (o : Obj) (its : Array Value) (n : Nat), K.lookup a = some o ∧ o.cls = .type "list" ∧ o.dict = none ∧ o.data = .seq its n ∧ its.size ≤ sizeLine ∧ Vals xs its.toList
def SqT (K : PySem.W.Frag) (H : Hp) (a : Addr) (xs : List V) : Prop :=
  Rd H a (.tup xs) ∨
    ∃ (o : Obj) (its : Array Value) (n : Nat), K.lookup a = some o ∧ o.cls = .type "tuple" ∧ o.data = .seq its n ∧ its.size ≤ sizeLine ∧ Vals xs its.toList
def absV : Value → Option V
  | .none => some .non
  | .bool b => some (.bl b)
  | .int i _ => some (.int i)
  | .str x _ => some (.str x)
  | .bytes b _ => some (.byt b)
  | .float b _ => some (.flt b)
  | .ref a => some (.ref a)
  | .type n => some (.ty n)
  | _ => none
theorem RelV.abs {x : V} {u : Value} (r : RelV x u) : absV u = some x := by
  cases x with
  | non => cases r; rfl
  | bl _ => cases r; rfl
  | int _ => obtain ⟨t, rfl⟩ := r; rfl
  | str _ => obtain ⟨t, rfl⟩ := r; rfl
  | byt _ => obtain ⟨t, rfl⟩ := r; rfl
  | flt _ => obtain ⟨t, rfl⟩ := r; rfl
  | ref _ => cases r; rfl
  | ty _ => cases r; rfl
theorem RelV.inj {x y : V} {u : Value} (r : RelV x u) (q : RelV y u) : x = y := Option.some.inj (r.abs.symm.trans q.abs)
theorem Vals.inj : ∀ {xs ys : List V} {us : List Value}, Vals xs us → Vals ys us → xs = ys
  | _, _, _, .nil, .nil => rfl
  | _, _, _, .cons r t, .cons r' t' => by rw [r.inj r', Vals.inj t t']
section
variable {X : Cx} {pins : List (Addr × Obj)} {σ : St} {H : Hp} {s : Shared} {a : Addr} {xs ys : List V}
theorem SqL.of {K : PySem.W.Frag} (h : H a = some (.lst xs)) : SqL K H a xs := .inl (.inl h)
theorem SqT.of {K : PySem.W.Frag} (h : H a = some (.tup xs)) : SqT K H a xs := .inl (.inl h)
theorem Inv.list (I : Inv X pins σ H s) (h : SqL X.K H a xs) : ∃ its : List Value, Vals xs its ∧ PlainL s.heap a its.toArray ∧ xs.length ≤ sizeLine := by
  rcases h with h | ⟨o, its, n, hk, hc, hd, hs, hz, r⟩
  · obtain ⟨z, its, n, r, e⟩ := h.ok I.hok
    exact ⟨its, r, ⟨_, n, e, rfl, rfl, rfl⟩, z⟩
  · refine ⟨its.toList, r, ⟨o, n, I.kIn a o hk, hc, hd, by simpa using hs⟩, ?_⟩
    have e := r.length
    simp only [Array.length_toList] at e
    omega
theorem Inv.tuple (I : Inv X pins σ H s) (h : SqT X.K H a xs) : ∃ its : List Value, Vals xs its ∧ IsTup s.heap a its.toArray ∧ xs.length ≤ sizeLine := by
  rcases h with h | ⟨o, its, n, hk, hc, hs, hz, r⟩
  · obtain ⟨z, its, r, p⟩ := h.ok I.hok
    exact ⟨its, r, p, z⟩
  · refine ⟨its.toList, r, ⟨o, I.kIn a o hk, hc, n, by simpa using hs⟩, ?_⟩
    have e := r.length
    simp only [Array.length_toList] at e
    omega
theorem Inv.list_inj (I : Inv X pins σ H s) (h : SqL X.K H a xs) (h' : SqL X.K H a ys) : xs = ys := by
  obtain ⟨its, r, ⟨o, n, e, _, _, d⟩, _⟩ := I.list h
  obtain ⟨its', r', ⟨o', n', e', _, _, d'⟩, _⟩ := I.list h'
  rw [e] at e'; cases e'
  rw [d] at d'
  injection d' with d1 _
  have : its = its' := by simpa using congrArg Array.toList d1
  subst this
  exact r.inj r'
theorem Inv.tuple_inj (I : Inv X pins σ H s) (h : SqT X.K H a xs) (h' : SqT X.K H a ys) : xs = ys := by
  obtain ⟨its, r, ⟨o, e, _, n, d⟩, _⟩ := I.tuple h
  obtain ⟨its', r', ⟨o', e', _, n', d'⟩, _⟩ := I.tuple h'
  rw [e] at e'; cases e'
  rw [d] at d'
  injection d' with d1 _
  have : its = its' := by simpa using congrArg Array.toList d1
  subst this
  exact r.inj r'
end

abbrev Cx.wish (X : Cx) (E : Value → Shared → Prop) : Cx := { X with xe := E }
abbrev Cx.nox (X : Cx) : Cx := X.wish fun _ _ => False
theorem Cx.Ok.wish {X : Cx} (ok : X.Ok) (E : Value → Shared → Prop) : (X.wish E).Ok :=
  ⟨ok.mod, ok.kind, ok.glob, ok.blt, ok.above, ok.inj, ok.has, ok.cab, ok.hd, ok.frames, ok.stk, ok.exf, ok.bs, ok.bsz, ok.noex, ok.exfs, ok.funs, ok.frf⟩
theorem Cx.Ok.unwish {X : Cx} {E : Value → Shared → Prop} (ok : (X.wish E).Ok) : X.Ok :=
  ⟨ok.mod, ok.kind, ok.glob, ok.blt, ok.above, ok.inj, ok.has, ok.cab, ok.hd, ok.frames, ok.stk, ok.exf, ok.bs, ok.bsz, ok.noex, ok.exfs, ok.funs, ok.frf⟩
section
variable {X : Cx} {pins : List (Addr × Obj)} {σ : St} {H : Hp} {s : Shared} {E : Value → Shared → Prop}
theorem Inv.wish (I : Inv X pins σ H s) (E : Value → Shared → Prop) : Inv (X.wish E) pins σ H s := ⟨I.ok.wish E, I.os, I.bare, I.base, I.loc, I.cell, I.free, I.freeC, I.pin, I.hok, I.len⟩
theorem Inv.unwish (I : Inv (X.wish E) pins σ H s) : Inv X pins σ H s := ⟨I.ok.unwish, I.os, I.bare, I.base, I.loc, I.cell, I.free, I.freeC, I.pin, I.hok, I.len⟩
theorem SP.unwish {D : Ends} {f : Flow} {s' : Shared} (h : SP (X.wish E) pins D f s') : SP X pins D f s' := by
  cases f with
  | next => obtain ⟨σ', H', I, q⟩ := h; exact ⟨σ', H', I.unwish, q⟩
  | brk => obtain ⟨σ', H', I, q⟩ := h; exact ⟨σ', H', I.unwish, q⟩
  | cont => obtain ⟨σ', H', I, q⟩ := h; exact ⟨σ', H', I.unwish, q⟩
  | ret u => obtain ⟨v, σ', H', I, r, q⟩ := h; exact ⟨v, σ', H', I.unwish, r, q⟩
theorem PE.nox {e : Expr} {t : TE} (h : PE X.nox e t) : PE X e t := fun pins s σ H Q I hw =>
  wpAny_mono (h pins s σ H Q (I.wish _) hw) (fun _ _ ⟨v, H', I', r, q⟩ => ⟨v, H', I'.unwish, r, q⟩) fun _ _ z => False.elim z
theorem PT.nox {e : Expr} {t : TT} (h : PT X.nox e t) : PT X e t := fun pins s σ H Q I hw =>
  wpAny_mono (h pins s σ H Q (I.wish _) hw) (fun _ _ ⟨H', I', q⟩ => ⟨H', I'.unwish, q⟩) fun _ _ z => False.elim z
theorem PSs.nox {st : List Stmt} {t : TS} (h : PSs X.nox st t) : PSs X st t := fun pins s σ H D I hw =>
  wpAny_mono (h pins s σ H D (I.wish _) hw) (fun _ _ q => q.unwish) fun _ _ z => False.elim z
end

section
variable {X : Cx} {st : Stmt} {rest : List Stmt} {t u : TS} {e : Expr} {te : TE} {pos : Pos}
def tNext : TS := fun D σ H => D.nx σ H
def tSeq (t u : TS) : TS := fun D σ H => t { D with nx := u D } σ H
theorem pss_nil : PSs X [] tNext := fun _ _ σ H _ I h => wpAny_execs_nil ⟨σ, H, I, h⟩
theorem pss_cons (h1 : PS X st t) (h2 : PSs X rest u) : PSs X (st :: rest) (tSeq t u) := by
  intro pins s σ H D I h
  refine wpAny_execs_cons (thn (h1 pins s σ H { D with nx := u D } I h) fun f s1 q => ?_)
  cases f with
  | next =>
    obtain ⟨σ', H', I', q⟩ := q
    exact h2 pins s1 σ' H' D I' q
  | ret v => exact q
  | brk => exact q
  | cont => exact q
theorem pss_one (h1 : PS X st t) : PSs X [st] t := by
  intro pins s σ H D I h
  refine wpAny_execs_cons (thn (h1 pins s σ H D I h) fun f s1 q => ?_)
  cases f with
  | next => exact wpAny_execs_nil q
  | ret v => exact q
  | brk => exact q
  | cont => exact q
theorem Inv.quiet {pins : List (Addr × Obj)} {σ : St} {H : Hp} {s : Shared} (I : Inv X pins σ H s) : interactive X.env = false := by simp [interactive, I.ok.kind]
def tDrop (te : TE) : TS := fun D σ H => te σ H fun _ H1 => D.nx σ H1
theorem ps_expr (he : PE X e te) (hs : swapsWith e none pos.line X.env = pure false := by rfl) : PS X (.Expr e pos) (tDrop te) := by
  intro pins s σ H D I h
  exact wpAny_Expr_any (thn (he pins s σ H _ I h) fun v s1 ⟨x, H1, I1, r1, q1⟩ => ⟨σ, H1, I1, q1⟩) I.quiet hs
def tRet (te : TE) : TS := fun D σ H => te σ H D.rt
theorem ps_ret (he : PE X e te) : PS X (.Return (some e) pos) (tRet te) := by
  intro pins s σ H D I h
  exact wpAny_Return_some (thn (he pins s σ H _ I h) fun v s1 ⟨x, H1, I1, r1, q1⟩ => ⟨x, σ, H1, I1, r1, q1⟩)
def tIfS (c : TT) (t u : TS) : TS := fun D σ H => c σ H fun b H1 => if b = true then t D σ H1 else u D σ H1
theorem ps_if {c : Expr} {a b : List Stmt} {tc : TT} (hc : PT X c tc) (ha : PSs X a t) (hb : PSs X b u) : PS X (.If c a b pos) (tIfS tc t u) := by
  intro pins s σ H D I h
  refine wpAny_If (thn (hc pins s σ H _ I h) fun d s1 ⟨H1, I1, q1⟩ => ?_)
  cases d with
  | true => exact ha pins s1 σ H1 D I1 q1
  | false => exact hb pins s1 σ H1 D I1 q1
end

abbrev TG := V → St → Hp → (St → Hp → Prop) → Prop
def PG (X : Cx) (target : Expr) (t : TG) : Prop :=
  ∀ (pins : List (Addr × Obj)) (s : Shared) (σ : St) (H : Hp) (v : V) (u : Value) (Q : St → Hp → Prop), Inv X pins σ H s → RelV v u → t v σ H Q →
    wpAny (model X.prog X.w) X.A (assign target X.env u) (fun _ s' => ∃ σ' H', Inv X pins σ' H' s' ∧ Q σ' H') X.xe s
section
variable {X : Cx} {pos : Pos}
def gName (i : Nat) : TG := fun v σ H Q => Q (σ.set i (some v)) H
theorem pg_name {i : Nat} {x : Str} (hN : X.N.Nodup) (hi : X.N[i]? = some x) (hx : Loc X.env.scope x) (hf : X.fn x = true ∨ X.env.scope.names.lookup x = some .local := by first | exact .inl rfl | exact .inr rfl | assumption) : PG X (.Name x pos) (gName i) := by
  intro pins s σ H v u Q I r h
  exact wpAny_assign_Name (store_ok I hN hi hx r (fun s' I' => ⟨_, H, I', h⟩) hf)
def tAsg (te : TE) (g : TG) : TS := fun D σ H => te σ H fun x H1 => g x σ H1 D.nx
theorem ps_set {i : Nat} {x : Str} {e : Expr} {te : TE} {pos' : Pos} (hN : X.N.Nodup) (hi : X.N[i]? = some x) (hx : Loc X.env.scope x) (he : PE X e te) (hs : swapsWith e (some (.Name x pos')) pos.line X.env = pure false := by rfl) (hf : X.fn x = true ∨ X.env.scope.names.lookup x = some .local := by first | exact .inl rfl | exact .inr rfl | assumption) :
    PS X (.Assign [.Name x pos'] e pos) (tAsg te (gName i)) := by
  intro pins s σ H D I h
  refine wpAny_Assign_Name (thn (he pins s σ H _ I h) fun v s1 ⟨y, H1, I1, r1, q1⟩ => ?_) hs
  exact store_ok I1 hN hi hx r1 (fun s2 I2 => ⟨_, H1, I2, q1⟩) hf
end

section
variable {X : Cx} {pos : Pos}
end

structure It where
  go : Nat → Hp → Prop
  yld : Nat → Hp → V → Hp → Prop
  stop : Nat → Hp → Prop
def FpOk (X : Cx) (pins : List (Addr × Obj)) (H : Hp) (b : Addr) : Prop :=
  H b = none ∧ b ≠ X.env.locals ∧ b ∉ X.fs ∧ (b ∈ X.ex ∨ X.s₀.heap.objs.size ≤ b) ∧ (∀ x c, X.env.cells.lookup x = some c → c ≠ b) ∧ ∀ p ∈ X.pn ++ pins, p.1 ≠ b
theorem Inv.fpOk {X : Cx} {pins : List (Addr × Obj)} {σ : St} {H H' : Hp} {s : Shared} {b : Addr} (I : Inv X pins σ H s) (hb : s.heap.objs.size ≤ b) (hn : H' b = none) : FpOk X pins H' b := by
  refine ⟨hn, Nat.ne_of_gt (Nat.lt_of_lt_of_le I.lt hb), I.nofs hb, .inr (Nat.le_trans I.sz hb), fun x c e z => ?_, fun p hp z => ?_⟩
  · obtain ⟨v, q⟩ := I.cell x c e
    exact absurd (Nat.lt_of_lt_of_le q.lt (by rw [z]; exact hb)) (Nat.lt_irrefl _)
  · exact absurd (Nat.lt_of_lt_of_le (Heap.lt_size (I.pin p hp).1) (by rw [z]; exact hb)) (Nat.lt_irrefl _)
structure Turn (P : Program) (w : World) (K : PySem.W.Frag) (tg : Expr) (J : It) (fp : List Addr) (it : Addr) (tn : Nat → Heap → Prop) : Prop where
  mem : it ∈ fp
  obj : ∀ i h, tn i h → ∀ b ∈ fp, ∃ o, h.get? b = some o ∧ ∀ v, o.data ≠ .cell v
  keep : ∀ i h h', tn i h → (∀ b ∈ fp, ∀ o, h.get? b = some o → h'.get? b = some o) → tn i h'
  item : ∀ (X : Cx), X.prog = P → X.w = w → X.K = K → X.calm = true → ∀ (i : Nat) (pins : List (Addr × Obj)) (s : Shared) (σ : St) (H : Hp) (E : Value → Shared → Prop), Inv X pins σ H s → (∀ b ∈ fp, FpOk X pins H b) → tn i s.heap → J.go i H →
    wpAny (model P w) X.A (pyNext (.ref it)) (fun r s1 => ∃ u, r = some u ∧
      wpAny (model P w) X.A (letOwnedTupleGo tg (.ref it) u) (fun _ s2 => ∃ x H', Inv X pins σ H' s2 ∧ RelV x u ∧ J.yld i H x H' ∧ tn (i + 1) s2.heap ∧ ∀ b ∈ fp, H' b = none) E s1) E s
  done : ∀ (X : Cx), X.prog = P → X.w = w → X.K = K → X.calm = true → ∀ (i : Nat) (pins : List (Addr × Obj)) (s : Shared) (σ : St) (H : Hp) (E : Value → Shared → Prop), Inv X pins σ H s → (∀ b ∈ fp, FpOk X pins H b) → tn i s.heap → J.stop i H →
    wpAny (model P w) X.A (pyNext (.ref it)) (fun r s1 => r = none ∧ Inv X pins σ H s1) E s
  self : ∀ (A : Around) (i : Nat) (s : Shared) (Q : Value → Shared → Prop) (E : Value → Shared → Prop), tn i s.heap → Q (.ref it) s → wpAny (model P w) A (pyIter (.ref it)) Q E s
abbrev TI := St → Hp → (It → Hp → Prop) → Prop
def PIE (X : Cx) (pins : List (Addr × Obj)) (σ : St) (tg : Expr) (R : It → Hp → Prop) (itv : Value) (s2 : Shared) : Prop :=
  ∃ (it : Addr) (fp : List Addr) (tn : Nat → Heap → Prop) (J : It) (H' : Hp), itv = .ref it ∧ Inv X pins σ H' s2 ∧ Turn X.prog X.w X.K tg J fp it tn ∧ tn 0 s2.heap ∧ (∀ b ∈ fp, FpOk X pins H' b) ∧ R J H'
def PI (X : Cx) (tg iter : Expr) (wi : TI) : Prop :=
  ∀ (pins : List (Addr × Obj)) (s : Shared) (σ : St) (H : Hp) (R : It → Hp → Prop), Inv X pins σ H s → wi σ H R →
    wpAny (model X.prog X.w) X.A (eval iter X.env) (fun v s1 => wpAny (model X.prog X.w) X.A (pyIter v) (PIE X pins σ tg R) X.xe s1) X.xe s

theorem go_of {M : Model} {A : Around} {E : Value → Shared → Prop} {s : Shared} {tg : Expr} {it : Addr} {u : Value} {o : Obj} {n : String} {vs : Array Value} {Q : Unit → Shared → Prop} (ho : s.heap.get? it = some o) (hc : o.cls = .type n) (hd : o.data = .fields vs)
    (hn : ["enumerate", "zip", "dict_itemiterator", "dict_reverseitemiterator", "odict_iterator", "itertools.zip_longest", "itertools.pairwise"].contains n = false) (hQ : Q () s) : wpAny M A (letOwnedTupleGo tg (.ref it) u) Q E s := by
  unfold letOwnedTupleGo
  cases tg <;> first
    | exact wpAny_pure hQ
    | (cases u <;> first
        | exact wpAny_pure hQ
        | (refine wpAny_bind (wpAny_load ho ?_)
           rw [hc, hd]
           show wpAny M A (if (["enumerate", "zip", "dict_itemiterator", "dict_reverseitemiterator", "odict_iterator", "itertools.zip_longest", "itertools.pairwise"].contains n && vs[0]? == some (rawInt _)) = true then _ else _) Q E s
           rw [if_neg (by intro h; rw [hn, Bool.false_and] at h; cases h)]
           exact wpAny_pure hQ))

def Itl (K : PySem.W.Frag) (a : Addr) : It :=
  ⟨fun i H => ∃ xs x, SqL K H a xs ∧ xs[i]? = some x, fun i H x H' => H' = H ∧ ∀ xs, SqL K H a xs → xs[i]? = some x, fun i H => ∃ xs, SqL K H a xs ∧ xs.length ≤ i⟩
def Itt (K : PySem.W.Frag) (a : Addr) : It :=
  ⟨fun i H => ∃ xs x, SqT K H a xs ∧ xs[i]? = some x, fun i H x H' => H' = H ∧ ∀ xs, SqT K H a xs → xs[i]? = some x, fun i H => ∃ xs, SqT K H a xs ∧ xs.length ≤ i⟩
theorem turn_list {P : Program} {w : World} {K : PySem.W.Frag} {tg : Expr} (a it : Addr) : Turn P w K tg (Itl K a) [it] it (fun i h => h.IsListIter it a i) where
  mem := by simp
  obj := fun i h st b hb => by
    have e : b = it := by simpa using hb
    subst e
    obtain ⟨o, e, c, d⟩ := st
    exact ⟨o, e, fun v z => by rw [d] at z; cases z⟩
  keep := fun i h h' st k => st.at fun o e => k it (by simp) o e
  item := by
    intro X hP hw hK hc i pins s σ H E I hf st hg
    subst hP hw hK
    obtain ⟨xs, x, hq, hx⟩ := hg
    obtain ⟨its, rv, p, hz⟩ := I.list hq
    obtain ⟨u, hu, ru⟩ := rv.get hx
    obtain ⟨f0, f1, f2, f3, f4, f5⟩ := hf it (by simp)
    refine wpAny_pyNext_list_item st p.isList (x := u) (by simpa using hu) fun h' st' sb => ?_
    have I1 : Inv X pins σ H { s with heap := h' } := I.turned (t' := s.toks) (fun b o hb e => (sb.2 b hb).trans e) f0 f1 f3 f4 f5
    obtain ⟨o, e, c, d⟩ := id st'
    exact ⟨u, rfl, go_of (s := { s with heap := h' }) e c d (by decide) ⟨x, H, I1, ru, ⟨rfl, fun ys hy => by rw [I.list_inj hy hq]; exact hx⟩, st', fun b hb => (hf b hb).1⟩⟩
  done := by
    intro X hP hw hK hc i pins s σ H E I hf st hg
    subst hP hw hK
    obtain ⟨xs, hq, hx⟩ := hg
    obtain ⟨its, rv, p, hz⟩ := I.list hq
    obtain ⟨f0, f1, f2, f3, f4, f5⟩ := hf it (by simp)
    have hl := rv.length
    exact wpAny_pyNext_list_end (I.ok.hd hc) st p.isList (by simp; omega) fun h' eb => ⟨rfl, I.turned (t' := s.toks) (fun b o hb e => eb b o hb e) f0 f1 f3 f4 f5⟩
  self := fun _ _ _ _ _ st h => wpAny_pyIter_listiter st h
theorem turn_tuple {P : Program} {w : World} {K : PySem.W.Frag} {tg : Expr} (a it : Addr) : Turn P w K tg (Itt K a) [it] it (fun i h => h.IsTupleIter it a i) where
  mem := by simp
  obj := fun i h st b hb => by
    have e : b = it := by simpa using hb
    subst e
    obtain ⟨o, e, c, d⟩ := st
    exact ⟨o, e, fun v z => by rw [d] at z; cases z⟩
  keep := fun i h h' st k => st.at fun o e => k it (by simp) o e
  item := by
    intro X hP hw hK hc i pins s σ H E I hf st hg
    subst hP hw hK
    obtain ⟨xs, x, hq, hx⟩ := hg
    obtain ⟨its, rv, p, hz⟩ := I.tuple hq
    obtain ⟨u, hu, ru⟩ := rv.get hx
    obtain ⟨f0, f1, f2, f3, f4, f5⟩ := hf it (by simp)
    refine wpAny_pyNext_tuple_item st (show s.heap.IsTuple a its.toArray from p) (x := u) (by simpa using hu) fun h' st' sb => ?_
    have I1 : Inv X pins σ H { s with heap := h' } := I.turned (t' := s.toks) (fun b o hb e => (sb.2 b hb).trans e) f0 f1 f3 f4 f5
    obtain ⟨o, e, c, d⟩ := id st'
    exact ⟨u, rfl, go_of (s := { s with heap := h' }) e c d (by decide) ⟨x, H, I1, ru, ⟨rfl, fun ys hy => by rw [I.tuple_inj hy hq]; exact hx⟩, st', fun b hb => (hf b hb).1⟩⟩
  done := by
    intro X hP hw hK hc i pins s σ H E I hf st hg
    subst hP hw hK
    obtain ⟨xs, hq, hx⟩ := hg
    obtain ⟨its, rv, p, hz⟩ := I.tuple hq
    obtain ⟨f0, f1, f2, f3, f4, f5⟩ := hf it (by simp)
    have hl := rv.length
    exact wpAny_pyNext_tuple_end (I.ok.hd hc) st (show s.heap.IsTuple a its.toArray from p) (by simp; omega) fun h' eb => ⟨rfl, I.turned (t' := s.toks) (fun b o hb e => eb b o hb e) f0 f1 f3 f4 f5⟩
  self := fun _ _ _ _ _ st h => wpAny_pyIter_tupleiter st h
end L2

namespace L2
open PySem PySem.Spec PyProof.Rows
section
variable {X : Cx} {tg : Expr}
def iList (K : PySem.W.Frag) (tl : TE) : TI := fun σ H R => tl σ H fun x H1 => ∃ a, x = .ref a ∧ (∃ xs, SqL K H1 a xs) ∧ R (Itl K a) H1
def iTup (K : PySem.W.Frag) (tl : TE) : TI := fun σ H R => tl σ H fun x H1 => ∃ a, x = .ref a ∧ (∃ xs, SqT K H1 a xs) ∧ R (Itt K a) H1
theorem pi_list {l : Expr} {tl : TE} (hl : PE X l tl) : PI X tg l (iList X.K tl) := by
  intro pins s σ H R I h
  refine thn (hl pins s σ H _ I h) fun v s1 ⟨x, H1, I1, r1, q1⟩ => ?_
  obtain ⟨a, e, ⟨xs, hq⟩, q⟩ := q1
  subst e
  cases r1
  obtain ⟨its, rv, p, hz⟩ := I1.list hq
  refine wpAny_pyIter_list p.isList ?_
  refine ⟨s1.heap.objs.size, [s1.heap.objs.size], _, _, H1, rfl, I1.kept (t' := s1.toks) fun b o e => Heap.get?_push_of_some _ e, turn_list a _, ⟨_, Heap.get?_push_size _ rfl, rfl, rfl⟩, fun b hb => ?_, q⟩
  have e : b = s1.heap.objs.size := by simpa using hb
  subst e
  exact I1.fpOk (Nat.le_refl _) (I1.hok.fresh (Nat.le_refl _))
theorem pi_tup {l : Expr} {tl : TE} (hl : PE X l tl) : PI X tg l (iTup X.K tl) := by
  intro pins s σ H R I h
  refine thn (hl pins s σ H _ I h) fun v s1 ⟨x, H1, I1, r1, q1⟩ => ?_
  obtain ⟨a, e, ⟨xs, hq⟩, q⟩ := q1
  subst e
  cases r1
  obtain ⟨its, rv, p, hz⟩ := I1.tuple hq
  refine wpAny_pyIter_tuple (show s1.heap.IsTuple a its.toArray from p) ?_
  refine ⟨s1.heap.objs.size, [s1.heap.objs.size], _, _, H1, rfl, I1.kept (t' := s1.toks) fun b o e => Heap.get?_push_of_some _ e, turn_tuple a _, ⟨_, Heap.get?_push_size _ rfl, rfl, rfl⟩, fun b hb => ?_, q⟩
  have e : b = s1.heap.objs.size := by simpa using hb
  subst e
  exact I1.fpOk (Nat.le_refl _) (I1.hok.fresh (Nat.le_refl _))
def tFor (wi : TI) (g : TG) (tb : TS) : TS := fun D σ H => wi σ H fun J H1 => ∃ W : Nat → Nat → St → Hp → Prop, (∃ m, W 0 m σ H1) ∧ ∀ i m σ H, W i m σ H →
  (J.stop i H ∧ D.nx σ H) ∨ (J.go i H ∧ ∃ N : St → Hp → Prop, (∀ σ' H', N σ' H' → ∃ m', m' < m ∧ W (i + 1) m' σ' H') ∧ ∀ x H', J.yld i H x H' → g x σ H' fun σ2 H2 => tb { D with nx := N, ct := N, bk := D.nx } σ2 H2)
def pinsAt (fp : List Addr) (h : Heap) : List (Addr × Obj) := fp.filterMap fun b => (h.get? b).map fun o => (b, o)
theorem mem_pinsAt {fp : List Addr} {h : Heap} {b : Addr} {o : Obj} (hb : b ∈ fp) (e : h.get? b = some o) : (b, o) ∈ pinsAt fp h := List.mem_filterMap.mpr ⟨b, hb, by rw [e]; rfl⟩
theorem of_pinsAt {fp : List Addr} {h : Heap} {p : Addr × Obj} (hp : p ∈ pinsAt fp h) : p.1 ∈ fp ∧ h.get? p.1 = some p.2 := by
  obtain ⟨b, hb, e⟩ := List.mem_filterMap.mp hp
  cases q : h.get? b with
  | none => rw [q] at e; cases e
  | some o =>
    rw [q] at e
    have e' : (b, o) = p := Option.some.inj e
    subst e'
    exact ⟨hb, q⟩
theorem Inv.pinned {pins : List (Addr × Obj)} {σ : St} {H : Hp} {s : Shared} {fp : List Addr} (I : Inv X pins σ H s) (hf : ∀ b ∈ fp, FpOk X pins H b) (ho : ∀ b ∈ fp, ∃ o, s.heap.get? b = some o ∧ ∀ v, o.data ≠ .cell v) : Inv X (pins ++ pinsAt fp s.heap) σ H s :=
  I.pins_of fun p hp => (List.mem_append.mp hp).elim (fun z => I.pin p (List.mem_append_right _ z)) fun z => by
    obtain ⟨hb, e⟩ := of_pinsAt z
    obtain ⟨f0, f1, f2, _⟩ := hf p.1 hb
    obtain ⟨o, e', d⟩ := ho p.1 hb
    rw [e] at e'; cases e'
    exact ⟨e, f0, f1, f2, d⟩
theorem Inv.unpinned {pins pl : List (Addr × Obj)} {σ : St} {H : Hp} {s : Shared} (I : Inv X (pins ++ pl) σ H s) : Inv X pins σ H s := I.pins_of fun p hp => I.pin p (List.mem_append_right _ (List.mem_append_left _ hp))
theorem ps_for {iter : Expr} {body : List Stmt} {wi : TI} {g : TG} {tb : TS} {pos : Pos} (hp : PassesOwn (model X.prog X.w) X.A X.env X.xe) (hc : X.calm = true) (hi : PI X tg iter wi) (hg : PG X tg g) (hb : PSs X body tb)
    (hs : ∀ x, foldedSetIterable iter X.env x = pure x := by intro _; rfl) : PS X (.For tg iter body [] pos) (tFor wi g tb) := by
  intro pins s σ H D I h
  refine wpAny_For (thn (hi pins s σ H _ I h) fun v s1 h1 => thn h1 fun itv s2 h2 => ?_) hs
  obtain ⟨it, fp, tn, J, H2, e, I2, T, st2, f2, W, ⟨m0, w0⟩, turn⟩ := h2
  subst e
  -- what stays true of the iterator's objects through the loop
  have stat : ∀ {H' : Hp}, (∀ b ∈ fp, H' b = none) → ∀ b ∈ fp, FpOk X pins H' b := fun hn b hb => ⟨hn b hb, (f2 b hb).2⟩
  refine codeAny_forLoop_any (fun n s' => ∃ i σ' H', Inv X pins σ' H' s' ∧ tn i s'.heap ∧ (∀ b ∈ fp, H' b = none) ∧ W i n σ' H') ?_ m0 ⟨0, σ, H2, I2, st2, fun b hb => (f2 b hb).1, w0⟩
  rintro n s3 ⟨i, σ3, H3, I3, st3, fr3, w3⟩
  rcases turn i n σ3 H3 w3 with ⟨stop, qn⟩ | ⟨go, N, hN, step⟩
  · refine wpAny_passesOwn hp (thn (T.done X rfl rfl rfl hc i pins s3 σ3 H3 X.xe I3 (stat fr3) st3 stop) fun r s4 ⟨hr, I4⟩ => ?_)
    subst hr
    exact wpAny_execs_nil ⟨σ3, H3, I4, qn⟩
  · refine wpAny_passesOwn hp (thn (T.item X rfl rfl rfl hc i pins s3 σ3 H3 X.xe I3 (stat fr3) st3 go) fun r s4 ⟨u, hr, h4⟩ => ?_)
    subst hr
    refine wpAny_passesOwn hp (thn h4 fun _ s5 ⟨x, H5, I5, r5, y5, st5, fr5⟩ => ?_)
    have I5' := I5.pinned (stat fr5) (T.obj _ _ st5)
    refine wpAny_passesOwn hp (thn (hg _ s5 σ3 H5 x u _ I5' r5 (step x H5 y5)) fun _ s6 ⟨σ6, H6, I6, q6⟩ => ?_)
    refine wpAny_passesOwn hp (thn (hb _ s6 σ6 H6 _ I6 q6) fun f s7 q7 => ?_)
    have again : ∀ {σ7 : St} {H7 : Hp}, Inv X (pins ++ pinsAt fp s5.heap) σ7 H7 s7 → N σ7 H7 → ∃ m, m < n ∧ ∃ i σ' H', Inv X pins σ' H' s7 ∧ tn i s7.heap ∧ (∀ b ∈ fp, H' b = none) ∧ W i m σ' H' := fun {σ7 H7} I7 n7 => by
      obtain ⟨m', hm, w7⟩ := hN σ7 H7 n7
      refine ⟨m', hm, i + 1, σ7, H7, I7.unpinned, T.keep _ _ _ st5 fun b hb o e => (I7.pin (b, o) (List.mem_append_right _ (List.mem_append_right _ (mem_pinsAt hb e)))).1, fun b hb => ?_, w7⟩
      obtain ⟨o, e, d⟩ := T.obj _ _ st5 b hb
      exact (I7.pin (b, o) (List.mem_append_right _ (List.mem_append_right _ (mem_pinsAt hb e)))).2.1
    cases f with
    | next => obtain ⟨σ7, H7, I7, n7⟩ := q7; exact again I7 n7
    | cont => obtain ⟨σ7, H7, I7, n7⟩ := q7; exact again I7 n7
    | brk => obtain ⟨σ7, H7, I7, q7⟩ := q7; exact ⟨σ7, H7, I7.unpinned, q7⟩
    | ret v => obtain ⟨x7, σ7, H7, I7, r7, q7⟩ := q7; exact ⟨x7, σ7, H7, I7.unpinned, r7, q7⟩
end

end L2

namespace L2
open PySem PySem.Spec PyProof.Rows

abbrev R2 := V → V → Hp → VK → Prop
def OpR (X : Cx) (f : Value → Value → Sem Value) (r : R2) : Prop :=
  ∀ (pins : List (Addr × Obj)) (s : Shared) (σ : St) (H : Hp) (x y : V) (v u : Value) (Q : VK), Inv X pins σ H s → RelV x v → RelV y u → r x y H Q →
    wpAny (model X.prog X.w) X.A (f v u) (EP X pins σ Q) X.xe s
def UnR (X : Cx) (f : Value → Sem Value) (r : V → Hp → VK → Prop) : Prop :=
  ∀ (pins : List (Addr × Obj)) (s : Shared) (σ : St) (H : Hp) (x : V) (v : Value) (Q : VK), Inv X pins σ H s → RelV x v → r x H Q →
    wpAny (model X.prog X.w) X.A (f v) (EP X pins σ Q) X.xe s
def CallR (X : Cx) (f : Value) (r : List V → Hp → VK → Prop) : Prop :=
  ∀ (pins : List (Addr × Obj)) (s : Shared) (σ : St) (H : Hp) (xs : List V) (us : List Value) (Q : VK), Inv X pins σ H s → Vals xs us → r xs H Q →
    wpAny (model X.prog X.w) X.A (call f us) (EP X pins σ Q) X.xe s
def tOp (r : R2) (ta tb : TE) : TE := fun σ H Q => ta σ H fun x H1 => tb σ H1 fun y H2 => r x y H2 Q
def tUn (r : V → Hp → VK → Prop) (ta : TE) : TE := fun σ H Q => ta σ H fun x H1 => r x H1 Q
def rI (C : Int → Int → Prop) (g : Int → Int → V) : R2 := fun x y H Q => ∃ i j, x = .int i ∧ y = .int j ∧ C i j ∧ Q (g i j) H
def rI0 (g : Int → Int → V) : R2 := fun x y H Q => ∃ i j, x = .int i ∧ y = .int j ∧ Q (g i j) H
def rU (g : Int → V) : V → Hp → VK → Prop := fun x H Q => ∃ i, x = .int i ∧ Q (g i) H

section
variable {X : Cx} {a b c : Expr} {ta tb tc : TE} {pos : Pos}

theorem binT (ha : PE X a ta) (hb : PE X b tb) {pins : List (Addr × Obj)} {s : Shared} {σ : St} {H : Hp} {R : V → V → Hp → Prop} (I : Inv X pins σ H s)
    (h : ta σ H fun x H1 => tb σ H1 fun y H2 => R x y H2) {Q : Value → Shared → Prop} {f : Value → Value → Sem Value}
    (hf : ∀ v u s2 x y H2, Inv X pins σ H2 s2 → RelV x v → RelV y u → R x y H2 → wpAny (model X.prog X.w) X.A (f v u) Q X.xe s2) :
    wpAny (model X.prog X.w) X.A (eval a X.env) (fun v s₁ => wpAny (model X.prog X.w) X.A (eval b X.env) (fun u s₂ => wpAny (model X.prog X.w) X.A (f v u) Q X.xe s₂) X.xe s₁) X.xe s := by
  refine thn (ha pins s σ H _ I h) fun v s1 ⟨x, H1, I1, r1, q1⟩ => ?_
  refine thn (hb pins s1 σ H1 _ I1 q1) fun u s2 ⟨y, H2, I2, r2, q2⟩ => ?_
  exact hf v u s2 x y H2 I2 r1 r2 q2

theorem pe_op {op : Operator} {r : R2} (ho : OpR X (binaryOp op) r) (ha : PE X a ta) (hb : PE X b tb) : PE X (.BinOp a op b pos) (tOp r ta tb) := by
  intro pins s σ H Q I h
  exact wpAny_BinOp (binT ha hb I h fun v u s2 x y H2 I2 rx ry q => ho pins s2 σ H2 x y v u Q I2 rx ry q)
theorem pe_un {op : UnaryOp} {r : V → Hp → VK → Prop} (ho : UnR X (unaryOp op) r) (ha : PE X a ta) : PE X (.UnaryOp op a pos) (tUn r ta) := by
  intro pins s σ H Q I h
  exact UnaryOp_ (thn (ha pins s σ H _ I h) fun v s1 ⟨x, H1, I1, r1, q1⟩ => ho pins s1 σ H1 x v Q I1 r1 q1)
theorem opI {f : Value → Value → Sem Value} {C : Int → Int → Prop} {g : Int → Int → Int}
    (rule : ∀ (i j : Int) (t u : Tok) (s : Shared) (Q : Value → Shared → Prop) (E : Value → Shared → Prop), C i j → Q (.int (g i j) s.toks) { s with toks := s.toks + 1 } → wpAny (model X.prog X.w) X.A (f (.int i t) (.int j u)) Q E s) :
    OpR X f (rI C fun i j => .int (g i j)) := by
  intro pins s σ H x y v u Q I rx ry h
  obtain ⟨i, j, rfl, rfl, hc, q⟩ := h
  obtain ⟨t, rfl⟩ := rx
  obtain ⟨t', rfl⟩ := ry
  exact rule i j t t' s _ _ hc ⟨.int (g i j), H, I.tok _, ⟨_, rfl⟩, q⟩
theorem opI0 {f : Value → Value → Sem Value} {g : Int → Int → Int}
    (rule : ∀ (i j : Int) (t u : Tok) (s : Shared) (Q : Value → Shared → Prop) (E : Value → Shared → Prop), Q (.int (g i j) s.toks) { s with toks := s.toks + 1 } → wpAny (model X.prog X.w) X.A (f (.int i t) (.int j u)) Q E s) :
    OpR X f (rI0 fun i j => .int (g i j)) := by
  intro pins s σ H x y v u Q I rx ry h
  obtain ⟨i, j, rfl, rfl, q⟩ := h
  obtain ⟨t, rfl⟩ := rx
  obtain ⟨t', rfl⟩ := ry
  exact rule i j t t' s _ _ ⟨.int (g i j), H, I.tok _, ⟨_, rfl⟩, q⟩
theorem opB0 {f : Value → Value → Sem Value} {g : Int → Int → Bool}
    (rule : ∀ (i j : Int) (t u : Tok) (s : Shared) (Q : Value → Shared → Prop) (E : Value → Shared → Prop), Q (.bool (g i j)) s → wpAny (model X.prog X.w) X.A (f (.int i t) (.int j u)) Q E s) :
    OpR X f (rI0 fun i j => .bl (g i j)) := by
  intro pins s σ H x y v u Q I rx ry h
  obtain ⟨i, j, rfl, rfl, q⟩ := h
  obtain ⟨t, rfl⟩ := rx
  obtain ⟨t', rfl⟩ := ry
  exact rule i j t t' s _ _ ⟨.bl (g i j), H, I, rfl, q⟩

def CDiv (i j : Int) : Prop := 0 < j ∧ j < 1073741824
def CMul (i j : Int) : Prop := (-(2 ^ 64) < i ∧ i < 2 ^ 64) ∨ (-(2 ^ 64) < j ∧ j < 2 ^ 64)
theorem CMul.ok {i j : Int} (h : CMul i j) : IntMulOk i j := by
  rcases h with ⟨h1, h2⟩ | ⟨h1, h2⟩
  · exact .of_left (intBits_le_64 h1 h2)
  · exact .of_right (intBits_le_64 h1 h2)
theorem op_add : OpR X (binaryOp .Add) (rI0 fun i j => .int (i + j)) := opI0 fun _ _ _ _ _ _ _ q => add_int q
theorem op_sub : OpR X (binaryOp .Sub) (rI0 fun i j => .int (i - j)) := opI0 fun _ _ _ _ _ _ _ q => sub_int q
theorem op_mul : OpR X (binaryOp .Mult) (rI CMul fun i j => .int (i * j)) := opI fun _ _ _ _ _ _ _ hc q => mul_int q hc.ok
theorem op_fdiv : OpR X (binaryOp .FloorDiv) (rI CDiv fun i j => .int (i / j)) := opI fun i j _ _ _ _ _ hc q => by
  have h1 : (0 : Int) < j := hc.1
  have h2 : j < 1073741824 := hc.2
  exact floordiv_int (by omega) (by rw [Int.fdiv_eq_ediv_of_nonneg i (by omega)]; exact q) (.inl (PyProof.noPylong_small (by omega)))
theorem op_mod : OpR X (binaryOp .Mod) (rI (fun _ j => 0 < j) fun i j => .int (i % j)) := opI fun i j _ _ _ _ _ hc q => by
  have h1 : (0 : Int) < j := hc
  exact mod_int' (by omega) (by rw [Int.fmod_eq_emod_of_nonneg i (by omega)]; exact q)
theorem unI {f : Value → Sem Value} {g : Int → Int}
    (rule : ∀ (i : Int) (t : Tok) (s : Shared) (Q : Value → Shared → Prop) (E : Value → Shared → Prop), Q (.int (g i) s.toks) { s with toks := s.toks + 1 } → wpAny (model X.prog X.w) X.A (f (.int i t)) Q E s) :
    UnR X f (rU fun i => .int (g i)) := by
  intro pins s σ H x v Q I rx h
  obtain ⟨i, rfl, q⟩ := h
  obtain ⟨t, rfl⟩ := rx
  exact rule i t s _ _ ⟨.int (g i), H, I.tok _, ⟨_, rfl⟩, q⟩
theorem un_neg : UnR X (unaryOp .USub) (rU fun i => .int (-i)) := unI fun _ _ _ _ _ q => neg_int q
end

def scal : V → V → Bool
  | .non, .non => true | .non, .int _ => true | .int _, .non => true | .non, .bl _ => true | .bl _, .non => true | .non, .str _ => true | .str _, .non => true
  | .int _, .int _ => true | .bl _, .bl _ => true | .str _, .str _ => true | .byt _, .byt _ => true
  | .int _, .str _ => true | .str _, .int _ => true | .bl _, .str _ => true | .str _, .bl _ => true
  | _, _ => false
def rEq : R2 := fun x y H Q => scal x y = true ∧ Q (.bl (decide (x = y))) H
def rNe : R2 := fun x y H Q => scal x y = true ∧ Q (.bl (!decide (x = y))) H

theorem dec_int {i j : Int} : decide (V.int i = V.int j) = (i == j) := by
  rw [Bool.eq_iff_iff]
  simp
theorem dec_bl {i j : Bool} : decide (V.bl i = V.bl j) = (i == j) := by
  rw [Bool.eq_iff_iff]
  simp
theorem dec_str {i j : Str} : decide (V.str i = V.str j) = (i == j) := by
  rw [Bool.eq_iff_iff]
  simp
theorem dec_byt {i j : Array UInt8} : decide (V.byt i = V.byt j) = (i.toList == j.toList) := by
  rw [Bool.eq_iff_iff]
  cases i
  cases j
  simp

section
variable {X : Cx} {a b c : Expr} {ta tb tc : TE} {pos : Pos}
theorem fin_bl {pins : List (Addr × Obj)} {σ : St} {H : Hp} {s : Shared} {Q : VK} {k k' : Bool} (I : Inv X pins σ H s) (q : Q (.bl k) H) (e : k = k') : EP X pins σ Q (.bool k') s := by
  subst e
  exact ⟨.bl k, H, I, rfl, q⟩
theorem op_eq : OpR X (compareOp .Eq) rEq := by
  intro pins s σ H x y v u Q I rx ry h
  obtain ⟨hs, q⟩ := h
  cases x with
  | non =>
    cases rx
    cases y with
    | non => cases ry; exact PySem.EqNone.eq_none_none (fin_bl I q (by simp))
    | bl j => cases ry; exact PySem.EqNone.eq_none_bool (fin_bl I q (by simp))
    | int j => obtain ⟨t', rfl⟩ := ry; exact PySem.EqNone.eq_none_int (fin_bl I q (by simp))
    | str j => obtain ⟨t', rfl⟩ := ry; exact PySem.EqNone.eq_none_str (fin_bl I q (by simp))
    | _ => exact absurd (show false = true from hs) Bool.false_ne_true
  | bl i =>
    cases rx
    cases y with
    | non => cases ry; exact PySem.EqNone.eq_bool_none (fin_bl I q (by simp))
    | bl j => cases ry; exact eq_bool (fin_bl I q dec_bl)
    | str j => obtain ⟨t', rfl⟩ := ry; exact PySem.EqMixed.eq_bool_str (fin_bl I q (by simp))
    | _ => exact absurd (show false = true from hs) Bool.false_ne_true
  | int i =>
    obtain ⟨t, rfl⟩ := rx
    cases y with
    | non => cases ry; exact PySem.EqNone.eq_int_none (fin_bl I q (by simp))
    | int j => obtain ⟨t', rfl⟩ := ry; exact eq_int (fin_bl I q dec_int)
    | str j => obtain ⟨t', rfl⟩ := ry; exact PySem.EqMixed.eq_int_str (fin_bl I q (by simp))
    | _ => exact absurd (show false = true from hs) Bool.false_ne_true
  | str i =>
    obtain ⟨t, rfl⟩ := rx
    cases y with
    | non => cases ry; exact PySem.EqNone.eq_str_none (fin_bl I q (by simp))
    | bl j => cases ry; exact PySem.EqMixed.eq_str_bool (fin_bl I q (by simp))
    | int j => obtain ⟨t', rfl⟩ := ry; exact PySem.EqMixed.eq_str_int (fin_bl I q (by simp))
    | str j => obtain ⟨t', rfl⟩ := ry; exact eq_str (fin_bl I q dec_str)
    | _ => exact absurd (show false = true from hs) Bool.false_ne_true
  | byt i =>
    obtain ⟨t, rfl⟩ := rx
    cases y with
    | byt j => obtain ⟨t', rfl⟩ := ry; exact PySem.W.eq_bytes (fin_bl I q dec_byt)
    | _ => exact absurd (show false = true from hs) Bool.false_ne_true
  | _ => cases y <;> exact absurd (show false = true from hs) Bool.false_ne_true
theorem op_ne : OpR X (compareOp .NotEq) rNe := by
  intro pins s σ H x y v u Q I rx ry h
  obtain ⟨hs, q⟩ := h
  cases x with
  | non =>
    cases rx
    cases y with
    | non => cases ry; exact PySem.EqNone.ne_none_none (fin_bl I q (by simp))
    | bl j => cases ry; exact PySem.EqNone.ne_none_bool (fin_bl I q (by simp))
    | int j => obtain ⟨t', rfl⟩ := ry; exact PySem.EqNone.ne_none_int (fin_bl I q (by simp))
    | str j => obtain ⟨t', rfl⟩ := ry; exact PySem.EqNone.ne_none_str (fin_bl I q (by simp))
    | _ => exact absurd (show false = true from hs) Bool.false_ne_true
  | bl i =>
    cases rx
    cases y with
    | non => cases ry; exact PySem.EqNone.ne_bool_none (fin_bl I q (by simp))
    | bl j => cases ry; exact ne_bool (fin_bl I q (congrArg not dec_bl))
    | str j => obtain ⟨t', rfl⟩ := ry; exact PySem.EqMixed.ne_bool_str (fin_bl I q (by simp))
    | _ => exact absurd (show false = true from hs) Bool.false_ne_true
  | int i =>
    obtain ⟨t, rfl⟩ := rx
    cases y with
    | non => cases ry; exact PySem.EqNone.ne_int_none (fin_bl I q (by simp))
    | int j => obtain ⟨t', rfl⟩ := ry; exact ne_int (fin_bl I q (congrArg not dec_int))
    | str j => obtain ⟨t', rfl⟩ := ry; exact PySem.EqMixed.ne_int_str (fin_bl I q (by simp))
    | _ => exact absurd (show false = true from hs) Bool.false_ne_true
  | str i =>
    obtain ⟨t, rfl⟩ := rx
    cases y with
    | non => cases ry; exact PySem.EqNone.ne_str_none (fin_bl I q (by simp))
    | bl j => cases ry; exact PySem.EqMixed.ne_str_bool (fin_bl I q (by simp))
    | int j => obtain ⟨t', rfl⟩ := ry; exact PySem.EqMixed.ne_str_int (fin_bl I q (by simp))
    | str j => obtain ⟨t', rfl⟩ := ry; exact ne_str (fin_bl I q (congrArg not dec_str))
    | _ => exact absurd (show false = true from hs) Bool.false_ne_true
  | byt i =>
    obtain ⟨t, rfl⟩ := rx
    cases y with
    | byt j => obtain ⟨t', rfl⟩ := ry; exact PySem.W.ne_bytes (fin_bl I q (congrArg not dec_byt))
    | _ => exact absurd (show false = true from hs) Bool.false_ne_true
  | _ => cases y <;> exact absurd (show false = true from hs) Bool.false_ne_true

theorem op_lt : OpR X (compareOp .Lt) (rI0 fun i j => .bl (decide (i < j))) := opB0 fun _ _ _ _ _ _ _ q => lt_int q
theorem op_gt : OpR X (compareOp .Gt) (rI0 fun i j => .bl (decide (j < i))) := opB0 fun _ _ _ _ _ _ _ q => gt_int q
theorem op_in_str : OpR X (compareOp .In) (fun x y H Q => ∃ i j, x = .str i ∧ y = .str j ∧ Q (.bl (!(Builtin.Str.occurrences j i 0 j.length 1).isEmpty)) H) := by
  intro pins s σ H x y v u Q I rx ry h
  obtain ⟨i, j, rfl, rfl, q⟩ := h
  obtain ⟨t, rfl⟩ := rx
  obtain ⟨t', rfl⟩ := ry
  exact in_str (fin_bl I q rfl)

theorem OpR.or {f : Value → Value → Sem Value} {r r' : R2} (h : OpR X f r) (h' : OpR X f r') : OpR X f (fun x y H Q => r x y H Q ∨ r' x y H Q) := by
  intro pins s σ H x y v u Q I rx ry q
  rcases q with q | q
  · exact h pins s σ H x y v u Q I rx ry q
  · exact h' pins s σ H x y v u Q I rx ry q

theorem nomark (b : Expr) {op : CmpOp} (h : op ≠ .In := by decide) (h2 : op ≠ .NotIn := by decide) : behindInMarks op b = false := by
  have e1 : (op == CmpOp.In) = false := by cases op <;> first | rfl | exact absurd rfl h
  have e2 : (op == CmpOp.NotIn) = false := by cases op <;> first | rfl | exact absurd rfl h2
  cases b <;> simp [behindInMarks, e1, e2]
theorem pe_cmpR {op : CmpOp} {r : R2} (ho : OpR X (compareOp op) r) (ha : PE X a ta) (hb : PE X b tb) (hm : behindInMarks op b = false) : PE X (.Compare a [op] [b] pos) (tOp r ta tb) := by
  intro pins s σ H Q I h
  exact wpAny_Compare1 (binT ha hb I h fun v u s2 x y H2 I2 rx ry q => ho pins s2 σ H2 x y v u Q I2 rx ry q) hm
def tTest (t : TE) : TT := fun σ H Q => t σ H fun x H' => ∃ k, x = .bl k ∧ Q k H'
theorem pt_cmpR {op : CmpOp} {r : R2} (ho : OpR X (compareOp op) r) (ha : PE X a ta) (hb : PE X b tb) (hm : behindInMarks op b = false) : PT X (.Compare a [op] [b] pos) (tTest (tOp r ta tb)) := by
  intro pins s σ H Q I h
  refine wpAny_isTrue_Compare1 (thn (ha pins s σ H _ I h) fun v s1 ⟨x, H1, I1, r1, q1⟩ => thn (hb pins s1 σ H1 _ I1 q1) fun u s2 ⟨y, H2, I2, r2, q2⟩ =>
    thn (ho pins s2 σ H2 x y v u _ I2 r1 r2 q2) fun c s3 ⟨z, H3, I3, r3, k, e, q3⟩ => ?_) hm
  subst e
  cases r3
  exact wpAny_truthy_bool ⟨H3, I3, q3⟩
def tChain (r r' : R2) (ta tb tc : TE) : TE := fun σ H Q => ta σ H fun x H1 => tb σ H1 fun y H2 => r x y H2 fun z H3 => ∃ k, z = .bl k ∧
  (if k = true then tc σ H3 fun w' H4 => r' y w' H4 Q else Q (.bl false) H3)
theorem pe_chain {op op' : CmpOp} {r r' : R2} (ho : OpR X (compareOp op) r) (ho' : OpR X (compareOp op') r') (ha : PE X a ta) (hb : PE X b tb) (hc : PE X c tc)
    (hm : lastMarks [op, op'] [b, c] = false := by with_unfolding_all rfl) : PE X (.Compare a [op, op'] [b, c] pos) (tChain r r' ta tb tc) := by
  intro pins s σ H Q I h
  refine Compare_chain (thn (ha pins s σ H _ I h) fun v s1 ⟨x, H1, I1, r1, q1⟩ => chain_link (thn (hb pins s1 σ H1 _ I1 q1) fun u s2 ⟨y, H2, I2, r2, q2⟩ =>
    thn (ho pins s2 σ H2 x y v u _ I2 r1 r2 q2) fun d s3 ⟨z, H3, I3, r3, k, e, q3⟩ => ?_)) hm
  subst e
  cases r3
  refine wpAny_truthy_bool ?_
  cases k with
  | false => exact ite_ff ⟨.bl false, H3, I3, rfl, q3⟩
  | true => exact ite_tt (chain_last (thn (hc pins s3 σ H3 _ I3 q3) fun w' s4 ⟨z', H4, I4, r4, q4⟩ => ho' pins s4 σ H4 y z' u w' Q I4 r2 r4 q4))
theorem pt_chain {op op' : CmpOp} {r r' : R2} (ho : OpR X (compareOp op) r) (ho' : OpR X (compareOp op') r') (ha : PE X a ta) (hb : PE X b tb) (hc : PE X c tc)
    (hm : lastMarks [op, op'] [b, c] = false := by with_unfolding_all rfl) : PT X (.Compare a [op, op'] [b, c] pos) (tTest (tChain r r' ta tb tc)) := by
  intro pins s σ H Q I h
  refine isTrue_chain (thn (ha pins s σ H _ I h) fun v s1 ⟨x, H1, I1, r1, q1⟩ => test_link (thn (hb pins s1 σ H1 _ I1 q1) fun u s2 ⟨y, H2, I2, r2, q2⟩ =>
    thn (ho pins s2 σ H2 x y v u _ I2 r1 r2 q2) fun d s3 ⟨z, H3, I3, r3, k, e, q3⟩ => ?_)) hm
  subst e
  cases r3
  refine wpAny_truthy_bool ?_
  cases k with
  | false =>
    obtain ⟨k', e', q'⟩ := q3
    cases e'
    exact ite_ff ⟨H3, I3, q'⟩
  | true =>
    refine ite_tt (test_last (thn (hc pins s3 σ H3 _ I3 q3) fun w' s4 ⟨z', H4, I4, r4, q4⟩ => thn (ho' pins s4 σ H4 y z' u w' _ I4 r2 r4 q4) fun d' s5 ⟨z2, H5, I5, r5, k2, e2, q5⟩ => ?_))
    subst e2
    cases r5
    exact wpAny_truthy_bool ⟨H5, I5, q5⟩

theorem line63 : (sizeLine : Nat) < 2 ^ 63 := by rw [sizeLine_eq]; decide
theorem op_add_str : OpR X (binaryOp .Add) (fun x y H Q => ∃ i j, x = .str i ∧ y = .str j ∧ i.length + j.length ≤ sizeLine ∧ Q (.str (i ++ j)) H) := by
  intro pins s σ H x y v u Q I rx ry h
  obtain ⟨i, j, rfl, rfl, hz, q⟩ := h
  obtain ⟨t, rfl⟩ := rx
  obtain ⟨t', rfl⟩ := ry
  exact add_str (fun t' tk => ⟨.str (i ++ j), H, I.tok _, ⟨_, rfl⟩, q⟩) hz
theorem vals1 {x : V} {us : List Value} (r : Vals [x] us) : ∃ u, us = [u] ∧ RelV x u := by
  cases r with
  | cons r1 r2 => cases r2; exact ⟨_, rfl, r1⟩
theorem vals2 {x y : V} {us : List Value} (r : Vals [x, y] us) : ∃ u w', us = [u, w'] ∧ RelV x u ∧ RelV y w' := by
  cases r with
  | cons r1 r2 =>
    cases r2 with
    | cons r3 r4 => cases r4; exact ⟨_, _, rfl, r1, r3⟩
theorem call_str_int : CallR X (.type "str") (fun xs H Q => ∃ i, xs = [.int i] ∧ i.natAbs.log2 < 1920 ∧ Q (.str (toString i)) H) := by
  intro pins s σ H xs us Q I r h
  obtain ⟨i, rfl, hz, q⟩ := h
  obtain ⟨u, rfl, t, rfl⟩ := vals1 r
  exact PySem.P.str_of_int hz ⟨.str _, H, I.tok _, ⟨_, rfl⟩, q⟩
end
end L2

namespace L2
open PySem PySem.Spec PyProof.Rows

structure ObjM (h : Heap) (x dx C : Addr) (mA : Str → Option Value) : Prop where
  obj : h.get? x = some (PySem.W.instObj C dx)
  ns : h.Ns1 dx mA
  ne : dx ≠ x

theorem lookIn_ns {h : Heap} {dx : Addr} {mA : Str → Option Value} (n : h.Ns1 dx mA) : ∃ od, h.get? dx = some od ∧ ∀ name, PySem.W.lookIn name od = some (mA name) := by
  obtain ⟨o, es, ep, ho, hd, hk, _, hm⟩ := n
  refine ⟨o, ho, fun name => ?_⟩
  have e := hm name
  unfold nsFind findBy at e
  rw [← Array.find?_toList] at e
  unfold PySem.W.lookIn
  rw [hd]
  dsimp only
  split
  · rename_i y q
    rw [q] at e
    exact congrArg some e
  · rename_i q
    rw [q] at e
    have a : es.toList.any (·.refKey) = false := by
      rw [List.any_eq_false]
      intro y hy
      obtain ⟨z, t, hkey⟩ := hk y (Array.mem_toList_iff.mp hy)
      simp [DictEntry.refKey, hkey]
    have a' : ¬ es.toList.any (·.refKey) = true := by rw [a]; exact Bool.false_ne_true
    rw [if_neg a']
    exact congrArg some e

theorem ObjM.look {h : Heap} {x dx C : Addr} {mA : Str → Option Value} (I : ObjM h x dx C mA) : ∃ od, PySem.W.InstAt h x (PySem.W.instObj C dx) C (some od) ∧ ∀ name, PySem.W.lookIn name od = some (mA name) :=
  let ⟨od, ho, hl⟩ := lookIn_ns I.ns
  ⟨od, ⟨I.obj, rfl, rfl, ho⟩, hl⟩

section
variable {prog : Program} {w : World} {A : Around} {E : Value → Shared → Prop} {s : Shared} {K : PySem.W.Frag} {x dx C f : Addr} {mA : Str → Option Value} {name : Str} {v : Value}

end

section
variable {P : Program} {w : World} {H H' : Hp} {h h' : Heap} {a C dx : Addr} {fs fs' : List (Str × V)}
theorem ins_get (hok : HOk P w H h) (e : H a = some (.ins C dx fs)) : ∃ mA, ObjM h a dx C mA ∧ (∀ f, RelO (fs.lookup f) (mA f)) ∧ PySem.Within mA (fs.map (·.1)) ∧ fs.length ≤ 1000 ∧ H dx = some (.own a) := by
  obtain ⟨d, z, ne, ob, mA, n, r, q⟩ := (show ObjOk P w H h a (.ins C dx fs) from hok a _ e)
  exact ⟨mA, ⟨ob, n, ne⟩, r, q, z, d⟩
end

structure Cls (K : PySem.W.Frag) (C : Addr) : Prop where
  pg : PySem.W.plainGet K C Str.empty = true
  hd : PySem.W.hasDictIn K C = true
  po : PySem.W.plainOver K C = true
  sa : PySem.W.findIn K (.ref C) "__setattr__" = some (some (.builtin "object.__setattr__"))
theorem Cls.get {K : PySem.W.Frag} {C : Addr} (c : Cls K C) (f : Str) : PySem.W.plainGet K C f = true := c.pg
structure Con (K : PySem.W.Frag) (C : Addr) (f : Str) (v : V) (u : Value) : Prop where
  at_ : PySem.W.findIn K (.ref C) f = some (some u)
  rel : RelV v u
  get : PySem.W.specialIn K u "__get__" = some none
  cp : PySem.W.copiedNames.contains f = false
structure Meth (K : PySem.W.Frag) (C : Addr) (m : Str) (f : Addr) : Prop where
  at_ : PySem.W.findIn K (.ref C) m = some (some (.ref f))
  fn : PySem.W.isFn K (.ref f) = true
  kp : PySem.W.keepIn K (.ref f) = true

section
variable {X : Cx} {pins : List (Addr × Obj)} {σ : St} {H : Hp} {s : Shared} {a C dx : Addr} {fs : List (Str × V)} {f : Str} {v : V} {A : Around} {E : Value → Shared → Prop}

end

section
variable {X : Cx} {o e value : Expr} {f : Str} {pos pos' tpos : Pos} {ta tv : TE}
end

section
variable {X : Cx} {pins : List (Addr × Obj)} {σ : St} {H : Hp} {s : Shared} {A : Around} {E : Value → Shared → Prop} {Q : Value → Shared → Prop} {c : Value} {b : Bool}
inductive TyOf (K : PySem.W.Frag) (H : Hp) : V → Value → Prop where
  | non : TyOf K H .non (.type "NoneType")
  | bl (x : Bool) : TyOf K H (.bl x) (.type "bool")
  | int (i : Int) : TyOf K H (.int i) (.type "int")
  | str (x : Str) : TyOf K H (.str x) (.type "str")
  | flt (x : UInt64) : TyOf K H (.flt x) (.type "float")
  | lst {a : Addr} {xs : List V} (e : H a = some (.lst xs)) : TyOf K H (.ref a) (.type "list")
  | frz {a : Addr} {o : Obj} {xs : List V} (e : H a = some (.frz o (.lst xs))) : TyOf K H (.ref a) (.type "list")
  | tup {a : Addr} {xs : List V} (e : H a = some (.tup xs)) : TyOf K H (.ref a) (.type "tuple")
  | dK {a : Addr} {kvs : List (Key × V)} (e : H a = some (.dK kvs)) : TyOf K H (.ref a) (.type "dict")
  | dT {a : Addr} {kvs : List (List Key × V)} (e : H a = some (.dT kvs)) : TyOf K H (.ref a) (.type "dict")
  | ins {a C dx : Addr} {fs : List (Str × V)} (e : H a = some (.ins C dx fs)) (cl : Cls K C) (ha : PySem.W.findIn K (.ref C) "__class__" = some (some (.builtin "object.__class__")))
      (hn : PySem.W.specialIn K (.builtin "object.__class__") "__get__" = some (some (.builtin "getset_descriptor.__get__"))) (htk : PySem.W.takesIn K (.builtin "object.__class__") = some true)
      (hm : PySem.W.mroIn K C (.type "object") = some true) : TyOf K H (.ref a) (.ref C)
theorem isinst_ok {x : V} {u t : Value} (I : Inv X pins σ H s) (rx : RelV x u) (ty : TyOf X.K H x t) (e : PySem.W.kitOne X.K t c = some b) (h : ∀ tk, Q (.bool b) { s with toks := tk }) :
    wpAny (model X.prog X.w) A (call (.builtin "isinstance") [u, c]) Q E s := by
  cases ty with
  | non => cases (show u = Value.none from rx); exact PySem.W.kia_one PySem.W.kitx_none I.kIn True.intro e (fun z => nomatch z) h
  | bl y => cases (show u = Value.bool y from rx); exact PySem.W.kia_one PySem.W.kitx_bool I.kIn True.intro e (fun z => nomatch z) h
  | int i => obtain ⟨t, q⟩ := (show ∃ t, u = Value.int i t from rx); cases q; exact PySem.W.kia_one PySem.W.kitx_int I.kIn True.intro e (fun z => nomatch z) h
  | str y => obtain ⟨t, q⟩ := (show ∃ t, u = Value.str y t from rx); cases q; exact PySem.W.kia_one PySem.W.kitx_str I.kIn True.intro e (fun z => nomatch z) h
  | flt y => obtain ⟨t, q⟩ := (show ∃ t, u = Value.float y t from rx); cases q; exact PySem.W.kia_one PySem.W.kitx_float I.kIn True.intro e (fun z => nomatch z) h
  | @lst a xs ea =>
    cases (show u = Value.ref a from rx)
    obtain ⟨_, _, n, _, h1⟩ := (show ObjOk X.prog X.w H s.heap a (.lst xs) from I.hok a _ ea)
    exact PySem.W.kia_one PySem.W.kitx_list I.kIn ⟨_, h1, rfl⟩ e (fun z => nomatch z) h
  | @frz a ob xs ea =>
    cases (show u = Value.ref a from rx)
    obtain ⟨_, _, _, n, _, h1⟩ := (show ObjOk X.prog X.w H s.heap a (.frz ob (.lst xs)) from I.hok a _ ea)
    exact PySem.W.kia_one PySem.W.kitx_list I.kIn ⟨_, h1, rfl⟩ e (fun z => nomatch z) h
  | @tup a xs ea =>
    cases (show u = Value.ref a from rx)
    obtain ⟨_, _, _, p⟩ := (show ObjOk X.prog X.w H s.heap a (.tup xs) from I.hok a _ ea)
    obtain ⟨o, h1, h2, _⟩ := p
    exact PySem.W.kia_one PySem.W.kitx_tuple I.kIn ⟨o, h1, h2⟩ e (fun z => nomatch z) h
  | @dK a kvs ea =>
    cases (show u = Value.ref a from rx)
    obtain ⟨_, _, vs, _, p⟩ := (show ObjOk X.prog X.w H s.heap a (.dK kvs) from I.hok a _ ea)
    obtain ⟨o, es, ep, h1, h2, _⟩ := p
    exact PySem.W.kia_one PySem.W.kitx_dict I.kIn ⟨o, h1, h2.1⟩ e (fun z => nomatch z) h
  | @dT a kvs ea =>
    cases (show u = Value.ref a from rx)
    obtain ⟨_, _, xs, _, o, es, ep, h1, h2, _⟩ := (show ObjOk X.prog X.w H s.heap a (.dT kvs) from I.hok a _ ea)
    exact PySem.W.kia_one PySem.W.kitx_dict I.kIn ⟨o, h1, h2.1⟩ e (fun z => nomatch z) h
  | @ins a C dx fs ea cl ha hn htk hm =>
    cases (show u = Value.ref a from rx)
    obtain ⟨mA, O, _⟩ := ins_get I.hok ea
    obtain ⟨od, J, _⟩ := O.look
    exact PySem.W.kia_one (PySem.W.kitx_own (cl.get _) cl.hd ha hn htk hm) I.kIn J e (fun z => nomatch z) h
end
end L2

namespace L2
open PySem PySem.Spec PyProof.Rows

structure Room (k : Nat) (A : Around) : Prop where
  hd : A.handled = none
  dp : A.depth + 3 * k + 5 < recursionLimit
  un : A.units + 16 * k + 200 < cLine
theorem Room.mono {j k : Nat} {A : Around} (r : Room k A) (h : j ≤ k) : Room j A := ⟨r.hd, by have := r.dp; omega, by have := r.un; omega⟩
theorem Room.deeper {k : Nat} {A : Around} (r : Room (k + 1) A) (env : Env) : Room k (A.deeper env) :=
  ⟨r.hd, by have := r.dp; show A.depth + 1 + 3 * k + 5 < _; omega, by have := r.un; show A.units + 3 + 16 * k + 200 < _; omega⟩
theorem Room.in1 {k : Nat} {A : Around} (r : Room (k + 1) A) : Room k A.in1 :=
  ⟨r.hd, by have := r.dp; show A.depth + 3 * k + 5 < _; omega, by have := r.un; show A.units + 1 + 16 * k + 200 < _; omega⟩
theorem Room.depth {k : Nat} {A : Around} (r : Room k A) : A.depth < recursionLimit := by have := r.dp; omega
theorem Room.units {k : Nat} {A : Around} (r : Room k A) : A.units + 64 < cLine := by have := r.un; omega
def tNil : TA := fun _ H Q => Q [] H
def tCons (ta : TE) (tr : TA) : TA := fun σ H Q => ta σ H fun x H1 => tr σ H1 fun xs H2 => Q (x :: xs) H2
section
variable {X : Cx} {e : Expr} {es : List Expr} {te : TE} {t : TA} {pos : Pos}
theorem pa_nil : PA X [] tNil := fun _ _ _ _ H Q I h => Calls.spliced_nil ⟨[], H, I, .nil, h⟩
theorem pa_cons (ha : PE X e te) (hr : PA X es t) (hs : starEach (e :: es) X.env = (false, eval e X.env) :: starEach es X.env := by rfl) : PA X (e :: es) (tCons te t) := by
  intro pos pins s σ H Q I h
  rw [hs]
  show wpAny _ _ (spliced ((false, eval e X.env) :: backTo pos (starEach es X.env))) _ _ s
  refine Calls.spliced_cons (thn (ha pins s σ H _ I h) fun u s1 ⟨x, H1, I1, r1, q1⟩ => ?_)
  exact thn (hr pos pins s1 σ H1 _ I1 q1) fun us s2 ⟨xs, H2, I2, r2, q2⟩ => ⟨x :: xs, H2, I2, .cons r1 r2, q2⟩

def tTup (t : TA) : TE := fun σ H Q => t σ H fun xs H1 => xs.length ≤ sizeLine ∧ ∀ p, H1 p = none → Q (.ref p) (upd H1 p (.tup xs))
def tLst (t : TA) : TE := fun σ H Q => t σ H fun xs H1 => xs.length ≤ sizeLine ∧ ∀ p, H1 p = none → Q (.ref p) (upd H1 p (.lst xs))
theorem pe_tup {x1} (h : PA X es t) : PE X (.Tuple es x1 pos) (tTup t) := by
  intro pins s σ H Q I hq
  refine wpAny_Tuple_spliced (thn (h pos pins s σ H _ I hq) fun us s1 ⟨xs, H1, I1, r, z, q⟩ => ⟨by rw [← r.length]; exact z, ?_⟩)
  have hf : H1 s1.heap.objs.size = none := I1.hok.fresh (Nat.le_refl _)
  refine ⟨.ref s1.heap.objs.size, upd H1 s1.heap.objs.size (.tup xs), I1.laid (t' := s1.toks) (fun b u e => Heap.get?_push_of_some _ e) (Nat.le_refl _) ?_, rfl, q _ hf⟩
  exact ⟨z, us, r, ⟨_, Heap.get?_push_size _ rfl, rfl, _, rfl⟩⟩
theorem pe_lst (h : PA X es t) : PE X (.List es pos) (tLst t) := by
  intro pins s σ H Q I hq
  refine wpAny_List_spliced (thn (h pos pins s σ H _ I hq) fun us s1 ⟨xs, H1, I1, r, z, q⟩ => ⟨by rw [← r.length]; exact z, ?_⟩)
  have hf : H1 s1.heap.objs.size = none := I1.hok.fresh (Nat.le_refl _)
  refine ⟨.ref s1.heap.objs.size, upd H1 s1.heap.objs.size (.lst xs), I1.laid (t' := s1.toks) (fun b u e => Heap.get?_push_of_some _ e) (Nat.le_refl _) ?_, rfl, q _ hf⟩
  exact ⟨z, us, 0, r, Heap.get?_push_size _ rfl⟩
end

abbrev Sp := List V → Hp → VK → XK → Prop
abbrev CXT := List Env → Hp → Shared → XK → Value → Shared → Prop

structure Env0 (P : Program) (w : World) (K : PySem.W.Frag) (mg : Str → Option Value) (base : Heap) (A : Around) (outer : List Env) (s : Shared) (H : Hp) : Prop where
  frames : A.frames = some outer
  mod : Mod K mg base
  bs : ∀ b o, base.get? b = some o → s.heap.get? b = some o ∧ H b = none
  bsz : base.objs.size ≤ s.heap.objs.size
  funs : s.heap.FunFrames base outer
  frf : ∀ b ∈ frs outer, H b = none
  hok : HOk P w H s.heap
  bare : AllBare s.gens
def CE (outer : List Env) (P : Program) (w : World) (H : Hp) (s : Shared) (Q : VK) (u : Value) (s' : Shared) : Prop :=
  ∃ v H', s'.os = s.os ∧ AllBare s'.gens ∧ Un (frs outer) [] H H' s.heap s'.heap ∧ HOk P w H' s'.heap ∧ RelV v u ∧ Q v H'
def CR (CX : CXT) (outer : List Env) (P : Program) (w : World) (H : Hp) (s : Shared) (Q : VK) (E : XK) (r : Result) (s' : Shared) : Prop :=
  match r with
  | .ok (.ret u) => CE outer P w H s Q u s'
  | .ok _ => False
  | .error e => CX outer H s E e s'
structure FnOk (P : Program) (w : World) (K : PySem.W.Frag) (mg : Str → Option Value) (base : Heap) (CX : CXT) (k : Nat) (f : Addr) (fd : FuncData) (ps : List Str) (sp : Sp) : Prop where
  len : ∀ vs H Q E, sp vs H Q E → vs.length = ps.length
  run : ∀ (A : Around) (outer : List Env) (s : Shared) (H : Hp) (args : Args) (us : List Value) (vs : List V) (Q : VK) (E : XK), Room k A → Env0 P w K mg base A outer s H → BindsTo s fd args (ps.zip us) → Vals vs us → sp vs H Q E →
    codeAny (model P w) A (.call (.ref f) args) (CR CX outer P w H s Q E) s
theorem FnOk.mono {P : Program} {w : World} {K : PySem.W.Frag} {mg : Str → Option Value} {base : Heap} {CX : CXT} {j k : Nat} {f : Addr} {fd : FuncData} {ps : List Str} {sp : Sp} (F : FnOk P w K mg base CX j f fd ps sp) (h : j ≤ k) :
    FnOk P w K mg base CX k f fd ps sp := ⟨F.len, fun A outer s H args us vs Q E hr => F.run A outer s H args us vs Q E (hr.mono h)⟩
theorem FnOk.imp {P : Program} {w : World} {K : PySem.W.Frag} {mg : Str → Option Value} {base : Heap} {CX : CXT} {k : Nat} {f : Addr} {fd : FuncData} {ps : List Str} {sp sp' : Sp} (F : FnOk P w K mg base CX k f fd ps sp)
    (h : ∀ vs H Q E, sp' vs H Q E → sp vs H Q E) : FnOk P w K mg base CX k f fd ps sp' :=
  ⟨fun vs H Q E q => F.len vs H Q E (h _ _ _ _ q), fun A outer s H args us vs Q E hr he hb hv hs => F.run A outer s H args us vs Q E hr he hb hv (h _ _ _ _ hs)⟩

theorem Env0.in1 {P : Program} {w : World} {K : PySem.W.Frag} {mg : Str → Option Value} {base : Heap} {A : Around} {outer : List Env} {s : Shared} {H : Hp} (e : Env0 P w K mg base A outer s H) :
    Env0 P w K mg base A.in1 outer s H := ⟨e.frames, e.mod, e.bs, e.bsz, e.funs, e.frf, e.hok, e.bare⟩

section
variable {X : Cx} {pins : List (Addr × Obj)} {σ : St} {H : Hp} {s s' : Shared}
theorem Inv.env0 (I : Inv X pins σ H s) : Env0 X.prog X.w X.K X.mg X.base X.A X.stack s H :=
  ⟨I.ok.frames, I.ok.mod, I.bs, Nat.le_trans I.ok.bsz I.sz, I.stack, I.stkFree, I.hok, I.bare⟩
theorem Inv.after {Q : VK} {u : Value} (I : Inv X pins σ H s) (h : CE X.stack X.prog X.w H s Q u s') : EP X pins σ Q u s' := by
  obtain ⟨v, H', os, bare, un, hok, r, q⟩ := h
  obtain ⟨hh, g, d, t, os'⟩ := s'
  obtain rfl : os' = s.os := os
  exact ⟨v, H', I.call (h' := hh) (g' := g) (d' := d) (t' := t) (ch := []) un hok bare (fun b z => absurd z (by simp)), r, q⟩
end

def tCall (sp : Sp) (dvs : List V) (E : XK) (t : TA) : TE := fun σ H Q => t σ H fun vs H1 => sp (vs ++ dvs) H1 Q E
def Binds (K : PySem.W.Frag) (fd : FuncData) (ps : List Str) (ds : List Value) : Prop :=
  ∀ (s : Shared) (us : List Value), K.In s.heap → (us ++ ds).length = ps.length → BindsTo s fd ⟨us, []⟩ (ps.zip (us ++ ds))
theorem Binds.all {K : PySem.W.Frag} {fd : FuncData} {ps : List Str} (h : ∀ us : List Value, us.length = ps.length → bindArgs fd ⟨us, []⟩ = pure (ps.zip us)) : Binds K fd ps [] := fun s us _ hl => by
  rw [List.append_nil] at hl ⊢
  exact .of_eq (h us hl)

def Passes (CX : CXT) (X : Cx) (E : XK) : Prop := ∀ (pins : List (Addr × Obj)) (σ : St) (H : Hp) (s : Shared) (e : Value) (s' : Shared), Inv X pins σ H s → CX X.stack H s E e s' → X.xe e s'

section
variable {X : Cx} {CX : CXT} {k : Nat} {f C : Addr} {fd : FuncData} {ps : List Str} {sp : Sp} {dvs : List V} {ds : List Value} {E : XK} {x m : Str} {p pos apos : Pos} {e o : Expr} {es : List Expr} {ta : TE} {t : TA}

theorem run_fn {pins : List (Addr × Obj)} {σ : St} {H : Hp} {s : Shared} {Q : VK} {us : List Value} {vs : List V} (F : FnOk X.prog X.w X.K X.mg X.base CX k f fd ps sp) (hr : Room k X.A) (hb : Binds X.K fd ps ds) (hd : Vals dvs ds) (hx : Passes CX X E)
    (I : Inv X pins σ H s) (r : Vals vs us) (h : sp (vs ++ dvs) H Q E) : wpAny (model X.prog X.w) X.A (call (.ref f) us) (EP X pins σ Q) X.xe s := by
  have r2 : Vals (vs ++ dvs) (us ++ ds) := r.append hd
  have hl : (us ++ ds).length = ps.length := by rw [← r2.length]; exact F.len _ _ _ _ h
  refine wpAny_call (codeAny_mono (F.run X.A X.stack s H ⟨us, []⟩ (us ++ ds) (vs ++ dvs) Q E hr I.env0 (hb s us I.kIn hl) r2 h) fun r s' hq => ?_)
  cases r with
  | error e => exact hx pins σ H s e s' I hq
  | ok fl =>
    cases fl with
    | ret u => exact I.after hq
    | next => exact False.elim hq
    | brk => exact False.elim hq
    | cont => exact False.elim hq

theorem pe_call (F : FnOk X.prog X.w X.K X.mg X.base CX k f fd ps sp) (hr : Room k X.A) (hg : Gl X x) (hm : X.mg x = some (.ref f)) (hk : PySem.W.keepIn X.K (.ref f) = true) (hb : Binds X.K fd ps ds) (hd : Vals dvs ds) (hx : Passes CX X E)
    (ha : PA X (e :: es) t) (hdb : (x == ("__debug__" : Str)) = false := by decide) (he : starEach (e :: es) X.env = (false, eval e X.env) :: starEach es X.env := by rfl) (hpl : (backTo pos (starEach es X.env)).any (·.1) = false := by rfl) :
    PE X (.Call (.Name x p) (e :: es) [] pos) (tCall sp dvs E t) := by
  intro pins s σ H Q I h
  refine wpAny_Call_Name_kw (ld_glob I hg hm ?_ hdb)
  refine PySem.W.callWith_K (h₀ := X.base) I.ok.mod.kin hk (thn (ha pos pins s σ H _ I h) fun us s1 ⟨vs, H1, I1, r, q⟩ => ⟨I1.kIn, ?_⟩) he hpl
  exact run_fn F hr hb hd hx I1 r q
structure Mk (K : PySem.W.Frag) (C f : Addr) : Prop where
  makes : PySem.W.makesIn K C = true
  init : PySem.W.findIn K (.ref C) "__init__" = some (some (.ref f))
  fn : PySem.W.isFn K (.ref f) = true
  kp : PySem.W.keepIn K (.ref C) = true

end

section
variable {X : Cx} {CX : CXT} {k : Nat} {f C : Addr} {fd : FuncData} {ps ks : List Str} {sp : Sp} {E : XK} {x m : Str} {p pos apos kpos : Pos} {e o : Expr} {es : List Expr} {kws : List Keyword} {te ta : TE} {t tk : TA} {nm : Option Str}
structure KBinds (K : PySem.W.Frag) (fd : FuncData) (ps ks : List Str) (g : List Value → List Value → List Value) (gV : List V → List V → List V) : Prop where
  to : ∀ (s : Shared) (us ws : List Value), K.In s.heap → (g us ws).length = ps.length → BindsTo s fd ⟨us, ks.zip ws⟩ (ps.zip (g us ws))
  rel : ∀ {vs : List V} {us : List Value} {zs : List V} {ws : List Value}, Vals vs us → Vals zs ws → Vals (gV vs zs) (g us ws)
variable {g : List Value → List Value → List Value} {gV : List V → List V → List V}
end

structure FnScope (N P : List Str) (sc : Scope) : Prop where
  kind : sc.kind = .function
  co : sc.isCoroutine = false
  gen : sc.isGenerator = false
  nd : N.Nodup
  pre : N.take P.length = P
  par : ∀ x ∈ P, sc.names.lookup x = some .local ∨ sc.names.lookup x = some .cell
  nofree : ∀ y ∈ sc.names, y.2 ≠ .free

theorem bindL_out {kindOf : Str → Option NameKind} {x : Str} : ∀ {binds : List (Str × Value)} {m : Str → Option Value}, (∀ v, (x, v) ∉ binds) → bindL kindOf binds m x = m x
  | [], _, _ => rfl
  | (n, v) :: r, m, h => by
    unfold bindL
    rw [bindL_out fun w hw => h w (List.mem_cons_of_mem _ hw)]
    split
    · have : x ≠ n := by rintro rfl; exact h v List.mem_cons_self
      simp [this]
    · rfl
theorem bindC_out {kindOf : Str → Option NameKind} {x : Str} : ∀ {binds : List (Str × Value)} {m : Str → Option Value}, (∀ v, (x, v) ∉ binds) → bindC kindOf binds m x = m x
  | [], _, _ => rfl
  | (n, v) :: r, m, h => by
    unfold bindC
    rw [bindC_out fun w hw => h w (List.mem_cons_of_mem _ hw)]
    split
    · rfl
    · have : x ≠ n := by rintro rfl; exact h v List.mem_cons_self
      simp [this]
theorem bindL_get {kindOf : Str → Option NameKind} {x : Str} {v : Value} : ∀ {P : List Str} {vs : List Value} {i : Nat} {m : Str → Option Value}, P.Nodup → P[i]? = some x → vs[i]? = some v → kindOf x = some .local →
    bindL kindOf (P.zip vs) m x = some v
  | [], _, _, _, _, h, _, _ => by simp at h
  | _ :: _, [], _, _, _, _, h, _ => by simp at h
  | p :: P, w :: vs, 0, m, nd, h1, h2, hk => by
    simp at h1 h2; subst h1; subst h2
    show bindL kindOf ((p, w) :: P.zip vs) m p = _
    unfold bindL
    rw [bindL_out fun v hv => (List.nodup_cons.mp nd).1 (List.of_mem_zip hv).1, if_pos hk]
    simp
  | p :: P, w :: vs, i + 1, m, nd, h1, h2, hk => by
    show bindL kindOf ((p, w) :: P.zip vs) m x = _
    unfold bindL
    exact bindL_get (i := i) (List.nodup_cons.mp nd).2 (by simpa using h1) (by simpa using h2) hk
theorem bindC_get {kindOf : Str → Option NameKind} {x : Str} {v : Value} : ∀ {P : List Str} {vs : List Value} {i : Nat} {m : Str → Option Value}, P.Nodup → P[i]? = some x → vs[i]? = some v → kindOf x ≠ some .local →
    bindC kindOf (P.zip vs) m x = some v
  | [], _, _, _, _, h, _, _ => by simp at h
  | _ :: _, [], _, _, _, _, h, _ => by simp at h
  | p :: P, w :: vs, 0, m, nd, h1, h2, hk => by
    simp at h1 h2; subst h1; subst h2
    show bindC kindOf ((p, w) :: P.zip vs) m p = _
    unfold bindC
    rw [bindC_out fun v hv => (List.nodup_cons.mp nd).1 (List.of_mem_zip hv).1, if_neg hk]
    simp
  | p :: P, w :: vs, i + 1, m, nd, h1, h2, hk => by
    show bindC kindOf ((p, w) :: P.zip vs) m x = _
    unfold bindC
    exact bindC_get (i := i) (List.nodup_cons.mp nd).2 (by simpa using h1) (by simpa using h2) hk

def start (N : List Str) (vs : List V) : St := vs.map some ++ List.replicate (N.length - vs.length) none

def cxOf (CX : CXT) (P : Program) (w : World) (K : PySem.W.Frag) (mg : Str → Option Value) (base : Heap) (N : List Str) (qual : Str) (scope : Scope) (f : Addr) (cd : Value) (A : Around) (outer : List Env) (s : Shared) (H : Hp) (E : XK) : Cx where
  prog := P
  w := w
  K := K
  mg := mg
  base := base
  A := A.deeper (envOfC qual scope s.heap.objs.size f cd)
  N := N
  s₀ := s
  H₀ := H
  env := envOfC qual scope s.heap.objs.size f cd
  outer := outer
  stack := envOfC qual scope s.heap.objs.size f cd :: outer
  ex := []
  calm := true
  fn := fun _ => true
  pn := []
  xe := fun e s' => wpAny (model P w) (A.deeper (envOfC qual scope s.heap.objs.size f cd)) (leaving (envOfC qual scope s.heap.objs.size f cd) e) (fun _ s'' => CX outer H s E e s'') (fun e' s'' => CX outer H s E e' s'') s'

theorem cell_has {sc : Scope} {n : Nat} {x : Str} (h : sc.names.lookup x = some .cell) : ∃ c, (cellsFrom n sc.names []).lookup x = some c := by
  have q := PySem.W.cellsFrom_some sc.names n [] (.inl h)
  exact Option.isSome_iff_exists.mp q

theorem inv_start {CX : CXT} {P : Program} {w : World} {K : PySem.W.Frag} {mg : Str → Option Value} {base : Heap} {N ps : List Str} {qual : Str} {scope : Scope} {f : Addr} {cd : Value} {A : Around} {outer : List Env} {s s1 : Shared} {H : Hp} {E : XK} {us : List Value} {vs : List V}
    (S : FnScope N ps scope) (hd : A.handled = none) (e0 : Env0 P w K mg base A outer s H) (hl : vs.length = ps.length) (r : Vals vs us)
    (x : InCallC s s.heap.objs.size (bindL (envOfC qual scope s.heap.objs.size f cd).kindOf (ps.zip us) fun _ => none) (cellsFrom (s.heap.objs.size + 1) scope.names []) (bindC (envOfC qual scope s.heap.objs.size f cd).kindOf (ps.zip us) fun _ => none) s1) :
    Inv (cxOf CX P w K mg base N qual scope f cd A outer s H E) [] (start N vs) H s1 := by
  have hpl : ps.length ≤ N.length := by have := congrArg List.length S.pre; rw [List.length_take] at this; omega
  obtain ⟨h1, tk, rfl, hk⟩ := x.done
  have noA : ∀ b : Addr, b ∉ (cxOf CX P w K mg base N qual scope f cd A outer s H E).ex := fun b z => absurd (show b ∈ ([] : List Addr) from z) (by simp)
  refine ⟨⟨e0.mod, S.kind, rfl, rfl, Nat.le_refl _, fun y z c h1 h2 => ?_, fun y hy => ?_, fun y c _ h => ?_, fun _ => hd, Around.frames_deeper e0.frames, .inr ⟨rfl, rfl⟩, fun b z => absurd z (noA b), e0.bs, e0.bsz, fun b _ _ => noA b, fun b z => absurd z (noA b), e0.funs, e0.frf⟩,
    rfl, e0.bare, Un.kept hk, ⟨_, x.toInCall.ns, fun i y v h1 h2 h3 => ?_⟩, fun y c h => ⟨_, x.cell y c h⟩, e0.hok.fresh (Nat.le_refl _), fun y c h => ?_, fun p hp => absurd (show p ∈ ([] : List (Addr × Obj)) from hp) (by simp), e0.hok.kept hk, ?_⟩
  · exact name_of_addr x.apart (PySem.mem_of_lookup h1) (PySem.mem_of_lookup h2)
  · have hy : scope.names.lookup y = some .cell ∨ scope.names.lookup y = some .free := hy
    rcases hy with hy | hy
    · exact cell_has hy
    · exact absurd rfl (S.nofree _ (PySem.mem_of_lookup hy))
  · exact Nat.le_of_lt (x.above y c (PySem.mem_of_lookup h))
  · have hi : i < vs.length := by
      unfold start at h2
      by_cases hi : i < vs.length
      · exact hi
      · rw [List.getElem?_append_right (by simpa using hi)] at h2
        rw [List.getElem?_replicate] at h2
        split at h2 <;> cases h2
    have ha : vs[i]? = some v := by
      unfold start at h2
      rw [List.getElem?_append_left (by simpa using hi), List.getElem?_map] at h2
      cases e : vs[i]? with
      | none => rw [e] at h2; cases h2
      | some a => rw [e] at h2; cases h2; rfl
    obtain ⟨u, hu, rv⟩ := r.get ha
    have hp : ps[i]? = some y := by
      rw [← S.pre, List.getElem?_take_of_lt (by omega)]; exact h1
    have ndP : ps.Nodup := by rw [← S.pre]; exact S.nd.sublist (List.take_sublist _ _)
    refine ⟨u, rv, ?_⟩
    rcases S.par y (List.mem_of_getElem? hp) with k | k
    · exact .inl ⟨k, bindL_get ndP hp hu k⟩
    · obtain ⟨c, e⟩ := cell_has (n := s.heap.objs.size + 1) k
      refine .inr ⟨.inl k, c, e, ?_⟩
      have q := x.cell y c e
      rw [bindC_get ndP hp hu (by show scope.names.lookup y ≠ _; rw [k]; decide)] at q
      exact q
  · exact e0.hok.fresh (Nat.le_of_lt (x.above y c (PySem.mem_of_lookup h)))
  · unfold start
    show _ = N.length
    rw [List.length_append, List.length_map, List.length_replicate]
    omega

theorem fn_of {CX : CXT} {P : Program} {w : World} {K : PySem.W.Frag} {mg : Str → Option Value} {base : Heap} {k : Nat} {f : Addr} {name qual : Str} {params : Arguments} {body : List Stmt} {scope : Scope} {dV kV doc pm cdv ct oc : Value} {an od : Option Addr}
    {osl : Array (Option Value)} {N ps : List Str} {sp : Sp} (lk : K.lookup f = some ⟨oc, od, .func (PySem.W.fnOf name qual params body scope dV kV doc pm an cdv ct), osl⟩) (hcd : PySem.W.codeIn K cdv qual = true) (S : FnScope N ps scope)
    (len : ∀ vs H Q E, sp vs H Q E → vs.length = ps.length)
    (hbody : ∀ (A : Around) (outer : List Env) (s : Shared) (H : Hp) (vs : List V) (Q : VK) (E : XK), Room k (A.deeper (envOfC qual scope s.heap.objs.size f cdv)) → sp vs H Q E →
      ∃ t, PSs (cxOf CX P w K mg base N qual scope f cdv A outer s H E) body t ∧ t { nx := fun _ H' => Q .non H', rt := Q } (start N vs) H) :
    FnOk P w K mg base CX (k + 1) f (PySem.W.fnOf name qual params body scope dV kV doc pm an cdv ct) ps sp := by
  refine ⟨len, fun A outer s H args us vs Q E hr e0 hb r hsp => ?_⟩
  have hl := len _ _ _ _ hsp
  have KX : K.In s.heap := e0.mod.kin.keeps fun b o e => (e0.bs b o e).1
  have lim : s.heap.NoLimit := e0.mod.nolimit.keeps fun b o e => (e0.bs b o e).1
  have hkind : ∀ y ∈ ps.zip us, scope.names.lookup y.1 = some .local ∨ (scope.names.lookup y.1 = some .cell ∧ ((cellsFrom (s.heap.objs.size + 1) scope.names []).lookup y.1).isSome = true) := fun ⟨n, v⟩ hy => by
    rcases S.par n (List.of_mem_zip hy).1 with q | q
    · exact .inl q
    · exact .inr ⟨q, PySem.W.cellsFrom_some _ _ _ (.inl q)⟩
  refine codeAny_call_function hr.depth (KX _ _ lk) rfl S.co S.gen rfl (PySem.W.codeRec_of KX hcd) (hb _ _ _ _ ?_)
  refine wpAny_newFunctionEnv_cells S.kind hkind fun env he s1 x => ?_
  subst he
  refine ⟨lim.keeps x.toInCall.keep, codeAny_func ?_⟩
  obtain ⟨t, ht, hq⟩ := hbody A outer s H vs Q E (hr.deeper _) hsp
  have I : Inv (cxOf CX P w K mg base N qual scope f cdv A outer s H E) [] (start N vs) H s1 := inv_start S hr.hd e0 hl r x
  refine wpAny_mono (ht [] s1 (start N vs) H _ I hq) (fun fl s' hs => ?_) fun e s' hs => hs
  have fin : ∀ {σ' : St} {H' : Hp} {v : V} {u : Value}, Inv (cxOf CX P w K mg base N qual scope f cdv A outer s H E) [] σ' H' s' → RelV v u → Q v H' → CE outer P w H s Q u s' :=
    fun {σ' H' v u} J rv q => ⟨v, H', J.os, J.bare, J.base, J.hok, rv, q⟩
  cases fl with
  | ret u =>
    obtain ⟨v, σ', H', J, rv, q⟩ := hs
    exact fin J rv q
  | next =>
    obtain ⟨σ', H', J, q⟩ := hs
    exact fin (v := V.non) (u := Value.none) J rfl q
  | brk =>
    obtain ⟨_, _, _, q⟩ := hs
    exact False.elim q
  | cont =>
    obtain ⟨_, _, _, q⟩ := hs
    exact False.elim q
end L2

namespace L2
open PySem PySem.Spec PyProof.Rows
section
variable {X : Cx} {x : Str} {p pos : Pos} {e : Expr} {es : List Expr} {t : TA} {id T : String} {r : List V → Hp → VK → Prop}

def tCB (r : List V → Hp → VK → Prop) (t : TA) : TE := fun σ H Q => t σ H fun vs H1 => r vs H1 Q
theorem pe_callB (hc : CallR X (.builtin id) r) (hg : Gl X x) (hm : X.mg x = none) (hv : bootBuiltins x = some (.builtin id)) (ha : PA X (e :: es) t) (hn : x ≠ "__name__" := by decide) (hdb : (x == ("__debug__" : Str)) = false := by decide)
    (he : starEach (e :: es) X.env = (false, eval e X.env) :: starEach es X.env := by rfl) (hpl : (backTo pos (starEach es X.env)).any (·.1) = false := by rfl) : PE X (.Call (.Name x p) (e :: es) [] pos) (tCB r t) := by
  intro pins s σ H Q I h
  refine wpAny_Call_Name_kw (ld_blt I hg hm hv ?_ hn hdb)
  exact PyProof.Rows.callWith_builtin1 (thn (ha pos pins s σ H _ I h) fun us s1 ⟨vs, H1, I1, r1, q1⟩ => hc pins s1 σ H1 vs us Q I1 r1 q1) he hpl
theorem pe_callTy (hc : CallR X (.type T) r) (hg : Gl X x) (hm : X.mg x = none) (hv : bootBuiltins x = some (.type T)) (ha : PA X (e :: es) t) (hn : x ≠ "__name__" := by decide) (hdb : (x == ("__debug__" : Str)) = false := by decide)
    (he : starEach (e :: es) X.env = (false, eval e X.env) :: starEach es X.env := by rfl) (hpl : (backTo pos (starEach es X.env)).any (·.1) = false := by rfl) : PE X (.Call (.Name x p) (e :: es) [] pos) (tCB r t) := by
  intro pins s σ H Q I h
  refine wpAny_Call_Name_kw (ld_blt I hg hm hv ?_ hn hdb)
  exact PyProof.Rows.callWith_type1 (thn (ha pos pins s σ H _ I h) fun us s1 ⟨vs, H1, I1, r1, q1⟩ => hc pins s1 σ H1 vs us Q I1 r1 q1) he hpl
end
end L2

namespace HT
open PySem PyProof.Rows

section
open PySem.SeqAt
open PySem.AutoSeq1 (wpAny_loadPart')
open PySem.MeetsSeq PySem.MeetsSeq2 PySem.MeetsSeq3

end

section
variable {prog : Program} {w : World} {A : Around} {E : Value → Shared → Prop} {s : Shared}

def sIx (n d : Nat) : Option Int → Nat
  | none => d
  | some v => if v < 0 then (v + (n : Int)).toNat else min v.toNat n
theorem sIx_none (n d : Nat) : sIx n d none = d := rfl
theorem sIx_nat (n d k : Nat) : sIx n d (some (k : Int)) = min k n := by
  show (if (k : Int) < 0 then ((k : Int) + (n : Int)).toNat else min (k : Int).toNat n) = min k n
  rw [if_neg (by omega), Int.toNat_natCast]
theorem sIx_le (n d : Nat) (hd : d ≤ n) (o : Option Int) : sIx n d o ≤ n := by
  cases o with
  | none => exact hd
  | some v =>
    show (if v < 0 then (v + (n : Int)).toNat else min v.toNat n) ≤ n
    by_cases hv : v < 0
    · rw [if_pos hv]; omega
    · rw [if_neg hv]; exact Nat.min_le_right _ _
theorem clip_eq (v : Int) (n d : Nat) : (if v < 0 then max (v + (n : Int)) 0 else min v (n : Int)) = ((sIx n d (some v) : Nat) : Int) := by
  show (if v < 0 then max (v + (n : Int)) 0 else min v (n : Int)) = (((if v < 0 then (v + (n : Int)).toNat else min v.toNat n) : Nat) : Int)
  by_cases hv : v < 0
  · simp only [if_pos hv]; omega
  · simp only [if_neg hv]; omega
theorem adjust_gen (lo hi : Option Int) (n : Nat) : Builtin.Slice.sliceAdjust lo hi 1 (n : Int) = (((sIx n 0 lo : Nat) : Int), ((sIx n n hi : Nat) : Int)) := by
  have h1 : ¬ ((1 : Int) < 0) := by omega
  unfold Builtin.Slice.sliceAdjust
  simp only [h1, if_false]
  refine Prod.ext ?_ ?_
  · cases lo with
    | none => rfl
    | some v => exact clip_eq v n 0
  · cases hi with
    | none => rfl
    | some v => exact clip_eq v n n
theorem places_gen (i j : Nat) : Builtin.Slice.slicePlaces (i : Int) (j : Int) 1 = j - i := by
  unfold Builtin.Slice.slicePlaces
  have h1 : (1 : Int) > 0 := by omega
  simp only [h1, if_true, Int.ediv_one]
  split <;> omega
theorem slicePart_ {v : Value} {o : Option Int} {Q : Option Int → Shared → Prop} (p : IsPart v o) (h : Q o s) : wpAny (model prog w) A (Builtin.Slice.slicePartIndex v) Q E s := by
  cases p with
  | none => exact slicePart_none h
  | int i t => exact slicePart_int h
theorem sliceApplied_gen {sl : Addr} {vl vu : Value} {lo hi : Option Int} {n : Nat} {Q : Int × Int × Nat → Shared → Prop} (hs : s.heap.IsSliceOf sl vl vu .none) (pl : IsPart vl lo) (pu : IsPart vu hi)
    (h : Q (((sIx n 0 lo : Nat) : Int), 1, sIx n n hi - sIx n 0 lo) s) : wpAny (model prog w) A (Builtin.Slice.sliceApplied (.ref sl) (pure (n : Int))) Q E s := by
  obtain ⟨os, hos, hcs, hds⟩ := id hs
  unfold Builtin.Slice.sliceApplied Builtin.Slice.sliceFields
  refine wpAny_bind (wpAny_bind (wpAny_field hos hds (x := vl) rfl (wpAny_bind (wpAny_field hos hds (x := vu) rfl (wpAny_bind (wpAny_field hos hds (x := .none) rfl (wpAny_pure ?_)))))))
  refine wpAny_bind (slicePart_none ?_)
  show wpAny _ _ (if ((1 : Int) == 0) = true then _ else _) _ _ s
  rw [if_neg (by decide)]
  refine wpAny_bind (slicePart_ pl (wpAny_bind (slicePart_ pu (wpAny_bind (wpAny_pure ?_)))))
  show wpAny _ _ (match Builtin.Slice.sliceAdjust lo hi 1 (n : Int) with | (lo, hi) => pure (lo, (1 : Int), Builtin.Slice.slicePlaces lo hi 1)) _ _ s
  rw [adjust_gen lo hi n]
  show wpAny _ _ (pure (((sIx n 0 lo : Nat) : Int), (1 : Int), Builtin.Slice.slicePlaces ((sIx n 0 lo : Nat) : Int) ((sIx n n hi : Nat) : Int) 1)) _ _ s
  rw [places_gen]
  exact wpAny_pure h
theorem pick_gen (xs : Array Value) (i k : Nat) : ((List.range k).filterMap fun (m : Nat) => xs[((i : Int) + (m : Int) * 1).toNat]?).toArray = ((xs.toList.drop i).take k).toArray := by
  have e : (fun (m : Nat) => xs[((i : Int) + (m : Int) * 1).toNat]?) = fun m => xs[i + m]? := by
    funext m
    have : ((i : Int) + (m : Int) * 1).toNat = i + m := by omega
    rw [this]
  rw [e]
  have := pick_run xs i k
  rw [List.filterMap_map] at this
  have e2 : ((fun x => xs[x]?) ∘ fun x => i + x) = fun m => xs[i + m]? := rfl
  rw [e2] at this
  rw [this]

theorem getItem_tuple_cut {t sl : Addr} {items : Array Value} {vl vu : Value} {lo hi : Option Int} {Q : Value → Shared → Prop} (ht : IsTup s.heap t items) (hs : s.heap.IsSliceOf sl vl vu .none) (pl : IsPart vl lo) (pu : IsPart vu hi)
    (hw : ¬ (sIx items.size 0 lo = 0 ∧ sIx items.size items.size hi = items.size))
    (h : Q (.ref s.heap.objs.size) { s with heap := s.heap.push { cls := .type "tuple", data := .seq ((items.toList.drop (sIx items.size 0 lo)).take (sIx items.size items.size hi - sIx items.size 0 lo)).toArray } })
    (hsz : items.size ≤ sizeLine) : wpAny (model prog w) A (getItem (.ref t) (.ref sl)) Q E s := by
  have htake : sizeOk (.seq ((items.toList.drop (sIx items.size 0 lo)).take (sIx items.size items.size hi - sIx items.size 0 lo)).toArray) := by
    show ((items.toList.drop (sIx items.size 0 lo)).take (sIx items.size items.size hi - sIx items.size 0 lo)).toArray.size ≤ sizeLine
    rw [List.size_toArray, List.length_take, List.length_drop, Array.length_toList]
    omega
  have hj : sIx items.size items.size hi ≤ items.size := sIx_le _ _ (Nat.le_refl _) hi
  obtain ⟨os, hos, hcs, hds⟩ := id hs
  have hTs : s.TypeIs (.ref sl) "slice" := ⟨os, hos, hcs⟩
  unfold getItem
  try with_reducible refine wpAny_holding ?_
  first | refine wpAny_bind (wpAny_pure ?_) | skip
  refine wpAny_bind (wpAny_sequenceKey ht.typeIs (by decide) ?_)
  refine wpAny_bind (wpAny_callSpecial?_slot (name := Str.ofString "__getitem__") ht.typeIs PyProof.Rows.slot_tuple_getitem
    (wpAny_call_entry PyProof.Rows.slot_tuple_getitem ht.typeIs entry_tuple_getitem ?_ (args_tuple_getitem _ _)))
  show wpAny _ _ (Builtin.Tuple.tupleItemsOf (.ref t) >>= _) _ _ s
  refine wpAny_bind (tupleItemsOf_ ht ?_)
  refine wpAny_bind (wpAny_typeOf hTs ?_)
  rw [if_pos (by decide)]
  refine wpAny_bind (sliceApplied_gen hs pl pu ?_)
  have hno : ¬ ((((sIx items.size 0 lo : Nat) : Int) == 0 && (1 : Int) == 1 && (sIx items.size items.size hi - sIx items.size 0 lo) == items.size) = true) := by
    intro q
    rw [Bool.and_eq_true, Bool.and_eq_true] at q
    have q1 : ((sIx items.size 0 lo : Nat) : Int) = 0 := eq_of_beq q.1.1
    have q2 : sIx items.size items.size hi - sIx items.size 0 lo = items.size := eq_of_beq q.2
    exact hw ⟨by omega, by omega⟩
  show wpAny _ _ (if (((sIx items.size 0 lo : Nat) : Int) == 0 && (1 : Int) == 1 && (sIx items.size items.size hi - sIx items.size 0 lo) == items.size) = true then _ else _) _ _ s
  rw [if_neg hno, pick_gen]
  first
    | exact wpAny_bind (m := Builtin.Tuple.tupleExact _) (wpAny_newObj_type (wpAny_pure ⟨_, rfl, wpAny_pure h⟩) htake)
    | exact wpAny_bind (m := Builtin.Tuple.tupleExact _) (wpAny_newObj_type (wpAny_bind (wpAny_pure (wpAny_pure ⟨_, rfl, wpAny_pure h⟩))) htake)
    | exact wpAny_bind (wpAny_bind (m := Builtin.Tuple.tupleExact _) (wpAny_newObj_type (wpAny_pure (wpAny_pure ⟨_, rfl, wpAny_pure h⟩)) htake))
    | exact wpAny_bind (wpAny_bind (m := Builtin.Tuple.tupleExact _) (wpAny_newObj_type (wpAny_pure ⟨_, rfl, wpAny_pure h⟩) htake))
end
end HT

namespace L2
open PySem PySem.Spec PyProof.Rows

abbrev TO := St → Hp → (Option Int → Hp → Prop) → Prop
def PO (X : Cx) (e : Option Expr) (t : TO) : Prop :=
  ∀ (pins : List (Addr × Obj)) (s : Shared) (σ : St) (H : Hp) (Q : Option Int → Hp → Prop), Inv X pins σ H s → t σ H Q →
    wpAny (model X.prog X.w) X.A (evalPart e X.env) (fun u s' => ∃ o H', Inv X pins σ H' s' ∧ IsPart u o ∧ Q o H') X.xe s
def tNoPart : TO := fun _ H Q => Q none H
def tPart (t : TE) : TO := fun σ H Q => t σ H fun x H1 => ∃ i, x = .int i ∧ Q (some i) H1

section
variable {X : Cx} {e : Expr} {te : TE} {lo hi : Option Expr} {tl th : TO} {pos p2 : Pos}

theorem po_none : PO X none tNoPart := by
  intro pins s σ H Q I h
  rw [evalPart_none]
  exact wpAny_pure ⟨none, H, I, .none, h⟩
theorem po_some (h : PE X e te) : PO X (some e) (tPart te) := by
  intro pins s σ H Q I hw
  rw [evalPart_some]
  refine thn (h pins s σ H _ I hw) fun u s1 ⟨x, H1, I1, r1, q1⟩ => ?_
  obtain ⟨i, rfl, q⟩ := q1
  obtain ⟨t, rfl⟩ := r1
  exact ⟨some i, H1, I1, .int i t, q⟩

def SlR (X : Cx) (r : V → Option Int → Option Int → Hp → VK → Prop) : Prop :=
  ∀ (pins : List (Addr × Obj)) (s : Shared) (σ : St) (H : Hp) (x : V) (v vl vu : Value) (lo hi : Option Int) (sl : Addr) (Q : VK), Inv X pins σ H s → RelV x v → s.heap.IsSliceOf sl vl vu .none → IsPart vl lo → IsPart vu hi → r x lo hi H Q →
    ∃ T id, typeLookup (.type T) "__getitem__" = pure (some (.builtin id)) ∧ s.TypeIs v T ∧ wpAny (model X.prog X.w) X.A (getItem v (.ref sl)) (EP X pins σ Q) X.xe s
theorem SlR.or {r r' : V → Option Int → Option Int → Hp → VK → Prop} (h : SlR X r) (h' : SlR X r') : SlR X (fun x lo hi H Q => r x lo hi H Q ∨ r' x lo hi H Q) := by
  intro pins s σ H x v vl vu lo hi sl Q I rx hs pl pu q
  rcases q with q | q
  · exact h pins s σ H x v vl vu lo hi sl Q I rx hs pl pu q
  · exact h' pins s σ H x v vl vu lo hi sl Q I rx hs pl pu q
def tSl (r : V → Option Int → Option Int → Hp → VK → Prop) (te : TE) (tl th : TO) : TE := fun σ H Q => te σ H fun x H1 => tl σ H1 fun l H2 => th σ H2 fun u H3 => r x l u H3 Q
theorem pe_slice {r : V → Option Int → Option Int → Hp → VK → Prop} (hr : SlR X r) (he : PE X e te) (hl : PO X lo tl) (hu : PO X hi th) : PE X (.Subscript e (.Slice lo hi none p2) pos) (tSl r te tl th) := by
  intro pins s σ H Q I h
  refine Subscript_ (thn (he pins s σ H _ I h) fun v s1 ⟨x, H1, I1, r1, q1⟩ => ?_)
  refine wpAny_Slice (thn (hl pins s1 σ H1 _ I1 q1) fun vl s2 ⟨l, H2, I2, pl, q2⟩ => thn (hu pins s2 σ H2 _ I2 q2) fun vu s3 ⟨u, H3, I3, pu, q3⟩ => ?_)
  rw [evalPart_none]
  refine wpAny_pure ?_
  have I4 : Inv X pins σ H3 { s3 with heap := s3.heap.push { cls := .type "slice", data := .fields #[vl, vu, .none] } } := I3.kept (t' := s3.toks) fun b ob q => Heap.get?_push_of_some _ q
  obtain ⟨T, id, hT, ht, hg⟩ := hr pins { s3 with heap := s3.heap.push { cls := .type "slice", data := .fields #[vl, vu, .none] } } σ H3 x v vl vu l u s3.heap.objs.size Q I4 r1 (Heap.IsSliceOf.new ..) pl pu q3
  show wpAny (model X.prog X.w) X.A (subscriptTail e (.Slice lo hi none p2) v (.ref s3.heap.objs.size)) (EP X pins σ Q) X.xe { s3 with heap := s3.heap.push { cls := .type "slice", data := .fields #[vl, vu, .none] } }
  exact tail_any (ops := [.ref s3.heap.objs.size, v]) ht hT hg (by with_unfolding_all rfl)

def cutV (xs : List V) (lo hi : Option Int) : List V := (xs.drop (HT.sIx xs.length 0 lo)).take (HT.sIx xs.length xs.length hi - HT.sIx xs.length 0 lo)
theorem cutV_length (xs : List V) (lo hi : Option Int) : (cutV xs lo hi).length ≤ xs.length := by
  unfold cutV
  rw [List.length_take, List.length_drop]
  omega
def rSlT (K : PySem.W.Frag) : V → Option Int → Option Int → Hp → VK → Prop := fun x lo hi H Q => ∃ a xs, x = .ref a ∧ SqT K H a xs ∧
  ¬ (HT.sIx xs.length 0 lo = 0 ∧ HT.sIx xs.length xs.length hi = xs.length) ∧ ∀ p, H p = none → Q (.ref p) (upd H p (.tup (cutV xs lo hi)))
theorem sl_tup : SlR X (rSlT X.K) := by
  intro pins s σ H x v vl vu lo hi sl Q I rx hs pl pu h
  obtain ⟨a, xs, rfl, hx, hw, q⟩ := h
  cases rx
  obtain ⟨its, r, ht, hz⟩ := I.tuple hx
  have hlen : its.toArray.size = xs.length := by rw [List.size_toArray]; exact r.length.symm
  refine ⟨"tuple", _, PyProof.Rows.slot_tuple_getitem.lookup, ht.typeIs, ?_⟩
  refine HT.getItem_tuple_cut ht hs pl pu (by rw [hlen]; exact hw) ?_ (by rw [hlen]; exact hz)
  rw [hlen]
  refine ⟨.ref s.heap.objs.size, _, I.laid (t' := s.toks) (o := .tup (cutV xs lo hi)) (fun b ob q => Heap.get?_push_of_some _ q) (Nat.le_refl _) ?_, rfl, q _ (I.hok.fresh (Nat.le_refl _))⟩
  exact ⟨Nat.le_trans (cutV_length xs lo hi) hz, _, (r.drop (HT.sIx xs.length 0 lo)).take (HT.sIx xs.length xs.length hi - HT.sIx xs.length 0 lo), IsTup.new _ _⟩

end
end L2

namespace L2
open PySem PySem.Spec PyProof.Rows

def ixN (n : Nat) (i : Int) : Option Nat := if 0 ≤ i then (if i < n then some i.toNat else none) else if -(n : Int) ≤ i then some (i + n).toNat else none
def atI {α : Type} (xs : List α) (i : Int) : Option α := (ixN xs.length i).bind fun j => xs[j]?
theorem ixN_seq {n : Nat} {i : Int} {j : Nat} (h : ixN n i = some j) : seqIndex? i n = some j ∧ j < n ∧ -(n : Int) ≤ i ∧ i < n := by
  unfold ixN at h
  by_cases h0 : 0 ≤ i
  · rw [if_pos h0] at h
    by_cases h1 : i < n
    · rw [if_pos h1] at h
      have e : i.toNat = j := Option.some.inj h
      exact ⟨by rw [seqIndex_of h0 h1, e], by omega, by omega, h1⟩
    · rw [if_neg h1] at h; cases h
  · rw [if_neg h0] at h
    by_cases h1 : -(n : Int) ≤ i
    · rw [if_pos h1] at h
      have e : (i + n).toNat = j := Option.some.inj h
      exact ⟨by rw [seqIndex_neg (by omega) h1, e], by omega, h1, by omega⟩
    · rw [if_neg h1] at h; cases h
theorem atI_get {α : Type} {xs : List α} {i : Int} {v : α} (h : atI xs i = some v) : ∃ j, seqIndex? i xs.length = some j ∧ xs[j]? = some v ∧ j < xs.length ∧ -(xs.length : Int) ≤ i ∧ i < xs.length := by
  unfold atI at h
  cases e : ixN xs.length i with
  | none => rw [e] at h; cases h
  | some j =>
    rw [e] at h
    obtain ⟨h1, h2, h3, h4⟩ := ixN_seq e
    exact ⟨j, h1, h, h2, h3, h4⟩
theorem atI_nat {α : Type} {xs : List α} {j : Nat} {v : α} (h : xs[j]? = some v) : atI xs (j : Int) = some v := by
  have hj : j < xs.length := (List.getElem?_eq_some_iff.mp h).1
  have e : ixN xs.length (j : Int) = some j := by
    unfold ixN
    rw [if_pos (by omega), if_pos (by omega)]; simp
  unfold atI; rw [e]; exact h
def PlainIx (b : Expr) : Prop := ∀ o i, subscripted b false o i = operate [o, i] (getItem o i)
def IxR (X : Cx) (r : R2) : Prop :=
  ∀ (value slice : Expr) (pins : List (Addr × Obj)) (s : Shared) (σ : St) (H : Hp) (x y : V) (v u : Value) (Q : VK), Inv X pins σ H s → RelV x v → RelV y u → r x y H Q →
    subscripted slice false v u = operate [v, u] (getItem v u) → wpAny (model X.prog X.w) X.A (subscriptTail value slice v u) (EP X pins σ Q) X.xe s
def MtR (X : Cx) (id : String) (r : V → List V → Hp → VK → Prop) : Prop :=
  ∀ (pins : List (Addr × Obj)) (s : Shared) (σ : St) (H : Hp) (x : V) (xs : List V) (v : Value) (us : List Value) (Q : VK), Inv X pins σ H s → RelV x v → Vals xs us → r x xs H Q →
    wpAny (model X.prog X.w) X.A (call (.builtin id) (v :: us)) (EP X pins σ Q) X.xe s
section
variable {X : Cx} {a b : Expr} {ta tb : TE} {pos : Pos}
theorem IxR.or {r r' : R2} (h : IxR X r) (h' : IxR X r') : IxR X (fun x y H Q => r x y H Q ∨ r' x y H Q) := by
  intro value slice pins s σ H x y v u Q I rx ry q hs
  rcases q with q | q
  · exact h value slice pins s σ H x y v u Q I rx ry q hs
  · exact h' value slice pins s σ H x y v u Q I rx ry q hs
theorem MtR.or {id : String} {r r' : V → List V → Hp → VK → Prop} (h : MtR X id r) (h' : MtR X id r') : MtR X id (fun x xs H Q => r x xs H Q ∨ r' x xs H Q) := by
  intro pins s σ H x xs v us Q I rx rs q
  rcases q with q | q
  · exact h pins s σ H x xs v us Q I rx rs q
  · exact h' pins s σ H x xs v us Q I rx rs q
theorem pe_ix {r : R2} (hr : IxR X r) (ha : PE X a ta) (hb : PE X b tb) (hs : PlainIx b) : PE X (.Subscript a b pos) (tOp r ta tb) := by
  intro pins s σ H Q I h
  exact Subscript_ (binT ha hb I h fun v u s2 x y H2 I2 rx ry q => hr a b pins s2 σ H2 x y v u Q I2 rx ry q (hs _ _))

def rIxL (K : PySem.W.Frag) : R2 := fun x y H Q => ∃ p xs i v, x = .ref p ∧ y = .int i ∧ SqL K H p xs ∧ atI xs i = some v ∧ Q v H
def rIxT (K : PySem.W.Frag) : R2 := fun x y H Q => ∃ p xs i v, x = .ref p ∧ y = .int i ∧ SqT K H p xs ∧ atI xs i = some v ∧ Q v H
def rIxS : R2 := fun x y H Q => ∃ z i c, x = .str z ∧ y = .int i ∧ z.length ≤ sizeLine ∧ atI z.cps.toList i = some c ∧ Q (.str ⟨#[c]⟩) H
theorem ix_list : IxR X (rIxL X.K) := by
  intro value slice pins s σ H x y v u Q I rx ry h hs
  obtain ⟨p, xs, i, z, rfl, rfl, hq, he, q⟩ := h
  cases rx
  obtain ⟨t, rfl⟩ := ry
  obtain ⟨its, r, pl, hz⟩ := I.list hq
  obtain ⟨j, h1, h2, h3, h4, h5⟩ := atI_get he
  obtain ⟨w, ew, rw'⟩ := r.get h2
  have hl := r.length
  have hn := line63
  have fin : EP X pins σ Q w s := ⟨z, H, I, rw', q⟩
  by_cases h0 : 0 ≤ i
  · have hj : i.toNat = j := by
      rw [seqIndex_of h0 h5] at h1
      exact Option.some.inj h1
    exact item_listR pl.isList h0 (by omega) (by rw [hj]; simpa using ew) fin hs
  · have hj : (i + (its.toArray.size : Int)).toNat = j := by
      rw [seqIndex_neg (by omega) h4] at h1
      rw [List.size_toArray, ← hl]
      exact Option.some.inj h1
    exact subscriptTail_builtinR (x := w) pl.isList.typeIs slot_list_getitem.lookup
      (wpAny_getItem_list_neg (Q := fun r s' => r = w ∧ EP X pins σ Q r s') pl.isList (by omega) (by rw [List.size_toArray] <;> omega) (by omega) (by rw [hj]; simpa using ew) ⟨rfl, fin⟩) hs
theorem ix_tup : IxR X (rIxT X.K) := by
  intro value slice pins s σ H x y v u Q I rx ry h hs
  obtain ⟨p, xs, i, z, rfl, rfl, hq, he, q⟩ := h
  cases rx
  obtain ⟨t, rfl⟩ := ry
  obtain ⟨its, r, pl, hz⟩ := I.tuple hq
  obtain ⟨j, h1, h2, h3, h4, h5⟩ := atI_get he
  obtain ⟨w, ew, rw'⟩ := r.get h2
  have hl := r.length
  have hn := line63
  have fin : EP X pins σ Q w s := ⟨z, H, I, rw', q⟩
  exact subscriptTail_builtinR (x := w) pl.typeIs slot_tuple_getitem.lookup
    (getItem_tuple (j := j) (Q := fun r s' => r = w ∧ EP X pins σ Q r s') pl (by omega) (by omega) (by rw [List.size_toArray, ← hl]; exact h1) (by simpa using ew) ⟨rfl, fin⟩) hs
theorem ix_str : IxR X rIxS := by
  intro value slice pins s σ H x y v u Q I rx ry h hs
  obtain ⟨z, i, c, rfl, rfl, hz, he, q⟩ := h
  obtain ⟨t, rfl⟩ := rx
  obtain ⟨t', rfl⟩ := ry
  obtain ⟨j, h1, h2, h3, h4, h5⟩ := atI_get he
  have hl : z.cps.toList.length = z.length := by simp [Str.length]
  rw [hl] at h1 h4 h5
  have hn := line63
  exact tail_any (typeIs_str s z t) slot_str_getitem.lookup (getItem_str (c := c) (by
    have e1 : decide (i < -(2 ^ 63 : Int)) = false := decide_eq_false (by omega)
    have e2 : decide (i ≥ 2 ^ 63) = false := decide_eq_false (by omega)
    rw [e1, e2, Bool.or_false]) (by rw [h1]; simpa using h2) ⟨.str ⟨#[c]⟩, H, I.tok _, ⟨_, rfl⟩, q⟩) hs
def rIx (K : PySem.W.Frag) : R2 := fun x y H Q => rIxL K x y H Q ∨ rIxT K x y H Q ∨ rIxS x y H Q
theorem ix_seq : IxR X (rIx X.K) := ix_list.or (ix_tup.or ix_str)

theorem Inv.lst {pins : List (Addr × Obj)} {σ : St} {H : Hp} {s : Shared} {p : Addr} {xs : List V} (I : Inv X pins σ H s) (h : H p = some (.lst xs)) :
    ∃ (its : List Value) (n : Nat), Vals xs its ∧ s.heap.get? p = some { cls := .type "list", data := .seq its.toArray n } ∧ xs.length ≤ sizeLine := by
  obtain ⟨z, its, n, r, e⟩ := I.hok p _ h
  exact ⟨its, n, r, e, z⟩
theorem slice_bounds (lo hi : Option Int) (n : Nat) : (sliceBounds lo hi none n).1 = ((HT.sIx n 0 lo : Nat) : Int) ∧ (sliceBounds lo hi none n).2.1 = ((HT.sIx n n hi : Nat) : Int) ∧ (sliceBounds lo hi none n).2.2 = 1 := by
  refine ⟨?_, ?_, rfl⟩
  · cases lo with
    | none => simp [sliceBounds, HT.sIx]
    | some i =>
      simp only [sliceBounds, HT.sIx, Option.getD_none, show (1 : Int) > 0 by decide, if_true]
      by_cases h : i < 0
      · simp only [h, if_true] <;> omega
      · simp only [h, if_false] <;> omega
  · cases hi with
    | none => simp [sliceBounds, HT.sIx]
    | some i =>
      simp only [sliceBounds, HT.sIx, Option.getD_none, show (1 : Int) > 0 by decide, if_true]
      by_cases h : i < 0
      · simp only [h, if_true] <;> omega
      · simp only [h, if_false] <;> omega
theorem slicePick_cut (its : List Value) (lo hi : Option Int) : slicePick its.toArray lo hi none = ((its.drop (HT.sIx its.length 0 lo)).take (HT.sIx its.length its.length hi - HT.sIx its.length 0 lo)).toArray := by
  obtain ⟨h1, h2, h3⟩ := slice_bounds lo hi its.toArray.size
  unfold slicePick
  rw [h1, h2, h3]
  simp only [sliceRange_one, pick_run, List.size_toArray] <;> rfl
def rSlL (K : PySem.W.Frag) : V → Option Int → Option Int → Hp → VK → Prop := fun x lo hi H Q => ∃ a xs, x = .ref a ∧ SqL K H a xs ∧ ∀ p, H p = none → Q (.ref p) (upd H p (.lst (cutV xs lo hi)))
theorem sl_list : SlR X (rSlL X.K) := by
  intro pins s σ H x v vl vu lo hi sl Q I rx hs pl pu h
  obtain ⟨a, xs, rfl, hx, q⟩ := h
  cases rx
  obtain ⟨its, r, ht, hz⟩ := I.list hx
  have hlen := r.length
  refine ⟨"list", _, slot_list_getitem.lookup, ht.isList.typeIs, ?_⟩
  refine wpAny_getItem_list_slice ht.isList hs pl pu .none (by simp) ?_ (by rw [List.size_toArray] <;> omega)
  rw [slicePick_cut, ← hlen]
  refine ⟨.ref s.heap.objs.size, _, I.laid (t' := s.toks) (o := .lst (cutV xs lo hi)) (fun b ob q => Heap.get?_push_of_some _ q) (Nat.le_refl _) ?_, rfl, q _ (I.hok.fresh (Nat.le_refl _))⟩
  exact ⟨Nat.le_trans (cutV_length xs lo hi) hz, _, 0, (r.drop (HT.sIx xs.length 0 lo)).take (HT.sIx xs.length xs.length hi - HT.sIx xs.length 0 lo), Heap.get?_push_size _ rfl⟩

theorem call_len_seq : CallR X (.builtin "len") (fun xs H Q => ∃ p ys, xs = [.ref p] ∧ (SqL X.K H p ys ∨ SqT X.K H p ys) ∧ Q (.int ys.length) H) := by
  intro pins s σ H xs us Q I r h
  obtain ⟨p, ys, rfl, hq, q⟩ := h
  obtain ⟨u, rfl, rx⟩ := vals1 r
  cases rx
  have hn := line63
  rcases hq with hq | hq
  · obtain ⟨its, r', pl, hz⟩ := I.list hq
    have hlen := r'.length
    exact Calls.call_len_list pl.isList (by simp only [List.size_toArray] <;> omega) ⟨.int ys.length, H, I.tok _, ⟨s.toks + 1, by rw [List.size_toArray, hlen]⟩, q⟩
  · obtain ⟨its, r', pl, hz⟩ := I.tuple hq
    have hlen := r'.length
    exact len_tuple pl (by simp only [List.size_toArray] <;> omega) ⟨.int ys.length, H, I.tok _, ⟨s.toks + 1, by rw [List.size_toArray, hlen]⟩, q⟩
theorem call_len_str : CallR X (.builtin "len") (fun xs H Q => ∃ z, xs = [.str z] ∧ z.length ≤ sizeLine ∧ Q (.int z.length) H) := by
  intro pins s σ H xs us Q I r h
  obtain ⟨z, rfl, hz, q⟩ := h
  obtain ⟨u, rfl, t, rfl⟩ := vals1 r
  have hn := line63
  exact len_str (by omega) ⟨.int z.length, H, I.tok _, ⟨_, rfl⟩, q⟩
theorem CallR.or {f : Value} {r r' : List V → Hp → VK → Prop} (h : CallR X f r) (h' : CallR X f r') : CallR X f (fun xs H Q => r xs H Q ∨ r' xs H Q) := by
  intro pins s σ H xs us Q I rs q
  rcases q with q | q
  · exact h pins s σ H xs us Q I rs q
  · exact h' pins s σ H xs us Q I rs q
theorem call_list_of : CallR X (.type "list") (fun xs H Q => ∃ p ys, xs = [.ref p] ∧ (SqL X.K H p ys ∨ SqT X.K H p ys) ∧ ∀ l, H l = none → Q (.ref l) (upd H l (.lst ys))) := by
  intro pins s σ H xs us Q I r h
  obtain ⟨p, ys, rfl, hq, q⟩ := h
  obtain ⟨u, rfl, rx⟩ := vals1 r
  cases rx
  have fin : ∀ (its : List Value), Vals ys its → ys.length ≤ sizeLine → ∀ (h' : Heap) (c' : Nat), (∀ b o', s.heap.get? b = some o' → h'.get? b = some o') →
      h'.get? s.heap.objs.size = some { cls := .type "list", dict := none, data := .seq its.toArray c', slots := #[] } → EP X pins σ Q (.ref s.heap.objs.size) { s with heap := h' } := fun its r' hz h' c' kp e =>
    ⟨.ref s.heap.objs.size, _, I.laid (t' := s.toks) kp (Nat.le_refl _) (show ObjOk X.prog X.w _ h' _ (.lst ys) from ⟨hz, its, c', r', e⟩), rfl, q _ (I.hok.fresh (Nat.le_refl _))⟩
  rcases hq with hq | hq
  · obtain ⟨its, r', pl, hz⟩ := I.list hq
    have hlen := r'.length
    obtain ⟨o, ho, hc, n, hd⟩ := pl.isList
    exact call_list_seq p (.inl rfl) ho hc hd (fun h' c' kp e => fin its r' hz h' c' kp e) (by simp only [List.size_toArray] <;> omega)
  · obtain ⟨its, r', pl, hz⟩ := I.tuple hq
    have hlen := r'.length
    obtain ⟨o, ho, hc, n, hd⟩ := pl
    exact call_list_seq p (.inr rfl) ho hc hd (fun h' c' kp e => fin its r' hz h' c' kp e) (by simp only [List.size_toArray] <;> omega)
theorem call_tuple_of : CallR X (.type "tuple") (fun xs H Q => ∃ p ys, xs = [.ref p] ∧ ((SqL X.K H p ys ∧ ∀ l, H l = none → Q (.ref l) (upd H l (.tup ys))) ∨ (SqT X.K H p ys ∧ Q (.ref p) H))) := by
  intro pins s σ H xs us Q I r h
  obtain ⟨p, ys, rfl, h⟩ := h
  obtain ⟨u, rfl, rx⟩ := vals1 r
  cases rx
  rcases h with ⟨hq, q⟩ | ⟨hq, q⟩
  · obtain ⟨its, r', pl, hz⟩ := I.list hq
    have hlen := r'.length
    refine call_tuple_list pl.isList (fun h' kp => ?_) (by simp only [List.size_toArray] <;> omega)
    have I1 : Inv X pins σ H { s with heap := h' } := I.kept (t' := s.toks) kp
    have I2 : Inv X pins σ (upd H h'.objs.size (.tup ys)) { s with heap := h'.push { cls := .type "tuple", data := .seq its.toArray } } :=
      I1.laid (t' := s.toks) (fun b o e => Heap.get?_push_of_some _ e) (Nat.le_refl _) (show ObjOk X.prog X.w _ _ _ (.tup ys) from ⟨hz, its, r', IsTup.new _ _⟩)
    exact ⟨.ref h'.objs.size, _, I2, rfl, q _ (I1.hok.fresh (Nat.le_refl _))⟩
  · obtain ⟨its, r', pl, hz⟩ := I.tuple hq
    exact call_tuple_same pl ⟨.ref p, H, I, rfl, q⟩

def tyV (K : PySem.W.Frag) (T : String) (x : V) (H : Hp) : Prop := match x with
  | .str _ => T = "str"
  | .int _ => T = "int"
  | .ref p => (T = "list" ∧ ∃ xs, SqL K H p xs) ∨ (T = "tuple" ∧ ∃ o, K.lookup p = some o ∧ o.cls = .type "tuple" ∧ o.dict = none) ∨
      (T = "dict" ∧ ((∃ kvs, H p = some (.dK kvs)) ∨ ∃ kvs, H p = some (.dT kvs))) ∨ (T = "set" ∧ ∃ S n, H p = some (.set S n))
  | _ => False
theorem tyV_is {pins : List (Addr × Obj)} {σ : St} {H : Hp} {s : Shared} {T : String} {x : V} {v : Value} (I : Inv X pins σ H s) (r : RelV x v) (ty : tyV X.K T x H) :
    s.TypeIs v T ∧ ∀ a, v = .ref a → ∃ ob, s.heap.get? a = some ob ∧ ob.dict = none := by
  cases x with
  | str z =>
    obtain ⟨t, rfl⟩ := r
    cases (show T = "str" from ty)
    exact ⟨typeIs_str s z t, fun _ e => nomatch e⟩
  | int i =>
    obtain ⟨t, rfl⟩ := r
    cases (show T = "int" from ty)
    exact ⟨typeIs_int s i t, fun _ e => nomatch e⟩
  | ref p =>
    cases r
    rcases ty with ⟨rfl, xs, hq⟩ | ⟨rfl, o, hk, hc, hd⟩ | ⟨rfl, hk⟩ | ⟨rfl, S, n, hk⟩
    · obtain ⟨its, _, pl, _⟩ := I.list hq
      refine ⟨pl.isList.typeIs, fun a e => ?_⟩
      cases e
      obtain ⟨o, n, e, c, hd, _⟩ := pl
      exact ⟨o, e, hd⟩
    · refine ⟨⟨o, I.kIn p o hk, hc⟩, fun a e => ?_⟩
      cases e
      exact ⟨o, I.kIn _ o hk, hd⟩
    · have z : ∃ o, s.heap.get? p = some o ∧ o.ExactDict := by
        rcases hk with ⟨kvs, hk⟩ | ⟨kvs, hk⟩
        · obtain ⟨_, _, _, _, o, _, _, e, ex, _⟩ := I.hok p _ hk
          exact ⟨o, e, ex⟩
        · obtain ⟨_, _, _, _, o, _, _, e, ex, _⟩ := I.hok p _ hk
          exact ⟨o, e, ex⟩
      obtain ⟨o, e, ex⟩ := z
      refine ⟨⟨o, e, ex.1⟩, fun a e2 => ?_⟩
      cases e2
      exact ⟨o, e, ex.2.1⟩
    · obtain ⟨o, _, _, _, e, ex, _⟩ := I.hok p _ hk
      refine ⟨⟨o, e, ex.1⟩, fun a e2 => ?_⟩
      cases e2
      exact ⟨o, e, ex.2.1⟩
  | _ => exact False.elim ty
def tBM (K : PySem.W.Frag) (T : String) (r : V → List V → Hp → VK → Prop) (to : TE) (t : TA) : TE := fun σ H Q => to σ H fun x H1 => tyV K T x H1 ∧ t σ H1 fun xs H2 => r x xs H2 Q
variable {o e : Expr} {es : List Expr} {to : TE} {t : TA} {name : Str} {apos cpos : Pos} {T id : String} {r : V → List V → Hp → VK → Prop}
theorem pe_bm (pa : PlainAttrs T) (slot : Slot T name id) (hty : typeOf (.builtin id) = pure (.type "method_descriptor")) (hm : MtR X id r) (ho : PE X o to) (ha : PA X (e :: es) t)
    (hbase : attributeBase o name X.env (eval o X.env) = eval o X.env := by rfl)
    (hfew : ((backTo cpos (starEach (e :: es) X.env)).all (fun x => !x.1) && (backToKw cpos (keywordEach [] X.env)).all (fun x => x.1.isSome)
      && decide ((e :: es).length + ([] : List Keyword).length + (if ([] : List Keyword).isEmpty then 0 else 1) < 30)) = true := by rfl)
    (hline : (apos.endLine == cpos.line) = true := by rfl) (hs : starEach (e :: es) X.env = (false, eval e X.env) :: starEach es X.env := by rfl) (hplain : (backTo cpos (starEach es X.env)).any (·.1) = false := by rfl) :
    PE X (.Call (.Attribute o name apos) (e :: es) [] cpos) (tBM X.K T r to t) := by
  intro pins s σ H Q I h
  refine wpAny_Call_method_late hbase hfew hline rfl (thn (ho pins s σ H _ I h) fun v s1 ⟨x, H1, I1, r1, ty, q1⟩ => ?_)
  obtain ⟨h1, h2⟩ := tyV_is I1 r1 ty
  refine ⟨T, id, pa, slot, hty, h1, h2, ?_⟩
  have hA := ha cpos pins s1 σ H1 _ I1 q1
  rw [hs] at hA ⊢
  refine Calls.callWith_builtin (by show (false || (backTo cpos (starEach es X.env)).any (·.1)) = false; rw [hplain] <;> rfl) (Calls.evalArgs_plain ?_)
  exact thn hA fun us s2 ⟨vs, H2, I2, r2, q2⟩ => hm pins s2 σ H2 x vs v us Q I2 r1 r2 q2
/- xs.append(e), list.index on a module's tuple .. are MtR facts of 06m -/
end
end L2

namespace L2
open PySem PySem.Spec PyProof.Rows

def MtM (X : Cx) (id : String) (r : V → List V → Hp → VK → Prop) : Prop :=
  ∀ (pins : List (Addr × Obj)) (s : Shared) (σ : St) (H : Hp) (x : V) (xs : List V) (v : Value) (us : List Value) (Q : VK), Inv X pins σ H s → RelV x v → Vals xs us → r x xs H Q →
    wpAny (model X.prog X.w) X.A (call (.builtin id) (v :: us)) (EP X pins σ Q) X.xe s

theorem Vals.one : ∀ {x : V} {us : List Value}, Vals [x] us → ∃ u, us = [u] ∧ RelV x u
  | _, _, .cons r .nil => ⟨_, rfl, r⟩
theorem Vals.two : ∀ {x y : V} {us : List Value}, Vals [x, y] us → ∃ u v, us = [u, v] ∧ RelV x u ∧ RelV y v
  | _, _, _, .cons r (.cons q .nil) => ⟨_, _, rfl, r, q⟩
theorem Vals.zero : ∀ {us : List Value}, Vals [] us → us = []
  | _, .nil => rfl
theorem Vals.dropLast {xs : List V} {us : List Value} (h : Vals xs us) : Vals xs.dropLast us.dropLast := by
  induction h with
  | nil => exact .nil
  | cons r t ih =>
    cases t with
    | nil => exact .nil
    | cons q t' => exact .cons r ih
theorem Vals.reverse {xs : List V} {us : List Value} (h : Vals xs us) : Vals xs.reverse us.reverse := by
  induction h with
  | nil => exact .nil
  | cons r t ih => rw [List.reverse_cons, List.reverse_cons]; exact Vals.append ih (.cons r .nil)
section
variable {X : Cx} {pins : List (Addr × Obj)} {σ : St} {H : Hp} {s : Shared} {l b : Addr} {xs ys zs : List V}

theorem Inv.lset {its its' : List Value} {n : Nat} {f : Array Value → Array Value} {t' : Nat} (I : Inv X pins σ H s) (hH : H l = some (.lst xs))
    (e : s.heap.get? l = some { cls := .type "list", data := .seq its.toArray n }) (hf : f its.toArray = its'.toArray) (hv : Vals ys its') (hz : ys.length ≤ sizeLine) :
    Inv X pins σ (upd H l (.lst ys)) { s with heap := s.heap.update l (Obj.mapSeq f), toks := t' } := by
  have q := PySem.IsL.update e f
  rw [hf] at q
  refine I.write (x := l) (e := l) (by rw [hH]; exact trivial) (.inl rfl) (fun b' u hb hu => (Heap.get?_update_other s.heap (Obj.mapSeq f) (Ne.symm hb)).trans hu) ⟨_, q⟩ ?_
  exact ⟨hz, its', _, hv, q⟩
theorem Inv.lnew {its : List Value} {t' : Nat} (I : Inv X pins σ H s) (hv : Vals ys its) (hz : ys.length ≤ sizeLine) :
    Inv X pins σ (upd H s.heap.objs.size (.lst ys)) { s with heap := s.heap.push { cls := .type "list", data := .seq its.toArray }, toks := t' } :=
  I.laid (fun _ _ q => Heap.get?_push_of_some _ q) (Nat.le_refl _) ⟨hz, its, 0, hv, Heap.get?_push_size _ rfl⟩
theorem Inv.fresh (I : Inv X pins σ H s) : H s.heap.objs.size = none := I.hok.fresh (Nat.le_refl _)
theorem Inv.lstM (I : Inv X pins σ H s) (hH : H l = some (.lst xs)) : xs.length ≤ sizeLine ∧ ∃ (its : List Value) (n : Nat), Vals xs its ∧ xs.length = its.length ∧ s.heap.get? l = some { cls := .type "list", data := .seq its.toArray n } := by
  obtain ⟨z, its, n, r, e⟩ := I.hok l _ hH
  exact ⟨z, its, n, r, r.length, e⟩

theorem notLongL {n : Nat} (h : n ≤ sizeLine) : Builtin.List.listTooLong n = false := by
  unfold Builtin.List.listTooLong
  exact decide_eq_false (by omega)
end

section
variable {X : Cx}

def rAppend : V → List V → Hp → VK → Prop := fun x vs H Q => ∃ l xs y, x = .ref l ∧ vs = [y] ∧ H l = some (.lst xs) ∧ xs.length < sizeLine ∧ Q .non (upd H l (.lst (xs ++ [y])))
theorem mt_append : MtM X "list.append" rAppend := by
  intro pins s σ H x vs v us Q I rx rv h
  obtain ⟨l, xs, y, rfl, rfl, hH, hz, q⟩ := h
  cases rx
  obtain ⟨u, rfl, ru⟩ := rv.one
  obtain ⟨z, its, n, r, hl, e⟩ := I.lstM hH
  refine call_meets F.slot_list_append ⟨_, e, rfl⟩ F.entry_list_append (F.args_list_append_2 _ _) (PySem.list_append l its.toArray n u (by rw [List.size_toArray]; omega)) ⟨e, ?_⟩
  refine ⟨.non, _, I.lset (its' := its ++ [u]) hH e (by simp) (r.append (.cons ru .nil)) ?_, rfl, q⟩
  rw [List.length_append, List.length_singleton]
  omega

def rCat : R2 := fun x y H Q => ∃ l b xs zs, x = .ref l ∧ y = .ref b ∧ H l = some (.lst xs) ∧ H b = some (.lst zs) ∧ xs.length + zs.length ≤ sizeLine ∧ ∀ p, H p = none → Q (.ref p) (upd H p (.lst (xs ++ zs)))
theorem op_cat : OpR X (binaryOp .Add) rCat := by
  intro pins s σ H x y v u Q I rx ry h
  obtain ⟨l, b, xs, zs, rfl, rfl, hH, hB, hz, q⟩ := h
  cases rx
  cases ry
  obtain ⟨z, its, n, r, hl, e⟩ := I.lstM hH
  obtain ⟨z2, its2, n2, r2, hl2, e2⟩ := I.lstM hB
  refine PySem.P.add_list e e2 ?_ (by rw [List.size_toArray, List.size_toArray]; omega)
  have ea : its.toArray ++ its2.toArray = (its ++ its2).toArray := by simp
  rw [ea]
  exact ⟨.ref _, _, I.lnew (t' := s.toks) (r.append r2) (by rw [List.length_append]; omega), rfl, q _ I.fresh⟩
end

section
variable {prog : Program} {w : World} {A : Around} {E : Value → Shared → Prop} {s : Shared}
theorem bounds_run {a c n : Nat} (hac : a ≤ c) (hc : c ≤ n) : sliceBounds (some (a : Int)) (some (c : Int)) none n = ((a : Int), (c : Int), 1) := by
  simp only [sliceBounds, Option.getD_none]
  have h1 : ¬ ((a : Int) < 0) := by omega
  have h2 : ¬ ((c : Int) < 0) := by omega
  simp only [h1, h2, if_false, show (1 : Int) > 0 by decide, if_true]
  congr 1
  · omega
  · congr 1; omega
set_option maxRecDepth 100000 in
theorem setItem_slice {l b sl : Addr} {items new : Array Value} {n n2 : Nat} {vl vu : Value} {a c : Nat} {Q : Unit → Shared → Prop}
    (e : s.heap.get? l = some { cls := .type "list", data := .seq items n }) (e2 : s.heap.get? b = some { cls := .type "list", data := .seq new n2 }) (hne : l ≠ b)
    (hs : s.heap.IsSliceOf sl vl vu .none) (pl : IsPart vl (some (a : Int))) (pu : IsPart vu (some (c : Int))) (hac : a ≤ c) (hc : c ≤ items.size)
    (hsz : items.size + new.size ≤ sizeLine) (h : Q () { s with heap := s.heap.update l (Obj.mapSeq fun xs => xs.extract 0 a ++ new ++ xs.extract c xs.size) }) :
    wpAny (model prog w) A (setItem (.ref l) (.ref sl) (.ref b)) Q E s := by
  have hl : s.heap.IsList l items := PySem.IsL.isList e
  have hb : s.heap.IsList b new := PySem.IsL.isList e2
  obtain ⟨os, hos, hcs, hds⟩ := id hs
  have hTs : s.TypeIs (.ref sl) "slice" := ⟨os, hos, hcs⟩
  have hstep : ¬ ((rawPart none == rawInt 0) = true) := Bool.false_ne_true
  have hsame : Builtin.List.listSameRef (.ref l) (.ref b) = false := by
    unfold Builtin.List.listSameRef
    exact beq_eq_false_iff_ne.mpr hne
  have hmax : (max (a : Int) (c : Int)).toNat = c := by omega
  have hz' : ((fun xs : Array Value => xs.extract 0 a ++ new ++ xs.extract c xs.size) items).size ≤ sizeLine + 1 := by
    simp only [Array.size_append, Array.size_extract]
    omega
  unfold setItem
  try with_reducible refine wpAny_holding ?_
  first | refine wpAny_bind (wpAny_pure ?_) | skip
  refine wpAny_bind (wpAny_sequenceKey hl.typeIs (by decide) ?_)
  refine wpAny_bind (wpAny_callSpecial?_slot (name := Str.ofString "__setitem__") hl.typeIs slot_list_setitem
    (wpAny_call_entry slot_list_setitem hl.typeIs entry_list_setitem ?_ (args_list_setitem _ _ _)))
  show wpAny _ _ (Builtin.List.listSubscript? (.ref sl) >>= _) _ _ s
  refine wpAny_bind ?_
  unfold Builtin.List.listSubscript?
  refine wpAny_bind (wpAny_specialOf hTs slice_no_index ?_)
  simp only [Option.isNone_none, if_true]
  refine wpAny_pure ?_
  show wpAny _ _ (typeOf (.ref sl) >>= _) _ _ s
  refine wpAny_bind (wpAny_typeOf hTs ?_)
  first
    | rw [if_neg (by decide)]
    | refine PySem.W.KFB.if_not (by decide) ?_
  rw [listSliceParts_eq]
  refine wpAny_bind (wpAny_bind (wpAny_field hos hds (x := .none) rfl (wpAny_bind (wpAny_listPart .none ?_))))
  rw [if_neg hstep]
  refine wpAny_bind (wpAny_field hos hds (x := vl) rfl (wpAny_bind (wpAny_listPart pl ?_)))
  refine wpAny_bind (wpAny_field hos hds (x := vu) rfl (wpAny_bind (wpAny_listPart pu (wpAny_pure ?_))))
  first
    | simp only [hsame, Bool.false_eq_true, if_false]
    | refine PySem.W.KFB.if_not hsame ?_
    | (dsimp only
       rw [if_neg (by rw [hsame]; exact Bool.false_ne_true)])
  refine wpAny_bind (m := Builtin.List.listAllItems (.ref b) "must assign iterable to extended slice") ?_
  unfold Builtin.List.listAllItems
  refine wpAny_bind (wpAny_typeOf hb.typeIs ?_)
  first
    | refine PySem.W.KFB.if_so (by decide) ?_
    | rw [if_pos (by decide)]
    | simp only [beq_self_eq_true, Bool.true_or, if_true]
  unfold Builtin.List.listItems
  refine wpAny_bind (wpAny_seqItems e2 rfl (wpAny_pure ?_))
  refine wpAny_bind (wpAny_bind (wpAny_seqItems e rfl (wpAny_pure ?_)))
  refine wpAny_bind (wpAny_of_eq ((sliceIndices_raw (some (a : Int)) (some (c : Int)) none items.size (by simp)).trans (congrArg (pure : Int × Int × Int → Sem (Int × Int × Int)) (bounds_run hac hc))) ?_)
  show wpAny _ _ (if ((1 : Int) == 1) = true then _ else _) _ _ s
  rw [if_pos (by decide)]
  refine wpAny_bind (wpAny_rule ?_)
  first
    | simp only [notLongL hsz, Bool.false_eq_true, if_false]
    | refine PySem.W.KFB.if_not (notLongL hsz) ?_
  first | refine wpAny_bind (wpAny_pure ?_) | skip
  show wpAny _ _ (updateSeq l (fun xs => xs.extract 0 ((a : Int)).toNat ++ new ++ xs.extract (max (a : Int) (c : Int)).toNat xs.size) >>= _) _ _ s
  rw [hmax, Int.toNat_natCast]
  refine wpAny_bind (wpAny_updateSeq (hz := Nat.le_trans (Nat.le_add_right _ _) hsz) (_hz' := hz') e rfl ?_)
  refine wpAny_bind (wpAny_letGo ?_)
  first
    | exact wpAny_bind (wpAny_pure (wpAny_pure ⟨.none, rfl, wpAny_pure h⟩))
    | exact wpAny_pure ⟨.none, rfl, wpAny_pure h⟩
end

section
variable {X : Cx}
end
end L2

namespace L2
open PySem PySem.Spec PyProof.Rows

section
variable {κ : Type} [DecidableEq κ]
def valV (kvs : List (κ × V)) (k : κ) : Option V := (kvs.find? fun kv => decide (kv.1 = k)).map (·.2)
def putK (kvs : List (κ × V)) (k : κ) (v : V) : List (κ × V) :=
  if (kvs.any fun kv => decide (kv.1 = k)) = true then kvs.map (fun kv => if kv.1 = k then (kv.1, v) else kv) else kvs ++ [(k, v)]
def dropK (kvs : List (κ × V)) (k : κ) : List (κ × V) := kvs.filter fun kv => decide (kv.1 ≠ k)

theorem valV_pos {p : κ × V} {r : List (κ × V)} {k : κ} (e : p.1 = k) : valV (p :: r) k = some p.2 := by simp [valV, List.find?_cons, e]
theorem valV_neg {p : κ × V} {r : List (κ × V)} {k : κ} (e : ¬ p.1 = k) : valV (p :: r) k = valV r k := by simp [valV, List.find?_cons, e]
theorem RelO.getD {o : Option V} {u : Option Value} {d : V} {d' : Value} (r : RelO o u) (rd : RelV d d') : RelV (o.getD d) (u.getD d') := by
  cases o with
  | none => cases u with
    | none => exact rd
    | some _ => exact (show False from r).elim
  | some _ => cases u with
    | none => exact (show False from r).elim
    | some _ => exact r

theorem KV.val {kvs : List (κ × V)} {vs : List (κ × Value)} (r : KV kvs vs) (k : κ) : RelO (valV kvs k) (valueAt vs k) := by
  unfold KV at r
  induction r with
  | nil => exact True.intro
  | @cons p q ps qs h t ih =>
    obtain ⟨h1, h2⟩ := h
    by_cases e : p.1 = k
    · have e' : q.1 = k := h1.symm.trans e
      have b : valueAt (q :: qs) k = some q.2 := by simp [valueAt, List.find?_cons, e']
      rw [valV_pos e, b]; exact h2
    · have e' : ¬ q.1 = k := fun z => e (h1.trans z)
      have b : valueAt (q :: qs) k = valueAt qs k := by simp [valueAt, List.find?_cons, e']
      rw [valV_neg e, b]; exact ih
theorem KV.any {kvs : List (κ × V)} {vs : List (κ × Value)} (r : KV kvs vs) (k : κ) : (kvs.any fun kv => decide (kv.1 = k)) = vs.any fun kv => decide (kv.1 = k) := by
  unfold KV at r
  induction r with
  | nil => rfl
  | cons h t ih => rw [List.any_cons, List.any_cons, ih, h.1]
theorem KV.drop {kvs : List (κ × V)} {vs : List (κ × Value)} (r : KV kvs vs) (k : κ) : KV (dropK kvs k) (without vs k) := by
  unfold KV at r ⊢
  unfold dropK without
  induction r with
  | nil => exact .nil
  | @cons p q ps qs h t ih =>
    obtain ⟨h1, h2⟩ := h
    rw [List.filter_cons, List.filter_cons]
    by_cases e : p.1 = k
    · have a : ¬ decide (p.1 ≠ k) = true := by simp [e]
      have b : ¬ decide (q.1 ≠ k) = true := by simp [h1.symm.trans e]
      rw [if_neg a, if_neg b]; exact ih
    · have e' : ¬ q.1 = k := fun z => e (h1.trans z)
      have a : decide (p.1 ≠ k) = true := by simp [e]
      have b : decide (q.1 ≠ k) = true := by simp [e']
      rw [if_pos a, if_pos b]; exact .cons ⟨h1, h2⟩ ih
theorem KV.keys {kvs : List (κ × V)} {vs : List (κ × Value)} (r : KV kvs vs) : kvs.map (·.1) = vs.map (·.1) := by
  unfold KV at r
  induction r with
  | nil => rfl
  | cons h t ih => rw [List.map_cons, List.map_cons, ih, h.1]
theorem KV.length {kvs : List (κ × V)} {vs : List (κ × Value)} (r : KV kvs vs) : kvs.length = vs.length := Paired.length r
end

abbrev KT (H : Hp) : List (List Key × V) → List (List Key × Addr × Value) → Prop := Paired fun p q => p.1 = q.1 ∧ H q.2.1 = some (.tup (p.1.map kV)) ∧ RelV p.2 q.2.2
theorem KT.val {H : Hp} {kvs : List (List Key × V)} {xs : List (List Key × Addr × Value)} (r : KT H kvs xs) (k : List Key) : RelO (valV kvs k) ((atKey xs k).map (·.2)) := by
  induction r with
  | nil => exact True.intro
  | @cons p q ps qs h t ih =>
    obtain ⟨h1, _, h2⟩ := h
    by_cases e : p.1 = k
    · have e' : q.1 = k := h1.symm.trans e
      have b : atKey (q :: qs) k = some q.2 := by simp [atKey, List.find?_cons, e']
      rw [valV_pos e, b]; exact h2
    · have e' : ¬ q.1 = k := fun z => e (h1.trans z)
      have b : atKey (q :: qs) k = atKey qs k := by simp [atKey, List.find?_cons, e']
      rw [valV_neg e, b]; exact ih
theorem KT.keeps {H H' : Hp} {kvs : List (List Key × V)} {xs : List (List Key × Addr × Value)} (r : KT H kvs xs) (ht : ∀ b ys, H b = some (.tup ys) → H' b = some (.tup ys)) : KT H' kvs xs :=
  Paired.mapP r fun _ _ z => ⟨z.1, ht _ _ z.2.1, z.2.2⟩

section
variable {P : Program} {w : World} {H : Hp} {h : Heap} {a : Addr}
end

def DGet (H : Hp) (a : Addr) (y : V) (r : Option V) : Prop :=
  (∃ kvs k, Rd H a (.dK kvs) ∧ y = kV k ∧ r = valV kvs k) ∨ ∃ kvs k b, Rd H a (.dT kvs) ∧ y = .ref b ∧ H b = some (.tup (k.map kV)) ∧ r = valV kvs k
def DPut (H : Hp) (a : Addr) (y v : V) (H' : Hp) : Prop :=
  (∃ kvs k, H a = some (.dK kvs) ∧ y = kV k ∧ kvs.length < sizeLine ∧ H' = upd H a (.dK (putK kvs k v))) ∨
  ∃ kvs k b, H a = some (.dT kvs) ∧ y = .ref b ∧ H b = some (.tup (k.map kV)) ∧ kvs.length < sizeLine ∧ H' = upd H a (.dT (putK kvs k v))
theorem DGet.k {H : Hp} {a : Addr} {kvs : List (Key × V)} {k : Key} (e : H a = some (.dK kvs)) : DGet H a (kV k) (valV kvs k) := .inl ⟨kvs, k, .inl e, rfl, rfl⟩
theorem DGet.t {H : Hp} {a b : Addr} {kvs : List (List Key × V)} {k : List Key} (e : H a = some (.dT kvs)) (eb : H b = some (.tup (k.map kV))) : DGet H a (.ref b) (valV kvs k) := .inr ⟨kvs, k, b, .inl e, rfl, eb, rfl⟩
theorem DPut.k {H : Hp} {a : Addr} {kvs : List (Key × V)} {k : Key} {v : V} (e : H a = some (.dK kvs)) (hl : kvs.length < sizeLine) : DPut H a (kV k) v (upd H a (.dK (putK kvs k v))) := .inl ⟨kvs, k, e, rfl, hl, rfl⟩
theorem DPut.t {H : Hp} {a b : Addr} {kvs : List (List Key × V)} {k : List Key} {v : V} (e : H a = some (.dT kvs)) (eb : H b = some (.tup (k.map kV))) (hl : kvs.length < sizeLine) :
    DPut H a (.ref b) v (upd H a (.dT (putK kvs k v))) := .inr ⟨kvs, k, b, e, rfl, eb, hl, rfl⟩

section
variable {X : Cx} {pins : List (Addr × Obj)} {σ : St} {H : Hp} {s : Shared} {a : Addr} {y v : V} {u r : Value} {o : Option V} {A : Around} {E : Value → Shared → Prop}

end

section
variable {X : Cx} {pins : List (Addr × Obj)} {σ : St} {H : Hp} {s : Shared} {a : Addr} {kvs : List (Key × V)} {k : Key} {u : Value} {A : Around} {E : Value → Shared → Prop}
end

section
variable {X : Cx} {o i e value : Expr} {pos pos' tpos : Pos} {td ty tv : TE}
end

section
variable {X : Cx} {pos : Pos}
end

structure M1 (X : Cx) (o : Expr) (m : Str) (apos : Pos) (e : Expr) (cpos : Pos) : Prop where
  base : attributeBase o m X.env (eval o X.env) = eval o X.env
  few : ((backTo cpos (starEach [e] X.env)).all (fun x => !x.1) && (backToKw cpos (keywordEach [] X.env)).all (fun x => x.1.isSome)
    && decide (([e] : List Expr).length + ([] : List Keyword).length + (if ([] : List Keyword).isEmpty then 0 else 1) < 30)) = true
  line : (apos.endLine == cpos.line) = true
  trees : backTo cpos (starEach [e] X.env) = [(false, eval e X.env)]
structure M2 (X : Cx) (o : Expr) (m : Str) (apos : Pos) (e f : Expr) (cpos : Pos) : Prop where
  base : attributeBase o m X.env (eval o X.env) = eval o X.env
  few : ((backTo cpos (starEach [e, f] X.env)).all (fun x => !x.1) && (backToKw cpos (keywordEach [] X.env)).all (fun x => x.1.isSome)
    && decide (([e, f] : List Expr).length + ([] : List Keyword).length + (if ([] : List Keyword).isEmpty then 0 else 1) < 30)) = true
  line : (apos.endLine == cpos.line) = true
  trees : backTo cpos (starEach [e, f] X.env) = [(false, eval e X.env), (false, eval f X.env)]

section
variable {X : Cx} {pins : List (Addr × Obj)} {σ : St} {H : Hp} {s : Shared} {a : Addr} {y d : V} {u r : Value} {o : Option V} {A : Around} {E : Value → Shared → Prop}
end

section
variable {X : Cx} {o e f : Expr} {apos cpos : Pos} {td ty tx : TE}
end

section
variable {X : Cx} {pins : List (Addr × Obj)} {σ : St} {H : Hp} {s : Shared} {a : Addr} {kvs : List (Key × V)} {A : Around} {E : Value → Shared → Prop}
end

section
variable {X : Cx} {pins : List (Addr × Obj)} {σ : St} {H : Hp} {s : Shared} {a : Addr} {y : V} {u : Value} {A : Around} {E : Value → Shared → Prop}
end
end L2

namespace Att
open PySem PySem.W PySem.Calls PyProof.Rows

theorem ints_of_wellAll {P : Params} {h : Heap} : ∀ (ns : List Int) (vs : List Value), WellAll P h vs (ns.map WData.int) → IntsAre vs ns := by
  intro ns
  induction ns with
  | nil =>
    intro vs w
    rw [List.map_nil] at w
    cases w
    exact .nil
  | cons n ns ih =>
    intro vs w
    rw [List.map_cons] at w
    cases w with
    | cons a b =>
      cases a
      exact .cons _ _ (ih _ b)

theorem script_of {l : OpenLaw} {n : Nat} (hn : l.most = some n) {P : Params} {h : Heap} {args : List WData} {vals : List Value}
    (hpre : l.row.toRowW.claim.pre args = true) (hwl : WellAll P h vals args) :
    ∃ a vs ns, vals = [Value.ref a] ∧ args = [WData.list (ns.map WData.int)] ∧ h.get? a = some { cls := .type "list", data := .seq vs.toArray } ∧ IntsAre vs ns ∧ ns.length ≤ n := by
  have hsh : WShape.hasAll [] args [.list .int] = true := (pre_splitW hpre).1
  have hc : l.pre.holds [] { args := args } = true := (pre_splitW hpre).2
  obtain ⟨d, r, rfl, h1, h2⟩ := hasAllW_cons hsh
  obtain rfl := hasAllW_nil h2
  obtain ⟨xs, rfl, h3⟩ := hasW_list h1
  obtain ⟨ns, rfl⟩ := items_int h3
  have hlen : ns.length ≤ n := by
    unfold OpenLaw.pre at hc
    have h4 : (WTm.not (.lt (.lit (.int (n : Int))) (.len (.arg 0)))).holds [] { args := [.list (ns.map .int)] } = true := by
      have h4 := (holds_andW hc).1
      rw [hn] at h4
      exact h4
    have h5 := condW_of h4 (w_not (w_lt w_lit (w_len_list (w_arg rfl))))
    rw [List.length_map] at h5
    refine Nat.le_of_not_lt fun q => ?_
    have q' : (n : Int) < ((ns.length : Nat) : Int) := by omega
    first
      | (rw [decide_eq_true q'] at h5; exact absurd h5 (by decide))
      | (simp at h5; omega)
  cases hwl with
  | cons w1 w2 =>
    cases w2
    cases w1 with
    | list ho hall => exact ⟨_, _, ns, rfl, rfl, ho, ints_of_wellAll ns _ hall, hlen⟩

theorem post_true (l : OpenLaw) (args : List WData) : l.row.toRowW.claim.post args (.bool true) args = true :=
  postW_of (r := l.row.toRowW) (X := (true == true))
    (show WShape.has [] (.bool true) .bool = true by first | rfl | decide | simp [WShape.has, WShape.arms, WShape.armsAll])
    (show (WTm.eq .res (.lit (.bool true))).value [] { args := args, res := some (.bool true), after := args } = some (.bool (true == true)) from w_eq_bool (w_res rfl) w_lit) rfl

theorem attach_call {l : OpenLaw} {n : Nat} {q : Program} {loose : List Str} {XP : (Str → Option Value) → Heap → Prop} {YP : World → Heap → Prop} {d : DefRec}
    (hn : l.most = some n) (hdf : d.params.defaults = [])
    (call : ∀ (w : World) (s₀ s₁ : Shared) (mg mb : Str → Option Value) (fa : Addr) (o : Obj) (pm cd doc : Value) (a : Addr) (vs : List Value) (ns : List Int),
      Ground q loose [] XP w s₀ mg mb s₁.heap → YP w s₁.heap →
      s₁.heap.get? fa = some o → o.data = .func (docDef d.name d.params d.body d.scope pm cd doc) → s₁.heap.CodeRec cd d.name → mg d.name = some (.ref fa) →
      s₁.heap.get? a = some { cls := .type "list", data := .seq vs.toArray } → IntsAre vs ns → ns.length ≤ n → s₁.gens = #[] →
      codeAny (model l.prog w) callerA (.call (.ref fa) ⟨[.ref a], []⟩) (fun r s' => r = .ok (.ret (.bool true)) ∧ OldK s₁.heap s'.heap ∧ s'.os = s₁.os ∧ AllBare s'.gens) s₁) :
    WalkO q loose XP YP l.row.toRowW d [] (fun f vs => PySem.call f vs) := by
  intro w s₀ s₁ mg mb G Y fa o pm cd doc dV kV ho hd hcd hD hmg hg args vals as hpre hlay hrd hwl hlo
  obtain rfl : dV = .none := Dflts.none hD hdf
  obtain rfl : kV = .none := Dflts.noKw hD
  obtain ⟨a, vs, ns, rfl, rfl, hobj, hints, hlen⟩ := script_of hn hpre hwl
  refine enter_call (codeAny_mono (call w s₀ s₁ mg mb fa o pm cd doc a vs ns G Y ho (fd_plain hd) hcd hmg hobj hints hlen hg) fun r s' hq => ?_)
  obtain ⟨rfl, h2, h3, h4⟩ := hq
  exact ⟨.inl ⟨.bool true, .bool true, [], rfl, fun _ => rfl, .bool true, post_true l _, fun _ => ⟨List.Pairwise.nil, fun _ hm => (nomatch hm)⟩⟩, h2, h3, h4⟩

section
variable {prog : Program} {w : World} {A : Around} {E : Value → Shared → Prop} {s : Shared} {K : Frag}

end
end Att

namespace L2
open PySem PySem.Spec PyProof.Rows

theorem vals_ints : ∀ {vs : List Value} {ns : List Int}, IntsAre vs ns → Vals (ns.map V.int) vs
  | _, _, .nil => .nil
  | _, _, .cons n t h => .cons ⟨t, rfl⟩ (vals_ints h)

def Only (H : Hp) : Prop := ∀ b, H b = none ∨ ∃ o xs, H b = some (.frz o (.lst xs))

theorem law_call {P : Program} {w : World} {K : PySem.W.Frag} {mg mb : Str → Option Value} {CX : CXT} {k : Nat} {fa a : Addr} {fd : FuncData} {x : Str} {sp : Sp} {s₁ : Shared} {vs : List Value} {ns : List Int}
    (KX : K.In s₁.heap) (hns : s₁.heap.Ns mainGlobals mg) (hb : s₁.heap.Ns builtinsNs mb) (hbb : ∀ x : Str, x ≠ "__name__" → mb x = bootBuiltins x) (hlim : s₁.heap.NoLimit) (hg : s₁.gens = #[])
    (ha : s₁.heap.get? a = some { cls := .type "list", data := .seq vs.toArray }) (hi : IntsAre vs ns) (hl : ns.length ≤ sizeLine) (hr : Room k callerA)
    (F : ∀ base : Heap, K.In base → base.Ns mainGlobals mg → FnOk P w K mg base CX k fa fd [x] sp) (hbind : ∀ (s : Shared) (u : Value), BindsTo s fd ⟨[u], []⟩ [(x, u)])
    (hsp : ∀ H : Hp, Only H → SqL K H a (ns.map V.int) → sp [.ref a] H (fun v _ => v = .bl true) fun _ _ _ => False)
    (hCX : ∀ H e s', CX [] H s₁ (fun _ _ _ => False) e s' → False) :
    codeAny (model P w) callerA (.call (.ref fa) ⟨[.ref a], []⟩) (fun r s' => r = .ok (.ret (.bool true)) ∧ OldK s₁.heap s'.heap ∧ s'.os = s₁.os ∧ AllBare s'.gens) s₁ := by
  have rv := vals_ints hi
  have lenV := hi.length
  -- from an abstract heap in which nothing but the script may be tracked
  have core : ∀ H : Hp, Only H → SqL K H a (ns.map V.int) → HOk P w H s₁.heap → (∀ b, H b ≠ none → b = a) → (H a ≠ none → K.lookup a = none) →
      codeAny (model P w) callerA (.call (.ref fa) ⟨[.ref a], []⟩) (fun r s' => r = .ok (.ret (.bool true)) ∧ OldK s₁.heap s'.heap ∧ s'.os = s₁.os ∧ AllBare s'.gens) s₁ := by
    intro H hO hS hok hA hK
    have base_of : ∀ {b : Addr} {o : Obj}, s₁.heap.get? b = some o → H b = none → (hidT s₁.heap H).get? b = some o := fun e n => hidT_get e n
    have noA : ∀ {b : Addr} {o : Obj} {es : Array DictEntry} {ep : Nat}, s₁.heap.get? b = some o → o.data = .dict es ep → H b = none := fun {b o es ep} e d => by
      cases q : H b with
      | none => rfl
      | some u =>
        have e' : b = a := hA b (by rw [q]; simp)
        subst e'
        rw [ha] at e; cases e
        have d' : Data.seq vs.toArray _ = Data.dict es ep := d
        cases d'
    have nsK : ∀ {b : Addr} {m : Str → Option Value}, s₁.heap.Ns b m → (hidT s₁.heap H).Ns b m := fun {b m} ⟨o, es, ep, e, d, r⟩ => ⟨o, es, ep, base_of e (noA e d), d, r⟩
    have hKb : K.In (hidT s₁.heap H) := fun b o e => base_of (KX b o e) (by
      cases q : H b with
      | none => rfl
      | some u =>
        have e' : b = a := hA b (by rw [q]; simp)
        subst e'
        rw [hK (by rw [q]; simp)] at e; cases e)
    have hM : Mod K mg (hidT s₁.heap H) := ⟨hKb, nsK hns, ⟨mb, nsK hb, hbb⟩, let ⟨mc, h1, h2⟩ := hlim; ⟨mc, nsK h1, h2⟩⟩
    have e0 : Env0 P w K mg (hidT s₁.heap H) callerA [] s₁ H := ⟨rfl, hM, fun b o e => of_hidT e, Nat.le_of_eq (hidT_size _ _), trivial, fun b hb => absurd (show b ∈ ([] : List Addr) from hb) (by simp), hok, .of_eq hg⟩
    refine codeAny_mono ((F _ hKb (nsK hns)).run callerA [] s₁ H ⟨[.ref a], []⟩ [.ref a] [.ref a] _ _ hr e0 (hbind s₁ (.ref a)) (.cons rfl .nil) (hsp H hO hS)) fun r s' h => ?_
    cases r with
    | error e => exact (hCX H e s' h).elim
    | ok fl =>
      cases fl with
      | next => exact False.elim h
      | brk => exact False.elim h
      | cont => exact False.elim h
      | ret u =>
        obtain ⟨v, H', os, bare, un, hok', r', q⟩ := h
        have q' : v = .bl true := q
        subst q'
        obtain rfl : u = Value.bool true := r'
        refine ⟨rfl, OldK.of_keep fun b o e => ?_, os, bare⟩
        cases q : H b with
        | none => exact un.keep b o e q (by intro z; exact absurd (show b ∈ ([] : List Addr) from z) (by simp)) (by simp)
        | some u =>
          rcases hO b with z | ⟨ob, xs, z⟩
          · rw [q] at z; cases z
          · have z2 := un.frzs b ob _ z
            obtain ⟨e1, _⟩ := hok b _ z
            obtain ⟨e2, _⟩ := hok' b _ z2
            rw [e] at e1; cases e1
            exact e2
  cases hk : K.lookup a with
  | some o =>
    -- the script is one of the module's own objects
    have e := KX a o hk
    rw [ha] at e
    cases e
    refine core (fun _ => none) (fun _ => .inl rfl) (.inr ⟨_, vs.toArray, _, hk, rfl, rfl, rfl, by rw [List.size_toArray, lenV]; exact hl, by simpa using rv⟩) (fun b u z => by have z' : (none : Option HO) = some u := z; cases z') (fun b z => absurd rfl z) fun z => absurd rfl z
  | none =>
    refine core (fun b => if b = a then some (.frz { cls := .type "list", data := .seq vs.toArray } (.lst (ns.map V.int))) else none) (fun b => ?_) (.inl (.inr ⟨{ cls := .type "list", data := .seq vs.toArray }, if_pos rfl⟩)) (fun b u z => ?_) (fun b z => ?_) fun _ => hk
    · by_cases hb : b = a
      · exact .inr ⟨_, _, if_pos hb⟩
      · exact .inl (if_neg hb)
    · by_cases hb : b = a
      · have z' := (if_pos hb).symm.trans z
        cases z'
        subst hb
        exact ⟨ha, by rw [List.length_map]; exact hl, vs, _, rv, ha⟩
      · have z' := (if_neg hb).symm.trans z
        cases z'
    · by_cases hb : b = a
      · exact hb
      · exact absurd (if_neg hb) z
end L2

namespace L2
open PySem PySem.Spec PyProof.Rows

abbrev KOf {K : PySem.W.Frag} {h : Heap} (_ : K.In h) : PySem.W.Frag := K

theorem walk_of {l : PySem.W.OpenLaw} {n k : Nat} {q : Program} {loose : List Str} {XP : (Str → Option Value) → Heap → Prop} {YP : World → Heap → Prop} {d : DefRec} {K : Params → PySem.W.Frag} {CX : World → CXT} {sp : World → Sp} {x : Str}
    (hn : l.most = some n) (hn2 : n ≤ sizeLine) (hdf : d.params.defaults = []) (hr : Room k callerA)
    (hY : ∀ (w : World) (h : Heap), YP w h → (K w.params).In h)
    (F : ∀ (w : World) (mg : Str → Option Value) (fa : Addr) (h : Heap), (K w.params).In h → h.Ns mainGlobals mg → mg d.name = some (.ref fa) →
      ∃ fd : FuncData, (∀ (s : Shared) (u : Value), BindsTo s fd ⟨[u], []⟩ [(x, u)]) ∧
        ∀ base : Heap, (K w.params).In base → base.Ns mainGlobals mg → FnOk l.prog w (K w.params) mg base (CX w) k fa fd [x] (sp w))
    (hsp : ∀ (w : World) (H : Hp) (a : Addr) (ns : List Int), ns.length ≤ n → Only H → SqL (K w.params) H a (ns.map V.int) → sp w [.ref a] H (fun v _ => v = .bl true) fun _ _ _ => False)
    (hCX : ∀ (w : World) (H : Hp) (s : Shared) (e : Value) (s' : Shared), CX w [] H s (fun _ _ _ => False) e s' → False) :
    PySem.W.WalkO q loose XP YP l.row.toRowW d [] (fun f vs => PySem.call f vs) := by
  refine Att.attach_call hn hdf fun w s₀ s₁ mg mb fa o pm cd doc a vs ns G Y ho hd hcd hmg hobj hints hlen hg => ?_
  have KX := hY w _ Y
  obtain ⟨fd, hb, hF⟩ := F w mg fa _ KX G.T.g hmg
  exact law_call KX G.T.g G.T.b G.T.builtins G.T.nolimit hg hobj hints (Nat.le_trans hlen hn2) hr hF hb (fun H hO hS => hsp w H a ns hlen hO hS) fun H e s' => hCX w H s₁ e s'
end L2

/- THE LAST THEOREM (shape; LID, My.* are yours):
   My.Adr: a structure of the addresses that your layer names (classes, functions); My.Txt K t: a structure (Prop) of the equations over K;
   My.txt_mk : {K} {implicit addresses ..} (e1 : nsIn K mainGlobals "law" = some (some (.ref f))) (e2 : K.lookup f = some ⟨oc, od, .func (fnOf "law" "law" params body scope dV kV doc pm an cdv ct), sl⟩) (e3 : codeIn K cdv "law" = true) .. : ∃ t, My.Txt K t

set_option maxRecDepth 100000 in
set_option maxHeartbeats 0 in
theorem PySem.Challenge.cw_LID_holds : PySem.Challenge.rw_LID.Holds := by
  w_on; o_law; k_head; (case hw => w_witness2)
  k_fill
  refine L2.walk_of (l := PySem.Challenge.rw_LID) (n := 63) (k := 40) (x := "script") (CX := fun w => ..) (sp := fun _ => My.sp_law) rfl (by decide) rfl ⟨rfl, by decide, by decide⟩ (fun w h Y => PySem.W.kIn_of Y) ?F ?S ?C
  case F =>
    intro w mg fa h KX G hmg
    have T : ∃ t, My.Txt (L2.KOf KX) t := by
      dsimp only [L2.KOf]                          -- K must stand as «<heap const> w.params» for k_is
      refine' My.txt_mk ?e1 ?e2 ?e3 ..
      (case e1 => PySem.W.k_is)                    -- in the order: a name -> its address -> its object -> its parts
      (case e2 => PySem.W.k_is)
      ..
    obtain ⟨t, T⟩ := T
    have e0 := hmg.symm.trans (PySem.W.mg_of KX G T.law)
    cases e0                                       -- fa is the law's own address
    exact ⟨_, fun s u => .of_eq rfl, fun base kb nb => My.law_fn T kb nb⟩     -- if «.of_eq rfl» comes too early: refine' ⟨_, ?b, fun base kb nb => My.law_fn T kb nb⟩; exact fun s u => .of_eq rfl
  case S => exact fun w H a ns hl hO hS => ..
  case C => exact ..
(the tactic k_is has no namespace: write k_is) -/

namespace L2
open PySem PySem.Spec PyProof.Rows

def defArgs (s : Stmt) : Arguments := match s with
  | .FunctionDef _ a _ _ _ _ _ _ _ _ => a
  | _ => { posonlyargs := [], args := [], vararg := none, kwonlyargs := [], kw_defaults := [], kwarg := none, defaults := [] }
def defBody (s : Stmt) : List Stmt := match s with
  | .FunctionDef _ _ b _ _ _ _ _ _ _ => b
  | _ => []
def defScope (s : Stmt) : Scope := match s with
  | .FunctionDef _ _ _ _ _ _ sc _ _ _ => sc
  | _ => { kind := .function, names := [], isGenerator := false, isCoroutine := false }

abbrev CX0 : CXT := fun _ _ _ _ _ _ => False
abbrev E0 : XK := fun _ _ _ => False
theorem pass0 {X : Cx} : Passes CX0 X E0 := fun _ _ _ _ _ _ _ h => h.elim

structure Fun (K : PySem.W.Frag) (x qual : Str) (st : Stmt) (f : Addr) (fd : FuncData) : Prop where
  ex : ∃ (oc : Value) (od : Option Addr) (kV doc pm : Value) (an : Option Addr) (cdv ct : Value) (osl : Array (Option Value)),
    fd = PySem.W.fnOf x qual (defArgs st) (defBody st) (defScope st) .none kV doc pm an cdv ct ∧ K.lookup f = some ⟨oc, od, .func fd, osl⟩ ∧ PySem.W.codeIn K cdv qual = true
  kp : PySem.W.keepIn K (.ref f) = true
section
variable {P : Program} {w : World} {K : PySem.W.Frag} {mg : Str → Option Value} {base : Heap}
theorem Fun.ok {x qual : Str} {st : Stmt} {f : Addr} {fd : FuncData} {N ps : List Str} {k : Nat} {sp : Sp} (F : Fun K x qual st f fd) (S : FnScope N ps (defScope st)) (len : ∀ vs H Q E, sp vs H Q E → vs.length = ps.length)
    (hbody : ∀ (cdv : Value) (A : Around) (outer : List Env) (s : Shared) (H : Hp) (vs : List V) (Q : VK) (E : XK), Room k (A.deeper (envOfC qual (defScope st) s.heap.objs.size f cdv)) → sp vs H Q E →
      ∃ t, PSs (cxOf CX0 P w K mg base N qual (defScope st) f cdv A outer s H E).nox (defBody st) t ∧ t { nx := fun _ H' => Q .non H', rt := Q } (start N vs) H) : FnOk P w K mg base CX0 (k + 1) f fd ps sp := by
  obtain ⟨oc, od, kV, doc, pm, an, cdv, ct, osl, rfl, lk, hcd⟩ := F.ex
  refine fn_of lk hcd S len fun A outer s H vs Q E hr hsp => ?_
  obtain ⟨t, h, q⟩ := hbody cdv A outer s H vs Q E hr hsp
  exact ⟨t, h.nox, q⟩
theorem Fun.binds {x qual : Str} {st : Stmt} {f : Addr} {fd : FuncData} {ps : List Str} (F : Fun K x qual st f fd)
    (h : ∀ (kV doc pm : Value) (an : Option Addr) (cdv ct : Value) (us : List Value), us.length = ps.length → bindArgs (PySem.W.fnOf x qual (defArgs st) (defBody st) (defScope st) .none kV doc pm an cdv ct) ⟨us, []⟩ = pure (ps.zip us)) : Binds K fd ps [] := by
  obtain ⟨oc, od, kV, doc, pm, an, cdv, ct, osl, rfl, lk, hcd⟩ := F.ex
  exact .all (h kV doc pm an cdv ct)
theorem fun_mk {x qual : Str} {st : Stmt} {f : Addr} {oc : Value} {od an : Option Addr} {osl : Array (Option Value)} {kV doc pm cdv ct : Value} (l : K.lookup f = some ⟨oc, od, .func (PySem.W.fnOf x qual (defArgs st) (defBody st) (defScope st) .none kV doc pm an cdv ct), osl⟩)
    (c : PySem.W.codeIn K cdv qual = true) (k : PySem.W.keepIn K (.ref f) = true) : Fun K x qual st f (PySem.W.fnOf x qual (defArgs st) (defBody st) (defScope st) .none kV doc pm an cdv ct) := ⟨⟨oc, od, kV, doc, pm, an, cdv, ct, osl, rfl, l, c⟩, k⟩
end
theorem small1000 {n : Nat} (h : n ≤ 1000) : n < sizeLine := Nat.lt_of_le_of_lt h (by decide)

section
variable {X : Cx}
theorem pv (i : Nat) {x : Str} {pos : Pos} (hN : X.N[i]? = some x := by rfl) (hv : Vis X.env.scope x := by first | exact Or.inl rfl | exact Or.inr (Or.inl rfl) | exact Or.inr (Or.inr rfl)) (hd : (x == ("__debug__" : Str)) = false := by decide)
    (hcd : (x == ("__classdict__" : Str)) = false := by decide) : PE X (.Name x pos) (tVar i) := pe_var hN hv hd hcd
end

def Same (H H' : Hp) : Prop := ∀ b o, H b = some o → H' b = some o
theorem Same.refl (H : Hp) : Same H H := fun _ _ h => h
theorem Same.trans {H H1 H2 : Hp} (a : Same H H1) (b : Same H1 H2) : Same H H2 := fun c o h => b c o (a c o h)
theorem Same.free {H H' : Hp} (e : Same H H') {l : Addr} (h : H' l = Option.none) : H l = Option.none := by
  cases q : H l with
  | none => rfl
  | some o =>
    rw [e l o q] at h
    cases h
theorem Same.seq {K : PySem.W.Frag} {H H' : Hp} {a : Addr} {xs : List V} (e : Same H H') (h : SqL K H a xs) : SqL K H' a xs := by
  rcases h with (h | ⟨o, h⟩) | h
  · exact .inl (.inl (e _ _ h))
  · exact .inl (.inr ⟨o, e _ _ h⟩)
  · exact .inr h

section
variable {κ : Type} [DecidableEq κ]
end
end L2

set_option linter.all false
set_option maxRecDepth 100000
namespace PySem
section
variable {env : Env}
theorem closureFor_cells_aux (names : List (Str × NameKind)) : ∀ (cs : List (Str × Addr)), (∀ n, (n, NameKind.free) ∈ names → ∃ c, env.cells.lookup n = some c) →
    ∃ cl, (forIn names cs (fun (x : Str × NameKind) (r : List (Str × Addr)) => if (x.2 == NameKind.free) = true then (do let c ← cellOf env x.1; pure (ForInStep.yield ((x.1, c) :: r))) else pure (ForInStep.yield r)) : Sem (List (Str × Addr))) = pure cl ∧
      (∀ n c, cl.lookup n = some c → env.cells.lookup n = some c ∨ cs.lookup n = some c) ∧ (∀ n, ((n, NameKind.free) ∈ names ∨ ∃ c, cs.lookup n = some c) → ∃ c, cl.lookup n = some c) := by
  induction names with
  | nil => intro cs _; exact ⟨cs, rfl, fun n c h => .inr h, fun n h => h.elim (fun z => nomatch z) id⟩
  | cons x r ih =>
    intro cs h
    obtain ⟨n, k⟩ := x
    have hr : ∀ n, (n, NameKind.free) ∈ r → ∃ c, env.cells.lookup n = some c := fun m hm => h m (List.mem_cons_of_mem _ hm)
    by_cases hk : k = .free
    · subst hk
      obtain ⟨c, hc⟩ := h n List.mem_cons_self
      obtain ⟨cl, e, h1, h2⟩ := ih ((n, c) :: cs) hr
      refine ⟨cl, ?_, fun m d hd => ?_, fun m hm => ?_⟩
      · rw [List.forIn_cons]
        simp only [beq_self_eq_true, if_true]
        have q : cellOf env n = pure c := by unfold cellOf; rw [hc]
        rw [q]
        exact e
      · rcases h1 m d hd with z | z
        · exact .inl z
        · rw [List.lookup_cons] at z
          by_cases hmn : m = n
          · subst hmn
            simp only [beq_self_eq_true] at z
            exact .inl (hc.trans z)
          · have : (m == n) = false := by simpa using hmn
            rw [this] at z
            exact .inr z
      · refine h2 m ?_
        rcases hm with z | ⟨d, z⟩
        · rcases List.mem_cons.mp z with z | z
          · obtain ⟨rfl, _⟩ := Prod.mk.inj z
            exact .inr ⟨c, by simp [List.lookup_cons]⟩
          · exact .inl z
        · right
          rw [List.lookup_cons]
          cases (m == n)
          · exact ⟨d, z⟩
          · exact ⟨c, rfl⟩
    · have hb : (k == NameKind.free) = false := by simpa using hk
      obtain ⟨cl, e, h1, h2⟩ := ih cs hr
      refine ⟨cl, ?_, h1, fun m hm => h2 m ?_⟩
      · rw [List.forIn_cons]
        simp only [hb, Bool.false_eq_true, if_false]
        exact e
      · rcases hm with z | z
        · rcases List.mem_cons.mp z with z | z
          · exact absurd (Prod.mk.inj z).2.symm hk
          · exact .inl z
        · exact .inr z
theorem closureFor_cells {scope : Scope} (h : ∀ n, (n, NameKind.free) ∈ scope.names → ∃ c, env.cells.lookup n = some c) :
    ∃ cl, closureFor scope env = pure cl ∧ (∀ n c, cl.lookup n = some c → env.cells.lookup n = some c) ∧ (∀ n, (n, NameKind.free) ∈ scope.names → ∃ c, cl.lookup n = some c) := by
  obtain ⟨cl, e, h1, h2⟩ := closureFor_cells_aux scope.names [] h
  refine ⟨cl, ?_, fun n c hc => (h1 n c hc).elim id fun z => (by simp at z), fun n hn => h2 n (.inl hn)⟩
  simp only [closureFor]
  have q := congrArg (fun t => t >>= fun r => (pure r : Sem (List (Str × Addr)))) e
  exact q
end

section
variable {prog : Program} {w : World} {A : Around} {R : Result → Shared → Prop} {s : Shared}
theorem codeAny_compLoop_any {elt target iter : Expr} {ifs : List Expr} {scope : Scope} {pos : Pos} {it acc : Value} {env : Env} (I : Nat → Shared → Prop)
    (turn : ∀ n s, I n s → wpAny (model prog w) A (pyNext it) (fun r s₁ => match r with
      | none => R (.ok .next) s₁
      | some v => wpAny (model prog w) A (letOwnedTupleGo target it v) (fun _ s₁' => wpAny (model prog w) A (assign target env v) (fun _ s₂ =>
          wpAny (model prog w) A (forIn ifs true fun c r => if r = true then do let ok ← isTrue c env (eval c env); pure (ForInStep.yield ok) else pure (ForInStep.yield r)) (fun ok s₃ =>
            if ok = true then wpAny (model prog w) A (eval elt env) (fun x s₄ =>
              wpAny (model prog w) A (call (.builtin "list.append") [acc, x]) (fun _ s₅ => ∃ m, m < n ∧ I m s₅) (fun _ _ => False) s₄) (fun _ _ => False) s₃
            else ∃ m, m < n ∧ I m s₃) (fun _ _ => False) s₂) (fun _ _ => False) s₁') (fun _ _ => False) s₁) (fun _ _ => False) s)
    (n : Nat) (h : I n s) :
    codeAny (model prog w) A (.compLoop (.ListComp elt [⟨target, iter, ifs, 0⟩] scope pos) 0 it acc env) R s := by
  refine codeAny_loop rfl I (fun n s hI => ?_) n h
  show wpAny _ A ((compTurn (.ListComp elt [⟨target, iter, ifs, 0⟩] scope pos) 0 it acc env).onRaise (fun x => do noteFrame x env; theTreesLotGoes x)) _ _ s
  refine wpAny_noted ?_
  rw [compTurn_list]
  refine wpAny_bind (wpAny_standAt (wpAny_bind (wpAny_mono (turn n s hI) (fun r s₁ h₁ => ?_) fun _ _ h' => h'.elim)))
  cases r with
  | none => exact wpAny_pure h₁
  | some v =>
    refine wpAny_bind (wpAny_mono h₁ (fun _ s₁' h₁' => ?_) fun _ _ h' => h'.elim)
    refine wpAny_bind (wpAny_mono h₁' (fun _ s₂ h₂ => wpAny_bind (wpAny_mono h₂ (fun ok s₃ h₃ => ?_) fun _ _ h' => h'.elim)) fun _ _ h' => h'.elim)
    cases ok with
    | false => exact wpAny_pure ⟨rfl, h₃⟩
    | true =>
      exact wpAny_bind (wpAny_bind (wpAny_mono h₃ (fun x s₄ h₄ => wpAny_bind (wpAny_mono h₄ (fun _ s₅ h₅ => wpAny_pure (wpAny_pure ⟨rfl, h₅⟩)) fun _ _ h' => h'.elim)) fun _ _ h' => h'.elim))
end
end PySem

set_option Elab.async false
set_option linter.all false
set_option maxRecDepth 100000
namespace L2
open PySem PySem.Spec PyProof.Rows

theorem mem_of_lookup : ∀ {l : List (Str × NameKind)} {x : Str} {k : NameKind}, l.lookup x = some k → (x, k) ∈ l
  | [], _, _, h => by simp at h
  | (n, j) :: r, x, k, h => by
    rw [List.lookup_cons] at h
    by_cases e : x = n
    · subst e
      simp only [beq_self_eq_true] at h
      cases h
      exact List.mem_cons_self
    · have : (x == n) = false := by simpa using e
      rw [this] at h
      exact List.mem_cons_of_mem _ (mem_of_lookup h)
theorem relabel_free {env : Env} : ∀ {names : List (Str × NameKind)} {x : Str}, names.lookup x = some .free →
    (names.map fun (n, k) => if (k == NameKind.free && env.scope.kind == .function && env.kindOf n == some .cell) then (n, NameKind.cell) else (n, k)).lookup x = some .cell ∨
    (names.map fun (n, k) => if (k == NameKind.free && env.scope.kind == .function && env.kindOf n == some .cell) then (n, NameKind.cell) else (n, k)).lookup x = some .free
  | [], _, h => by simp at h
  | (n, k) :: r, x, h => by
    have ih := @relabel_free env r x
    show List.lookup x ((if (k == NameKind.free && env.scope.kind == .function && env.kindOf n == some .cell) = true then (n, NameKind.cell) else (n, k)) :: _) = _ ∨ List.lookup x ((if (k == NameKind.free && env.scope.kind == .function && env.kindOf n == some .cell) = true then (n, NameKind.cell) else (n, k)) :: _) = _
    cases hx : x == n with
    | true =>
      simp only [List.lookup_cons, hx] at h
      cases h
      by_cases hc : (NameKind.free == NameKind.free && env.scope.kind == .function && env.kindOf n == some .cell) = true
      · rw [if_pos hc]; simp only [List.lookup_cons, hx]; exact .inl trivial
      · rw [if_neg hc]; simp only [List.lookup_cons, hx]; exact .inr trivial
    | false =>
      simp only [List.lookup_cons, hx] at h
      by_cases hc : (k == NameKind.free && env.scope.kind == .function && env.kindOf n == some .cell) = true
      · rw [if_pos hc]; simp only [List.lookup_cons, hx]; exact ih h
      · rw [if_neg hc]; simp only [List.lookup_cons, hx]; exact ih h
theorem of_relabel {env : Env} {scope : Scope} (hcell : ∀ y ∈ scope.names, y.2 ≠ .cell) {x : Str} {k : NameKind} (hk : k = .cell ∨ k = .free) (h : (relabel scope env).names.lookup x = some k) : (x, NameKind.free) ∈ scope.names := by
  obtain ⟨⟨n, j⟩, hm, e⟩ := List.mem_map.mp (mem_of_lookup h)
  by_cases hc : (j == NameKind.free && env.scope.kind == .function && env.kindOf n == some .cell) = true
  · have e1 : (n, NameKind.cell) = (x, k) := by simpa only [hc, if_true] using e
    have e2 : j = .free := by
      simp only [Bool.and_eq_true] at hc
      exact beq_iff_eq.mp hc.1.1
    subst e2
    cases e1
    exact hm
  · have e1 : (n, j) = (x, k) := by
      have := e
      simp only [hc] at this
      exact this
    cases e1
    rcases hk with rfl | rfl
    · exact absurd rfl (hcell _ hm)
    · exact hm

section
variable {X : Cx}
def cxComp (X : Cx) (N' : List Str) (scope : Scope) (cl : List (Str × Addr)) (C : Addr) (fp : List Addr) (s : Shared) (H : Hp) : Cx :=
  { X with N := N', s₀ := s, H₀ := H, env := compEnvC scope cl C X.env, outer := X.stack, stack := X.stack, ex := fp, fn := fun _ => false, pn := [], xe := fun _ _ => False }

def PTs (X : Cx) (ifs : List Expr) (t : TT) : Prop :=
  ∀ (pins : List (Addr × Obj)) (s : Shared) (σ : St) (H : Hp) (Q : Bool → Hp → Prop), Inv X pins σ H s → t σ H Q →
    wpAny (model X.prog X.w) X.A (forIn ifs true fun c r => if r = true then do let ok ← isTrue c X.env (eval c X.env); pure (ForInStep.yield ok) else pure (ForInStep.yield r)) (TP X pins σ Q) X.xe s
def tYes : TT := fun _ H Q => Q true H
theorem pts_nil : PTs X [] tYes := fun _ _ _ H _ I h => wpAny_tests_nil ⟨H, I, h⟩
theorem pts_one {c : Expr} {t : TT} (h : PT X c t) : PTs X [c] t := fun pins s σ H Q I hq => wpAny_tests_one (h pins s σ H Q I hq)

def CompW (J : It) (D : Addr) (τ₀ : St) (g : TG) (tt : TT) (te : TE) (Q : VK) (H : Hp) : Prop :=
  ∃ W : Nat → Nat → St → Hp → Prop, (∃ m, W 0 m τ₀ (upd H D (.lst []))) ∧ ∀ i m τ H, W i m τ H →
    (J.stop i H ∧ Q (.ref D) H) ∨
    (J.go i H ∧ ∃ N : St → Hp → Prop, (∀ τ' H', N τ' H' → ∃ m', m' < m ∧ W (i + 1) m' τ' H') ∧
      ∀ x H', J.yld i H x H' → g x τ H' fun τ2 H2 => tt τ2 H2 fun b H3 => if b = true then te τ2 H3 fun v H4 => ∃ ys, H4 D = some (.lst ys) ∧ ys.length < sizeLine ∧ N τ2 (upd H4 D (.lst (ys ++ [v]))) else N τ2 H3)
def tComp (wi : TI) (caps : St → St) (g : TG) (tt : TT) (te : TE) : TE := fun σ H Q => wi σ H fun J H1 => ∀ D, H1 D = none → CompW J D (caps σ) g tt te Q H1

variable {tg iter elt : Expr} {ifs : List Expr} {scope : Scope} {pos : Pos} {N' : List Str} {caps : St → St} {wi : TI} {g : TG} {tt : TT} {te : TE}
theorem comp_block {pins : List (Addr × Obj)} {σ : St} {H2 : Hp} {s2 : Shared} {J : It} {fp : List Addr} {it : Addr} {tn : Nat → Heap → Prop} {cl : List (Str × Addr)} {Q : VK} {RR : Value → Addr → Result → Shared → Prop}
    (hc : X.calm = true) (hkind : scope.kind = .function) (hcell : ∀ y ∈ scope.names, y.2 ≠ .cell)
    (hcap : ∀ σ : St, σ.length = X.N.length → (caps σ).length = N'.length ∧ ∀ (i : Nat) (x : Str) (v : V), N'[i]? = some x → (caps σ)[i]? = some (some v) → scope.names.lookup x = some .free ∧ ∃ j : Nat, X.N[j]? = some x ∧ σ[j]? = some (some v))
    (hfree : ∀ n, (n, NameKind.free) ∈ scope.names → X.env.kindOf n = some .cell ∨ X.env.kindOf n = some .free)
    (hcl1 : ∀ n c, cl.lookup n = some c → X.env.cells.lookup n = some c) (hcl2 : ∀ n, (n, NameKind.free) ∈ scope.names → ∃ c, cl.lookup n = some c)
    (hg : ∀ C s H, PG (cxComp X N' scope cl C fp s H) tg g) (hts : ∀ C s H, PTs (cxComp X N' scope cl C fp s H) ifs tt) (hel : ∀ C s H, PE (cxComp X N' scope cl C fp s H) elt te)
    (I2 : Inv X pins σ H2 s2) (T : Turn X.prog X.w X.K tg J fp it tn) (st2 : tn 0 s2.heap) (f2 : ∀ b ∈ fp, FpOk X pins H2 b)
    (k2 : ∀ D, H2 D = none → CompW J D (caps σ) g tt te Q H2)
    (hRR : ∀ D C s' H' m, Inv X pins σ H' s' → s'.heap.Ns C m → s2.heap.objs.size ≤ C → H' C = none → Q (.ref D) H' → RR (.ref D) C (.ok .next) s') :
    wpAny (model X.prog X.w) X.A (newList []) (fun acc s₃ => wpAny (model X.prog X.w) X.A (newFunctionEnv scope X.env.globals cl [] X.env.qual none .none (some X.env)) (fun cenv s₄ =>
      codeAny (model X.prog X.w) X.A (.compStart (.ListComp elt [⟨tg, iter, ifs, 0⟩] scope pos) 0 (.ref it) acc { cenv with scope := relabel scope X.env }) (RR acc cenv.locals) s₄) X.xe s₃) X.xe s2 := by
  refine wpAny_newObj_type (wpAny_newFunctionEnv hcell (by intro y hy; simp at hy) (fun h₁ hns₁ hsb₁ => ?_) hkind)
  dsimp only at hns₁ hsb₁ ⊢
  generalize hH2 : s2.heap.push { cls := .type "list", dict := none, data := .seq ([] : List Value).toArray } = HH at hns₁ hsb₁ ⊢
  have hC : HH.objs.size = s2.heap.objs.size + 1 := by rw [← hH2, Heap.size_push]
  have hDC : s2.heap.objs.size ≠ HH.objs.size := by rw [hC]; exact Nat.ne_of_lt (Nat.lt_succ_self _)
  have hCle : s2.heap.objs.size ≤ HH.objs.size := by rw [hC]; exact Nat.le_succ _
  have below : ∀ b, b < s2.heap.objs.size → b ≠ HH.objs.size ∧ b ≠ s2.heap.objs.size := fun b hb => ⟨by rw [hC]; exact Nat.ne_of_lt (Nat.lt_succ_of_lt hb), Nat.ne_of_lt hb⟩
  have old : ∀ b o, s2.heap.get? b = some o → h₁.get? b = some o := fun b o e => hsb₁.extBut b o (below b (Heap.lt_size e)).1 (Heap.get?_push_of_some _ (hH2 ▸ Heap.get?_push_of_some _ e))
  have hacc : h₁.get? s2.heap.objs.size = some { cls := .type "list", data := .seq ([] : List Value).toArray 0 } := hsb₁.extBut _ _ hDC (Heap.get?_push_of_some _ (hH2 ▸ Heap.get?_push_size _ rfl))
  have hDn : H2 s2.heap.objs.size = none := I2.hok.fresh (Nat.le_refl _)
  have hCn : H2 HH.objs.size = none := I2.hok.fresh hCle
  have fpC : FpOk X pins H2 HH.objs.size := I2.fpOk hCle hCn
  have fplt : ∀ b ∈ fp, b < s2.heap.objs.size := fun b hb => by
    obtain ⟨o, e, _⟩ := T.obj 0 _ st2 b hb
    exact Heap.lt_size e
  have nstk : ∀ b ∈ fp, b ∉ frs X.stack := fun b hb z => by
    obtain ⟨_, f1, f2', _⟩ := f2 b hb
    rcases List.mem_cons.mp (I2.stkSub b z) with e | e
    · exact f1 e
    · exact f2' e
  obtain ⟨W, ⟨m0, w0⟩, turn⟩ := k2 s2.heap.objs.size hDn
  have capok := hcap σ I2.len
  have ok : (cxComp X N' scope cl HH.objs.size fp s2 H2).Ok :=
    { mod := I2.ok.mod
      kind := hkind
      glob := I2.ok.glob
      blt := I2.ok.blt
      above := hCle
      inj := fun x y c a b => I2.ok.inj x y c (hcl1 x c a) (hcl1 y c b)
      has := fun x h => hcl2 x (by
        rcases h with h | h
        · exact of_relabel hcell (.inl rfl) h
        · exact of_relabel hcell (.inr rfl) h)
      cab := fun x c h => (nomatch h)
      hd := I2.ok.hd
      frames := I2.ok.frames
      stk := .inl rfl
      exf := fun b hb => ⟨(below b (fplt b hb)).1, fun x c e => (f2 b hb).2.2.2.2.1 x c (hcl1 x c e)⟩
      bs := I2.bs
      bsz := Nat.le_trans I2.ok.bsz I2.sz
      noex := fun b o e hb => by
        rcases (f2 b hb).2.2.2.1 with z | z
        · exact I2.ok.noex b o e z
        · exact absurd (Nat.lt_of_lt_of_le (Heap.lt_size (I2.ok.bs b o e).1) z) (Nat.lt_irrefl _)
      exfs := nstk
      funs := I2.stack
      frf := I2.stkFree }
  have I4 : Inv (cxComp X N' scope cl HH.objs.size fp s2 H2) [] (caps σ) (upd H2 s2.heap.objs.size (.lst [])) { s2 with heap := h₁, toks := s2.toks + ([] : List (Str × Value)).length } := by
    refine ⟨ok, rfl, I2.bare, Un.laid old (Nat.le_refl _) hDn, ⟨_, hns₁, fun i x v e1 e2 e3 => ?_⟩, fun x c e => ?_, ?_, fun x c e => ?_, (fun p hp => (nomatch hp)), ?_, capok.1⟩
    · obtain ⟨lf, j, e4, e5⟩ := capok.2 i x v e1 e2
      have kx := hfree x (mem_of_lookup lf)
      have vis : Vis X.env.scope x := by rcases kx with k | k; exact .inr (.inl k); exact .inr (.inr k)
      obtain ⟨m, hn, hl⟩ := I2.loc
      obtain ⟨u, r, l⟩ := hl j x v e4 e5 vis
      refine ⟨u, r, .inr ⟨relabel_free lf, ?_⟩⟩
      obtain ⟨c, hcx⟩ := hcl2 x (mem_of_lookup lf)
      have hcx' := hcl1 x c hcx
      refine ⟨c, hcx, ?_⟩
      rcases l with ⟨k, _⟩ | ⟨_, c', ec, ⟨o, ho, hd⟩⟩
      · rcases kx with k' | k' <;> (rw [k] at k'; cases k')
      · rw [hcx'] at ec; cases ec
        exact ⟨o, old _ o ho, hd⟩
    · obtain ⟨v, o, ho, hd⟩ := I2.cell x c (hcl1 x c e)
      exact ⟨v, o, old _ o ho, hd⟩
    · show upd H2 s2.heap.objs.size (.lst []) HH.objs.size = none
      rw [upd_ne (Ne.symm hDC)]; exact hCn
    · obtain ⟨v, o, ho, hd⟩ := I2.cell x c (hcl1 x c e)
      rw [upd_ne (Nat.ne_of_lt (Heap.lt_size ho))]
      exact I2.freeC x c (hcl1 x c e)
    · exact I2.hok.laid old (Nat.le_refl _) ⟨Nat.zero_le _, [], 0, .nil, hacc⟩
  have st4 : tn 0 h₁ := T.keep _ _ _ st2 fun b _ o e => old b o e
  have stat : ∀ {H' : Hp}, (∀ b ∈ fp, H' b = none) → ∀ b ∈ fp, FpOk (cxComp X N' scope cl HH.objs.size fp s2 H2) [] H' b := fun hn b hb =>
    ⟨hn b hb, (below b (fplt b hb)).1, nstk b hb, .inl hb, fun x c e => (f2 b hb).2.2.2.2.1 x c (hcl1 x c e), (fun p hp => (nomatch hp))⟩
  have loop : ∀ s₃ : Shared, s₃ = { s2 with heap := h₁, toks := s2.toks + ([] : List (Str × Value)).length } →
      codeAny (model X.prog X.w) X.A (.compLoop (.ListComp elt [⟨tg, iter, ifs, 0⟩] scope pos) 0 (.ref it) (.ref s2.heap.objs.size) (compEnvC scope cl HH.objs.size X.env)) (RR (.ref s2.heap.objs.size) HH.objs.size) s₃ := by
    rintro s₃ rfl
    refine codeAny_compLoop_any (fun n s' => ∃ i τ H', Inv (cxComp X N' scope cl HH.objs.size fp s2 H2) [] τ H' s' ∧ tn i s'.heap ∧ (∀ b ∈ fp, H' b = none) ∧ W i n τ H') ?_ m0
      ⟨0, caps σ, _, I4, st4, fun b hb => by rw [upd_ne (below b (fplt b hb)).2]; exact (f2 b hb).1, w0⟩
    rintro n s5 ⟨i, τ, H5, I5, st5, fr5, w5⟩
    rcases turn i n τ H5 w5 with ⟨stop, q⟩ | ⟨go, N, hN, step⟩
    · refine thn (T.done (cxComp X N' scope cl HH.objs.size fp s2 H2) rfl rfl rfl hc i [] s5 τ H5 (fun _ _ => False) I5 (stat fr5) st5 stop) fun r s6 ⟨hr, I6⟩ => ?_
      subst hr
      obtain ⟨m, hn, _⟩ := I6.loc
      refine hRR _ _ s6 H5 m (I2.call' (ch := fp) I6.os I6.base I6.hok I6.bare fun b hb => ⟨(f2 b hb).2.2.2.1, (f2 b hb).2.1, (f2 b hb).2.2.2.2.1, (f2 b hb).2.2.2.2.2⟩) hn hCle I6.free q
    · refine thn (T.item (cxComp X N' scope cl HH.objs.size fp s2 H2) rfl rfl rfl hc i [] s5 τ H5 (fun _ _ => False) I5 (stat fr5) st5 go) fun r s6 ⟨u, hr, h6⟩ => ?_
      subst hr
      refine thn h6 fun _ s7 ⟨x, H7, I7, r7, y7, st7, fr7⟩ => ?_
      have I7' := I7.pinned (stat fr7) (T.obj _ _ st7)
      have again : ∀ {τ' : St} {H' : Hp} {s' : Shared}, Inv (cxComp X N' scope cl HH.objs.size fp s2 H2) ([] ++ pinsAt fp s7.heap) τ' H' s' → N τ' H' →
          ∃ m, m < n ∧ ∃ i τ H', Inv (cxComp X N' scope cl HH.objs.size fp s2 H2) [] τ H' s' ∧ tn i s'.heap ∧ (∀ b ∈ fp, H' b = none) ∧ W i m τ H' := fun {τ' H' s'} I' n' => by
        obtain ⟨m', hm, w'⟩ := hN τ' H' n'
        refine ⟨m', hm, i + 1, τ', H', I'.unpinned, T.keep _ _ _ st7 fun b hb o e => (I'.pin (b, o) (List.mem_append_right _ (List.mem_append_right _ (mem_pinsAt hb e)))).1, fun b hb => ?_, w'⟩
        obtain ⟨o, e, d⟩ := T.obj _ _ st7 b hb
        exact (I'.pin (b, o) (List.mem_append_right _ (List.mem_append_right _ (mem_pinsAt hb e)))).2.1
      refine thn (hg HH.objs.size s2 H2 _ s7 τ H7 x u _ I7' r7 (step x H7 y7)) fun _ s8 ⟨τ8, H8, I8, q8⟩ => ?_
      refine thn (hts HH.objs.size s2 H2 _ s8 τ8 H8 _ I8 q8) fun okk s9 ⟨H9, I9, q9⟩ => ?_
      cases okk with
      | false =>
        rw [if_neg Bool.false_ne_true] at q9 ⊢
        exact again I9 q9
      | true =>
        rw [if_pos rfl] at q9 ⊢
        refine thn (hel HH.objs.size s2 H2 _ s9 τ8 H9 _ I9 q9) fun y s10 ⟨v, H10, I10, r10, ys, hD, hz, n10⟩ => ?_
        refine thn (mt_append (X := cxComp X N' scope cl HH.objs.size fp s2 H2) _ s10 τ8 H10 (.ref s2.heap.objs.size) [v] (.ref s2.heap.objs.size) [y] (fun _ H' => N τ8 H') I10 rfl (.cons r10 .nil) ⟨_, ys, v, rfl, rfl, hD, hz, n10⟩) fun _ s11 ⟨_, H11, I11, _, n11⟩ => ?_
        exact again I11 n11
  exact codeAny_compStart_list (loop _ rfl) (T.self X.A 0 _ _ _ st4 (loop _ rfl))

theorem pe_comp (hc : X.calm = true) (hkind : scope.kind = .function) (hcell : ∀ y ∈ scope.names, y.2 ≠ .cell) (hnames : ∀ y ∈ scope.names, y.2 = .local → scope.names.lookup y.1 = some .local)
    (hfree : ∀ n, (n, NameKind.free) ∈ scope.names → X.env.kindOf n = some .cell ∨ X.env.kindOf n = some .free)
    (hcap : ∀ σ : St, σ.length = X.N.length → (caps σ).length = N'.length ∧ ∀ (i : Nat) (x : Str) (v : V), N'[i]? = some x → (caps σ)[i]? = some (some v) → scope.names.lookup x = some .free ∧ ∃ j : Nat, X.N[j]? = some x ∧ σ[j]? = some (some v))
    (hi : PI X tg iter wi) (hg : ∀ cl C fp s H, PG (cxComp X N' scope cl C fp s H) tg g) (hts : ∀ cl C fp s H, PTs (cxComp X N' scope cl C fp s H) ifs tt) (hel : ∀ cl C fp s H, PE (cxComp X N' scope cl C fp s H) elt te)
    (hs : ∀ x, foldedSetIterable iter X.env x = pure x := by intro _; rfl) : PE X (.ListComp elt [⟨tg, iter, ifs, 0⟩] scope pos) (tComp wi caps g tt te) := by
  intro pins s σ H Q I h
  rw [eval_ListComp]
  obtain ⟨cl, hclos, hcl1, hcl2⟩ := closureFor_cells (env := X.env) (scope := scope) (fun n hn => I.ok.has n (hfree n hn))
  refine wpAny_comprehension_free (use := none) rfl hs hclos hkind hnames (thn (hi pins s σ H _ I h) fun v s1 h1 => thn h1 fun itv s2 h2 => ?_)
  obtain ⟨it, fp, tn, J, H2, rfl, I2, T, st2, f2, k2⟩ := h2
  refine comp_block (RR := fun acc C => compPost (model X.prog X.w) X.A X.xe none (EP X pins σ Q) acc C) hc hkind hcell hcap hfree hcl1 hcl2 (fun C s H => hg cl C fp s H) (fun C s H => hts cl C fp s H) (fun C s H => hel cl C fp s H) I2 T st2 f2 k2 ?_
  intro D C s' H' m I' hn hle hC q
  obtain ⟨f0, f1, f2', f3, f4, f5⟩ := I2.fpOk hle hC
  exact ⟨m, hn, fun h' sb => ⟨.ref D, H', I'.turned (t' := s'.toks) (fun b o hb e => (sb.2 b hb).trans e) f0 f1 f3 f4 f5, rfl, q⟩⟩

end
end L2

set_option Elab.async false
set_option linter.all false
set_option maxRecDepth 100000
namespace L2
open PySem PySem.Spec PyProof.Rows
def XRec (h : Heap) (ea T : Addr) (cls fl : Value) : Prop :=
  ∃ oe vs a0 oT ts, h.get? ea = some oe ∧ (oe.cls = cls ∧ vs[0]? = some a0) ∧ oe.data = .fields vs ∧ vs[1]? = some (.ref T) ∧ T ≠ ea ∧ h.get? T = some oT ∧ oT.data = .fields ts ∧ ts[3]? = some fl
def XNew (h : Heap) (ea : Addr) (cls : Value) : Prop := ∃ oe vs a0, h.get? ea = some oe ∧ (oe.cls = cls ∧ vs[0]? = some a0) ∧ oe.data = .fields vs ∧ vs[1]? = some .none
theorem ff_base {h b0 b1 : Heap} : ∀ {l : List Env}, h.FunFrames b0 l → (∀ b ∈ frs l, b1.get? b = none) → h.FunFrames b1 l
  | [], _, _ => trivial
  | env :: r, ⟨hk, ⟨L, o, hf, _, ho, hd⟩, hr⟩, hn => by
    have e : frs (env :: r) = L :: frs r := by unfold frs; rw [List.filterMap_cons, hf]
    rw [e] at hn
    exact ⟨hk, ⟨L, o, hf, hn L List.mem_cons_self, ho, hd⟩, ff_base hr fun b hb => hn b (List.mem_cons_of_mem _ hb)⟩
section
variable {X : Cx} {pins : List (Addr × Obj)} {σ : List (Option V)} {H H' : Hp} {s : Shared} {h' : Heap}
theorem Inv.stepN {g' : Array GenState} {t' : Nat} {d' : Drawn} {ch : List Addr} (I : Inv X pins σ H s)
    (hch : ∀ b ∈ ch, (b ∈ X.ex ∨ X.s₀.heap.get? b = none) ∧ b ≠ X.env.locals ∧ (∀ x c, X.env.cells.lookup x = some c → c ≠ b) ∧ ∀ p ∈ X.pn ++ pins, p.1 ≠ b)
    (keep : ∀ b o, b ≠ X.env.locals → b ∉ X.fs → b ∉ ch → s.heap.get? b = some o → H b = none → h'.get? b = some o)
    (slot : ∀ b o, b ≠ X.env.locals → b ∈ X.fs → b ∉ ch → s.heap.get? b = some o → H b = none → ∃ sl, h'.get? b = some { o with slots := sl }) (free : ∀ b o, b ∉ ch → s.heap.get? b = some o → H b = none → H' b = none)
    (there : ∀ b o, b ∉ ch → s.heap.get? b = some o → ∃ o', h'.get? b = some o')
    (tups : ∀ b xs, H b = some (.tup xs) → H' b = some (.tup xs)) (frzs : ∀ b o u, H b = some (.frz o u) → H' b = some (.frz o u)) (tbls : ∀ b ps, H b = some (.tbl ps) → ∃ more, H' b = some (.tbl (ps ++ more)))
    (ns : ∀ m, s.heap.Ns X.env.locals m → h'.Ns X.env.locals m) (hok : HOk X.prog X.w H' h') (hg : AllBare g') :
    Inv X pins σ H' { s with heap := h', gens := g', drawn := d', toks := t' } := by
  have neL : ∀ b o, X.s₀.heap.get? b = some o → b ≠ X.env.locals := fun b o e => Nat.ne_of_lt (Nat.lt_of_lt_of_le (Heap.lt_size e) I.ok.above)
  have neC : ∀ b o, X.s₀.heap.get? b = some o → b ∉ X.ex → b ∉ ch := fun b o e hx hb => by
    rcases (hch b hb).1 with z | z
    · exact hx z
    · rw [z] at e; cases e
  have cellK : ∀ x c, X.env.cells.lookup x = some c → ∀ v, s.heap.IsCell c v → h'.IsCell c v := fun x c e v ⟨o, ho, hd⟩ => by
    have nch : c ∉ ch := fun z => (hch c z).2.2.1 x c e rfl
    by_cases hc : c ∈ X.fs
    · obtain ⟨sl, q⟩ := slot c o (I.cne x c e) hc nch ho (I.freeC x c e)
      exact ⟨_, q, hd⟩
    · exact ⟨o, keep c o (I.cne x c e) hc nch ho (I.freeC x c e), hd⟩
  refine ⟨I.ok, I.os, hg, ⟨fun b o e n hb hx => ?_, fun b o e n hb hx => ?_, fun b o e n hx => ?_, fun b o e hx => ?_, fun b xs e => tups b xs (I.base.tups b xs e), fun b o xs e => frzs b o xs (I.base.frzs b o xs e), fun b ps e => ?_⟩, ?_, fun x c e => ?_, ?_, fun x c e => ?_, fun p hp => ?_, hok, I.len⟩
  · exact keep b o (neL b o e) hb (neC b o e hx) (I.base.keep b o e n hb hx) (I.base.free b o e n hx)
  · obtain ⟨sl, e1⟩ := I.base.slot b o e n hb hx
    obtain ⟨sl', e2⟩ := slot b _ (neL b o e) hb (neC b o e hx) e1 (I.base.free b o e n hx)
    exact ⟨sl', e2⟩
  · obtain ⟨o', e1⟩ := I.base.there b o e hx
    exact free b o' (neC b o e hx) e1 (I.base.free b o e n hx)
  · obtain ⟨o', e1⟩ := I.base.there b o e hx
    exact there b o' (neC b o e hx) e1
  · obtain ⟨m1, e1⟩ := I.base.tbls b ps e
    obtain ⟨m2, e2⟩ := tbls b _ e1
    exact ⟨m1 ++ m2, by rw [e2, Array.append_assoc]⟩
  · obtain ⟨m, hn, hl⟩ := I.loc
    refine ⟨m, ns m hn, fun i x v e1 e2 e3 => ?_⟩
    obtain ⟨u, r, l⟩ := hl i x v e1 e2 e3
    refine ⟨u, r, ?_⟩
    rcases l with l | ⟨k, c, e, z⟩
    · exact .inl l
    · exact .inr ⟨k, c, e, cellK x c e _ z⟩
  · obtain ⟨v, z⟩ := I.cell x c e
    exact ⟨v, cellK x c e v z⟩
  · obtain ⟨m, ⟨o, _, _, ho, _⟩, _⟩ := I.loc
    exact free _ o (fun z => (hch _ z).2.1 rfl) ho I.free
  · obtain ⟨v, o, ho, hd⟩ := I.cell x c e
    exact free c o (fun z => (hch c z).2.2.1 x c e rfl) ho (I.freeC x c e)
  · obtain ⟨e, n, ne, nf, d⟩ := I.pin p hp
    have nch : p.1 ∉ ch := fun z => (hch p.1 z).2.2.2 p hp rfl
    exact ⟨keep p.1 p.2 ne nf nch e n, free p.1 p.2 nch e n, ne, nf, d⟩
theorem Inv.aloft {ch : List Addr} (I : Inv X pins σ H s) (hst : frs X.stack = X.env.locals :: X.fs) (hch : ∀ b ∈ ch, H b = none ∧ X.s₀.heap.get? b = none ∧ (∃ o vs, s.heap.get? b = some o ∧ o.data = .fields vs) ∧ ∀ p ∈ X.pn ++ pins, p.1 ≠ b)
    (k : ∀ b o, b ∉ frs X.stack → b ∉ ch → s.heap.get? b = some o → h'.get? b = some o) (sl : s.heap.UpToSlots h') : Inv X pins σ H { s with heap := h' } := by
  have frN : ∀ b ∈ frs X.stack, ∃ o, s.heap.get? b = some o ∧ ∀ vs, o.data ≠ .fields vs := fun b hb => (I.stack.mem hb).2
  have chF : ∀ b ∈ ch, b ∉ frs X.stack := fun b hb hf => by
    obtain ⟨o, ho, hd⟩ := frN b hf
    obtain ⟨_, _, ⟨o', vs, ho', hd'⟩, _⟩ := hch b hb
    rw [ho] at ho'; cases ho'
    exact hd vs hd'
  refine I.stepN (g' := s.gens) (d' := s.drawn) (t' := s.toks) (ch := ch) (fun b hb => ?_) (fun b o h1 h2 h3 e _ => k b o ?_ h3 e) (fun b o _ h2 _ e _ => ?_) (fun _ _ _ _ n => n) (fun b o h3 e => ?_) (fun _ _ e => e) (fun _ _ _ e => e) (fun b ps e => ⟨#[], by rw [e]; simp⟩) (fun m hm => sl.ns hm) (fun b u e => ?_) I.bare
  · obtain ⟨h1, h2, ⟨o, vs, ho, hd⟩, h4⟩ := hch b hb
    refine ⟨.inr h2, fun z => chF b hb (by rw [hst, z]; exact List.mem_cons_self), fun x c e z => ?_, h4⟩
    obtain ⟨v, oc, hc, hcd⟩ := I.cell x c e
    rw [z, ho] at hc; cases hc
    rw [hd] at hcd; cases hcd
  · rw [hst]
    intro z
    rcases List.mem_cons.mp z with z | z
    · exact h1 z
    · exact h2 z
  · obtain ⟨o', ho', hd⟩ := frN b (by rw [hst]; exact List.mem_cons_of_mem _ h2)
    rw [e] at ho'; cases ho'
    exact sl b o e hd
  · by_cases hf : b ∈ frs X.stack
    · obtain ⟨o', ho', hd⟩ := frN b hf
      rw [e] at ho'; cases ho'
      obtain ⟨z, hz⟩ := sl b o e hd
      exact ⟨_, hz⟩
    · exact ⟨o, k b o hf h3 e⟩
  · have nf : ∀ c u, H c = some u → c ∉ frs X.stack ∧ c ∉ ch := fun c u q => ⟨fun z => (by rw [I.stkFree c z] at q; cases q), fun z => (by rw [(hch c z).1] at q; cases q)⟩
    refine (I.hok b u e).stay (fun c v hc q => ?_) (fun _ q => q) fun _ _ q => q
    rcases hc with z | z
    · subst z; exact k _ v (nf _ u e).1 (nf _ u e).2 q
    · exact k c v (nf c _ z).1 (nf c _ z).2 q
end
def Air (X : Cx) (E : Value → St → Hp → Prop) (e : Value) (s' : Shared) : Prop :=
  ∃ ea cls σ' H', e = .ref ea ∧ Inv X [] σ' H' s' ∧ H' ea = none ∧ X.s₀.heap.get? ea = none ∧ E cls σ' H' ∧
    (XNew s'.heap ea cls ∨ ∃ T fl, XRec s'.heap ea T cls fl ∧ (fl = .none ∨ fl = rawInt X.env.locals) ∧ H' T = none ∧ X.s₀.heap.get? T = none)
abbrev CXA (P : Program) (w : World) : CXT := fun outer H s E e s' =>
  ∃ ea T cls H', e = .ref ea ∧ s'.os = s.os ∧ AllBare s'.gens ∧ Un (frs outer) [] H H' s.heap s'.heap ∧ HOk P w H' s'.heap ∧ XRec s'.heap ea T cls .none ∧ H' ea = none ∧ H' T = none ∧ s.heap.get? ea = none ∧ s.heap.get? T = none ∧ E cls none H'
theorem ObjOk.obj {P : Program} {w : World} {H : Hp} {h : Heap} {a : Addr} {o : HO} (x : ObjOk P w H h a o) : ∃ ob, h.get? a = some ob := by
  induction o with
  | lst xs => obtain ⟨_, _, _, _, e⟩ := x; exact ⟨_, e⟩
  | tup xs => obtain ⟨_, _, _, ob, e, _⟩ := x; exact ⟨_, e⟩
  | dK kvs => obtain ⟨_, _, _, _, o, _, _, e, _⟩ := x; exact ⟨_, e⟩
  | dT kvs => obtain ⟨_, _, _, _, o, _, _, e, _⟩ := x; exact ⟨_, e⟩
  | set S n => obtain ⟨o, _, _, _, e, _⟩ := x; exact ⟨_, e⟩
  | ins C dx fs => obtain ⟨_, _, _, e, _⟩ := x; exact ⟨_, e⟩
  | own y => obtain ⟨_, e⟩ := x; exact ⟨_, e⟩
  | xd fs => obtain ⟨_, ⟨_, _, _, e, _⟩, _⟩ := x; exact ⟨_, e⟩
  | rng lo hi => obtain ⟨_, _, _, e⟩ := x; exact ⟨_, e⟩
  | frz ob u ih => obtain ⟨e, _⟩ := x; exact ⟨_, e⟩
  | tbl ps => exact ⟨_, (show h.get? a = some _ from x)⟩
  | met f y => exact ⟨_, (show h.get? a = some _ from x)⟩
  | ext φ => obtain ⟨_, ⟨_, e⟩, _⟩ := x; exact ⟨_, e⟩
structure Own (X : Cx) : Prop where
  stk : X.stack = X.env :: X.outer
  fr : X.env.frame = some X.env.locals
  pn : X.pn = []
  ex : X.ex = []
theorem Own.frs {X : Cx} (O : Own X) : frs X.stack = X.env.locals :: X.fs := by
  unfold L2.frs Cx.fs L2.frs
  rw [O.stk, List.filterMap_cons, O.fr]
def hidX (h : Heap) (l : List Env) (ch : List Addr) : Heap := PySem.W.hideAll h (frs l ++ ch)
theorem hidX_stays {h : Heap} {l : List Env} {ch : List Addr} : (hidX h l ch).StaysIn h := fun b o q => PySem.W.of_hideAll _ q
theorem hidX_none {h : Heap} {l : List Env} {ch : List Addr} {b : Addr} (hb : b ∈ frs l ∨ b ∈ ch) : (hidX h l ch).get? b = none := PySem.W.hideAll_none _ (List.mem_append.mpr hb)
theorem hidX_get {h : Heap} {l : List Env} {ch : List Addr} {b : Addr} {o : Obj} (h1 : b ∉ frs l) (h2 : b ∉ ch) (e : h.get? b = some o) : (hidX h l ch).get? b = some o :=
  PySem.W.hideAll_get _ e fun z => (List.mem_append.mp z).elim h1 h2
section
variable {X : Cx} {σ : St} {H : Hp} {s : Shared} {ea T : Addr} {cls fl : Value} {E : Value → St → Hp → Prop}
theorem XRec.rec {h : Heap} (x : XRec h ea T cls fl) : (∃ o vs, h.get? ea = some o ∧ o.data = .fields vs) ∧ ∃ o vs, h.get? T = some o ∧ o.data = .fields vs := by
  obtain ⟨oe, vs, a0, oT, ts, h1, _, h3, _, _, h6, h7, _⟩ := x
  exact ⟨⟨oe, vs, h1, h3⟩, oT, ts, h6, h7⟩
theorem trace_step {h' : Heap} {ch : List Addr} {fl' a0 : Value} (O : Own X) (I : Inv X [] σ H s) (hch : ∀ b ∈ ch, H b = none ∧ X.s₀.heap.get? b = none ∧ ∃ o vs, s.heap.get? b = some o ∧ o.data = .fields vs) (hea : ea ∈ ch)
    (h1 : (hidX s.heap X.stack ch).StaysIn h') (h2 : h'.FunFrames (hidX s.heap X.stack ch) X.stack) (h3 : h'.TracedAtW (hidX s.heap X.stack ch) ea cls a0 fl')
    (h4 : ∀ b o, s.heap.get? b = some o → (∀ vs, o.data ≠ .fields vs) → ∃ sl, h'.get? b = some { o with slots := sl }) :
    Inv X [] σ H { s with heap := h' } ∧ ∃ T', XRec h' ea T' cls fl' ∧ H T' = none ∧ X.s₀.heap.get? T' = none := by
  refine ⟨I.aloft O.frs (ch := ch) (fun b hb => ⟨(hch b hb).1, (hch b hb).2.1, (hch b hb).2.2, fun p hp => by rw [O.pn] at hp; cases hp⟩) (fun b o n1 n2 e => h1 b o (hidX_get n1 n2 e)) h4, ?_⟩
  obtain ⟨oe, vs, T', oT, ts, a1, a2, a3, a4, a5, a6, a7, a8, a9⟩ := h3
  refine ⟨T', ⟨oe, vs, a0, oT, ts, a1, a2, a3, a4, a6, a7, a8, a9⟩, ?_⟩
  by_cases hc : T' ∈ ch
  · exact ⟨(hch T' hc).1, (hch T' hc).2.1⟩
  · by_cases hf : T' ∈ frs X.stack
    · obtain ⟨_, o, ho, hd⟩ := h2.mem hf
      rw [a7] at ho; cases ho
      exact absurd a8 (hd ts)
    · have hn : s.heap.get? T' = none := by
        cases q : s.heap.get? T' with
        | none => rfl
        | some o => rw [hidX_get hf hc q] at a5; cases a5
      refine ⟨?_, ?_⟩
      · cases q : H T' with
        | none => rfl
        | some u =>
          obtain ⟨o, e⟩ := (I.hok T' u q).obj
          rw [hn] at e; cases e
      · cases q : X.s₀.heap.get? T' with
        | none => rfl
        | some o =>
          obtain ⟨o', e⟩ := I.base.there T' o q (by rw [O.ex]; simp)
          rw [hn] at e; cases e
theorem air_leaves {e : Value} {s' : Shared} {Q : Unit → Shared → Prop} {EE : Value → Shared → Prop} (O : Own X) (hA : Air X E e s')
    (k : ∀ ea T cls σ H h', e = .ref ea → Inv X [] σ H { s' with heap := h' } → XRec h' ea T cls .none → H ea = none → H T = none → X.s₀.heap.get? ea = none → X.s₀.heap.get? T = none → E cls σ H → Q () { s' with heap := h' }) :
    wpAny (model X.prog X.w) X.A (leaving X.env e) Q EE s' := by
  obtain ⟨ea, cls, σ, H, rfl, I, hea, sea, hE, hx⟩ := hA
  have hfr : X.A.frames = some (X.env :: X.outer) := by rw [I.ok.frames, O.stk]
  rcases hx with ⟨oe, vs, a0, b1, ⟨b2, b2'⟩, b3, b4⟩ | ⟨T, fl, hx, hfl, hT, sT⟩
  · have hch : ∀ b ∈ [ea], H b = none ∧ X.s₀.heap.get? b = none ∧ ∃ o vs, s'.heap.get? b = some o ∧ o.data = .fields vs := fun b hb => by
      obtain rfl : b = ea := by simpa using hb
      exact ⟨hea, sea, oe, vs, b1, b3⟩
    have hff : s'.heap.FunFrames (hidX s'.heap X.stack [ea]) (X.env :: X.outer) := by
      have := ff_base I.stack (b1 := hidX s'.heap X.stack [ea]) fun b hb => hidX_none (.inl hb)
      rw [O.stk] at this ⊢; exact this
    refine wpAny_leaving_firstW hfr hff O.fr b1 hidX_stays (hidX_none (.inr (by simp))) b3 b4 b2' fun h' ⟨k1, k2, k3, k4⟩ => ?_
    obtain ⟨I', T', x', hT', sT'⟩ := trace_step O I hch (by simp) k1 (by rw [O.stk] at k2 ⊢; exact k2) k3 k4
    rw [b2] at x'
    exact k ea T' cls σ H h' rfl I' x' hea hT' sea sT' hE
  · obtain ⟨⟨o1, v1, c1, c2⟩, o2, v2, c3, c4⟩ := hx.rec
    have hch : ∀ b ∈ [ea, T], H b = none ∧ X.s₀.heap.get? b = none ∧ ∃ o vs, s'.heap.get? b = some o ∧ o.data = .fields vs := fun b hb => by
      simp only [List.mem_cons, List.not_mem_nil, or_false] at hb
      rcases hb with rfl | rfl
      · exact ⟨hea, sea, o1, v1, c1, c2⟩
      · exact ⟨hT, sT, o2, v2, c3, c4⟩
    have hff : s'.heap.FunFrames (hidX s'.heap X.stack [ea, T]) (X.env :: X.outer) := by
      have := ff_base I.stack (b1 := hidX s'.heap X.stack [ea, T]) fun b hb => hidX_none (.inl hb)
      rw [O.stk] at this ⊢; exact this
    obtain ⟨oe, vs, a0, oT, ts, a1, a2, a3, a4, a6, a7, a8, a9⟩ := hx
    have tr : s'.heap.TracedAtW (hidX s'.heap X.stack [ea, T]) ea cls a0 fl := ⟨oe, vs, T, oT, ts, a1, a2, a3, a4, hidX_none (.inr (by simp)), a6, a7, a8, a9⟩
    rcases hfl with rfl | rfl
    · refine wpAny_leaving_nextW hfr hff O.fr tr hidX_stays (hidX_none (.inr (by simp))) fun h' ⟨k1, k2, k3, k4⟩ => ?_
      obtain ⟨I', T', x', hT', sT'⟩ := trace_step O I hch (by simp) k1 (by rw [O.stk] at k2 ⊢; exact k2) k3 k4
      exact k ea T' cls σ H h' rfl I' x' hea hT' sea sT' hE
    · unfold leaving
      refine wpAny_bind (wpAny_noteFrame_againW O.fr tr ?_)
      refine wpAny_setFlight_noneW hidX_stays hff tr fun h' k1 k2 k3 k4 => ?_
      obtain ⟨I', T', x', hT', sT'⟩ := trace_step O I hch (by simp) k1 (by rw [O.stk] at k2 ⊢; exact k2) k3 fun b o e n => ⟨o.slots, k4 b o e n⟩
      exact k ea T' cls σ H h' rfl I' x' hea hT' sea sT' hE
theorem air_call {pins : List (Addr × Obj)} {e : Value} {s' : Shared} (O : Own X) (I : Inv X pins σ H s) (h : CXA X.prog X.w X.stack H s (fun cls _ H' => E cls σ H') e s') : Air X E e s' := by
  obtain ⟨ea, T, cls, H', rfl, os, bare, un, hok, x, h1, h2, h3, h4, hE⟩ := h
  have J : Inv X pins σ H' s' := I.call' os un hok bare fun b z => nomatch z
  have gone : ∀ b, s.heap.get? b = none → X.s₀.heap.get? b = none := fun b hb => by
    cases q : X.s₀.heap.get? b with
    | none => rfl
    | some o =>
      obtain ⟨o', e⟩ := I.base.there b o q (by rw [O.ex]; simp)
      rw [hb] at e; cases e
  exact ⟨ea, cls, σ, H', rfl, J.pins_of (fun p hp => nomatch hp), h1, gone _ h3, hE, .inr ⟨T, .none, x, .inl rfl, h2, gone _ h4⟩⟩
theorem flight {M : Model} {A : Around} {EE : Value → Shared → Prop} {o : Option Addr} {Q : Unit → Shared → Prop} (x : XRec s.heap ea T cls fl)
    (k : ∀ h', (∀ b u, b ≠ T → s.heap.get? b = some u → h'.get? b = some u) → s.heap.UpToSlots h' → XRec h' ea T cls (o.elim Value.none fun f => rawInt f) → Q () { s with heap := h' }) : wpAny M A (setFlight (.ref ea) o) Q EE s := by
  obtain ⟨oe, vs, a0, oT, ts, a1, a2, a3, a4, a6, a7, a8, a9⟩ := x
  have hsz : 3 < ts.size := (Array.getElem?_eq_some_iff.mp a9).1
  have other : ∀ b, b ≠ T → (s.heap.update T (Obj.mapFields (·.setIfInBounds 3 (o.elim Value.none fun f => rawInt f)))).get? b = s.heap.get? b := fun b hb => Heap.get?_update_other _ _ (Ne.symm hb)
  unfold setFlight
  refine wpAny_bind (wpAny_field a1 a3 a4 ?_)
  rw [if_pos (show (Value.ref T != Value.none) = true from by simp)]
  refine wpAny_setField a7 a8 hsz (k _ (fun b u hb e => (other b hb).trans e) (fun b u e hn => ⟨u.slots, (other b fun z => ?_).trans e⟩) ?_)
  · rw [z, a7] at e; cases e
    exact hn ts a8
  · exact ⟨oe, vs, a0, _, _, (other ea (Ne.symm a6)).trans a1, a2, a3, a4, a6, Heap.get?_update_self _ a7 (Obj.isFreed_of_fields (Obj.data_mapFields a8 _)), Obj.data_mapFields a8 _, by simp [hsz]⟩
theorem air_flight {M : Model} {A : Around} {EE : Value → Shared → Prop} {o : Option Addr} {Q : Unit → Shared → Prop} (O : Own X) (I : Inv X [] σ H s) (x : XRec s.heap ea T cls fl) (hT : H T = none) (sT : X.s₀.heap.get? T = none)
    (k : ∀ h', Inv X [] σ H { s with heap := h' } → XRec h' ea T cls (o.elim Value.none fun f => rawInt f) → Q () { s with heap := h' }) : wpAny M A (setFlight (.ref ea) o) Q EE s := by
  obtain ⟨_, o2, v2, c3, c4⟩ := x.rec
  refine flight x fun h' k1 k2 k3 => k h' (I.aloft O.frs (ch := [T]) (fun b hb => ?_) (fun b u _ h2 e => k1 b u (fun z => h2 (by simp [z])) e) k2) k3
  obtain rfl : b = T := by simpa using hb
  exact ⟨hT, sT, ⟨o2, v2, c3, c4⟩, fun p hp => by rw [O.pn] at hp; cases hp⟩
theorem air_noted {e : Value} {s' : Shared} {Q : Unit → Shared → Prop} {EE : Value → Shared → Prop} (O : Own X) (hA : Air X E e s')
    (k : ∀ ea T cls σ H h', e = .ref ea → Inv X [] σ H { s' with heap := h' } → XRec h' ea T cls (rawInt X.env.locals) → H ea = none → H T = none → X.s₀.heap.get? ea = none → X.s₀.heap.get? T = none → E cls σ H → Q () { s' with heap := h' }) :
    wpAny (model X.prog X.w) X.A (noteFrame e X.env) Q EE s' := by
  obtain ⟨ea, cls, σ, H, rfl, I, hea, sea, hE, hx⟩ := hA
  have hfr : X.A.frames = some (X.env :: X.outer) := by rw [I.ok.frames, O.stk]
  rcases hx with ⟨oe, vs, a0, b1, ⟨b2, b2'⟩, b3, b4⟩ | ⟨T, fl, hx, hfl, hT, sT⟩
  · have hch : ∀ b ∈ [ea], H b = none ∧ X.s₀.heap.get? b = none ∧ ∃ o vs, s'.heap.get? b = some o ∧ o.data = .fields vs := fun b hb => by
      obtain rfl : b = ea := by simpa using hb
      exact ⟨hea, sea, oe, vs, b1, b3⟩
    have hff : s'.heap.FunFrames (hidX s'.heap X.stack [ea]) (X.env :: X.outer) := by
      have := ff_base I.stack (b1 := hidX s'.heap X.stack [ea]) fun b hb => hidX_none (.inl hb)
      rw [O.stk] at this ⊢; exact this
    unfold noteFrame
    simp only [O.fr]
    refine wpAny_bind (wpAny_field b1 b3 b4 ?_)
    rw [if_neg (by decide)]
    refine wpAny_entryW hfr hff O.fr b1 hidX_stays (hidX_none (.inr (by simp))) b3 (Array.getElem?_eq_some_iff.mp b4).1 b2' fun h' ⟨k1, k2, k3, k4⟩ => ?_
    obtain ⟨I', T', x', hT', sT'⟩ := trace_step O I hch (by simp) k1 (by rw [O.stk] at k2 ⊢; exact k2) k3 k4
    rw [b2] at x'
    exact k ea T' cls σ H h' rfl I' x' hea hT' sea sT' hE
  · obtain ⟨⟨o1, v1, c1, c2⟩, o2, v2, c3, c4⟩ := hx.rec
    have hch : ∀ b ∈ [ea, T], H b = none ∧ X.s₀.heap.get? b = none ∧ ∃ o vs, s'.heap.get? b = some o ∧ o.data = .fields vs := fun b hb => by
      simp only [List.mem_cons, List.not_mem_nil, or_false] at hb
      rcases hb with rfl | rfl
      · exact ⟨hea, sea, o1, v1, c1, c2⟩
      · exact ⟨hT, sT, o2, v2, c3, c4⟩
    have hff : s'.heap.FunFrames (hidX s'.heap X.stack [ea, T]) (X.env :: X.outer) := by
      have := ff_base I.stack (b1 := hidX s'.heap X.stack [ea, T]) fun b hb => hidX_none (.inl hb)
      rw [O.stk] at this ⊢; exact this
    have hx0 := hx
    obtain ⟨oe, vs, a0, oT, ts, a1, a2, a3, a4, a6, a7, a8, a9⟩ := hx
    have tr : s'.heap.TracedAtW (hidX s'.heap X.stack [ea, T]) ea cls a0 fl := ⟨oe, vs, T, oT, ts, a1, a2, a3, a4, hidX_none (.inr (by simp)), a6, a7, a8, a9⟩
    rcases hfl with rfl | rfl
    · refine wpAny_noteFrame_onW hfr hff O.fr tr hidX_stays (hidX_none (.inr (by simp))) fun h' ⟨k1, k2, k3, k4⟩ => ?_
      obtain ⟨I', T', x', hT', sT'⟩ := trace_step O I hch (by simp) k1 (by rw [O.stk] at k2 ⊢; exact k2) k3 k4
      exact k ea T' cls σ H h' rfl I' x' hea hT' sea sT' hE
    · exact wpAny_noteFrame_againW O.fr tr (k ea T cls σ H s'.heap rfl I hx0 hea hT sea sT hE)
end
section
variable {P : Program} {w : World} {K : PySem.W.Frag} {mg : Str → Option Value} {base : Heap}
theorem own_cx {CX : CXT} {N : List Str} {qual : Str} {scope : Scope} {f : Addr} {cd : Value} {A : Around} {outer : List Env} {s : Shared} {H : Hp} {E : XK} : Own (cxOf CX P w K mg base N qual scope f cd A outer s H E) := ⟨rfl, rfl, rfl, rfl⟩
theorem Fun.okA {x qual : Str} {st : Stmt} {f : Addr} {fd : FuncData} {N ps : List Str} {k : Nat} {sp : Sp} (F : Fun K x qual st f fd) (S : FnScope N ps (defScope st)) (len : ∀ vs H Q E, sp vs H Q E → vs.length = ps.length)
    (hbody : ∀ (cdv : Value) (A : Around) (outer : List Env) (s : Shared) (H : Hp) (vs : List V) (Q : VK) (E : XK), Room k (A.deeper (envOfC qual (defScope st) s.heap.objs.size f cdv)) → sp vs H Q E →
      ∃ t, PSs ((cxOf (CXA P w) P w K mg base N qual (defScope st) f cdv A outer s H E).wish (Air (cxOf (CXA P w) P w K mg base N qual (defScope st) f cdv A outer s H E) fun cls _ H' => E cls none H')) (defBody st) t ∧ t { nx := fun _ H' => Q .non H', rt := Q } (start N vs) H) :
    FnOk P w K mg base (CXA P w) (k + 1) f fd ps sp := by
  obtain ⟨oc, od, kV, doc, pm, an, cdv, ct, osl, rfl, lk, hcd⟩ := F.ex
  refine fn_of lk hcd S len fun A outer s H vs Q E hr hsp => ?_
  obtain ⟨t, h, q⟩ := hbody cdv A outer s H vs Q E hr hsp
  refine ⟨t, fun pins s1 σ H1 D I hw => ?_, q⟩
  refine wpAny_mono (h pins s1 σ H1 D (I.wish _) hw) (fun _ _ z => z.unwish) fun e s' hA => ?_
  refine air_leaves (X := cxOf (CXA P w) P w K mg base N qual (defScope st) f cdv A outer s H E) own_cx hA fun ea T cls σ' H' h' ee J x h1 h2 h3 h4 hE => ?_
  exact ⟨ea, T, cls, H', ee, J.os, J.bare, J.base, J.hok, x, h1, h2, h3, h4, hE⟩
end
structure HasA (P : Program) (w : World) (K : PySem.W.Frag) (mg : Str → Option Value) (base : Heap) (n : Nat) (x : Str) (ps : List Str) (sp : Sp) : Prop where
  ex : ∃ f fd, FnOk P w K mg base (CXA P w) n f fd ps sp ∧ Binds K fd ps [] ∧ PySem.W.keepIn K (.ref f) = true ∧ mg x = some (.ref f)
def tCallA (sp : Sp) (E : Value → St → Hp → Prop) (t : TA) : TE := fun σ H Q => t σ H fun vs H1 => sp vs H1 Q fun cls _ H' => E cls σ H'
theorem pe_ownA {X : Cx} {E : Value → St → Hp → Prop} {n : Nat} {x : Str} {ps : List Str} {sp : Sp} {e : Expr} {es : List Expr} {t : TA} {p pos : Pos} {m : Nat} (O : Own X) (h : HasA X.prog X.w X.K X.mg X.base n x ps sp) (hr : Room m X.A) (ha : PA (X.wish (Air X E)) (e :: es) t) (hle : n ≤ m := by decide)
    (hg : Gl X x := by rfl) (hdb : (x == ("__debug__" : Str)) = false := by decide) (he : starEach (e :: es) X.env = (false, eval e X.env) :: starEach es X.env := by rfl) (hpl : (backTo pos (starEach es X.env)).any (·.1) = false := by rfl) :
    PE (X.wish (Air X E)) (.Call (.Name x p) (e :: es) [] pos) (tCallA sp E t) := by
  obtain ⟨f, fd, F, hb, hk, hm⟩ := h.ex
  intro pins s σ H Q I hq
  refine wpAny_Call_Name_kw (ld_glob I hg hm ?_ hdb)
  refine PySem.W.callWith_K (h₀ := X.base) I.ok.mod.kin hk (thn (ha pos pins s σ H _ I hq) fun us s1 ⟨vs, H1, I1, r, q⟩ => ⟨I1.kIn, ?_⟩) he hpl
  have J := I1.unwish
  have hl : (us ++ []).length = ps.length := by rw [List.append_nil, ← r.length]; exact F.len _ _ _ _ q
  have hb' := hb s1 us J.kIn hl
  rw [List.append_nil] at hb'
  refine wpAny_call (codeAny_mono ((F.mono hle).run X.A X.stack s1 H1 ⟨us, []⟩ us vs Q _ hr J.env0 hb' r q) fun r' s' hq' => ?_)
  cases r' with
  | error e' => exact air_call O J hq'
  | ok fl =>
    cases fl with
    | ret u =>
      obtain ⟨v, H', I3, rv, q3⟩ := J.after hq'
      exact ⟨v, H', I3.wish _, rv, q3⟩
    | next => exact False.elim hq'
    | brk => exact False.elim hq'
    | cont => exact False.elim hq'
theorem exc_obj {K : PySem.W.Frag} {h : Heap} {C : Addr} {bmB : List Value} {newId : String} (X : K.In h) (q : PySem.W.excIn K C bmB newId = true) :
    ∃ bm N nm qn bs hd sn sub ab col dd k0 k1 k2 k3 k5 mN, h.get? C = some (excClassObj nm qn C N bs bm hd sn sub ab col dd k0 k1 k2 k3 k5 newId) ∧ h.Ns N mN ∧ mN "__init__" = none ∧ OwnTail h bmB bm := by
  unfold PySem.W.excIn at q
  split at q
  · rename_i dd cd sl ho
    split at q
    · rename_i C' bm k0 k1 k2 k3 n k5 hm hs
      simp only [Bool.and_eq_true, beq_iff_eq, Bool.not_eq_true'] at q
      obtain ⟨⟨⟨⟨⟨q1, q2⟩, q3⟩, q4⟩, q5⟩, q6⟩ := q
      subst q1 q2
      obtain ⟨nm, bs, mro, ns, qn, hd, sn, sub, ab, col, del⟩ := cd
      dsimp only at hm q3 q5 q6
      subst hm q3
      obtain ⟨l⟩ := sl
      simp only at hs
      subst hs
      exact ⟨bm, ns, nm, qn, bs, hd, sn, sub, ab, col, dd, k0, k1, k2, k3, k5, _, X _ _ ho, .of_isNs (PySem.W.isNs_of_in X q5), PySem.W.nsMap_none_of_in X q5 q6, PySem.W.tail_of_in X q4⟩
    · cases q
  · cases q
def tRaise (C : Addr) (E : Value → St → Hp → Prop) (t : TA) : TS := fun _ σ H => t σ H fun vs H1 => vs.length ≤ sizeLine ∧ E (.ref C) σ H1
theorem ps_raise {X : Cx} {E : Value → St → Hp → Prop} {x : Str} {C : Addr} {B newId initId : String} {bmB : List Value} {e : Expr} {es : List Expr} {t : TA} {np cpos pos : Pos} (O : Own X) (FB : ExcBaseFacts B newId initId bmB) (hq : PySem.W.excIn X.K C bmB newId = true) (hm : X.mg x = some (.ref C))
    (ha : PA (X.wish (Air X E)) (e :: es) t) (hc : X.calm = true := by rfl) (hg : Gl X x := by rfl) (hdb : (x == ("__debug__" : Str)) = false := by decide) (he : starEach (e :: es) X.env = (false, eval e X.env) :: starEach es X.env := by rfl) (hpl : (backTo cpos (starEach es X.env)).any (·.1) = false := by rfl) :
    PS (X.wish (Air X E)) (.Raise (some (.Call (.Name x np) (e :: es) [] cpos)) none pos) (tRaise C E t) := by
  intro pins s σ H D I h
  obtain ⟨bm, N, nm, qn, bs, hd, sn, sub, ab, col, dd, k0, k1, k2, k3, k5, mN, hC, hN, hni, T⟩ := exc_obj I.ok.mod.kin hq
  refine wpAny_Raise_call_subU (C := C) (nm := nm) (q := qn) (N := N) (bs := bs) (bm := bm) (hdct := hd) (sn := sn) (sub := sub) (ab := ab) (col := col) (dd := dd) (k0 := k0) (k1 := k1) (k2 := k2) (k3 := k3) (k5 := k5)
    FB FB.hasB FB (mN := mN) (T.hasType FB.hasBase) (I.ok.hd hc) (by show (backTo cpos (starEach (e :: es) X.env)).any (·.1) = false; rw [he]; show (false || (backTo cpos (starEach es X.env)).any (·.1)) = false; rw [hpl]; rfl) hni (ld_glob I hg hm ⟨rfl, ?_⟩ hdb)
  have hA := ha cpos pins s σ H _ I h
  show wpAny _ _ (evalArgs (.ref C) true (backTo cpos (starEach (e :: es) X.env)) []) _ _ _
  rw [show (X.wish (Air X E)).env = X.env from rfl] at hA
  rw [he] at hA ⊢
  refine Calls.evalArgs_plain (thn hA fun us s2 ⟨vs, H2, I2, r, hz, hE⟩ => ⟨rfl, by rw [← r.length]; exact hz, I2.bk _ _ hC, hN.keeps I2.bk, T.keeps I2.bk, fun h' ea hmk => ?_⟩)
  have J : Inv X pins σ H2 s2 := I2.unwish
  obtain ⟨tt, h1, _, _⟩ := hmk.there
  refine ⟨ea, .ref C, σ, H2, rfl, (J.kept (t' := s2.toks) hmk.keeps).pins_of (fun p hp => nomatch hp), ?_, ?_, hE, .inl ⟨_, _, _, h1, ⟨rfl, rfl⟩, rfl, rfl⟩⟩
  · cases q : H2 ea with
    | none => rfl
    | some u =>
      obtain ⟨o, e'⟩ := (J.hok ea u q).obj
      rw [hmk.new] at e'; cases e'
  · cases q : X.s₀.heap.get? ea with
    | none => rfl
    | some o =>
      obtain ⟨o', e'⟩ := J.base.there ea o q (by rw [O.ex]; simp)
      rw [hmk.new] at e'; cases e'
def PS0 (X : Cx) (st : Stmt) (t : TS) : Prop := ∀ (s : Shared) (σ : St) (H : Hp) (D : Ends), Inv X [] σ H s → t D σ H → wpAny (model X.prog X.w) X.A (exec st X.env) (SP X [] D) X.xe s
def PSs0 (X : Cx) (st : List Stmt) (t : TS) : Prop := ∀ (s : Shared) (σ : St) (H : Hp) (D : Ends), Inv X [] σ H s → t D σ H → wpAny (model X.prog X.w) X.A (execs st X.env) (SP X [] D) X.xe s
section
variable {X : Cx} {st : Stmt} {rest : List Stmt} {t u : TS}
theorem PS.z (h : PS X st t) : PS0 X st t := fun s σ H D I q => h [] s σ H D I q
theorem PSs.z (h : PSs X rest t) : PSs0 X rest t := fun s σ H D I q => h [] s σ H D I q
theorem pss0_cons (h1 : PS0 X st t) (h2 : PSs0 X rest u) : PSs0 X (st :: rest) (tSeq t u) := by
  intro s σ H D I h
  refine wpAny_execs_cons (thn (h1 s σ H { D with nx := u D } I h) fun f s1 q => ?_)
  cases f with
  | next =>
    obtain ⟨σ', H', I', q⟩ := q
    exact h2 s1 σ' H' D I' q
  | ret v => exact q
  | brk => exact q
  | cont => exact q
theorem pss0_one (h1 : PS0 X st t) : PSs0 X [st] t := by
  intro s σ H D I h
  refine wpAny_execs_cons (thn (h1 s σ H D I h) fun f s1 q => ?_)
  cases f with
  | next => exact wpAny_execs_nil q
  | ret v => exact q
  | brk => exact q
  | cont => exact q
theorem PSs0.nox (h : PSs0 X.nox rest t) : PSs0 X rest t := fun s σ H D I hw =>
  wpAny_mono (h s σ H D (I.wish _) hw) (fun _ _ q => q.unwish) fun _ _ z => False.elim z
end
theorem fn_of0 {CX : CXT} {P : Program} {w : World} {K : PySem.W.Frag} {mg : Str → Option Value} {base : Heap} {k : Nat} {f : Addr} {name qual : Str} {params : Arguments} {body : List Stmt} {scope : Scope} {dV kV doc pm cdv ct oc : Value} {an od : Option Addr}
    {osl : Array (Option Value)} {N ps : List Str} {sp : Sp} (lk : K.lookup f = some ⟨oc, od, .func (PySem.W.fnOf name qual params body scope dV kV doc pm an cdv ct), osl⟩) (hcd : PySem.W.codeIn K cdv qual = true) (S : FnScope N ps scope)
    (len : ∀ vs H Q E, sp vs H Q E → vs.length = ps.length)
    (hbody : ∀ (A : Around) (outer : List Env) (s : Shared) (H : Hp) (vs : List V) (Q : VK) (E : XK), Room k (A.deeper (envOfC qual scope s.heap.objs.size f cdv)) → sp vs H Q E →
      ∃ t, PSs0 (cxOf CX P w K mg base N qual scope f cdv A outer s H E) body t ∧ t { nx := fun _ H' => Q .non H', rt := Q } (start N vs) H) :
    FnOk P w K mg base CX (k + 1) f (PySem.W.fnOf name qual params body scope dV kV doc pm an cdv ct) ps sp := by
  refine ⟨len, fun A outer s H args us vs Q E hr e0 hb r hsp => ?_⟩
  have hl := len _ _ _ _ hsp
  have KX : K.In s.heap := e0.mod.kin.keeps fun b o e => (e0.bs b o e).1
  have lim : s.heap.NoLimit := e0.mod.nolimit.keeps fun b o e => (e0.bs b o e).1
  have hkind : ∀ y ∈ ps.zip us, scope.names.lookup y.1 = some .local ∨ (scope.names.lookup y.1 = some .cell ∧ ((cellsFrom (s.heap.objs.size + 1) scope.names []).lookup y.1).isSome = true) := fun ⟨n, v⟩ hy => by
    rcases S.par n (List.of_mem_zip hy).1 with q | q
    · exact .inl q
    · exact .inr ⟨q, PySem.W.cellsFrom_some _ _ _ (.inl q)⟩
  refine codeAny_call_function hr.depth (KX _ _ lk) rfl S.co S.gen rfl (PySem.W.codeRec_of KX hcd) (hb _ _ _ _ ?_)
  refine wpAny_newFunctionEnv_cells S.kind hkind fun env he s1 x => ?_
  subst he
  refine ⟨lim.keeps x.toInCall.keep, codeAny_func ?_⟩
  obtain ⟨t, ht, hq⟩ := hbody A outer s H vs Q E (hr.deeper _) hsp
  have I : Inv (cxOf CX P w K mg base N qual scope f cdv A outer s H E) [] (start N vs) H s1 := inv_start S hr.hd e0 hl r x
  refine wpAny_mono (ht s1 (start N vs) H _ I hq) (fun fl s' hs => ?_) fun e s' hs => hs
  have fin : ∀ {σ' : St} {H' : Hp} {v : V} {u : Value}, Inv (cxOf CX P w K mg base N qual scope f cdv A outer s H E) [] σ' H' s' → RelV v u → Q v H' → CE outer P w H s Q u s' :=
    fun {σ' H' v u} J rv q => ⟨v, H', J.os, J.bare, J.base, J.hok, rv, q⟩
  cases fl with
  | ret u =>
    obtain ⟨v, σ', H', J, rv, q⟩ := hs
    exact fin J rv q
  | next =>
    obtain ⟨σ', H', J, q⟩ := hs
    exact fin (v := V.non) (u := Value.none) J rfl q
  | brk =>
    obtain ⟨_, _, _, q⟩ := hs
    exact False.elim q
  | cont =>
    obtain ⟨_, _, _, q⟩ := hs
    exact False.elim q
section
variable {P : Program} {w : World} {K : PySem.W.Frag} {mg : Str → Option Value} {base : Heap}
theorem Fun.ok0 {x qual : Str} {st : Stmt} {f : Addr} {fd : FuncData} {N ps : List Str} {k : Nat} {sp : Sp} (F : Fun K x qual st f fd) (S : FnScope N ps (defScope st)) (len : ∀ vs H Q E, sp vs H Q E → vs.length = ps.length)
    (hbody : ∀ (cdv : Value) (A : Around) (outer : List Env) (s : Shared) (H : Hp) (vs : List V) (Q : VK) (E : XK), Room k (A.deeper (envOfC qual (defScope st) s.heap.objs.size f cdv)) → sp vs H Q E →
      ∃ t, PSs0 (cxOf CX0 P w K mg base N qual (defScope st) f cdv A outer s H E).nox (defBody st) t ∧ t { nx := fun _ H' => Q .non H', rt := Q } (start N vs) H) : FnOk P w K mg base CX0 (k + 1) f fd ps sp := by
  obtain ⟨oc, od, kV, doc, pm, an, cdv, ct, osl, rfl, lk, hcd⟩ := F.ex
  refine fn_of0 lk hcd S len fun A outer s H vs Q E hr hsp => ?_
  obtain ⟨t, h, q⟩ := hbody cdv A outer s H vs Q E hr hsp
  exact ⟨t, h.nox, q⟩
end
def Cx.held (X : Cx) (e : Value) : Cx := { X with A := X.A.mark (some e), calm := false, xe := fun _ _ => False }
theorem Inv.held {X : Cx} {pins : List (Addr × Obj)} {σ : St} {H : Hp} {s : Shared} (I : Inv X pins σ H s) (e : Value) : Inv (X.held e) pins σ H s :=
  ⟨⟨I.ok.mod, I.ok.kind, I.ok.glob, I.ok.blt, I.ok.above, I.ok.inj, I.ok.has, I.ok.cab, (fun z => nomatch z), I.ok.frames, I.ok.stk, I.ok.exf, I.ok.bs, I.ok.bsz, I.ok.noex, I.ok.exfs, I.ok.funs, I.ok.frf⟩, I.os, I.bare, I.base, I.loc, I.cell, I.free, I.freeC, I.pin, I.hok, I.len⟩
theorem Inv.unheld {X : Cx} {pins : List (Addr × Obj)} {σ : St} {H : Hp} {s : Shared} {e : Value} (ok : X.Ok) (I : Inv (X.held e) pins σ H s) : Inv X pins σ H s := ⟨ok, I.os, I.bare, I.base, I.loc, I.cell, I.free, I.freeC, I.pin, I.hok, I.len⟩
theorem SP.unheld {X : Cx} {pins : List (Addr × Obj)} {D : Ends} {f : Flow} {s' : Shared} {e : Value} (ok : X.Ok) (h : SP (X.held e) pins D f s') : SP X pins D f s' := by
  cases f with
  | next => obtain ⟨σ', H', I, q⟩ := h; exact ⟨σ', H', I.unheld ok, q⟩
  | brk => obtain ⟨σ', H', I, q⟩ := h; exact ⟨σ', H', I.unheld ok, q⟩
  | cont => obtain ⟨σ', H', I, q⟩ := h; exact ⟨σ', H', I.unheld ok, q⟩
  | ret u => obtain ⟨v, σ', H', I, r, q⟩ := h; exact ⟨v, σ', H', I.unheld ok, r, q⟩
end L2

set_option Elab.async false
set_option linter.all false
set_option maxRecDepth 100000
namespace PySem
open PySem.Spec PyProof.Rows
section
variable {prog : Program} {w : World} {A : Around} {R : Result → Shared → Prop} {s : Shared}
theorem codeAny_compLoop_exc {elt target iter : Expr} {ifs : List Expr} {scope : Scope} {pos : Pos} {it acc : Value} {env : Env} (I : Nat → Shared → Prop)
    (turn : ∀ n s, I n s → wpAny (model prog w) A (pyNext it) (fun r s₁ => match r with
      | none => R (.ok .next) s₁
      | some v => wpAny (model prog w) A (letOwnedTupleGo target it v) (fun _ s₁' => wpAny (model prog w) A (assign target env v) (fun _ s₂ =>
          wpAny (model prog w) A (forIn ifs true fun c r => if r = true then do let ok ← isTrue c env (eval c env); pure (ForInStep.yield ok) else pure (ForInStep.yield r)) (fun ok s₃ =>
            if ok = true then wpAny (model prog w) A (eval elt env) (fun x s₄ =>
              wpAny (model prog w) A (call (.builtin "list.append") [acc, x]) (fun _ s₅ => ∃ m, m < n ∧ I m s₅) (fun _ _ => False) s₄) (notedBy (model prog w) A env fun x s' => R (.error x) s') s₃
            else ∃ m, m < n ∧ I m s₃) (fun _ _ => False) s₂) (fun _ _ => False) s₁') (fun _ _ => False) s₁) (fun _ _ => False) s)
    (n : Nat) (h : I n s) :
    codeAny (model prog w) A (.compLoop (.ListComp elt [⟨target, iter, ifs, 0⟩] scope pos) 0 it acc env) R s := by
  refine codeAny_loop rfl I (fun n s hI => ?_) n h
  show wpAny _ A ((compTurn (.ListComp elt [⟨target, iter, ifs, 0⟩] scope pos) 0 it acc env).onRaise (fun x => do noteFrame x env; theTreesLotGoes x)) _ _ s
  refine wpAny_noted ?_
  rw [compTurn_list]
  refine wpAny_bind (wpAny_standAt (wpAny_bind (wpAny_mono (turn n s hI) (fun r s₁ h₁ => ?_) fun _ _ h' => h'.elim)))
  cases r with
  | none => exact wpAny_pure h₁
  | some v =>
    refine wpAny_bind (wpAny_mono h₁ (fun _ s₁' h₁' => ?_) fun _ _ h' => h'.elim)
    refine wpAny_bind (wpAny_mono h₁' (fun _ s₂ h₂ => wpAny_bind (wpAny_mono h₂ (fun ok s₃ h₃ => ?_) fun _ _ h' => h'.elim)) fun _ _ h' => h'.elim)
    cases ok with
    | false => exact wpAny_pure ⟨rfl, h₃⟩
    | true =>
      exact wpAny_bind (wpAny_bind (wpAny_mono h₃ (fun x s₄ h₄ => wpAny_bind (wpAny_mono h₄ (fun _ s₅ h₅ => wpAny_pure (wpAny_pure ⟨rfl, h₅⟩)) fun _ _ h' => h'.elim)) fun _ _ h' => h'))
end
section
variable {M : Model} {A : Around} {E : Value → Shared → Prop} {s : Shared} {env : Env}
def compEnd (M : Model) (A : Around) (E : Value → Shared → Prop) (Q : Value → Shared → Prop) (acc : Value) (ce : Env) : Result → Shared → Prop := fun r s' =>
  ∃ m, s'.heap.Ns ce.locals m ∧ ∀ h', Heap.SameBut ce.locals s'.heap h' → (match r with
    | .ok _ => Q acc { s' with heap := h' }
    | .error x => wpAny M A (passOn "comprehension.variables-let-go" x ce : Sem Value) (fun _ _ => False) E { s' with heap := h' })
theorem wpAny_comp_exc {e : Expr} {scope : Scope} {pos : Pos} {newAcc first : Sem Value} {g : Comprehension} {gs : List Comprehension} {cl : List (Str × Addr)} {Q : Value → Shared → Prop}
    (c1 : clausesOf e = g :: gs) (c2 : ∀ x, foldedSetIterable g.iter env x = pure x) (c3 : closureFor scope env = pure cl) (c4 : scope.kind = .function) (c5 : ∀ x ∈ scope.names, x.2 = .local → scope.names.lookup x.1 = some .local)
    (h : wpAny M A first (fun x s₁ => wpAny M A (pyIter x) (fun it s₂ => wpAny M A newAcc (fun acc s₃ => wpAny M A (newFunctionEnv scope env.globals cl [] env.qual none .none (some env)) (fun ce s₄ =>
      codeAny M A (.compStart e 0 it acc { ce with scope := relabel scope env }) (compEnd M A E Q acc { ce with scope := relabel scope env }) s₄) E s₃) E s₂) E s₁) E s) :
    wpAny M A (comprehension e scope env pos newAcc false first none) Q E s := by
  unfold comprehension
  rw [c3, c1]
  have up : ∀ {α : Type} {m : Sem α} {Q1 Q2 : α → Shared → Prop} {t : Shared}, wpAny M A m Q1 E t → (∀ a t', Q1 a t' → Q2 a t') → wpAny M A m Q2 E t := fun a b => wpAny_mono a b fun _ _ y => y
  refine wpAny_bind (up h fun x s₁ h₁ => wpAny_bind (wpAny_standAt (wpAny_bind (wpAny_of_eq (c2 x) (wpAny_bind (wpAny_holding (up h₁ fun it s₂ h₂ => wpAny_standIf (wpAny_bind (up h₂ fun acc s₃ h₃ => wpAny_bind (wpAny_pure (wpAny_bind (up h₃ fun ce s₄ h₄ => ?_))))))))))))
  dsimp only
  refine wpAny_holding (wpAny_bind (wpAny_attempt (wpAny_holding (wpAny_run (codeAny_mono h₄ fun r s' hr => ?_)))))
  obtain ⟨m, hn, hr⟩ := hr
  have loc : ∀ x ∈ (scope.names.filter fun x => (x.2 == .local || x.2 == .cell) && x.1 != (".0" : Str)).reverse, x.2 = .local → Env.kindOf { ce with scope := relabel scope env } x.1 = some .local :=
    fun x hx hl => lookup_relabel_local (c5 x (List.mem_filter.mp (List.mem_reverse.mp hx)).1 hl)
  cases r with
  | ok f => exact wpAny_bind (wpAny_holding (wpAny_comp_letGo c4 _ s' m loc hn fun h' m' _ hs' => wpAny_pure (hr h' hs')))
  | error x => exact wpAny_bind (wpAny_holding (wpAny_comp_letGo c4 _ s' m loc hn fun h' m' _ hs' => up (hr h' hs') fun _ _ f => f.elim))
end
theorem noteFrame_comp (x : Value) (scope : Scope) (cl : List (Str × Addr)) (C : Addr) (env : Env) : noteFrame x (compEnvC scope cl C env) = noteFrame x env := by
  unfold noteFrame frameOf
  rfl
end PySem
namespace L2
open PySem PySem.Spec PyProof.Rows
section
variable {X : Cx} {σ : St} {H : Hp} {s : Shared} {ea T : Addr} {cls fl : Value} {E : Value → St → Hp → Prop}
theorem air_notedK {e : Value} {s' : Shared} {Q : Unit → Shared → Prop} {EE : Value → Shared → Prop} (O : Own X) (hA : Air X E e s')
    (k : ∀ ea T cls σ H h', e = .ref ea → Inv X [] σ H { s' with heap := h' } → XRec h' ea T cls (rawInt X.env.locals) → H ea = none → H T = none → X.s₀.heap.get? ea = none → X.s₀.heap.get? T = none → E cls σ H → (∀ b o, s'.heap.get? b = some o → (∀ vs, o.data ≠ .fields vs) → ∃ sl, h'.get? b = some { o with slots := sl }) → Q () { s' with heap := h' }) :
    wpAny (model X.prog X.w) X.A (noteFrame e X.env) Q EE s' := by
  obtain ⟨ea, cls, σ, H, rfl, I, hea, sea, hE, hx⟩ := hA
  have hfr : X.A.frames = some (X.env :: X.outer) := by rw [I.ok.frames, O.stk]
  rcases hx with ⟨oe, vs, a0, b1, ⟨b2, b2'⟩, b3, b4⟩ | ⟨T, fl, hx, hfl, hT, sT⟩
  · have hch : ∀ b ∈ [ea], H b = none ∧ X.s₀.heap.get? b = none ∧ ∃ o vs, s'.heap.get? b = some o ∧ o.data = .fields vs := fun b hb => by
      obtain rfl : b = ea := by simpa using hb
      exact ⟨hea, sea, oe, vs, b1, b3⟩
    have hff : s'.heap.FunFrames (hidX s'.heap X.stack [ea]) (X.env :: X.outer) := by
      have := ff_base I.stack (b1 := hidX s'.heap X.stack [ea]) fun b hb => hidX_none (.inl hb)
      rw [O.stk] at this ⊢; exact this
    unfold noteFrame
    simp only [O.fr]
    refine wpAny_bind (wpAny_field b1 b3 b4 ?_)
    rw [if_neg (by decide)]
    refine wpAny_entryW hfr hff O.fr b1 hidX_stays (hidX_none (.inr (by simp))) b3 (Array.getElem?_eq_some_iff.mp b4).1 b2' fun h' ⟨k1, k2, k3, k4⟩ => ?_
    obtain ⟨I', T', x', hT', sT'⟩ := trace_step O I hch (by simp) k1 (by rw [O.stk] at k2 ⊢; exact k2) k3 k4
    rw [b2] at x'
    exact k ea T' cls σ H h' rfl I' x' hea hT' sea sT' hE k4
  · obtain ⟨⟨o1, v1, c1, c2⟩, o2, v2, c3, c4⟩ := hx.rec
    have hch : ∀ b ∈ [ea, T], H b = none ∧ X.s₀.heap.get? b = none ∧ ∃ o vs, s'.heap.get? b = some o ∧ o.data = .fields vs := fun b hb => by
      simp only [List.mem_cons, List.not_mem_nil, or_false] at hb
      rcases hb with rfl | rfl
      · exact ⟨hea, sea, o1, v1, c1, c2⟩
      · exact ⟨hT, sT, o2, v2, c3, c4⟩
    have hff : s'.heap.FunFrames (hidX s'.heap X.stack [ea, T]) (X.env :: X.outer) := by
      have := ff_base I.stack (b1 := hidX s'.heap X.stack [ea, T]) fun b hb => hidX_none (.inl hb)
      rw [O.stk] at this ⊢; exact this
    have hx0 := hx
    obtain ⟨oe, vs, a0, oT, ts, a1, a2, a3, a4, a6, a7, a8, a9⟩ := hx
    have tr : s'.heap.TracedAtW (hidX s'.heap X.stack [ea, T]) ea cls a0 fl := ⟨oe, vs, T, oT, ts, a1, a2, a3, a4, hidX_none (.inr (by simp)), a6, a7, a8, a9⟩
    rcases hfl with rfl | rfl
    · refine wpAny_noteFrame_onW hfr hff O.fr tr hidX_stays (hidX_none (.inr (by simp))) fun h' ⟨k1, k2, k3, k4⟩ => ?_
      obtain ⟨I', T', x', hT', sT'⟩ := trace_step O I hch (by simp) k1 (by rw [O.stk] at k2 ⊢; exact k2) k3 k4
      exact k ea T' cls σ H h' rfl I' x' hea hT' sea sT' hE k4
    · exact wpAny_noteFrame_againW O.fr tr (k ea T cls σ H s'.heap rfl I hx0 hea hT sea sT hE fun b o e _ => ⟨o.slots, e⟩)
theorem comp_raised {C : Addr} {m : Str → Option Value} {ce : Env} {e : Value} {s' : Shared} {Q : Value → Shared → Prop} {acc : Value} (O : Own X) (hA : Air X (fun cls σ H => E cls σ H ∧ FpOk X [] H C) e s') (hC : s'.heap.Ns C m) (hce : ce.locals = C) (hcf : ce.frame = X.env.frame) {XE : Value → Shared → Prop} (hXE : ∀ e s, Air X E e s → XE e s) :
    wpAny (model X.prog X.w) X.A (noteFrame e X.env) (fun _ s'' => compEnd (model X.prog X.w) X.A XE Q acc ce (.error e) s'') (fun x s'' => compEnd (model X.prog X.w) X.A XE Q acc ce (.error x) s'') s' := by
  refine air_notedK O hA fun ea T cls σ H h' ee I x h1 h2 h3 h4 hE k4 => ?_
  subst ee
  obtain ⟨hE, f0, f1, f2, f3, f4, f5⟩ := hE
  obtain ⟨o, es, ep, c1, c2, c3, c4⟩ := hC
  obtain ⟨sl, d1⟩ := k4 C o c1 (fun vs z => by rw [c2] at z; cases z)
  refine ⟨m, ⟨{ o with slots := sl }, es, ep, by rw [hce]; exact d1, c2, c3, c4⟩, fun h'' sb => ?_⟩
  rw [hce] at sb
  obtain ⟨oe, vs, a0, oT, ts, a1, a2, a3, a4, a6, a7, a8, a9⟩ := x
  have n1 : ea ≠ C := fun z => by
    rw [z, d1] at a1
    cases a1
    rw [show ({ o with slots := sl } : Obj).data = o.data from rfl, c2] at a3
    cases a3
  have n2 : T ≠ C := fun z => by
    rw [z, d1] at a7
    cases a7
    rw [show ({ o with slots := sl } : Obj).data = o.data from rfl, c2] at a8
    cases a8
  have b1 : h''.get? ea = some oe := (sb.2 ea n1).trans a1
  have b7 : h''.get? T = some oT := (sb.2 T n2).trans a7
  have x2 : XRec h'' ea T cls (rawInt X.env.locals) := ⟨oe, vs, a0, oT, ts, b1, a2, a3, a4, a6, b7, a8, a9⟩
  have I2 : Inv X [] σ H { s' with heap := h'' } := I.turned (t' := s'.toks) (fun b o hb e => (sb.2 b hb).trans e) f0 f1 f3 f4 f5
  show wpAny _ _ (PySem.passOn _ (.ref ea) ce) _ _ _
  unfold PySem.passOn
  refine wpAny_bind (wpAny_field b1 a3 a4 ?_)
  rw [if_neg (show ¬ ((Value.ref T == Value.none) = true) from by simp)]
  refine wpAny_bind ?_
  rw [hcf, O.fr]
  exact air_flight O I2 x2 h2 h4 fun h3' I3 x3 => wpAny_throw (hXE _ _ ⟨ea, cls, σ, H, rfl, I3, h1, h3, hE, .inr ⟨T, _, x3, .inr rfl, h2, h4⟩⟩)
end
def CAir (Y : Cx) (EE : Value → Hp → Prop) (e : Value) (s' : Shared) : Prop := ∃ pins τ H5 s5, Inv Y pins τ H5 s5 ∧ CXA Y.prog Y.w Y.stack H5 s5 (fun cls _ H' => EE cls H') e s'
theorem pe_ownY {Y : Cx} {EE : Value → Hp → Prop} {n : Nat} {x : Str} {ps : List Str} {sp : Sp} {e : Expr} {es : List Expr} {t : TA} {p pos : Pos} {m : Nat} (h : HasA Y.prog Y.w Y.K Y.mg Y.base n x ps sp) (hr : Room m Y.A) (ha : PA (Y.wish (CAir Y EE)) (e :: es) t) (hle : n ≤ m := by decide)
    (hg : Gl Y x := by rfl) (hdb : (x == ("__debug__" : Str)) = false := by decide) (he : starEach (e :: es) Y.env = (false, eval e Y.env) :: starEach es Y.env := by rfl) (hpl : (backTo pos (starEach es Y.env)).any (·.1) = false := by rfl) :
    PE (Y.wish (CAir Y EE)) (.Call (.Name x p) (e :: es) [] pos) (tCallA sp (fun cls _ H => EE cls H) t) := by
  obtain ⟨f, fd, F, hb, hk, hm⟩ := h.ex
  intro pins s σ H Q I hq
  refine wpAny_Call_Name_kw (ld_glob I hg hm ?_ hdb)
  refine PySem.W.callWith_K (h₀ := Y.base) I.ok.mod.kin hk (thn (ha pos pins s σ H _ I hq) fun us s1 ⟨vs, H1, I1, r, q⟩ => ⟨I1.kIn, ?_⟩) he hpl
  have J := I1.unwish
  have hl : (us ++ []).length = ps.length := by rw [List.append_nil, ← r.length]; exact F.len _ _ _ _ q
  have hb' := hb s1 us J.kIn hl
  rw [List.append_nil] at hb'
  refine wpAny_call (codeAny_mono ((F.mono hle).run Y.A Y.stack s1 H1 ⟨us, []⟩ us vs Q _ hr J.env0 hb' r q) fun r' s' hq' => ?_)
  cases r' with
  | error e' => exact ⟨pins, σ, H1, s1, J, hq'⟩
  | ok fl =>
    cases fl with
    | ret u =>
      obtain ⟨v, H', I3, rv, q3⟩ := J.after hq'
      exact ⟨v, H', I3.wish _, rv, q3⟩
    | next => exact False.elim hq'
    | brk => exact False.elim hq'
    | cont => exact False.elim hq'
theorem FpOk.less {X : Cx} {pins : List (Addr × Obj)} {H : Hp} {b : Addr} (h : FpOk X pins H b) : FpOk X [] H b := ⟨h.1, h.2.1, h.2.2.1, h.2.2.2.1, h.2.2.2.2.1, fun p hp => h.2.2.2.2.2 p (by rw [List.append_nil] at hp; exact List.mem_append_left _ hp)⟩
section
variable {X : Cx}
variable {tg iter elt : Expr} {ifs : List Expr} {scope : Scope} {pos : Pos} {N' : List Str} {caps : St → St} {wi : TI} {g : TG} {tt : TT} {te : TE}
theorem comp_blockA {pins : List (Addr × Obj)} {σ : St} {H2 : Hp} {s2 : Shared} {J : It} {fp : List Addr} {it : Addr} {tn : Nat → Heap → Prop} {cl : List (Str × Addr)} {Q : VK} {RR : Value → Env → Result → Shared → Prop}
    (hc : X.calm = true) (hkind : scope.kind = .function) (hcell : ∀ y ∈ scope.names, y.2 ≠ .cell)
    (hcap : ∀ σ : St, σ.length = X.N.length → (caps σ).length = N'.length ∧ ∀ (i : Nat) (x : Str) (v : V), N'[i]? = some x → (caps σ)[i]? = some (some v) → scope.names.lookup x = some .free ∧ ∃ j : Nat, X.N[j]? = some x ∧ σ[j]? = some (some v))
    (hfree : ∀ n, (n, NameKind.free) ∈ scope.names → X.env.kindOf n = some .cell ∨ X.env.kindOf n = some .free)
    (hcl1 : ∀ n c, cl.lookup n = some c → X.env.cells.lookup n = some c) (hcl2 : ∀ n, (n, NameKind.free) ∈ scope.names → ∃ c, cl.lookup n = some c)
    (hg : ∀ C s H, PG (cxComp X N' scope cl C fp s H) tg g) (hts : ∀ C s H, PTs (cxComp X N' scope cl C fp s H) ifs tt) (O : Own X) {E : Value → St → Hp → Prop} (hel : ∀ C s H, PE ((cxComp X N' scope cl C fp s H).wish (CAir (cxComp X N' scope cl C fp s H) fun cls H' => E cls σ H')) elt te)
    (I2 : Inv X pins σ H2 s2) (T : Turn X.prog X.w X.K tg J fp it tn) (st2 : tn 0 s2.heap) (f2 : ∀ b ∈ fp, FpOk X pins H2 b)
    (k2 : ∀ D, H2 D = none → CompW J D (caps σ) g tt te Q H2)
    (hEE : ∀ D C e s' m, Air X (fun cls σ' H' => E cls σ' H' ∧ FpOk X [] H' C) e s' → s'.heap.Ns C m → wpAny (model X.prog X.w) X.A (noteFrame e X.env) (fun _ s'' => RR (.ref D) (compEnvC scope cl C X.env) (.error e) s'') (fun x s'' => RR (.ref D) (compEnvC scope cl C X.env) (.error x) s'') s')
    (hRR : ∀ D C s' H' m, Inv X pins σ H' s' → s'.heap.Ns C m → s2.heap.objs.size ≤ C → H' C = none → Q (.ref D) H' → RR (.ref D) (compEnvC scope cl C X.env) (.ok .next) s') :
    wpAny (model X.prog X.w) X.A (newList []) (fun acc s₃ => wpAny (model X.prog X.w) X.A (newFunctionEnv scope X.env.globals cl [] X.env.qual none .none (some X.env)) (fun cenv s₄ =>
      codeAny (model X.prog X.w) X.A (.compStart (.ListComp elt [⟨tg, iter, ifs, 0⟩] scope pos) 0 (.ref it) acc { cenv with scope := relabel scope X.env }) (RR acc { cenv with scope := relabel scope X.env }) s₄) X.xe s₃) X.xe s2 := by
  refine wpAny_newObj_type (wpAny_newFunctionEnv hcell (by intro y hy; simp at hy) (fun h₁ hns₁ hsb₁ => ?_) hkind)
  dsimp only at hns₁ hsb₁ ⊢
  generalize hH2 : s2.heap.push { cls := .type "list", dict := none, data := .seq ([] : List Value).toArray } = HH at hns₁ hsb₁ ⊢
  have hC : HH.objs.size = s2.heap.objs.size + 1 := by rw [← hH2, Heap.size_push]
  have hDC : s2.heap.objs.size ≠ HH.objs.size := by rw [hC]; exact Nat.ne_of_lt (Nat.lt_succ_self _)
  have hCle : s2.heap.objs.size ≤ HH.objs.size := by rw [hC]; exact Nat.le_succ _
  have below : ∀ b, b < s2.heap.objs.size → b ≠ HH.objs.size ∧ b ≠ s2.heap.objs.size := fun b hb => ⟨by rw [hC]; exact Nat.ne_of_lt (Nat.lt_succ_of_lt hb), Nat.ne_of_lt hb⟩
  have old : ∀ b o, s2.heap.get? b = some o → h₁.get? b = some o := fun b o e => hsb₁.extBut b o (below b (Heap.lt_size e)).1 (Heap.get?_push_of_some _ (hH2 ▸ Heap.get?_push_of_some _ e))
  have hacc : h₁.get? s2.heap.objs.size = some { cls := .type "list", data := .seq ([] : List Value).toArray 0 } := hsb₁.extBut _ _ hDC (Heap.get?_push_of_some _ (hH2 ▸ Heap.get?_push_size _ rfl))
  have hDn : H2 s2.heap.objs.size = none := I2.hok.fresh (Nat.le_refl _)
  have hCn : H2 HH.objs.size = none := I2.hok.fresh hCle
  have fpC : FpOk X pins H2 HH.objs.size := I2.fpOk hCle hCn
  have fplt : ∀ b ∈ fp, b < s2.heap.objs.size := fun b hb => by
    obtain ⟨o, e, _⟩ := T.obj 0 _ st2 b hb
    exact Heap.lt_size e
  have nstk : ∀ b ∈ fp, b ∉ frs X.stack := fun b hb z => by
    obtain ⟨_, f1, f2', _⟩ := f2 b hb
    rcases List.mem_cons.mp (I2.stkSub b z) with e | e
    · exact f1 e
    · exact f2' e
  obtain ⟨W, ⟨m0, w0⟩, turn⟩ := k2 s2.heap.objs.size hDn
  have capok := hcap σ I2.len
  have ok : (cxComp X N' scope cl HH.objs.size fp s2 H2).Ok :=
    { mod := I2.ok.mod
      kind := hkind
      glob := I2.ok.glob
      blt := I2.ok.blt
      above := hCle
      inj := fun x y c a b => I2.ok.inj x y c (hcl1 x c a) (hcl1 y c b)
      has := fun x h => hcl2 x (by
        rcases h with h | h
        · exact of_relabel hcell (.inl rfl) h
        · exact of_relabel hcell (.inr rfl) h)
      cab := fun x c h => (nomatch h)
      hd := I2.ok.hd
      frames := I2.ok.frames
      stk := .inl rfl
      exf := fun b hb => ⟨(below b (fplt b hb)).1, fun x c e => (f2 b hb).2.2.2.2.1 x c (hcl1 x c e)⟩
      bs := I2.bs
      bsz := Nat.le_trans I2.ok.bsz I2.sz
      noex := fun b o e hb => by
        rcases (f2 b hb).2.2.2.1 with z | z
        · exact I2.ok.noex b o e z
        · exact absurd (Nat.lt_of_lt_of_le (Heap.lt_size (I2.ok.bs b o e).1) z) (Nat.lt_irrefl _)
      exfs := nstk
      funs := I2.stack
      frf := I2.stkFree }
  have I4 : Inv (cxComp X N' scope cl HH.objs.size fp s2 H2) [] (caps σ) (upd H2 s2.heap.objs.size (.lst [])) { s2 with heap := h₁, toks := s2.toks + ([] : List (Str × Value)).length } := by
    refine ⟨ok, rfl, I2.bare, Un.laid old (Nat.le_refl _) hDn, ⟨_, hns₁, fun i x v e1 e2 e3 => ?_⟩, fun x c e => ?_, ?_, fun x c e => ?_, (fun p hp => (nomatch hp)), ?_, capok.1⟩
    · obtain ⟨lf, j, e4, e5⟩ := capok.2 i x v e1 e2
      have kx := hfree x (mem_of_lookup lf)
      have vis : Vis X.env.scope x := by rcases kx with k | k; exact .inr (.inl k); exact .inr (.inr k)
      obtain ⟨m, hn, hl⟩ := I2.loc
      obtain ⟨u, r, l⟩ := hl j x v e4 e5 vis
      refine ⟨u, r, .inr ⟨relabel_free lf, ?_⟩⟩
      obtain ⟨c, hcx⟩ := hcl2 x (mem_of_lookup lf)
      have hcx' := hcl1 x c hcx
      refine ⟨c, hcx, ?_⟩
      rcases l with ⟨k, _⟩ | ⟨_, c', ec, ⟨o, ho, hd⟩⟩
      · rcases kx with k' | k' <;> (rw [k] at k'; cases k')
      · rw [hcx'] at ec; cases ec
        exact ⟨o, old _ o ho, hd⟩
    · obtain ⟨v, o, ho, hd⟩ := I2.cell x c (hcl1 x c e)
      exact ⟨v, o, old _ o ho, hd⟩
    · show upd H2 s2.heap.objs.size (.lst []) HH.objs.size = none
      rw [upd_ne (Ne.symm hDC)]; exact hCn
    · obtain ⟨v, o, ho, hd⟩ := I2.cell x c (hcl1 x c e)
      rw [upd_ne (Nat.ne_of_lt (Heap.lt_size ho))]
      exact I2.freeC x c (hcl1 x c e)
    · exact I2.hok.laid old (Nat.le_refl _) ⟨Nat.zero_le _, [], 0, .nil, hacc⟩
  have st4 : tn 0 h₁ := T.keep _ _ _ st2 fun b _ o e => old b o e
  have stat : ∀ {H' : Hp}, (∀ b ∈ fp, H' b = none) → ∀ b ∈ fp, FpOk (cxComp X N' scope cl HH.objs.size fp s2 H2) [] H' b := fun hn b hb =>
    ⟨hn b hb, (below b (fplt b hb)).1, nstk b hb, .inl hb, fun x c e => (f2 b hb).2.2.2.2.1 x c (hcl1 x c e), (fun p hp => (nomatch hp))⟩
  have loop : ∀ s₃ : Shared, s₃ = { s2 with heap := h₁, toks := s2.toks + ([] : List (Str × Value)).length } →
      codeAny (model X.prog X.w) X.A (.compLoop (.ListComp elt [⟨tg, iter, ifs, 0⟩] scope pos) 0 (.ref it) (.ref s2.heap.objs.size) (compEnvC scope cl HH.objs.size X.env)) (RR (.ref s2.heap.objs.size) (compEnvC scope cl HH.objs.size X.env)) s₃ := by
    rintro s₃ rfl
    refine codeAny_compLoop_exc (fun n s' => ∃ i τ H', Inv (cxComp X N' scope cl HH.objs.size fp s2 H2) [] τ H' s' ∧ tn i s'.heap ∧ (∀ b ∈ fp, H' b = none) ∧ W i n τ H') ?_ m0
      ⟨0, caps σ, _, I4, st4, fun b hb => by rw [upd_ne (below b (fplt b hb)).2]; exact (f2 b hb).1, w0⟩
    rintro n s5 ⟨i, τ, H5, I5, st5, fr5, w5⟩
    rcases turn i n τ H5 w5 with ⟨stop, q⟩ | ⟨go, N, hN, step⟩
    · refine thn (T.done (cxComp X N' scope cl HH.objs.size fp s2 H2) rfl rfl rfl hc i [] s5 τ H5 (fun _ _ => False) I5 (stat fr5) st5 stop) fun r s6 ⟨hr, I6⟩ => ?_
      subst hr
      obtain ⟨m, hn, _⟩ := I6.loc
      refine hRR _ _ s6 H5 m (I2.call' (ch := fp) I6.os I6.base I6.hok I6.bare fun b hb => ⟨(f2 b hb).2.2.2.1, (f2 b hb).2.1, (f2 b hb).2.2.2.2.1, (f2 b hb).2.2.2.2.2⟩) hn hCle I6.free q
    · refine thn (T.item (cxComp X N' scope cl HH.objs.size fp s2 H2) rfl rfl rfl hc i [] s5 τ H5 (fun _ _ => False) I5 (stat fr5) st5 go) fun r s6 ⟨u, hr, h6⟩ => ?_
      subst hr
      refine thn h6 fun _ s7 ⟨x, H7, I7, r7, y7, st7, fr7⟩ => ?_
      have I7' := I7.pinned (stat fr7) (T.obj _ _ st7)
      have again : ∀ {τ' : St} {H' : Hp} {s' : Shared}, Inv (cxComp X N' scope cl HH.objs.size fp s2 H2) ([] ++ pinsAt fp s7.heap) τ' H' s' → N τ' H' →
          ∃ m, m < n ∧ ∃ i τ H', Inv (cxComp X N' scope cl HH.objs.size fp s2 H2) [] τ H' s' ∧ tn i s'.heap ∧ (∀ b ∈ fp, H' b = none) ∧ W i m τ H' := fun {τ' H' s'} I' n' => by
        obtain ⟨m', hm, w'⟩ := hN τ' H' n'
        refine ⟨m', hm, i + 1, τ', H', I'.unpinned, T.keep _ _ _ st7 fun b hb o e => (I'.pin (b, o) (List.mem_append_right _ (List.mem_append_right _ (mem_pinsAt hb e)))).1, fun b hb => ?_, w'⟩
        obtain ⟨o, e, d⟩ := T.obj _ _ st7 b hb
        exact (I'.pin (b, o) (List.mem_append_right _ (List.mem_append_right _ (mem_pinsAt hb e)))).2.1
      refine thn (hg HH.objs.size s2 H2 _ s7 τ H7 x u _ I7' r7 (step x H7 y7)) fun _ s8 ⟨τ8, H8, I8, q8⟩ => ?_
      refine thn (hts HH.objs.size s2 H2 _ s8 τ8 H8 _ I8 q8) fun okk s9 ⟨H9, I9, q9⟩ => ?_
      cases okk with
      | false =>
        rw [if_neg Bool.false_ne_true] at q9 ⊢
        exact again I9 q9
      | true =>
        rw [if_pos rfl] at q9 ⊢
        refine wpAny_mono (hel HH.objs.size s2 H2 _ s9 τ8 H9 _ (I9.wish _) q9) (fun y s10 ⟨v, H10, I10, r10, ys, hD, hz, n10⟩ => ?_) fun e5 s5' hx5 => ?_
        rotate_left
        · show wpAny _ _ (noteFrame e5 (compEnvC scope cl HH.objs.size X.env)) _ _ _
          rw [noteFrame_comp]
          obtain ⟨pins5, τ5, H5', s5'', J5, ea, T5, cls5, H6', rfl, os5, bare5, un5, hok5, x5, z1, z2, z3, z4, hE5⟩ := hx5
          have J : Inv (cxComp X N' scope cl HH.objs.size fp s2 H2) pins5 τ5 H6' s5' := J5.call' os5 un5 hok5 bare5 fun b z => nomatch z
          have K2 : Inv X pins σ H6' s5' := I2.call' (ch := fp) J.os J.base J.hok J.bare fun b hb => ⟨(f2 b hb).2.2.2.1, (f2 b hb).2.1, (f2 b hb).2.2.2.2.1, (f2 b hb).2.2.2.2.2⟩
          have gone : ∀ b, s5''.heap.get? b = none → X.s₀.heap.get? b = none := fun b hb => by
            cases q : X.s₀.heap.get? b with
            | none => rfl
            | some o =>
              obtain ⟨o', e1⟩ := I2.base.there b o q (by rw [O.ex]; simp)
              by_cases hf : b ∈ fp
              · rcases (f2 b hf).2.2.2.1 with y | y
                · rw [O.ex] at y; cases y
                · exact absurd (Heap.lt_size q) (Nat.not_lt.mpr y)
              · obtain ⟨o2, e2⟩ := J5.base.there b o' e1 hf
                rw [hb] at e2; cases e2
          obtain ⟨m5, hn5, _⟩ := J.loc
          exact hEE _ _ _ _ m5 ⟨ea, cls5, σ, H6', rfl, K2.pins_of (fun p hp => nomatch hp), z1, gone _ z3, ⟨hE5, (I2.fpOk hCle J.free).less⟩, .inr ⟨T5, .none, x5, .inl rfl, z2, gone _ z4⟩⟩ hn5
        have I10 := I10.unwish
        refine thn (mt_append (X := cxComp X N' scope cl HH.objs.size fp s2 H2) _ s10 τ8 H10 (.ref s2.heap.objs.size) [v] (.ref s2.heap.objs.size) [y] (fun _ H' => N τ8 H') I10 rfl (.cons r10 .nil) ⟨_, ys, v, rfl, rfl, hD, hz, n10⟩) fun _ s11 ⟨_, H11, I11, _, n11⟩ => ?_
        exact again I11 n11
  exact codeAny_compStart_list (loop _ rfl) (T.self X.A 0 _ _ _ st4 (loop _ rfl))

theorem air_unwish {XE : Value → Shared → Prop} {E : Value → St → Hp → Prop} {e : Value} {s' : Shared} (h : Air (X.wish XE) E e s') : Air X E e s' := by
  obtain ⟨ea, cls, σ', H', h0, I, h1, h2, hE, hx⟩ := h
  exact ⟨ea, cls, σ', H', h0, I.unwish, h1, h2, hE, hx⟩
theorem pe_compA {E : Value → St → Hp → Prop} {te : St → TE} (O : Own X) (hc : X.calm = true) (hkind : scope.kind = .function) (hcell : ∀ y ∈ scope.names, y.2 ≠ .cell) (hnames : ∀ y ∈ scope.names, y.2 = .local → scope.names.lookup y.1 = some .local)
    (hfree : ∀ n, (n, NameKind.free) ∈ scope.names → X.env.kindOf n = some .cell ∨ X.env.kindOf n = some .free)
    (hcap : ∀ σ : St, σ.length = X.N.length → (caps σ).length = N'.length ∧ ∀ (i : Nat) (x : Str) (v : V), N'[i]? = some x → (caps σ)[i]? = some (some v) → scope.names.lookup x = some .free ∧ ∃ j : Nat, X.N[j]? = some x ∧ σ[j]? = some (some v))
    (hi : PI (X.wish (Air X E)) tg iter wi) (hg : ∀ cl C fp s H, PG (cxComp X N' scope cl C fp s H) tg g) (hts : ∀ cl C fp s H, PTs (cxComp X N' scope cl C fp s H) ifs tt)
    (hel : ∀ σ cl C fp s H, PE ((cxComp X N' scope cl C fp s H).wish (CAir (cxComp X N' scope cl C fp s H) fun cls H' => E cls σ H')) elt (te σ))
    (hs : ∀ x, foldedSetIterable iter X.env x = pure x := by intro _; rfl) : PE (X.wish (Air X E)) (.ListComp elt [⟨tg, iter, ifs, 0⟩] scope pos) (fun σ => tComp wi caps g tt (te σ) σ) := by
  intro pins s σ H Q I h
  rw [eval_ListComp]
  obtain ⟨cl, hclos, hcl1, hcl2⟩ := closureFor_cells (env := X.env) (scope := scope) (fun n hn => I.ok.has n (hfree n hn))
  refine wpAny_comp_exc rfl hs hclos hkind hnames (thn (hi pins s σ H _ I h) fun v s1 h1 => thn h1 fun itv s2 h2 => ?_)
  obtain ⟨it, fp, tn, J, H2, rfl, I2, T, st2, f2, k2⟩ := h2
  refine comp_blockA (X := X.wish (Air X E)) (E := E) (RR := fun acc ce => compEnd (model X.prog X.w) X.A (Air X E) (EP (X.wish (Air X E)) pins σ Q) acc ce) hc hkind hcell hcap hfree hcl1 hcl2 (fun C s H => hg cl C fp s H) (fun C s H => hts cl C fp s H) ⟨O.stk, O.fr, O.pn, O.ex⟩ (fun C s H => hel σ cl C fp s H) I2 T st2 f2 k2 (fun D C e s' m hA hn => ?_) ?_
  · exact comp_raised (X := X.wish (Air X E)) (E := E) (ce := compEnvC scope cl C X.env) ⟨O.stk, O.fr, O.pn, O.ex⟩ hA hn rfl rfl fun e s h => air_unwish h
  · intro D C s' H' m I' hn hle hC q
    obtain ⟨f0, f1, f2', f3, f4, f5⟩ := I2.fpOk hle hC
    exact ⟨m, hn, fun h' sb => ⟨.ref D, H', I'.turned (t' := s'.toks) (fun b o hb e => (sb.2 b hb).trans e) f0 f1 f3 f4 f5, rfl, q⟩⟩
end
end L2

set_option Elab.async false
set_option linter.all false
set_option maxRecDepth 100000
namespace FL
open PySem L2
inductive D where
  | non | bl (b : Bool) | int (i : Int) | str (x : Str) | tup (l : List D) | lst (l : List D)
mutual
def D.beq : D → D → Bool
  | .non, .non => true
  | .bl a, .bl b => a == b
  | .int a, .int b => a == b
  | .str a, .str b => decide (a = b)
  | .tup a, .tup b => D.beqs a b
  | .lst a, .lst b => D.beqs a b
  | _, _ => false
def D.beqs : List D → List D → Bool
  | [], [] => true
  | a :: r, b :: t => D.beq a b && D.beqs r t
  | _, _ => false
end
mutual
theorem D.beq_iff : ∀ a b : D, D.beq a b = true ↔ a = b
  | .non, b => by cases b <;> simp [D.beq]
  | .bl a, b => by cases b <;> simp [D.beq]
  | .int a, b => by cases b <;> simp [D.beq]
  | .str a, b => by cases b <;> simp [D.beq]
  | .tup a, b => by cases b <;> simp [D.beq, D.beqs_iff a]
  | .lst a, b => by cases b <;> simp [D.beq, D.beqs_iff a]
theorem D.beqs_iff : ∀ a b : List D, D.beqs a b = true ↔ a = b
  | [], b => by cases b <;> simp [D.beqs]
  | a :: r, b => by cases b <;> simp [D.beqs, D.beq_iff a, D.beqs_iff r]
end
instance : DecidableEq D := fun a b => decidable_of_iff _ (D.beq_iff a b)
mutual
inductive Rep (H : Hp) : V → D → Prop
  | non : Rep H .non .non
  | bl (b : Bool) : Rep H (.bl b) (.bl b)
  | int (i : Int) : Rep H (.int i) (.int i)
  | str (x : Str) : Rep H (.str x) (.str x)
  | tup {a : Addr} {vs : List V} {l : List D} : H a = some (.tup vs) → Reps H vs l → Rep H (.ref a) (.tup l)
  | lst {a : Addr} {vs : List V} {l : List D} : H a = some (.lst vs) → Reps H vs l → Rep H (.ref a) (.lst l)
inductive Reps (H : Hp) : List V → List D → Prop
  | nil : Reps H [] []
  | cons {v : V} {d : D} {vs : List V} {ds : List D} : Rep H v d → Reps H vs ds → Reps H (v :: vs) (d :: ds)
end
mutual
theorem Rep.mono {H H' : Hp} (e : Same H H') : ∀ {v : V} {d : D}, Rep H v d → Rep H' v d
  | _, _, .non => .non
  | _, _, .bl b => .bl b
  | _, _, .int b => .int b
  | _, _, .str b => .str b
  | _, _, .tup h r => .tup (e _ _ h) (Reps.mono e r)
  | _, _, .lst h r => .lst (e _ _ h) (Reps.mono e r)
theorem Reps.mono {H H' : Hp} (e : Same H H') : ∀ {v : List V} {d : List D}, Reps H v d → Reps H' v d
  | _, _, .nil => .nil
  | _, _, .cons h r => .cons (Rep.mono e h) (Reps.mono e r)
end
theorem Reps.length {H : Hp} : ∀ {vs : List V} {ds : List D}, Reps H vs ds → vs.length = ds.length
  | _, _, .nil => rfl
  | _, _, .cons _ r => congrArg (· + 1) r.length
theorem Reps.get {H : Hp} : ∀ {vs : List V} {ds : List D} {i : Nat} {d : D}, Reps H vs ds → ds[i]? = some d → ∃ v, vs[i]? = some v ∧ Rep H v d
  | _, _, _, _, .nil, e => by simp at e
  | _, _, 0, _, .cons h _, e => by simp at e; subst e; exact ⟨_, rfl, h⟩
  | _, _, i + 1, d, .cons _ r, e => by
    obtain ⟨v, h1, h2⟩ := Reps.get (i := i) (d := d) r (by simpa using e)
    exact ⟨v, by simpa using h1, h2⟩
theorem Reps.getV {H : Hp} : ∀ {vs : List V} {ds : List D} {i : Nat} {v : V}, Reps H vs ds → vs[i]? = some v → ∃ d, ds[i]? = some d ∧ Rep H v d
  | _, _, _, _, .nil, e => by simp at e
  | _, _, 0, _, .cons h _, e => by simp at e; subst e; exact ⟨_, rfl, h⟩
  | _, _, i + 1, d, .cons _ r, e => by
    obtain ⟨v, h1, h2⟩ := Reps.getV (i := i) (v := d) r (by simpa using e)
    exact ⟨v, by simpa using h1, h2⟩
theorem Reps.append {H : Hp} : ∀ {vs ws : List V} {ds es : List D}, Reps H vs ds → Reps H ws es → Reps H (vs ++ ws) (ds ++ es)
  | _, _, _, _, .nil, s => s
  | _, _, _, _, .cons h r, s => .cons h (r.append s)
theorem Reps.snoc {H : Hp} {vs : List V} {ds : List D} {v : V} {d : D} (r : Reps H vs ds) (h : Rep H v d) : Reps H (vs ++ [v]) (ds ++ [d]) := r.append (.cons h .nil)
theorem Reps.take {H : Hp} : ∀ {vs : List V} {ds : List D} (n : Nat), Reps H vs ds → Reps H (vs.take n) (ds.take n)
  | _, _, 0, _ => .nil
  | _, _, _ + 1, .nil => .nil
  | _, _, n + 1, .cons h r => .cons h (r.take n)
theorem Reps.drop {H : Hp} : ∀ {vs : List V} {ds : List D} (n : Nat), Reps H vs ds → Reps H (vs.drop n) (ds.drop n)
  | _, _, 0, r => r
  | _, _, _ + 1, .nil => .nil
  | _, _, n + 1, .cons _ r => r.drop n
theorem Reps.set {H : Hp} {v : V} {d : D} (h : Rep H v d) : ∀ {vs : List V} {ds : List D} (i : Nat), Reps H vs ds → Reps H (vs.set i v) (ds.set i d)
  | _, _, _, .nil => .nil
  | _, _, 0, .cons _ r => .cons h r
  | _, _, i + 1, .cons q r => .cons q (r.set h i)
theorem Reps.ints {H : Hp} : ∀ ns : List Int, Reps H (ns.map V.int) (ns.map D.int)
  | [] => .nil
  | n :: r => .cons (.int n) (Reps.ints r)
theorem Rep.of_int {H : Hp} {v : V} {i : Int} (h : Rep H v (.int i)) : v = .int i := by cases h; rfl
theorem Rep.of_str {H : Hp} {v : V} {x : Str} (h : Rep H v (.str x)) : v = .str x := by cases h; rfl
theorem Rep.of_bl {H : Hp} {v : V} {b : Bool} (h : Rep H v (.bl b)) : v = .bl b := by cases h; rfl
theorem Rep.of_tup {H : Hp} {v : V} {l : List D} (h : Rep H v (.tup l)) : ∃ a vs, v = .ref a ∧ H a = some (.tup vs) ∧ Reps H vs l := by cases h with | tup h r => exact ⟨_, _, rfl, h, r⟩
theorem Rep.of_lst {H : Hp} {v : V} {l : List D} (h : Rep H v (.lst l)) : ∃ a vs, v = .ref a ∧ H a = some (.lst vs) ∧ Reps H vs l := by cases h with | lst h r => exact ⟨_, _, rfl, h, r⟩
mutual
theorem Rep.inj {H : Hp} : ∀ {v : V} {d e : D}, Rep H v d → Rep H v e → d = e
  | _, _, _, .non, h => by cases h; rfl
  | _, _, _, .bl _, h => by cases h; rfl
  | _, _, _, .int _, h => by cases h; rfl
  | _, _, _, .str _, h => by cases h; rfl
  | _, _, _, .tup h r, q => by
    cases q with
    | tup h' r' => rw [h] at h'; cases h'; rw [Reps.inj r r']
    | lst h' r' => rw [h] at h'; cases h'
  | _, _, _, .lst h r, q => by
    cases q with
    | lst h' r' => rw [h] at h'; cases h'; rw [Reps.inj r r']
    | tup h' r' => rw [h] at h'; cases h'
theorem Reps.inj {H : Hp} : ∀ {v : List V} {d e : List D}, Reps H v d → Reps H v e → d = e
  | _, _, _, .nil, h => by cases h; rfl
  | _, _, _, .cons h r, q => by cases q with | cons h' r' => rw [Rep.inj h h', Reps.inj r r']
end

def but (H : Hp) (M : List Addr) : Hp := fun b => if b ∈ M then none else H b
theorem but_nil (H : Hp) : but H [] = H := by funext b; simp [but]
theorem but_out {H : Hp} {M : List Addr} {b : Addr} (h : b ∉ M) : but H M b = H b := by simp [but, h]
theorem but_some {H : Hp} {M : List Addr} {b : Addr} {o : HO} (h : but H M b = some o) : b ∉ M ∧ H b = some o := by
  unfold but at h
  split at h
  · cases h
  · exact ⟨‹_›, h⟩
theorem but_sub (H : Hp) (M : List Addr) : Same (but H M) H := fun b o h => (but_some h).2
theorem _root_.L2.Same.but {H H' : Hp} (e : Same H H') (M : List Addr) : Same (but H M) (but H' M) := fun b o h => by
  obtain ⟨h1, h2⟩ := but_some h
  rw [but_out h1]; exact e b o h2
theorem but_upd {H : Hp} {M : List Addr} {a : Addr} {o : HO} (h : a ∈ M) : but (upd H a o) M = but H M := by
  funext b
  unfold FL.but
  by_cases hb : b ∈ M
  · rw [if_pos hb, if_pos hb]
  · rw [if_neg hb, if_neg hb, upd_ne (fun e : b = a => hb (by rw [e]; exact h))]
theorem but_upd_new {H : Hp} {M : List Addr} {a : Addr} {o : HO} (h : a ∉ M) : but (upd H a o) M = upd (but H M) a o := by
  funext b
  by_cases hb : b ∈ M
  · rw [upd_ne (fun e : b = a => h (by rw [← e]; exact hb))]
    simp [FL.but, hb]
  · rw [but_out hb]
    by_cases e : b = a
    · subst e; rw [upd_same, upd_same]
    · rw [upd_ne e, upd_ne e, but_out hb]
theorem but_mono {H : Hp} {M M' : List Addr} (h : ∀ a ∈ M, a ∈ M') : Same (but H M') (but H M) := fun b o e => by
  obtain ⟨h1, h2⟩ := but_some e
  rw [but_out fun z => h1 (h b z)]; exact h2
theorem same_new {H : Hp} {p : Addr} (h : H p = none) (o : HO) : Same H (upd H p o) := fun b u q => by rw [upd_ne (ne_of_none q h)]; exact q
def Live (M : List Addr) (H : Hp) : Prop := ∀ a ∈ M, H a ≠ none
theorem Live.nil {H : Hp} : Live [] H := fun _ h => nomatch h
theorem Live.same {M : List Addr} {H H' : Hp} (l : Live M H) (e : Same H H') : Live M H' := fun a ha z => by
  cases q : H a with
  | none => exact l a ha q
  | some o => rw [e a o q] at z; cases z
theorem Live.cons {M : List Addr} {H : Hp} {a : Addr} {o : HO} (l : Live M H) (h : H a = some o) : Live (a :: M) H := fun b hb => by
  rcases List.mem_cons.mp hb with e | e
  · rw [e, h]; exact fun z => nomatch z
  · exact l b e
theorem Live.fresh {M : List Addr} {H : Hp} {p : Addr} (l : Live M H) (h : H p = none) : p ∉ M := fun z => l p z h
theorem Live.upd {M : List Addr} {H : Hp} {a : Addr} {o : HO} (l : Live M H) : Live M (L2.upd H a o) := fun b hb z => by
  by_cases e : b = a
  · subst e; rw [upd_same] at z; cases z
  · rw [upd_ne e] at z; exact l b hb z
theorem rep_new_tup {H : Hp} {M : List Addr} {p : Addr} {vs : List V} {ds : List D} (l : Live M H) (h : H p = none) (r : Reps (but H M) vs ds) : Rep (but (upd H p (.tup vs)) M) (.ref p) (.tup ds) := by
  rw [but_upd_new (l.fresh h)]
  exact .tup upd_same (r.mono (same_new (by rw [but_out (l.fresh h)]; exact h) _))
theorem rep_new_lst {H : Hp} {M : List Addr} {p : Addr} {vs : List V} {ds : List D} (l : Live M H) (h : H p = none) (r : Reps (but H M) vs ds) : Rep (but (upd H p (.lst vs)) M) (.ref p) (.lst ds) := by
  rw [but_upd_new (l.fresh h)]
  exact .lst upd_same (r.mono (same_new (by rw [but_out (l.fresh h)]; exact h) _))
theorem rep_show {H : Hp} {M : List Addr} {a : Addr} {vs : List V} {ds : List D} (hM : a ∉ M) (h : H a = some (.lst vs)) (r : Reps (but H (a :: M)) vs ds) : Rep (but H M) (.ref a) (.lst ds) :=
  .lst (by rw [but_out hM]; exact h) (r.mono (but_mono fun b hb => List.mem_cons_of_mem _ hb))
theorem rep_hide {H : Hp} {M : List Addr} {a : Addr} {o : HO} {v : V} {d : D} (h : H a = none) (r : Rep (but H M) v d) : Rep (but (upd H a o) (a :: M)) v d := by
  rw [but_upd (List.mem_cons_self)]
  refine r.mono fun b u e => ?_
  obtain ⟨h1, h2⟩ := but_some e
  rw [but_out]
  · exact h2
  · intro z
    rcases List.mem_cons.mp z with rfl | z
    · rw [h] at h2; cases h2
    · exact h1 z
theorem reps_hide {H : Hp} {M : List Addr} {a : Addr} {o : HO} (h : H a = none) : ∀ {vs : List V} {ds : List D}, Reps (but H M) vs ds → Reps (but (upd H a o) (a :: M)) vs ds
  | _, _, .nil => .nil
  | _, _, .cons q r => .cons (rep_hide h q) (reps_hide h r)

def EvM (te : TE) (G : Hp) (σ : St) (d : D) : Prop :=
  ∀ M H, Same G (but H M) → Live M H → ∀ Q : VK, (∀ v H', Same H H' → Rep (but H' M) v d → Q v H') → te σ H Q
def EvA (ta : TA) (G : Hp) (σ : St) (ds : List D) : Prop :=
  ∀ M H, Same G (but H M) → Live M H → ∀ Q : List V → Hp → Prop, (∀ vs H', Same H H' → Reps (but H' M) vs ds → Q vs H') → ta σ H Q
def EvT (tt : TT) (G : Hp) (σ : St) (b : Bool) : Prop :=
  ∀ M H, Same G (but H M) → Live M H → ∀ Q : Bool → Hp → Prop, (∀ H', Same H H' → Q b H') → tt σ H Q
theorem EvM.mono {te : TE} {G G' : Hp} {σ : St} {d : D} (h : EvM te G σ d) (e : Same G G') : EvM te G' σ d := fun M H s l => h M H (e.trans s) l
theorem EvT.mono {te : TT} {G G' : Hp} {σ : St} {d : Bool} (h : EvT te G σ d) (e : Same G G') : EvT te G' σ d := fun M H s l => h M H (e.trans s) l
theorem EvM.at {te : TE} {M : List Addr} {H : Hp} {σ : St} {d : D} {Q : VK} (h : EvM te (but H M) σ d) (l : Live M H) (k : ∀ v H', Same H H' → Rep (but H' M) v d → Q v H') : te σ H Q := h M H (Same.refl _) l Q k
theorem EvM.eq {te : TE} {G : Hp} {σ : St} {d d' : D} (h : EvM te G σ d) (e : d = d') : EvM te G σ d' := e ▸ h
theorem EvT.eq {te : TT} {G : Hp} {σ : St} {d d' : Bool} (h : EvT te G σ d) (e : d = d') : EvT te G σ d' := e ▸ h
section
variable {G : Hp} {σ : St} {ta tb tc : TE} {tt tu : TT} {t : TA} {d d1 d2 : D} {ds : List D} {K : PySem.W.Frag}
theorem ev_var {i : Nat} {v : V} (e : σ[i]? = some (some v)) (r : Rep G v d) : EvM (tVar i) G σ d := fun M H s l Q k => ⟨v, e, k v H (Same.refl _) (r.mono s)⟩
theorem ev_C {v : V} (r : ∀ H, Rep H v d) : EvM (tC v) G σ d := fun M H s l Q k => k _ H (Same.refl _) (r _)
theorem ev_int {i : Int} : EvM (tC (.int i)) G σ (.int i) := ev_C fun _ => .int i
theorem ev_str {x : Str} : EvM (tC (.str x)) G σ (.str x) := ev_C fun _ => .str x
theorem ev_bl {b : Bool} : EvM (tC (.bl b)) G σ (.bl b) := ev_C fun _ => .bl b
theorem ev_non : EvM (tC .non) G σ .non := ev_C fun _ => .non
theorem ev_op2 {r : R2} (hr : ∀ M H x y, Live M H → Rep (but H M) x d1 → Rep (but H M) y d2 → ∀ Q : VK, (∀ v H', Same H H' → Rep (but H' M) v d → Q v H') → r x y H Q) (ha : EvM ta G σ d1) (hb : EvM tb G σ d2) : EvM (tOp r ta tb) G σ d :=
  fun M H s l Q k => ha M H s l _ fun x H1 s1 rx => hb M H1 (s.trans (s1.but M)) (l.same s1) _ fun y H2 s2 ry =>
    hr M H2 x y (l.same (s1.trans s2)) (rx.mono (s2.but M)) ry Q fun v H3 s3 r3 => k v H3 (s1.trans (s2.trans s3)) r3
theorem ev_i0 {g : Int → Int → V} {i j : Int} (hg : ∀ H', Rep H' (g i j) d) (ha : EvM ta G σ (.int i)) (hb : EvM tb G σ (.int j)) : EvM (tOp (rI0 g) ta tb) G σ d :=
  ev_op2 (fun M H x y l rx ry Q k => ⟨i, j, rx.of_int, ry.of_int, k _ H (Same.refl _) (hg _)⟩) ha hb
theorem ev_i {C : Int → Int → Prop} {g : Int → Int → V} {i j : Int} (hc : C i j) (hg : ∀ H', Rep H' (g i j) d) (ha : EvM ta G σ (.int i)) (hb : EvM tb G σ (.int j)) : EvM (tOp (rI C g) ta tb) G σ d :=
  ev_op2 (fun M H x y l rx ry Q k => ⟨i, j, rx.of_int, ry.of_int, hc, k _ H (Same.refl _) (hg _)⟩) ha hb
theorem ev_add {i j : Int} (ha : EvM ta G σ (.int i)) (hb : EvM tb G σ (.int j)) : EvM (tOp (rI0 fun i j => .int (i + j)) ta tb) G σ (.int (i + j)) := ev_i0 (fun _ => .int _) ha hb
theorem ev_sub {i j : Int} (ha : EvM ta G σ (.int i)) (hb : EvM tb G σ (.int j)) : EvM (tOp (rI0 fun i j => .int (i - j)) ta tb) G σ (.int (i - j)) := ev_i0 (fun _ => .int _) ha hb
theorem ev_mul {i j : Int} (hc : CMul i j) (ha : EvM ta G σ (.int i)) (hb : EvM tb G σ (.int j)) : EvM (tOp (rI CMul fun i j => .int (i * j)) ta tb) G σ (.int (i * j)) := ev_i hc (fun _ => .int _) ha hb
theorem ev_mod {i j : Int} (hc : 0 < j) (ha : EvM ta G σ (.int i)) (hb : EvM tb G σ (.int j)) : EvM (tOp (rI (fun _ j => 0 < j) fun i j => .int (i % j)) ta tb) G σ (.int (i % j)) := ev_i (C := fun _ j => 0 < j) hc (fun _ => .int _) ha hb
theorem ev_fdiv {i j : Int} (hc : CDiv i j) (ha : EvM ta G σ (.int i)) (hb : EvM tb G σ (.int j)) : EvM (tOp (rI CDiv fun i j => .int (i / j)) ta tb) G σ (.int (i / j)) := ev_i hc (fun _ => .int _) ha hb
theorem ev_lt {i j : Int} (ha : EvM ta G σ (.int i)) (hb : EvM tb G σ (.int j)) : EvM (tOp (rI0 fun i j => .bl (decide (i < j))) ta tb) G σ (.bl (decide (i < j))) := ev_i0 (fun _ => .bl _) ha hb
theorem ev_gt {i j : Int} (ha : EvM ta G σ (.int i)) (hb : EvM tb G σ (.int j)) : EvM (tOp (rI0 fun i j => .bl (decide (j < i))) ta tb) G σ (.bl (decide (j < i))) := ev_i0 (fun _ => .bl _) ha hb
theorem ev_neg {i : Int} (ha : EvM ta G σ (.int i)) : EvM (tUn (rU fun i => .int (-i)) ta) G σ (.int (-i)) :=
  fun M H s l Q k => ha M H s l _ fun x H1 s1 rx => ⟨i, rx.of_int, k _ H1 s1 (.int _)⟩
def D.sc : D → Bool
  | .int _ => true | .str _ => true | _ => false
theorem scal_of {H H' : Hp} {x y : V} {d e : D} (rx : Rep H x d) (ry : Rep H' y e) (hd : d.sc = true) (he : e.sc = true) : scal x y = true ∧ decide (x = y) = decide (d = e) := by
  cases rx with
  | int i =>
    cases ry with
    | int j => exact ⟨rfl, by simp⟩
    | str j => exact ⟨rfl, by simp⟩
    | _ => exact absurd he (by simp [D.sc])
  | str i =>
    cases ry with
    | int j => exact ⟨rfl, by simp⟩
    | str j => exact ⟨rfl, by simp⟩
    | _ => exact absurd he (by simp [D.sc])
  | _ => exact absurd hd (by simp [D.sc])
theorem ev_nil : EvA tNil G σ [] := fun M H s l Q k => k [] H (Same.refl _) .nil
theorem ev_cons (ha : EvM ta G σ d) (ht : EvA t G σ ds) : EvA (tCons ta t) G σ (d :: ds) :=
  fun M H s l Q k => ha M H s l _ fun x H1 s1 rx => ht M H1 (s.trans (s1.but M)) (l.same s1) _ fun vs H2 s2 rs => k _ H2 (s1.trans s2) (.cons (rx.mono (s2.but M)) rs)
theorem ev_tup (h : EvA t G σ ds) (hz : ds.length ≤ sizeLine := by exact Nat.le_of_lt (small1000 (by simp))) : EvM (tTup t) G σ (.tup ds) :=
  fun M H s l Q k => h M H s l _ fun vs H1 s1 rs => ⟨by rw [rs.length]; exact hz, fun p hp => k _ _ (s1.trans (same_new hp _)) (rep_new_tup (l.same s1) hp rs)⟩
theorem ev_lst (h : EvA t G σ ds) (hz : ds.length ≤ sizeLine := by exact Nat.le_of_lt (small1000 (by simp))) : EvM (tLst t) G σ (.lst ds) :=
  fun M H s l Q k => h M H s l _ fun vs H1 s1 rs => ⟨by rw [rs.length]; exact hz, fun p hp => k _ _ (s1.trans (same_new hp _)) (rep_new_lst (l.same s1) hp rs)⟩
theorem atI_rep {H : Hp} {vs : List V} {ds : List D} {i : Int} {d : D} (r : Reps H vs ds) (h : atI ds i = some d) : ∃ v, atI vs i = some v ∧ Rep H v d := by
  unfold atI at h ⊢
  rw [r.length]
  cases e : ixN ds.length i with
  | none => rw [e] at h; cases h
  | some j => rw [e] at h; exact r.get h
theorem ev_cb {r : List V → Hp → VK → Prop} (hr : ∀ M H xs, Live M H → Reps (but H M) xs ds → ∀ Q : VK, (∀ v H', Same H H' → Rep (but H' M) v d → Q v H') → r xs H Q) (h : EvA t G σ ds) : EvM (tCB r t) G σ d :=
  fun M H s l Q k => h M H s l _ fun vs H1 s1 rs => hr M H1 vs (l.same s1) rs Q fun v H2 s2 r2 => k v H2 (s1.trans s2) r2
theorem reps1 {H : Hp} {xs : List V} {d : D} (h : Reps H xs [d]) : ∃ x, xs = [x] ∧ Rep H x d := by
  cases h with | cons q r => cases r; exact ⟨_, rfl, q⟩
theorem ev_lenL {l : List D} (h : EvA t G σ [.lst l]) : EvM (tCB (fun xs H Q => ∃ p ys, xs = [.ref p] ∧ (SqL K H p ys ∨ SqT K H p ys) ∧ Q (.int ys.length) H) t) G σ (.int l.length) :=
  ev_cb (fun M H xs lv rs Q k => by
    obtain ⟨x, rfl, q⟩ := reps1 rs
    obtain ⟨a, vs, rfl, h1, h2⟩ := q.of_lst
    refine ⟨a, vs, rfl, .inl (SqL.of (but_some h1).2), ?_⟩
    rw [h2.length]
    exact k _ H (Same.refl _) (.int _)) h
theorem ev_lenT {l : List D} (h : EvA t G σ [.tup l]) : EvM (tCB (fun xs H Q => ∃ p ys, xs = [.ref p] ∧ (SqL K H p ys ∨ SqT K H p ys) ∧ Q (.int ys.length) H) t) G σ (.int l.length) :=
  ev_cb (fun M H xs lv rs Q k => by
    obtain ⟨x, rfl, q⟩ := reps1 rs
    obtain ⟨a, vs, rfl, h1, h2⟩ := q.of_tup
    refine ⟨a, vs, rfl, .inr (SqT.of (but_some h1).2), ?_⟩
    rw [h2.length]
    exact k _ H (Same.refl _) (.int _)) h
theorem ev_listT {l : List D} (h : EvA t G σ [.tup l]) :
    EvM (tCB (fun xs H Q => ∃ p ys, xs = [.ref p] ∧ (SqL K H p ys ∨ SqT K H p ys) ∧ ∀ l, H l = none → Q (.ref l) (upd H l (.lst ys))) t) G σ (.lst l) :=
  ev_cb (fun M H xs lv rs Q k => by
    obtain ⟨x, rfl, q⟩ := reps1 rs
    obtain ⟨a, vs, rfl, h1, h2⟩ := q.of_tup
    exact ⟨a, vs, rfl, .inr (SqT.of (but_some h1).2), fun p hp => k _ _ (same_new hp _) (rep_new_lst lv hp h2)⟩) h
theorem ev_tupleL {l : List D} (h : EvA t G σ [.lst l]) :
    EvM (tCB (fun xs H Q => ∃ p ys, xs = [.ref p] ∧ ((SqL K H p ys ∧ ∀ l, H l = none → Q (.ref l) (upd H l (.tup ys))) ∨ (SqT K H p ys ∧ Q (.ref p) H))) t) G σ (.tup l) :=
  ev_cb (fun M H xs lv rs Q k => by
    obtain ⟨x, rfl, q⟩ := reps1 rs
    obtain ⟨a, vs, rfl, h1, h2⟩ := q.of_lst
    exact ⟨a, vs, rfl, .inl ⟨SqL.of (but_some h1).2, fun p hp => k _ _ (same_new hp _) (rep_new_tup lv hp h2)⟩⟩) h
theorem evt_test {b : Bool} (h : EvM ta G σ (.bl b)) : EvT (tTest ta) G σ b := fun M H s l Q k => h M H s l _ fun v H1 s1 r1 => ⟨b, r1.of_bl, k H1 s1⟩
theorem evt_tB {b : Bool} (h : EvM ta G σ (.bl b)) : EvT (tB ta) G σ b := fun M H s l Q k => h M H s l _ fun v H1 s1 r1 => ⟨b, r1.of_bl, k H1 s1⟩
theorem evt_not {b : Bool} (h : EvT tt G σ b) : EvT (tNot tt) G σ (!b) := fun M H s l Q k => h M H s l _ fun H1 s1 => k H1 s1
theorem evt_yes : EvT tYes G σ true := fun M H s l Q k => k H (Same.refl _)
theorem evt_and {b c : Bool} (h : EvT tt G σ b) (h2 : b = true → EvT tu G σ c) : EvT (tAnd tt tu) G σ (b && c) := fun M H s l Q k => h M H s l _ fun H1 s1 => by
  cases b with
  | true => rw [if_pos rfl]; exact h2 rfl M H1 (s.trans (s1.but M)) (l.same s1) _ fun H2 s2 => k H2 (s1.trans s2)
  | false => rw [if_neg Bool.false_ne_true]; exact k H1 s1
theorem evt_or {b c : Bool} (h : EvT tt G σ b) (h2 : b = false → EvT tu G σ c) : EvT (tOr tt tu) G σ (b || c) := fun M H s l Q k => h M H s l _ fun H1 s1 => by
  cases b with
  | true => rw [if_pos rfl]; exact k H1 s1
  | false => rw [if_neg Bool.false_ne_true]; exact h2 rfl M H1 (s.trans (s1.but M)) (l.same s1) _ fun H2 s2 => k H2 (s1.trans s2)
theorem ev_and {b c : Bool} (h : EvM ta G σ (.bl b)) (h2 : b = true → EvM tb G σ (.bl c)) : EvM (tAndV ta tb) G σ (.bl (b && c)) := fun M H s l Q k => h M H s l _ fun v H1 s1 r1 => ⟨b, r1.of_bl, by
  cases b with
  | true => rw [if_pos rfl]; exact h2 rfl M H1 (s.trans (s1.but M)) (l.same s1) _ fun v H2 s2 r2 => k v H2 (s1.trans s2) r2
  | false => rw [if_neg Bool.false_ne_true]; exact k _ H1 s1 (.bl _)⟩
theorem ev_or {b c : Bool} (h : EvM ta G σ (.bl b)) (h2 : b = false → EvM tb G σ (.bl c)) : EvM (tOrV ta tb) G σ (.bl (b || c)) := fun M H s l Q k => h M H s l _ fun v H1 s1 r1 => ⟨b, r1.of_bl, by
  cases b with
  | true => rw [if_pos rfl]; exact k _ H1 s1 (.bl _)
  | false => rw [if_neg Bool.false_ne_true]; exact h2 rfl M H1 (s.trans (s1.but M)) (l.same s1) _ fun v H2 s2 r2 => k v H2 (s1.trans s2) r2⟩
theorem ev_not {b : Bool} (h : EvM ta G σ (.bl b)) : EvM (tNotV ta) G σ (.bl (!b)) := fun M H s l Q k => h M H s l _ fun v H1 s1 r1 => ⟨b, r1.of_bl, k _ H1 s1 (.bl _)⟩
end
section
variable {M : List Addr} {H : Hp} {σ : St} {ta : TE} {tt : TT} {d : D} {E : Ends}
theorem st_if {b : Bool} {ts us : TS} (l : Live M H) (h : EvT tt (but H M) σ b) (k1 : b = true → ∀ H', Same H H' → ts E σ H') (k2 : b = false → ∀ H', Same H H' → us E σ H') : tIfS tt ts us E σ H := h M H (Same.refl _) l _ fun H' s => by
  cases b with
  | true => rw [if_pos rfl]; exact k1 rfl H' s
  | false => rw [if_neg Bool.false_ne_true]; exact k2 rfl H' s
end
end FL

set_option linter.all false
set_option maxRecDepth 100000
namespace PySem
open Sem (wp)
set_option maxHeartbeats 2000000 in
theorem getAttrQ_miss_list {prog : Program} {w : World} {A : Around} {E : Value → Shared → Prop} {s : Shared} {a : Addr} {o : Obj} {xs : Array Value} {k : Nat} {name : Str} {Q : Option Value → Shared → Prop}
    (hx : s.heap.get? a = some o) (hc : o.cls = .type "list") (hdat : o.data = .seq xs k) (hd : o.dict = none) (hmiss : typeLookup (.type "list") name = pure none) (hname : (["__module__", "__name__", "__qualname__", "__doc__", "__annotations__"] : List Str).contains name = false) (hA : A.handled = none)
    (h : ∀ h' tk, (∀ b o, s.heap.get? b = some o → h'.get? b = some o) → Q none { s with heap := h', toks := tk }) (hsz : name.length + 100 ≤ sizeLine := by size_fits) :
    wpAny (model prog w) A (getAttr? (.ref a) name) Q E s := by
  obtain ⟨c, dct, dat, sl⟩ := o
  simp only at hc hdat hd
  subst hc hdat hd
  obtain ⟨hp, g, d, tk, os⟩ := s
  have hT : ∀ tk', (⟨hp, g, d, tk', os⟩ : Shared).TypeIs (.ref a) "list" := fun _ => ⟨_, hx, rfl⟩
  have f1 := sub_AttributeError
  have f3 := F.slot_list_getattribute.lookup
  have f4 := F.slot_list_getattribute.bind (.ref a)
  have f5 := am_list_getattr_none
  unfold getAttr? getAttrBy? getAttrBy
  repeat (any_goals (first | assumption | exact hT _ | ((with_reducible show wpAny _ _ (call (Value.builtin "list.__getattribute__") _ _) _ _ _); refine call_meets F.slot_list_getattribute (hT _) am_entry_list_getattribute (F.args_list_getattribute_2 _ _) (meets_getattribute_miss_list a xs k sl name _ hmiss hname hsz) ⟨hx, hA, fun h' tk' e hx' => ?_⟩) | wp_step))
  obtain ⟨t', u', he⟩ := hx'.there
  show wpAny _ _ (getattributeRaised _ _ _ _ _ _ _) _ _ _
  unfold getattributeRaised
  repeat (any_goals (first | assumption | wp_step))
  exact h _ _ hx'.of.keeps
namespace F
end F
section
variable {prog : Program} {w : World} {K : Type} [DecidableEq K] {knd : KeyKind prog w K} {A : Around} {R : Result → Shared → Prop} {s : Shared}
end
end PySem

set_option linter.all false
set_option maxRecDepth 100000
namespace PySem
section
variable {prog : Program} {w : World} {K : Type} [DecidableEq K] {knd : KeyKind prog w K} {A : Around} {E : Value → Shared → Prop} {s : Shared}
end
end PySem

set_option Elab.async false
set_option linter.all false
set_option maxRecDepth 100000
namespace FL
open PySem L2
mutual
def cmpb : D → D → Bool
  | .int _, .int _ => true
  | .int _, .str _ => true
  | .str _, .int _ => true
  | .str _, .str _ => true
  | .tup a, .tup b => cmpbs a b
  | .lst a, .lst b => cmpbs a b
  | _, _ => false
def cmpbs : List D → List D → Bool
  | a :: r, b :: t => cmpb a b && cmpbs r t
  | _, _ => true
end
mutual
def D.dep : D → Nat
  | .tup l => D.deps l + 1
  | .lst l => D.deps l + 1
  | _ => 0
def D.deps : List D → Nat
  | [] => 0
  | a :: r => max (D.dep a) (D.deps r)
end
theorem deps_get : ∀ {l : List D} {j : Nat} {d : D}, l[j]? = some d → d.dep ≤ D.deps l
  | [], _, _, h => by simp at h
  | a :: r, 0, d, h => by simp at h; subst h; exact Nat.le_max_left _ _
  | a :: r, j + 1, d, h => by
    have := deps_get (l := r) (j := j) (d := d) (by simpa using h)
    exact Nat.le_trans this (Nat.le_max_right _ _)
theorem cmpbs_get : ∀ {l m : List D} {j : Nat} {d e : D}, cmpbs l m = true → l[j]? = some d → m[j]? = some e → cmpb d e = true
  | [], _, _, _, _, _, h, _ => by simp at h
  | _ :: _, [], _, _, _, _, _, h => by simp at h
  | a :: r, b :: t, 0, d, e, h, h1, h2 => by
    simp at h1 h2; subst h1; subst h2
    rw [cmpbs, Bool.and_eq_true] at h
    exact h.1
  | a :: r, b :: t, j + 1, d, e, h, h1, h2 => by
    rw [cmpbs, Bool.and_eq_true] at h
    exact cmpbs_get (l := r) (m := t) (j := j) h.2 (by simpa using h1) (by simpa using h2)
theorem all_eq_iff {l m : List D} : ((List.range (min l.length m.length)).all (fun j => decide (l[j]? = m[j]?)) && l.length == m.length) = decide (l = m) := by
  rw [Bool.eq_iff_iff, Bool.and_eq_true, List.all_eq_true, beq_iff_eq, decide_eq_true_iff]
  constructor
  · rintro ⟨h1, h2⟩
    refine List.ext_getElem? fun j => ?_
    by_cases hj : j < min l.length m.length
    · exact of_decide_eq_true (h1 j (List.mem_range.mpr hj))
    · rw [List.getElem?_eq_none (by omega), List.getElem?_eq_none (by omega)]
  · rintro rfl
    exact ⟨fun j _ => by simp, rfl⟩
theorem vals_at {P : Program} {w : World} {K : PySem.W.Frag} {xs : List V} {us : List Value} {j : Nat} {u : Value} (r : Vals xs us) (h : us[j]? = some u) : ∃ x, xs[j]? = some x ∧ RelV x u := by
  have hl := r.length
  obtain ⟨hj, _⟩ := List.getElem?_eq_some_iff.mp h
  have hx : xs[j]? = some (xs[j]'(by omega)) := List.getElem?_eq_getElem (by omega)
  obtain ⟨u', h1, h2⟩ := r.get hx
  rw [h] at h1; cases h1
  exact ⟨_, hx, h2⟩
open SeqAt in
theorem eqAt_of {P : Program} {w : World} {G H : Hp} {s : Shared} (ok : HOk P w H s.heap) (hG : Same G H) : ∀ (n : Nat) {d e : D} {x y : V} {u z : Value} {A : Around}, d.dep ≤ n → Rep G x d → Rep G y e → RelV x u → RelV y z → cmpb d e = true → A.units + n < cLine →
    EqAt A s u z (decide (d = e)) := by
  intro n
  induction n with
  | zero =>
    intro d e x y u z A hd rx ry ru rz hc hu
    cases rx with
    | int i =>
      obtain ⟨t, rfl⟩ := ru
      cases ry with
      | int j =>
        obtain ⟨t', rfl⟩ := rz
        have q : decide (D.int i = D.int j) = (i == j) := by rw [Bool.eq_iff_iff]; simp
        rw [q]; exact EqAt.int_int i t j t'
      | str j =>
        obtain ⟨t', rfl⟩ := rz
        have q : decide (D.int i = D.str j) = false := by simp
        rw [q]; exact EqAt.int_str i t j t'
      | _ => exact absurd hc (by simp [cmpb])
    | str i =>
      obtain ⟨t, rfl⟩ := ru
      cases ry with
      | int j =>
        obtain ⟨t', rfl⟩ := rz
        have q : decide (D.str i = D.int j) = false := by simp
        rw [q]; exact EqAt.str_int i t j t'
      | str j =>
        obtain ⟨t', rfl⟩ := rz
        have q : decide (D.str i = D.str j) = (i == j) := by rw [Bool.eq_iff_iff]; simp
        rw [q]; exact EqAt.str_str i t j t'
      | _ => exact absurd hc (by simp [cmpb])
    | non => exact absurd hc (by simp [cmpb])
    | bl _ => exact absurd hc (by simp [cmpb])
    | tup _ _ => simp [D.dep] at hd
    | lst _ _ => simp [D.dep] at hd
  | succ n ih =>
    intro d e x y u z A hd rx ry ru rz hc hu
    cases rx with
    | int i =>
      obtain ⟨t, rfl⟩ := ru
      cases ry with
      | int j =>
        obtain ⟨t', rfl⟩ := rz
        have q : decide (D.int i = D.int j) = (i == j) := by rw [Bool.eq_iff_iff]; simp
        rw [q]; exact EqAt.int_int i t j t'
      | str j =>
        obtain ⟨t', rfl⟩ := rz
        have q : decide (D.int i = D.str j) = false := by simp
        rw [q]; exact EqAt.int_str i t j t'
      | _ => exact absurd hc (by simp [cmpb])
    | str i =>
      obtain ⟨t, rfl⟩ := ru
      cases ry with
      | int j =>
        obtain ⟨t', rfl⟩ := rz
        have q : decide (D.str i = D.int j) = false := by simp
        rw [q]; exact EqAt.str_int i t j t'
      | str j =>
        obtain ⟨t', rfl⟩ := rz
        have q : decide (D.str i = D.str j) = (i == j) := by rw [Bool.eq_iff_iff]; simp
        rw [q]; exact EqAt.str_str i t j t'
      | _ => exact absurd hc (by simp [cmpb])
    | non => exact absurd hc (by simp [cmpb])
    | bl _ => exact absurd hc (by simp [cmpb])
    | @tup a vs l ha ra =>
      cases ru
      cases ry with
      | @tup b ws m hb rb =>
        cases rz
        rw [cmpb] at hc
        by_cases hab : a = b
        · subst hab
          rw [ha] at hb; cases hb
          rw [Reps.inj ra rb, decide_eq_true rfl]
          exact EqAt.same _
        · obtain ⟨_, its, r1, p1⟩ := (show ObjOk P w H s.heap a (.tup vs) from ok a _ (hG _ _ ha))
          obtain ⟨_, its2, r2, p2⟩ := (show ObjOk P w H s.heap b (.tup ws) from ok b _ (hG _ _ hb))
          have n1 : its.toArray.size = l.length := by rw [List.size_toArray, ← r1.length, ra.length]
          have n2 : its2.toArray.size = m.length := by rw [List.size_toArray, ← r2.length, rb.length]
          have q : decide (D.tup l = D.tup m) = ((List.range (min its.toArray.size its2.toArray.size)).all (fun j => decide (l[j]? = m[j]?)) && its.toArray.size == its2.toArray.size) := by
            rw [n1, n2, all_eq_iff, Bool.eq_iff_iff]; simp
          rw [q]
          refine EqAt.of_refs hab (RcAt.tuples p1 p2 (by omega) fun j h1 h2 => ?_)
          obtain ⟨x', hx, rx'⟩ := vals_at (P := P) (w := w) (K := []) r1 (j := j) (u := its.toArray[j]) (by simp)
          obtain ⟨y', hy, ry'⟩ := vals_at (P := P) (w := w) (K := []) r2 (j := j) (u := its2.toArray[j]) (by simp)
          obtain ⟨d', hd', rd'⟩ := ra.getV hx
          obtain ⟨e', he', re'⟩ := rb.getV hy
          have q2 : decide (l[j]? = m[j]?) = decide (d' = e') := by rw [hd', he', Bool.eq_iff_iff]; simp
          rw [q2]
          have hdd : d'.dep ≤ n := by
            have := deps_get hd'
            simp only [D.dep] at hd
            omega
          exact ih hdd rd' re' rx' ry' (cmpbs_get hc hd' he') (by show A.units + 1 + n < cLine; omega)
      | _ => exact absurd hc (by simp [cmpb])
    | @lst a vs l ha ra =>
      cases ru
      cases ry with
      | @lst b ws m hb rb =>
        cases rz
        rw [cmpb] at hc
        by_cases hab : a = b
        · subst hab
          rw [ha] at hb; cases hb
          rw [Reps.inj ra rb, decide_eq_true rfl]
          exact EqAt.same _
        · obtain ⟨_, its, k1, r1, p1⟩ := (show ObjOk P w H s.heap a (.lst vs) from ok a _ (hG _ _ ha))
          obtain ⟨_, its2, k2, r2, p2⟩ := (show ObjOk P w H s.heap b (.lst ws) from ok b _ (hG _ _ hb))
          have n1 : its.toArray.size = l.length := by rw [List.size_toArray, ← r1.length, ra.length]
          have n2 : its2.toArray.size = m.length := by rw [List.size_toArray, ← r2.length, rb.length]
          by_cases hlm : l.length = m.length
          · have q : decide (D.lst l = D.lst m) = ((List.range its.toArray.size).all (fun j => decide (l[j]? = m[j]?))) := by
              have := all_eq_iff (l := l) (m := m)
              rw [n1]
              have e1 : min l.length m.length = l.length := by omega
              rw [e1] at this
              have e2 : (l.length == m.length) = true := by simpa using hlm
              rw [e2, Bool.and_true] at this
              rw [this, Bool.eq_iff_iff]; simp
            rw [q]
            refine EqAt.of_refs hab (RcAt.lists ⟨_, p1, rfl, _, rfl⟩ ⟨_, p2, rfl, _, rfl⟩ (by omega) (by omega) fun j h1 h2 => ?_)
            obtain ⟨x', hx, rx'⟩ := vals_at (P := P) (w := w) (K := []) r1 (j := j) (u := its.toArray[j]) (by simp)
            obtain ⟨y', hy, ry'⟩ := vals_at (P := P) (w := w) (K := []) r2 (j := j) (u := its2.toArray[j]) (by simp)
            obtain ⟨d', hd', rd'⟩ := ra.getV hx
            obtain ⟨e', he', re'⟩ := rb.getV hy
            have q2 : decide (l[j]? = m[j]?) = decide (d' = e') := by rw [hd', he', Bool.eq_iff_iff]; simp
            rw [q2]
            have hdd : d'.dep ≤ n := by
              have := deps_get hd'
              simp only [D.dep] at hd
              omega
            exact ih hdd rd' re' rx' ry' (cmpbs_get hc hd' he') (by show A.units + 1 + n < cLine; omega)
          · have q : decide (D.lst l = D.lst m) = false := by
              rw [decide_eq_false_iff_not]
              intro z; cases z; exact hlm rfl
            rw [q]
            exact EqAt.of_refs hab (RcAt.lists_lengths ⟨_, p1, rfl, _, rfl⟩ ⟨_, p2, rfl, _, rfl⟩ (by rw [n1, n2]; simpa using hlm) (by omega))
      | _ => exact absurd hc (by simp [cmpb])
section
variable {X : Cx}
open SeqAt
def Two (x y : V) (H : Hp) (d e : D) : Prop := ∃ M, Rep (but H M) x d ∧ Rep (but H M) y e ∧ cmpb d e = true ∧ d.dep ≤ 40
def rEqD : R2 := fun x y H Q => ∃ d e, Two x y H d e ∧ Q (.bl (decide (d = e))) H
def rNeD : R2 := fun x y H Q => ∃ d e, Two x y H d e ∧ Q (.bl (!decide (d = e))) H
theorem rich_two {A : Around} {s : Shared} {pins : List (Addr × Obj)} {σ : St} {H : Hp} (I : Inv X pins σ H s) {a b : Addr} {M : List Addr} {d e : D} (ra : Rep (but H M) (.ref a) d) (rb : Rep (but H M) (.ref b) e) (hc : cmpb d e = true) (hd : d.dep ≤ 40) (hu : A.units + 50 < cLine) :
    RcAt A s (.ref a) (.ref b) (decide (d = e)) ∧ RcNeAt A s (.ref a) (.ref b) (!decide (d = e)) := by
  have hin : A.in1.units + 45 < cLine := by show A.units + 1 + 45 < cLine; omega
  cases ra with
  | @tup _ vs l ha ra =>
    cases rb with
    | @tup _ ws m hb rb =>
      rw [cmpb] at hc
      obtain ⟨_, its, r1, p1⟩ := (show ObjOk X.prog X.w H s.heap a (.tup vs) from I.hok a _ (but_some ha).2)
      obtain ⟨_, its2, r2, p2⟩ := (show ObjOk X.prog X.w H s.heap b (.tup ws) from I.hok b _ (but_some hb).2)
      have n1 : its.toArray.size = l.length := by rw [List.size_toArray, ← r1.length, ra.length]
      have n2 : its2.toArray.size = m.length := by rw [List.size_toArray, ← r2.length, rb.length]
      have q : decide (D.tup l = D.tup m) = ((List.range (min its.toArray.size its2.toArray.size)).all (fun j => decide (l[j]? = m[j]?)) && its.toArray.size == its2.toArray.size) := by
        rw [n1, n2, all_eq_iff, Bool.eq_iff_iff]; simp
      have he : ∀ j (h1 : j < its.toArray.size) (h2 : j < its2.toArray.size), EqAt A.in1 s its.toArray[j] its2.toArray[j] ((fun j => decide (l[j]? = m[j]?)) j) := fun j h1 h2 => by
        obtain ⟨x', hx, rx'⟩ := vals_at (P := X.prog) (w := X.w) (K := X.K) r1 (j := j) (u := its.toArray[j]) (by simp)
        obtain ⟨y', hy, ry'⟩ := vals_at (P := X.prog) (w := X.w) (K := X.K) r2 (j := j) (u := its2.toArray[j]) (by simp)
        obtain ⟨d', hd', rd'⟩ := ra.getV hx
        obtain ⟨e', he', re'⟩ := rb.getV hy
        have q2 : decide (l[j]? = m[j]?) = decide (d' = e') := by rw [hd', he', Bool.eq_iff_iff]; simp
        show EqAt A.in1 s _ _ (decide (l[j]? = m[j]?))
        rw [q2]
        have hdd : d'.dep ≤ 40 := by
          have := deps_get hd'
          simp only [D.dep] at hd
          omega
        exact eqAt_of I.hok (but_sub H M) 40 hdd rd' re' rx' ry' (cmpbs_get hc hd' he') (by omega)
      rw [q]
      exact ⟨RcAt.tuples p1 p2 (by omega) he, RcNeAt.tuples p1 p2 (by omega) he⟩
    | _ => exact absurd hc (by simp [cmpb])
  | @lst _ vs l ha ra =>
    cases rb with
    | @lst _ ws m hb rb =>
      rw [cmpb] at hc
      obtain ⟨_, its, k1, r1, p1⟩ := (show ObjOk X.prog X.w H s.heap a (.lst vs) from I.hok a _ (but_some ha).2)
      obtain ⟨_, its2, k2, r2, p2⟩ := (show ObjOk X.prog X.w H s.heap b (.lst ws) from I.hok b _ (but_some hb).2)
      have p1' : s.heap.IsList a its.toArray := ⟨_, p1, rfl, _, rfl⟩
      have p2' : s.heap.IsList b its2.toArray := ⟨_, p2, rfl, _, rfl⟩
      have n1 : its.toArray.size = l.length := by rw [List.size_toArray, ← r1.length, ra.length]
      have n2 : its2.toArray.size = m.length := by rw [List.size_toArray, ← r2.length, rb.length]
      by_cases hlm : l.length = m.length
      · have q : decide (D.lst l = D.lst m) = ((List.range its.toArray.size).all (fun j => decide (l[j]? = m[j]?))) := by
          have := all_eq_iff (l := l) (m := m)
          rw [n1]
          have e1 : min l.length m.length = l.length := by omega
          rw [e1] at this
          have e2 : (l.length == m.length) = true := by simpa using hlm
          rw [e2, Bool.and_true] at this
          rw [this, Bool.eq_iff_iff]; simp
        have he : ∀ j (h1 : j < its.toArray.size) (h2 : j < its2.toArray.size), EqAt A.in1 s its.toArray[j] its2.toArray[j] ((fun j => decide (l[j]? = m[j]?)) j) := fun j h1 h2 => by
          obtain ⟨x', hx, rx'⟩ := vals_at (P := X.prog) (w := X.w) (K := X.K) r1 (j := j) (u := its.toArray[j]) (by simp)
          obtain ⟨y', hy, ry'⟩ := vals_at (P := X.prog) (w := X.w) (K := X.K) r2 (j := j) (u := its2.toArray[j]) (by simp)
          obtain ⟨d', hd', rd'⟩ := ra.getV hx
          obtain ⟨e', he', re'⟩ := rb.getV hy
          have q2 : decide (l[j]? = m[j]?) = decide (d' = e') := by rw [hd', he', Bool.eq_iff_iff]; simp
          show EqAt A.in1 s _ _ (decide (l[j]? = m[j]?))
          rw [q2]
          have hdd : d'.dep ≤ 40 := by
            have := deps_get hd'
            simp only [D.dep] at hd
            omega
          exact eqAt_of I.hok (but_sub H M) 40 hdd rd' re' rx' ry' (cmpbs_get hc hd' he') (by omega)
        rw [q]
        exact ⟨RcAt.lists p1' p2' (by omega) (by omega) he, RcNeAt.lists p1' p2' (by omega) (by omega) he⟩
      · have q : decide (D.lst l = D.lst m) = false := by
          rw [decide_eq_false_iff_not]
          intro z; cases z; exact hlm rfl
        rw [q]
        exact ⟨RcAt.lists_lengths p1' p2' (by rw [n1, n2]; simpa using hlm) (by omega), RcNeAt.lists_lengths p1' p2' (by rw [n1, n2]; simpa using hlm) (by omega)⟩
    | _ => exact absurd hc (by simp [cmpb])
theorem cmpb_sc {G : Hp} {x y : V} {d e : D} (rx : Rep G x d) (ry : Rep G y e) (hc : cmpb d e = true) : (d.sc = true ∧ e.sc = true) ∨ ∃ a b, x = .ref a ∧ y = .ref b := by
  cases rx with
  | int i => cases ry <;> first | exact .inl ⟨rfl, rfl⟩ | exact absurd hc (by simp [cmpb])
  | str i => cases ry <;> first | exact .inl ⟨rfl, rfl⟩ | exact absurd hc (by simp [cmpb])
  | tup _ _ => cases ry <;> first | exact .inr ⟨_, _, rfl, rfl⟩ | exact absurd hc (by simp [cmpb])
  | lst _ _ => cases ry <;> first | exact .inr ⟨_, _, rfl, rfl⟩ | exact absurd hc (by simp [cmpb])
  | _ => exact absurd hc (by simp [cmpb])
theorem op_eqD (hu : X.A.units + 50 < cLine) : OpR X (compareOp .Eq) rEqD := by
  intro pins s σ H x y v u Q I rx ry h
  obtain ⟨d, e, ⟨M, r1, r2, hc, hd⟩, q⟩ := h
  rcases cmpb_sc r1 r2 hc with ⟨h1, h2⟩ | ⟨a, b, rfl, rfl⟩
  · obtain ⟨h3, h4⟩ := scal_of r1 r2 h1 h2
    rw [← h4] at q
    exact op_eq pins s σ H x y v u Q I rx ry ⟨h3, q⟩
  · cases rx; cases ry
    exact (rich_two I r1 r2 hc hd hu).1 _ _ _ _ ⟨.bl _, H, I, rfl, q⟩
theorem op_neD (hu : X.A.units + 50 < cLine) : OpR X (compareOp .NotEq) rNeD := by
  intro pins s σ H x y v u Q I rx ry h
  obtain ⟨d, e, ⟨M, r1, r2, hc, hd⟩, q⟩ := h
  rcases cmpb_sc r1 r2 hc with ⟨h1, h2⟩ | ⟨a, b, rfl, rfl⟩
  · obtain ⟨h3, h4⟩ := scal_of r1 r2 h1 h2
    rw [← h4] at q
    exact op_ne pins s σ H x y v u Q I rx ry ⟨h3, q⟩
  · cases rx; cases ry
    exact (rich_two I r1 r2 hc hd hu).2 _ _ _ _ ⟨.bl _, H, I, rfl, q⟩
theorem call_str_str : CallR X (.type "str") (fun xs H Q => ∃ x, xs = [.str x] ∧ Q (.str x) H) := by
  intro pins s σ H xs us Q I r h
  obtain ⟨x, rfl, q⟩ := h
  obtain ⟨u, rfl, t, rfl⟩ := vals1 r
  exact PySem.P.str_of_str ⟨.str _, H, I, ⟨_, rfl⟩, q⟩
end
end FL

set_option Elab.async false
set_option linter.all false
set_option maxRecDepth 100000
namespace FL
open PySem L2
def Walk (wi : TI) (G : Hp) (σ : St) (ds : List D) : Prop := ∀ M H, Same G (but H M) → Live M H → ∀ R : It → Hp → Prop,
  (∀ J H1, Same H H1 → (∀ (j : Nat) d M' H', ds[j]? = some d → Same (but H1 M) (but H' M') → Live M' H' → J.go j H' ∧ ∀ x H'', J.yld j H' x H'' → Same H' H'' ∧ Rep (but H'' M') x d) → (∀ M' H', Same (but H1 M) (but H' M') → J.stop ds.length H') → R J H1) → wi σ H R
section
variable {G : Hp} {σ : St} {ta tb tl te : TE} {tt : TT} {t : TA} {d : D} {ds : List D} {K : PySem.W.Frag} {wi : TI}
theorem walk_list (h : EvM tl G σ (.lst ds)) : Walk (iList K tl) G σ ds := fun M H s l R k => h M H s l _ fun x H1 s1 rx => by
  obtain ⟨a, vs, rfl, h1, h2⟩ := rx.of_lst
  refine ⟨a, rfl, ⟨vs, SqL.of (but_some h1).2⟩, k _ H1 s1 (fun j d M' H' hj hs hl => ?_) (fun M' H' hs => ?_)⟩
  · have ha := (but_some (hs _ _ h1)).2
    obtain ⟨v, hv, rv⟩ := h2.get hj
    refine ⟨⟨vs, v, SqL.of ha, hv⟩, fun x H'' ⟨e, hy⟩ => ?_⟩
    subst e
    have hx := hy vs (SqL.of ha)
    rw [hv] at hx; cases hx
    exact ⟨Same.refl _, rv.mono hs⟩
  · have ha := (but_some (hs _ _ h1)).2
    exact ⟨vs, SqL.of ha, by rw [h2.length]; exact Nat.le_refl _⟩
theorem walk_tup (h : EvM tl G σ (.tup ds)) : Walk (iTup K tl) G σ ds := fun M H s l R k => h M H s l _ fun x H1 s1 rx => by
  obtain ⟨a, vs, rfl, h1, h2⟩ := rx.of_tup
  refine ⟨a, rfl, ⟨vs, SqT.of (but_some h1).2⟩, k _ H1 s1 (fun j d M' H' hj hs hl => ?_) (fun M' H' hs => ?_)⟩
  · have ha := (but_some (hs _ _ h1)).2
    obtain ⟨v, hv, rv⟩ := h2.get hj
    refine ⟨⟨vs, v, SqT.of ha, hv⟩, fun x H'' ⟨e, hy⟩ => ?_⟩
    subst e
    have hx := hy vs (SqT.of ha)
    rw [hv] at hx; cases hx
    exact ⟨Same.refl _, rv.mono hs⟩
  · have ha := (but_some (hs _ _ h1)).2
    exact ⟨vs, SqT.of ha, by rw [h2.length]; exact Nat.le_refl _⟩
theorem sub_hide {H H' : Hp} {M : List Addr} {D : Addr} (h : H D = none) (s : Same H H') : Same (but H M) (but H' (D :: M)) := fun b o e => by
  obtain ⟨h1, h2⟩ := but_some e
  rw [but_out]
  · exact s b o h2
  · intro z
    rcases List.mem_cons.mp z with rfl | z
    · rw [h] at h2; cases h2
    · exact h1 z
theorem ev_comp {caps : St → St} {i : Nat} {p : D → Bool} {f : D → D} (hw : Walk wi G σ ds)
    (ht : ∀ G' v d, Same G G' → d ∈ ds → Rep G' v d → EvT tt G' ((caps σ).set i (some v)) (p d))
    (he : ∀ G' v d, Same G G' → d ∈ ds → p d = true → Rep G' v d → EvM te G' ((caps σ).set i (some v)) (f d)) (hz : ds.length < sizeLine) :
    EvM (tComp wi caps (gName i) tt te) G σ (.lst ((ds.filter p).map f)) := fun M H s l Q k => hw M H s l _ fun J H1 s1 hgo hstop D hD => by
  have lf : D ∉ M := (l.same s1).fresh hD
  have sG1 : Same G (but H1 M) := s.trans (s1.but M)
  refine ⟨fun j m τ H' => m = ds.length - j ∧ j ≤ ds.length ∧ (∀ v, τ.set i (some v) = (caps σ).set i (some v)) ∧ Same H1 H' ∧ ∃ ys, H' D = some (.lst ys) ∧ Reps (but H' (D :: M)) ys (((ds.take j).filter p).map f),
    ⟨ds.length, by simp, Nat.zero_le _, fun _ => rfl, same_new hD _, [], upd_same, by simpa using Reps.nil⟩, ?_⟩
  rintro j m τ H' ⟨rfl, hj, hτ, s2, ys, hD', ry⟩
  have hs : Same (but H1 M) (but H' (D :: M)) := sub_hide hD s2
  have hl : Live (D :: M) H' := ((l.same s1).same s2).cons hD'
  by_cases hlt : j < ds.length
  · have hd : ds[j]? = some ds[j] := List.getElem?_eq_getElem hlt
    obtain ⟨go, gy⟩ := hgo j _ (D :: M) H' hd hs hl
    refine .inr ⟨go, fun τ' H'' => (∀ v, τ'.set i (some v) = (caps σ).set i (some v)) ∧ Same H1 H'' ∧ ∃ ys, H'' D = some (.lst ys) ∧ Reps (but H'' (D :: M)) ys (((ds.take (j + 1)).filter p).map f),
      fun τ' H'' ⟨a, b, c⟩ => ⟨ds.length - (j + 1), by omega, rfl, hlt, a, b, c⟩, fun x H'' hy => ?_⟩
    obtain ⟨s3, rx⟩ := gy x H'' hy
    have hm : ds[j] ∈ ds := List.getElem_mem hlt
    have sG : Same G (but H'' (D :: M)) := sG1.trans (hs.trans (s3.but _))
    have hl3 := hl.same s3
    show tt (τ.set i (some x)) H'' _
    rw [hτ x]
    have tk : (ds.take (j + 1)).filter p = (ds.take j).filter p ++ (if p ds[j] = true then [ds[j]] else []) := by
      rw [List.take_add_one, hd, List.filter_append]
      congr 1
      by_cases hp : p ds[j] = true
      · simp [hp]
      · simp [hp]
    refine ht _ x _ sG hm rx (D :: M) H'' (Same.refl _) hl3 _ fun H4 s4 => ?_
    have setset : ∀ v, ((caps σ).set i (some x)).set i (some v) = (caps σ).set i (some v) := fun v => by rw [List.set_set]
    by_cases hp : p ds[j] = true
    · rw [if_pos hp]
      refine he _ x _ (sG.trans (s4.but _)) hm hp (rx.mono (s4.but _)) (D :: M) H4 (Same.refl _) (hl3.same s4) _ fun v H5 s5 r5 => ?_
      have hD5 : H5 D = some (.lst ys) := s5 _ _ (s4 _ _ (s3 _ _ hD'))
      have hlen := ry.length
      have hle : (((ds.take j).filter p).map f).length ≤ j := by
        rw [List.length_map]
        have := List.length_filter_le p (ds.take j)
        rw [List.length_take] at this
        omega
      refine ⟨ys, hD5, by omega, setset, ?_, ys ++ [v], upd_same, ?_⟩
      · intro b o e
        rw [upd_ne (ne_of_none e hD)]
        exact s5 _ _ (s4 _ _ (s3 _ _ (s2 _ _ e)))
      · rw [but_upd List.mem_cons_self, tk, if_pos hp, List.map_append]
        exact (ry.mono (((s3.trans s4).trans s5).but _)).snoc r5
    · rw [if_neg hp]
      refine ⟨setset, s2.trans (s3.trans s4), ys, s4 _ _ (s3 _ _ hD'), ?_⟩
      rw [tk, if_neg hp, List.append_nil]
      exact ry.mono ((s3.trans s4).but _)
  · have e : j = ds.length := by omega
    subst e
    refine .inl ⟨hstop (D :: M) H' hs, k _ H' (s1.trans s2) (rep_show lf hD' ?_)⟩
    rw [List.take_of_length_le (Nat.le_refl _)] at ry
    exact ry
theorem cut_from {xs : List V} (k : Nat) : cutV xs (some (k : Int)) none = xs.drop k := by
  unfold cutV
  rw [HT.sIx_nat, HT.sIx_none]
  by_cases h : k ≤ xs.length
  · rw [Nat.min_eq_left h, List.take_of_length_le (by simp)]
  · rw [Nat.min_eq_right (by omega), List.drop_of_length_le (Nat.le_refl _), List.drop_of_length_le (by omega), List.take_nil]
theorem cut_to {xs : List V} (k : Nat) : cutV xs none (some (k : Int)) = xs.take k := by
  unfold cutV
  rw [HT.sIx_nat, HT.sIx_none, List.drop_zero, Nat.sub_zero]
  by_cases h : k ≤ xs.length
  · rw [Nat.min_eq_left h]
  · rw [Nat.min_eq_right (by omega), List.take_of_length_le (Nat.le_refl _), List.take_of_length_le (by omega)]
theorem ev_from {k : Nat} {l : List D} (ha : EvM ta G σ (.lst l)) : EvM (tSl (rSlL K) ta (tPart (tC (.int (k : Int)))) tNoPart) G σ (.lst (l.drop k)) :=
  fun M H s lv Q q => ha M H s lv _ fun x H1 s1 rx => ⟨(k : Int), rfl, by
    obtain ⟨a, vs, rfl, h1, h2⟩ := rx.of_lst
    refine ⟨a, vs, rfl, SqL.of (but_some h1).2, fun p hp => ?_⟩
    rw [cut_from]
    exact q _ _ (s1.trans (same_new hp _)) (rep_new_lst (lv.same s1) hp (h2.drop k))⟩
theorem ev_fromT {k : Nat} {l : List D} (hk : 0 < k) (hl : 0 < l.length) (ha : EvM ta G σ (.tup l)) : EvM (tSl (rSlT K) ta (tPart (tC (.int (k : Int)))) tNoPart) G σ (.tup (l.drop k)) :=
  fun M H s lv Q q => ha M H s lv _ fun x H1 s1 rx => ⟨(k : Int), rfl, by
    obtain ⟨a, vs, rfl, h1, h2⟩ := rx.of_tup
    refine ⟨a, vs, rfl, SqT.of (but_some h1).2, ?_, fun p hp => ?_⟩
    · rw [HT.sIx_nat]
      have := h2.length
      omega
    · rw [cut_from]
      exact q _ _ (s1.trans (same_new hp _)) (rep_new_tup (lv.same s1) hp (h2.drop k))⟩
end
theorem st_for {wi : TI} {g : TG} {tb : TS} {E : Ends} {σ : St} {H : Hp} {M : List Addr} {ds : List D} (hw : Walk wi (but H M) σ ds) (l : Live M H)
    (k : ∀ H1, Same H H1 → ∃ Pv : Nat → St → Hp → Prop, Pv 0 σ H1 ∧ (∀ j σ' H', Pv j σ' H' → Same (but H1 M) (but H' M) ∧ Live M H') ∧
      (∀ (j : Nat) d x σ' H' H'', ds[j]? = some d → Pv j σ' H' → Same H' H'' → Rep (but H'' M) x d → g x σ' H'' fun σ2 H2 => tb { E with nx := Pv (j + 1), ct := Pv (j + 1), bk := E.nx } σ2 H2) ∧ ∀ σ' H', Pv ds.length σ' H' → E.nx σ' H') :
    tFor wi g tb E σ H := hw M H (Same.refl _) l _ fun J H1 s1 hgo hstop => by
  obtain ⟨Pv, p0, hV, hstep, hend⟩ := k H1 s1
  refine ⟨fun j m σ' H' => m = ds.length - j ∧ j ≤ ds.length ∧ Pv j σ' H', ⟨ds.length, by simp, Nat.zero_le _, p0⟩, ?_⟩
  rintro j m σ' H' ⟨rfl, hj, p⟩
  obtain ⟨hs, hl⟩ := hV j σ' H' p
  by_cases hlt : j < ds.length
  · have hd : ds[j]? = some ds[j] := List.getElem?_eq_getElem hlt
    obtain ⟨go, gy⟩ := hgo j _ M H' hd hs hl
    refine .inr ⟨go, Pv (j + 1), fun σ2 H2 p2 => ⟨ds.length - (j + 1), by omega, rfl, hlt, p2⟩, fun x H'' hy => ?_⟩
    obtain ⟨s3, rx⟩ := gy x H'' hy
    exact hstep j _ x σ' H' H'' hd p s3 rx
  · have e : j = ds.length := by omega
    subst e
    exact .inl ⟨hstop M H' hs, hend σ' H' p⟩
def capsOf (idx : List Nat) (k : Nat) : St → St := fun σ => idx.map (fun j => (σ[j]?).join) ++ List.replicate k none
def capChk (N N' : List Str) (names : List (Str × NameKind)) : List Nat → Nat → Bool
  | [], _ => true
  | j :: r, i => (match N'[i]?, N[j]? with | some x, some y => decide (x = y) && (names.lookup x == some .free) | _, _ => false) && capChk N N' names r (i + 1)
theorem capChk_ok {N N' : List Str} {names : List (Str × NameKind)} : ∀ {idx : List Nat} {i0 : Nat}, capChk N N' names idx i0 = true → ∀ (i j : Nat), idx[i]? = some j → ∃ x, N'[i0 + i]? = some x ∧ N[j]? = some x ∧ names.lookup x = some .free
  | [], _, _, i, j, h => by simp at h
  | q :: r, i0, hc, i, j, h => by
    rw [capChk, Bool.and_eq_true] at hc
    cases i with
    | zero =>
      simp at h; subst h
      have h1 := hc.1
      cases e1 : N'[i0]? with
      | none => rw [e1] at h1; cases h1
      | some x =>
        cases e2 : N[q]? with
        | none => rw [e1, e2] at h1; cases h1
        | some y =>
          rw [e1, e2] at h1
          simp only [Bool.and_eq_true, decide_eq_true_eq, beq_iff_eq] at h1
          obtain ⟨rfl, h2⟩ := h1
          exact ⟨x, by simpa using e1, rfl, h2⟩
    | succ i =>
      obtain ⟨x, h1, h2, h3⟩ := capChk_ok hc.2 i j (by simpa using h)
      exact ⟨x, by rw [← h1]; congr 1; omega, h2, h3⟩
theorem caps_ok {N N' : List Str} {names : List (Str × NameKind)} {idx : List Nat} {k : Nat} (hl : N'.length = idx.length + k) (hc : capChk N N' names idx 0 = true) : ∀ σ : St, σ.length = N.length →
    (capsOf idx k σ).length = N'.length ∧ ∀ (i : Nat) (x : Str) (v : V), N'[i]? = some x → (capsOf idx k σ)[i]? = some (some v) → names.lookup x = some .free ∧ ∃ j : Nat, N[j]? = some x ∧ σ[j]? = some (some v) := by
  intro σ hσ
  refine ⟨by simp [capsOf, hl], fun i x v hx hv => ?_⟩
  unfold capsOf at hv
  by_cases hi : i < idx.length
  · rw [List.getElem?_append_left (by simpa using hi), List.getElem?_map, List.getElem?_eq_getElem hi] at hv
    obtain ⟨y, h1, h2, h3⟩ := capChk_ok hc i idx[i] (List.getElem?_eq_getElem hi)
    rw [Nat.zero_add, hx] at h1
    cases h1
    refine ⟨h3, idx[i], h2, ?_⟩
    simp only [Option.map_some, Option.some.injEq] at hv
    cases e : σ[idx[i]]? with
    | none => rw [e] at hv; cases hv
    | some w => rw [e] at hv; simp at hv; rw [hv]
  · rw [List.getElem?_append_right (by simpa using hi)] at hv
    obtain ⟨h1, h2⟩ := List.getElem?_eq_some_iff.mp hv
    simp at h2
def scopeChk (esc : Scope) (scope : Scope) : Bool :=
  (scope.names.all fun y => decide (y.2 ≠ .cell)) && (scope.names.all fun y => !(y.2 == .local) || (scope.names.lookup y.1 == some .local)) && (scope.names.all fun y => !(y.2 == .free) || (esc.names.lookup y.1 == some .cell) || (esc.names.lookup y.1 == some .free))
theorem scopeChk_ok {esc scope : Scope} (h : scopeChk esc scope = true) : (∀ y ∈ scope.names, y.2 ≠ .cell) ∧ (∀ y ∈ scope.names, y.2 = .local → scope.names.lookup y.1 = some .local) ∧
    ∀ n, (n, NameKind.free) ∈ scope.names → esc.names.lookup n = some .cell ∨ esc.names.lookup n = some .free := by
  rw [scopeChk, Bool.and_eq_true, Bool.and_eq_true, List.all_eq_true, List.all_eq_true, List.all_eq_true] at h
  obtain ⟨⟨h1, h2⟩, h3⟩ := h
  refine ⟨fun y hy => of_decide_eq_true (h1 y hy), fun y hy e => ?_, fun n hn => ?_⟩
  · have := h2 y hy
    rw [e] at this
    simpa using this
  · have := h3 _ hn
    simpa using this
section
variable {X : Cx} {tg iter elt : Expr} {ifs : List Expr} {scope : Scope} {pos : Pos} {wi : TI} {g : TG} {tt : TT} {te : TE}
theorem pe_compC (N' : List Str) (idx : List Nat) (k : Nat) (hi : PI X tg iter wi) (hg : ∀ cl C fp s H, PG (cxComp X N' scope cl C fp s H) tg g) (hts : ∀ cl C fp s H, PTs (cxComp X N' scope cl C fp s H) ifs tt) (hel : ∀ cl C fp s H, PE (cxComp X N' scope cl C fp s H) elt te)
    (hc : X.calm = true := by rfl) (hkind : scope.kind = .function := by rfl) (hck : scopeChk X.env.scope scope = true := by rfl) (hl : N'.length = idx.length + k := by rfl) (hcp : capChk X.N N' scope.names idx 0 = true := by rfl)
    (hs : ∀ x, foldedSetIterable iter X.env x = pure x := by intro _; rfl) : PE X (.ListComp elt [⟨tg, iter, ifs, 0⟩] scope pos) (tComp wi (capsOf idx k) g tt te) :=
  let h := scopeChk_ok hck
  pe_comp hc hkind h.1 h.2.1 h.2.2 (caps_ok hl hcp) hi hg hts hel hs
end
end FL

set_option Elab.async false
set_option linter.all false
set_option maxRecDepth 100000
namespace FL
open PySem L2
def D.tyn : D → String
  | .non => "NoneType" | .bl _ => "bool" | .int _ => "int" | .str _ => "str" | .tup _ => "tuple" | .lst _ => "list"
theorem rep_ty {K : PySem.W.Frag} {H : Hp} {M : List Addr} {x : V} {d : D} (r : Rep (but H M) x d) : TyOf K H x (.type d.tyn) := by
  cases r with
  | non => exact .non
  | bl b => exact .bl b
  | int b => exact .int b
  | str b => exact .str b
  | tup h _ => exact .tup (but_some h).2
  | lst h _ => exact .lst (but_some h).2
def rIs (K : PySem.W.Frag) : List V → Hp → VK → Prop := fun xs H Q => ∃ x n t b, xs = [x, .ty n] ∧ TyOf K H x t ∧ PySem.W.kitOne K t (.type n) = some b ∧ Q (.bl b) H
theorem call_isinst {X : Cx} : CallR X (.builtin "isinstance") (rIs X.K) := by
  intro pins s σ H xs us Q I r h
  obtain ⟨x, n, t, b, rfl, ty, e, q⟩ := h
  obtain ⟨u, w, rfl, ru, rw'⟩ := vals2 r
  cases rw'
  exact isinst_ok I ru ty e fun tk => ⟨.bl b, H, I.tok _, rfl, q⟩
theorem kit_indep (K : PySem.W.Frag) (a b : String) : PySem.W.kitOne K (.type a) (.type b) = PySem.W.kitOne [] (.type a) (.type b) := rfl
section
variable {G : Hp} {σ : St} {ta : TE} {d : D} {K : PySem.W.Frag}
theorem ev_isinst {n : String} {b : Bool} (h : EvM ta G σ d) (hk : PySem.W.kitOne [] (.type d.tyn) (.type n) = some b) : EvM (tCB (rIs K) (tCons ta (tCons (tC (.ty n)) tNil))) G σ (.bl b) :=
  fun M H s l Q k => h M H s l _ fun x H1 s1 rx => ⟨x, n, _, b, rfl, rep_ty rx, by rw [kit_indep]; exact hk, k _ H1 s1 (.bl b)⟩
def isI : D → Bool
  | .int _ => true | .bl _ => true | _ => false
def isB : D → Bool
  | .bl _ => true | _ => false
def isS : D → Bool
  | .str _ => true | _ => false
def isT : D → Bool
  | .tup _ => true | _ => false
theorem ev_isInt (h : EvM ta G σ d) : EvM (tCB (rIs K) (tCons ta (tCons (tC (.ty "int")) tNil))) G σ (.bl (isI d)) := by
  cases d with
  | bl _ => exact ev_isinst h rfl
  | int _ => exact ev_isinst h rfl
  | _ => exact ev_isinst h rfl
theorem ev_isBool (h : EvM ta G σ d) : EvM (tCB (rIs K) (tCons ta (tCons (tC (.ty "bool")) tNil))) G σ (.bl (isB d)) := by
  cases d <;> exact ev_isinst h rfl
theorem ev_isStr (h : EvM ta G σ d) : EvM (tCB (rIs K) (tCons ta (tCons (tC (.ty "str")) tNil))) G σ (.bl (isS d)) := by
  cases d <;> exact ev_isinst h rfl
theorem ev_isTuple (h : EvM ta G σ d) : EvM (tCB (rIs K) (tCons ta (tCons (tC (.ty "tuple")) tNil))) G σ (.bl (isT d)) := by
  cases d <;> exact ev_isinst h rfl
end
def rStr : List V → Hp → VK → Prop := fun xs H Q => (∃ i, xs = [.int i] ∧ i.natAbs.log2 < 1920 ∧ Q (.str (toString i)) H) ∨ ∃ x, xs = [.str x] ∧ Q (.str x) H
theorem call_str {X : Cx} : CallR X (.type "str") rStr := by
  intro pins s σ H xs us Q I r h
  rcases h with h | h
  · exact call_str_int pins s σ H xs us Q I r h
  · exact call_str_str pins s σ H xs us Q I r h
def D.text : D → Str
  | .int i => toString i
  | .str x => x
  | _ => Str.empty
def D.smallS : D → Bool
  | .int i => decide (i.natAbs.log2 < 1920)
  | .str _ => true
  | _ => false
theorem ev_strD {G : Hp} {σ : St} {t : TA} {d : D} (hd : d.smallS = true) (h : EvA t G σ [d]) : EvM (tCB rStr t) G σ (.str d.text) :=
  ev_cb (fun M H xs l rs Q k => by
    obtain ⟨x, rfl, q⟩ := reps1 rs
    cases q with
    | int i => exact .inl ⟨i, rfl, of_decide_eq_true hd, k _ H (Same.refl _) (.str _)⟩
    | str y => exact .inr ⟨y, rfl, k _ H (Same.refl _) (.str _)⟩
    | _ => exact absurd hd (by simp [D.smallS])) h
end FL

set_option Elab.async false
set_option linter.all false
set_option maxRecDepth 100000
namespace FL
open PySem L2
structure Has (P : Program) (w : World) (K : PySem.W.Frag) (mg : Str → Option Value) (base : Heap) (n : Nat) (x : Str) (ps : List Str) (sp : Sp) : Prop where
  ex : ∃ f fd, FnOk P w K mg base CX0 n f fd ps sp ∧ Binds K fd ps [] ∧ PySem.W.keepIn K (.ref f) = true ∧ mg x = some (.ref f)
theorem pe_own {X : Cx} {n : Nat} {x : Str} {ps : List Str} {sp : Sp} {e : Expr} {es : List Expr} {t : TA} {p pos : Pos} {m : Nat} (h : Has X.prog X.w X.K X.mg X.base n x ps sp) (hr : Room m X.A) (ha : PA X (e :: es) t) (hle : n ≤ m := by decide)
    (hg : Gl X x := by rfl) (hdb : (x == ("__debug__" : Str)) = false := by decide) (he : starEach (e :: es) X.env = (false, eval e X.env) :: starEach es X.env := by rfl) (hpl : (backTo pos (starEach es X.env)).any (·.1) = false := by rfl) :
    PE X (.Call (.Name x p) (e :: es) [] pos) (tCall sp [] E0 t) := by
  obtain ⟨f, fd, F, b, k, hm⟩ := h.ex
  exact pe_call (F.mono hle) hr hg hm k b .nil pass0 ha hdb he hpl
structure Bl (mg : Str → Option Value) : Prop where
  len : mg "len" = none
  isinstance : mg "isinstance" = none
  range : mg "range" = none
  int : mg "int" = none
  str : mg "str" = none
  bool : mg "bool" = none
  list : mg "list" = none
  tuple : mg "tuple" = none
  dict : mg "dict" = none
  zip : mg "zip" = none
  enumerate : mg "enumerate" = none
  all : mg "all" = none
  reversed : mg "reversed" = none
section
variable {X : Cx} {e : Expr} {es : List Expr} {t : TA} {te : TE} {tg iter : Expr} {p pos : Pos}
theorem pi_or {wi wj : TI} (h : PI X tg iter wi) (h' : PI X tg iter wj) : PI X tg iter (fun σ H R => wi σ H R ∨ wj σ H R) := by
  intro pins s σ H R I q
  rcases q with q | q
  · exact h pins s σ H R I q
  · exact h' pins s σ H R I q
theorem pi_seq (h : PE X iter te) : PI X tg iter (fun σ H R => iList X.K te σ H R ∨ iTup X.K te σ H R) := pi_or (pi_list h) (pi_tup h)
theorem CallR.or {f : Value} {r r' : List V → Hp → VK → Prop} (h : CallR X f r) (h' : CallR X f r') : CallR X f (fun xs H Q => r xs H Q ∨ r' xs H Q) := by
  intro pins s σ H xs us Q I rv q
  rcases q with q | q
  · exact h pins s σ H xs us Q I rv q
  · exact h' pins s σ H xs us Q I rv q
theorem pe_len (B : Bl X.mg) (h : PE X e te) (hg : Gl X "len" := by rfl) (he : starEach [e] X.env = (false, eval e X.env) :: starEach [] X.env := by rfl) : PE X (.Call (.Name "len" p) [e] [] pos) (tCB (fun xs H Q => ∃ p ys, xs = [.ref p] ∧ (SqL X.K H p ys ∨ SqT X.K H p ys) ∧ Q (.int ys.length) H) (tCons te tNil)) :=
  pe_callB call_len_seq hg B.len PySem.boot_len (pa_cons h pa_nil he) (he := he)
theorem pe_isin {n : String} {x : Str} {p' : Pos} (B : Bl X.mg) (h : PE X e te) (hx : X.mg x = none) (hb : bootBuiltins x = some (.type n)) (hg : Gl X "isinstance" := by rfl) (hg' : Gl X x := by rfl) (hn : x ≠ "__name__" := by decide) (hd : (x == ("__debug__" : Str)) = false := by decide)
    (he : starEach [e, .Name x p'] X.env = (false, eval e X.env) :: starEach [.Name x p'] X.env := by rfl) (he' : starEach [.Name x p'] X.env = (false, eval (.Name x p') X.env) :: starEach [] X.env := by rfl) :
    PE X (.Call (.Name "isinstance" p) [e, .Name x p'] [] pos) (tCB (rIs X.K) (tCons te (tCons (tC (.ty n)) tNil))) :=
  pe_callB call_isinst hg B.isinstance PyProof.Rows.boot_isinstance (pa_cons h (pa_cons (pe_bltn (v := .ty n) hg' hx hb rfl hn hd) pa_nil he') he) (he := he) (hpl := by rw [he']; rfl)
theorem pe_tupleC (B : Bl X.mg) (h : PE X e te) (hg : Gl X "tuple" := by rfl) (he : starEach [e] X.env = (false, eval e X.env) :: starEach [] X.env := by rfl) : PE X (.Call (.Name "tuple" p) [e] [] pos)
    (tCB (fun xs H Q => ∃ p ys, xs = [.ref p] ∧ ((SqL X.K H p ys ∧ ∀ l, H l = none → Q (.ref l) (upd H l (.tup ys))) ∨ (SqT X.K H p ys ∧ Q (.ref p) H))) (tCons te tNil)) :=
  pe_callTy call_tuple_of hg B.tuple PyProof.Rows.boot_tuple (pa_cons h pa_nil he) (he := he)
theorem pe_listC (B : Bl X.mg) (h : PE X e te) (hg : Gl X "list" := by rfl) (he : starEach [e] X.env = (false, eval e X.env) :: starEach [] X.env := by rfl) : PE X (.Call (.Name "list" p) [e] [] pos)
    (tCB (fun xs H Q => ∃ p ys, xs = [.ref p] ∧ (SqL X.K H p ys ∨ SqT X.K H p ys) ∧ ∀ l, H l = none → Q (.ref l) (upd H l (.lst ys))) (tCons te tNil)) :=
  pe_callTy call_list_of hg B.list PyProof.Rows.boot_list (pa_cons h pa_nil he) (he := he)
theorem pe_strC (B : Bl X.mg) (h : PE X e te) (hg : Gl X "str" := by rfl) (he : starEach [e] X.env = (false, eval e X.env) :: starEach [] X.env := by rfl) : PE X (.Call (.Name "str" p) [e] [] pos) (tCB rStr (tCons te tNil)) :=
  pe_callTy call_str hg B.str PyProof.Rows.boot_str (pa_cons h pa_nil he) (he := he)
theorem pe_ixS {a b : Expr} {ta tb : TE} (ha : PE X a ta) (hb : PE X b tb) (hs : PlainIx b := by intro _ _; rfl) : PE X (.Subscript a b pos) (tOp (rIx X.K) ta tb) := pe_ix ix_seq ha hb hs
theorem op_eqA (hu : X.A.units + 50 < cLine) : OpR X (compareOp .Eq) (fun x y H Q => rEqD x y H Q ∨ rEq x y H Q) := (op_eqD hu).or op_eq
theorem op_neA (hu : X.A.units + 50 < cLine) : OpR X (compareOp .NotEq) (fun x y H Q => rNeD x y H Q ∨ rNe x y H Q) := (op_neD hu).or op_ne
theorem ps_append {o : Expr} {to : TE} {apos cpos spos : Pos} (ho : PE X o to) (h : PE X e te) (he : starEach [e] X.env = (false, eval e X.env) :: starEach [] X.env := by rfl) (hbase : attributeBase o "append" X.env (eval o X.env) = eval o X.env := by rfl)
    (hfew : ((backTo cpos (starEach [e] X.env)).all (fun x => !x.1) && (backToKw cpos (keywordEach [] X.env)).all (fun x => x.1.isSome) && decide ([e].length + ([] : List Keyword).length + (if ([] : List Keyword).isEmpty then 0 else 1) < 30)) = true := by rfl)
    (hline : (apos.endLine == cpos.line) = true := by rfl) (hplain : (backTo cpos (starEach [] X.env)).any (·.1) = false := by rfl) (hs : swapsWith (.Call (.Attribute o "append" apos) [e] [] cpos) none spos.line X.env = pure false := by rfl) :
    PS X (.Expr (.Call (.Attribute o "append" apos) [e] [] cpos) spos) (tDrop (tBM X.K "list" rAppend to (tCons te tNil))) :=
  ps_expr (pe_bm PySem.F.plainAttrs_list PySem.F.slot_list_append PySem.F.type_list_append mt_append ho (pa_cons h pa_nil he) hbase hfew hline he hplain) hs
end
section
variable {X : Cx} {N' : List Str} {scope : Scope} {cl : List (Str × Addr)} {C : Addr} {fp : List Addr} {s : Shared} {H : Hp} {e a b : Expr} {te ta tb : TE} {p pos : Pos}
theorem pe_ixSc (ha : PE (cxComp X N' scope cl C fp s H) a ta) (hb : PE (cxComp X N' scope cl C fp s H) b tb) (hs : PlainIx b := by intro _ _; rfl) : PE (cxComp X N' scope cl C fp s H) (.Subscript a b pos) (tOp (rIx X.K) ta tb) := pe_ixS ha hb hs
end
section
variable {G : Hp} {σ : St} {ta tb te : TE} {d : D} {ds : List D} {K : PySem.W.Frag}
theorem ev_ix {i : Int} (h : atI ds i = some d) (ha : EvM ta G σ (.lst ds)) (hb : EvM tb G σ (.int i)) : EvM (tOp (rIx K) ta tb) G σ d :=
  fun M H s l Q k => ha M H s l _ fun x H1 s1 rx => hb M H1 (s.trans (s1.but M)) (l.same s1) _ fun y H2 s2 ry => by
    obtain ⟨a, vs, rfl, h1, h2⟩ := (rx.mono (s2.but M)).of_lst
    obtain ⟨v, h3, h4⟩ := atI_rep h2 h
    exact .inl ⟨a, vs, i, v, rfl, ry.of_int, SqL.of (but_some h1).2, h3, k v H2 (s1.trans s2) h4⟩
theorem ev_ixt {i : Int} (h : atI ds i = some d) (ha : EvM ta G σ (.tup ds)) (hb : EvM tb G σ (.int i)) : EvM (tOp (rIx K) ta tb) G σ d :=
  fun M H s l Q k => ha M H s l _ fun x H1 s1 rx => hb M H1 (s.trans (s1.but M)) (l.same s1) _ fun y H2 s2 ry => by
    obtain ⟨a, vs, rfl, h1, h2⟩ := (rx.mono (s2.but M)).of_tup
    obtain ⟨v, h3, h4⟩ := atI_rep h2 h
    exact .inr (.inl ⟨a, vs, i, v, rfl, ry.of_int, SqT.of (but_some h1).2, h3, k v H2 (s1.trans s2) h4⟩)
theorem ev_eqA {d1 d2 : D} (hc : cmpb d1 d2 = true) (hd : d1.dep ≤ 40) (ha : EvM ta G σ d1) (hb : EvM tb G σ d2) : EvM (tOp (fun x y H Q => rEqD x y H Q ∨ rEq x y H Q) ta tb) G σ (.bl (decide (d1 = d2))) :=
  ev_op2 (fun M H x y l rx ry Q k => .inl ⟨d1, d2, ⟨M, rx, ry, hc, hd⟩, k _ H (Same.refl _) (.bl _)⟩) ha hb
theorem ev_neA {d1 d2 : D} (hc : cmpb d1 d2 = true) (hd : d1.dep ≤ 40) (ha : EvM ta G σ d1) (hb : EvM tb G σ d2) : EvM (tOp (fun x y H Q => rNeD x y H Q ∨ rNe x y H Q) ta tb) G σ (.bl (!decide (d1 = d2))) :=
  ev_op2 (fun M H x y l rx ry Q k => .inl ⟨d1, d2, ⟨M, rx, ry, hc, hd⟩, k _ H (Same.refl _) (.bl _)⟩) ha hb
theorem ev_neAB {a b : Bool} (ha : EvM ta G σ (.bl a)) (hb : EvM tb G σ (.bl b)) : EvM (tOp (fun x y H Q => rNeD x y H Q ∨ rNe x y H Q) ta tb) G σ (.bl (!decide (a = b))) :=
  ev_op2 (fun M H x y l rx ry Q k => .inr (by
    rw [rx.of_bl, ry.of_bl]
    refine ⟨rfl, ?_⟩
    have e : decide (V.bl a = V.bl b) = decide (a = b) := by simp
    rw [e]
    exact k _ H (Same.refl _) (.bl _))) ha hb
theorem ev_eqI {i j : Int} (ha : EvM ta G σ (.int i)) (hb : EvM tb G σ (.int j)) : EvM (tOp (fun x y H Q => rEqD x y H Q ∨ rEq x y H Q) ta tb) G σ (.bl (decide (i = j))) :=
  (ev_eqA rfl (Nat.zero_le _) ha hb).eq (by simp)
theorem walk_seqL (h : EvM te G σ (.lst ds)) : Walk (fun σ H R => iList K te σ H R ∨ iTup K te σ H R) G σ ds := fun M H s l R k => .inl (walk_list h M H s l R k)
theorem walk_seqT (h : EvM te G σ (.tup ds)) : Walk (fun σ H R => iList K te σ H R ∨ iTup K te σ H R) G σ ds := fun M H s l R k => .inr (walk_tup h M H s l R k)
theorem st_append {M : List Addr} {H : Hp} {E : Ends} {i : Nat} {a : Addr} {vs : List V} (l : Live M H) (e : σ[i]? = some (some (.ref a))) (ha : H a = some (.lst vs)) (hz : vs.length < sizeLine) (h : EvM te (but H M) σ d)
    (k : ∀ v H', Same H H' → Rep (but H' M) v d → E.nx σ (upd H' a (.lst (vs ++ [v])))) : tDrop (tBM K "list" rAppend (tVar i) (tCons te tNil)) E σ H :=
  ⟨.ref a, e, (show tyV K "list" (.ref a) H from .inl ⟨rfl, vs, SqL.of ha⟩), h.at l fun v H' s r => ⟨a, vs, v, rfl, rfl, s _ _ ha, hz, k v H' s r⟩⟩
end
theorem atI_of_nat {α : Type} {l : List α} {i : Int} (h0 : 0 ≤ i) {x : α} (h : l[i.toNat]? = some x) : atI l i = some x := by
  have : i = ((i.toNat : Nat) : Int) := by omega
  rw [this]
  exact atI_nat h
end FL

set_option Elab.async false
set_option linter.all false
set_option maxRecDepth 100000
namespace FL
open PySem L2
abbrev Dn := List (Option D)
structure EnvR (G : Hp) (σ : St) (δ : Dn) : Prop where
  len : σ.length = δ.length
  get : ∀ (i : Nat) (d : D), δ[i]? = some (some d) → ∃ v, σ[i]? = some (some v) ∧ Rep G v d
theorem EnvR.mono {G G' : Hp} {σ : St} {δ : Dn} (h : EnvR G σ δ) (e : Same G G') : EnvR G' σ δ := ⟨h.len, fun i d q => let ⟨v, a, b⟩ := h.get i d q; ⟨v, a, b.mono e⟩⟩
theorem EnvR.same {M : List Addr} {H H' : Hp} {σ : St} {δ : Dn} (h : EnvR (but H M) σ δ) (e : Same H H') : EnvR (but H' M) σ δ := h.mono (e.but M)
theorem EnvR.set {G : Hp} {σ : St} {δ : Dn} {v : V} {d : D} (h : EnvR G σ δ) (i : Nat) (r : Rep G v d) : EnvR G (σ.set i (some v)) (δ.set i (some d)) := by
  refine ⟨by simp [h.len], fun j e q => ?_⟩
  have hl := h.len
  by_cases hj : i = j
  · subst hj
    by_cases hi : i < δ.length
    · rw [List.getElem?_set_self hi] at q
      cases q
      exact ⟨v, List.getElem?_set_self (by omega), r⟩
    · rw [List.getElem?_eq_none (by simpa using Nat.le_of_not_lt hi)] at q; cases q
  · rw [List.getElem?_set_ne hj] at q ⊢
    exact h.get j e q
theorem EnvR.off {G : Hp} {σ : St} {δ : Dn} (h : EnvR G σ δ) (i : Nat) (o : Option V) : EnvR G (σ.set i o) (δ.set i none) := by
  refine ⟨by simp [h.len], fun j e q => ?_⟩
  by_cases hj : i = j
  · subst hj
    by_cases hi : i < δ.length
    · rw [List.getElem?_set_self hi] at q; cases q
    · rw [List.getElem?_eq_none (by simpa using Nat.le_of_not_lt hi)] at q; cases q
  · rw [List.getElem?_set_ne hj] at q ⊢
    exact h.get j e q
theorem EnvR.weak {G : Hp} {σ : St} {δ δ' : Dn} (h : EnvR G σ δ) (hl : δ'.length = δ.length) (w : ∀ (i : Nat) (d : D), δ'[i]? = some (some d) → δ[i]? = some (some d)) : EnvR G σ δ' :=
  ⟨h.len.trans hl.symm, fun i d q => h.get i d (w i d q)⟩
section
variable {G : Hp} {σ : St} {δ : Dn} {d : D} {b : Bool} {M : List Addr} {H : Hp} {ta : TE} {tt : TT} {E : Ends}
theorem ev_v {i : Nat} (h : EnvR G σ δ) (e : δ[i]? = some (some d)) : EvM (tVar i) G σ d := let ⟨v, a, r⟩ := h.get i d e; ev_var a r
theorem s_set {i : Nat} (l : Live M H) (hE : EnvR (but H M) σ δ) (h : EvM ta (but H M) σ d) (k : ∀ σ' H', Same H H' → Live M H' → EnvR (but H' M) σ' (δ.set i (some d)) → E.nx σ' H') : tAsg ta (gName i) E σ H :=
  h.at l fun v H' s r => k _ H' s (l.same s) ((hE.same s).set i r)
theorem s_ret (l : Live M H) (h : EvM ta (but H M) σ d) (k : ∀ v H', Same H H' → Rep (but H' M) v d → E.rt v H') : tRet ta E σ H := h.at l k
theorem s_if {ts us : TS} (l : Live M H) (hE : EnvR (but H M) σ δ) (h : EvT tt (but H M) σ b) (k1 : b = true → ∀ H', Same H H' → Live M H' → EnvR (but H' M) σ δ → ts E σ H') (k2 : b = false → ∀ H', Same H H' → Live M H' → EnvR (but H' M) σ δ → us E σ H') : tIfS tt ts us E σ H :=
  st_if l h (fun e H' s => k1 e H' s (l.same s) (hE.same s)) (fun e H' s => k2 e H' s (l.same s) (hE.same s))
end
theorem EnvR.drop {G : Hp} {σ : St} {δ : Dn} (h : EnvR G σ δ) (i : Nat) : EnvR G σ (δ.set i none) :=
  h.weak (by simp) fun j d q => by
    by_cases hj : i = j
    · subst hj
      by_cases hi : i < δ.length
      · rw [List.getElem?_set_self hi] at q; cases q
      · rw [List.getElem?_eq_none (by simpa using Nat.le_of_not_lt hi)] at q; cases q
    · rw [List.getElem?_set_ne hj] at q; exact q
theorem nx {E : Ends} {σ : St} {H : Hp} (h : E.nx σ H) : tNext E σ H := h
theorem s_ifK {δ : Dn} {b : Bool} {M : List Addr} {H : Hp} {tt : TT} {E : Ends} {σ : St} {ts us : TS} (P : St → Hp → Prop) (l : Live M H) (hE : EnvR (but H M) σ δ) (h : EvT tt (but H M) σ b)
    (k1 : (∀ σ H, P σ H → E.nx σ H) → b = true → ∀ H', Same H H' → Live M H' → EnvR (but H' M) σ δ → ts E σ H') (k2 : (∀ σ H, P σ H → E.nx σ H) → b = false → ∀ H', Same H H' → Live M H' → EnvR (but H' M) σ δ → us E σ H') (hk : ∀ σ H, P σ H → E.nx σ H) : tIfS tt ts us E σ H :=
  s_if l hE h (k1 hk) (k2 hk)
theorem env_start {G : Hp} {vs : List V} {ds : List D} (h : Reps G vs ds) (N : List Str) : EnvR G (L2.start N vs) (ds.map some ++ List.replicate (N.length - ds.length) none) := by
  refine ⟨by simp [L2.start, h.length], fun i d q => ?_⟩
  have hl := h.length
  unfold L2.start
  by_cases hi : i < ds.length
  · rw [List.getElem?_append_left (by simpa using hi), List.getElem?_map] at q
    cases e : ds[i]? with
    | none => rw [e] at q; cases q
    | some d' =>
      rw [e] at q
      cases q
      obtain ⟨v, h1, h2⟩ := h.get e
      exact ⟨v, by rw [List.getElem?_append_left (by simpa using (by omega : i < vs.length)), List.getElem?_map, h1]; rfl, h2⟩
  · rw [List.getElem?_append_right (by simpa using Nat.le_of_not_lt hi)] at q
    obtain ⟨h1, h2⟩ := List.getElem?_eq_some_iff.mp q
    simp at h2
theorem hu50 {A : Around} {k : Nat} (hr : Room k A) : A.units + 50 < cLine := by have := hr.units; omega
def spLaw (K : PySem.W.Frag) : Sp := fun vs H Q _ => ∃ (a : Addr) (ns : List Int), vs = [.ref a] ∧ SqL K H a (ns.map V.int) ∧ ns.length ≤ 63 ∧ ∀ H', Q (.bl true) H'
theorem cut500 {ns : List Int} (h : ns.length ≤ 63) : cutV (ns.map V.int) none (some 500) = ns.map V.int := by
  have := cut_to (xs := ns.map V.int) 500
  rw [List.take_of_length_le (by simp; omega)] at this
  exact this
theorem env_law {H : Hp} {p : Addr} {ns : List Int} (N : List Str) (a : Addr) (n : Nat) (hN : N.length = n + 1) : EnvR (but (upd H p (.lst (ns.map V.int))) []) ((L2.start N [.ref a]).set 0 (some (.ref p))) (some (.lst (ns.map D.int)) :: List.replicate n none) := by
  have h0 : EnvR (but (upd H p (.lst (ns.map V.int))) []) (L2.start N [.ref a]) (none :: List.replicate n none) := by
    refine ⟨by simp [L2.start, hN], fun i d q => ?_⟩
    obtain ⟨h1, h2⟩ := List.getElem?_eq_some_iff.mp q
    have : (none :: List.replicate n none : Dn) = List.replicate (n + 1) none := rfl
    rw [List.getElem_of_eq this] at h2
    simp at h2
  have r : Rep (but (upd H p (.lst (ns.map V.int))) []) (.ref p) (.lst (ns.map D.int)) := .lst (by rw [but_nil]; exact upd_same) (Reps.ints ns)
  exact h0.set 0 r
def cellD (l : List D) (k : Int) : D := if k < l.length then l.getD k.toNat .non else .int 0
theorem cell_int (ns : List Int) (k : Nat) : cellD (ns.map D.int) k = .int (ns.getD k 0) := by
  unfold cellD
  by_cases h : k < ns.length
  · rw [if_pos (by simpa using h)]
    simp [List.getD, h]
  · rw [if_neg (by simpa using h)]
    have : ns.getD k 0 = 0 := by simp [List.getD, List.getElem?_eq_none (Nat.le_of_not_lt h)]
    rw [this]
end FL

set_option Elab.async false
set_option linter.all false
set_option maxRecDepth 100000
namespace FL
open PySem L2
def spR (R : List D → D → Prop) : Sp := fun vs H Q _ => ∃ M ds d, Live M H ∧ Reps (but H M) vs ds ∧ R ds d ∧ ∀ v H', Same H H' → Rep (but H' M) v d → Q v H'
theorem ev_callR {R : List D → D → Prop} {E : XK} {G : Hp} {σ : St} {t : TA} {ds : List D} {d : D} (hf : R ds d) (h : EvA t G σ ds) : EvM (tCall (spR R) [] E t) G σ d :=
  fun M H s l Q k => h M H s l _ fun vs H1 s1 rs => ⟨M, ds, d, l.same s1, by rw [List.append_nil]; exact rs, hf, fun v H2 s2 r2 => k v H2 (s1.trans s2) r2⟩
theorem spR_len {R : List D → D → Prop} {n : Nat} (hn : ∀ ds d, R ds d → ds.length = n) : ∀ vs H Q E, spR R vs H Q E → vs.length = n := fun vs H Q E ⟨M, ds, d, l, r, e, k⟩ => by rw [r.length]; exact hn ds d e
theorem atI_zero {α : Type} {h : α} {r : List α} : atI (h :: r) 0 = some h := atI_of_nat (by decide) rfl
def whole (d : D) : Bool := isI d && !isB d
def thing (d : D) : Bool := isS d || whole d
def RAt : List D → D → Prop := fun ds d => ∃ l k, ds = [.lst l, .int k] ∧ 0 ≤ k ∧ d = cellD l k
def RWhole : List D → D → Prop := fun ds d => ∃ x, ds = [x] ∧ d = .bl (whole x)
theorem RAt_int (ns : List Int) (k : Nat) : RAt [.lst (ns.map D.int), .int (k : Int)] (.int (ns.getD k 0)) := ⟨_, _, rfl, by omega, (cell_int ns k).symm⟩
theorem at_mod {l : List D} {n : Nat} (x : Int) (hn : 0 < n) (hl : l.length = n) : ∃ d, atI l (x % (n : Int)) = some d ∧ d ∈ l ∧ d = l.getD (x % (n : Int)).toNat .non := by
  have h1 := Int.emod_nonneg x (show (n : Int) ≠ 0 by omega)
  have h2 := Int.emod_lt_of_pos x (show (0 : Int) < n by omega)
  have h3 : (x % (n : Int)).toNat < l.length := by omega
  refine ⟨l[(x % (n : Int)).toNat], atI_of_nat h1 (List.getElem?_eq_getElem h3), List.getElem_mem h3, ?_⟩
  simp [List.getD, List.getElem?_eq_getElem h3]
section
variable {σ : St} {δ : Dn} {d : D} {M : List Addr} {H : Hp} {ta te : TE} {t : TA} {E : Ends} {ds : List D} {K : PySem.W.Frag}
theorem s_setR {i : Nat} (l : Live M H) (hE : EnvR (but H M) σ δ) (h : EvM ta (but H M) σ d) (k : ∀ σ' H', (∀ j : Nat, j ≠ i → σ'[j]? = σ[j]?) → Same H H' → Live M H' → EnvR (but H' M) σ' (δ.set i (some d)) → E.nx σ' H') : tAsg ta (gName i) E σ H :=
  h.at l fun v H' s r => k _ H' (fun j hj => List.getElem?_set_ne (Ne.symm hj)) s (l.same s) ((hE.same s).set i r)
theorem s_new {i : Nat} (l : Live M H) (hE : EnvR (but H M) σ δ) (hi : i < δ.length) (h : EvA t (but H M) σ ds) (hz : ds.length ≤ sizeLine)
    (k : ∀ p vs σ' H', (∀ j : Nat, j ≠ i → σ'[j]? = σ[j]?) → σ'[i]? = some (some (.ref p)) → p ∉ M → H' p = some (.lst vs) → Reps (but H' (p :: M)) vs ds → Live (p :: M) H' → (∀ b o, H b = some o → b ≠ p ∧ H' b = some o) → EnvR (but H' (p :: M)) σ' (δ.set i none) → E.nx σ' H') : tAsg (tLst t) (gName i) E σ H :=
  h M H (Same.refl _) l _ fun vs H1 s1 rs => ⟨by rw [rs.length]; exact hz, fun p hp => by
    have hl := hE.len
    refine k p vs _ _ (fun j hj => List.getElem?_set_ne (Ne.symm hj)) (List.getElem?_set_self (by omega)) ((l.same s1).fresh hp) upd_same (reps_hide hp rs) ((l.same s1).upd.cons upd_same) (fun b o e => ?_) ?_
    · have e1 := s1 b o e
      have nb : b ≠ p := ne_of_none e1 hp
      exact ⟨nb, by rw [upd_ne nb]; exact e1⟩
    · have h2 : EnvR (but (upd H1 p (.lst vs)) (p :: M)) σ δ := ⟨hE.len, fun j d q => let ⟨v, a, b⟩ := (hE.same s1).get j d q; ⟨v, a, rep_hide hp b⟩⟩
      exact h2.off i _⟩
theorem env_show {i : Nat} {a : Addr} {vs : List V} (hM : a ∉ M) (hi : i < δ.length) (e : σ[i]? = some (some (.ref a))) (ha : H a = some (.lst vs)) (r : Reps (but H (a :: M)) vs ds) (hE : EnvR (but H (a :: M)) σ δ) : EnvR (but H M) σ (δ.set i (some (.lst ds))) := by
  have h2 := hE.mono (but_mono (H := H) (M := M) (M' := a :: M) fun b hb => List.mem_cons_of_mem _ hb)
  refine ⟨by simp [hE.len], fun j d q => ?_⟩
  by_cases hj : i = j
  · subst hj
    rw [List.getElem?_set_self hi] at q
    cases q
    exact ⟨_, e, rep_show hM ha r⟩
  · rw [List.getElem?_set_ne hj] at q
    exact h2.get j d q
theorem s_app {i : Nat} {a : Addr} {vs : List V} (l : Live M H) (hE : EnvR (but H M) σ δ) (ha' : a ∈ M) (e : σ[i]? = some (some (.ref a))) (ha : H a = some (.lst vs)) (r : Reps (but H M) vs ds) (hz : ds.length < sizeLine) (h : EvM te (but H M) σ d)
    (k : ∀ v H', (∀ b o, b ≠ a → H b = some o → H' b = some o) → Live M H' → H' a = some (.lst (vs ++ [v])) → Reps (but H' M) (vs ++ [v]) (ds ++ [d]) → EnvR (but H' M) σ δ → E.nx σ H') : tDrop (tBM K "list" rAppend (tVar i) (tCons te tNil)) E σ H :=
  st_append l e ha (by rw [r.length]; exact hz) h fun v H' s rv => by
    have eb : but (upd H' a (.lst (vs ++ [v]))) M = but H' M := but_upd ha'
    refine k v _ (fun b o hb q => by rw [upd_ne hb]; exact s b o q) (l.same s).upd upd_same ?_ ?_
    · rw [eb]; exact (r.mono (s.but M)).snoc rv
    · rw [eb]; exact hE.same s
theorem hide_same {H H' : Hp} {M : List Addr} {a : Addr} (ha : a ∈ M) (k : ∀ b o, b ≠ a → H b = some o → H' b = some o) : Same (but H M) (but H' M) := fun b o e => by
  obtain ⟨h1, h2⟩ := but_some e
  rw [but_out h1]
  exact k b o (fun z => h1 (by rw [z]; exact ha)) h2
end
def D.key : D → Key
  | .int i => .inl i
  | .str x => .inr x
  | _ => .inl 0
abbrev Pairs0 := List (Str × D)
end FL

set_option Elab.async false
set_option linter.all false
set_option maxRecDepth 100000
namespace L2
open PySem PySem.Spec PyProof.Rows
structure XK1 (K : PySem.W.Frag) (C : Addr) : Prop where
  ga : PySem.W.findIn K (.ref C) "__getattribute__" = some (some (.builtin "BaseException.__getattribute__"))
  cl : PySem.W.findIn K (.ref C) "__class__" = some (some (.builtin "object.__class__"))
  no : PySem.W.findIn K (.ref C) "__getattr__" = some none
  be : PySem.W.mroIn K C (.type "BaseException") = some true
  ob : PySem.W.mroIn K C (.type "object") = some true
section
variable {prog : Program} {w : World} {A : Around} {E : Value → Shared → Prop} {K : PySem.W.Frag} {h : Heap} {g : Array GenState} {d : Drawn} {t : Nat} {os : OsState} {a C : Addr} {o : Obj}
theorem xcls_get {R : Result → Shared → Prop} (X : K.In h) (F1 : XK1 K C) (hx : h.get? a = some o) (hc : o.cls = .ref C) (hq : R (.ok (.ret (.ref C))) ⟨h, g, d, t, os⟩) :
    codeAny (model prog w) A (.call (.builtin "getset_descriptor.__get__") ⟨[.builtin "object.__class__", .ref a, .ref C], []⟩) R ⟨h, g, d, t, os⟩ := by
  have hT5 : (⟨h, g, d, t, os⟩ : Shared).TypeIs (.builtin "object.__class__") "getset_descriptor" := F.typeOf_object_class
  have L1 : PySem.W.Looks (model prog w) h (isSubtype (.ref C) (.type (".".intercalate ("object.__class__".cutAt '.').dropLast))) true := by
    rw [F.owner_object_class]; exact PySem.W.looks_mroIn X F1.ob
  refine codeAny_call_builtin F.slot_gs_get.plain F.entry_gs_get (F.slot_gs_get.check _ _ _ _ _ _ _ _ hT5 (F.args_gs_get _ _ _) ?_)
  repeat (any_goals (first | assumption | (with_reducible refine wpAny_loadPart_at hx ?_; rw [hc]) | (with_reducible refine L1.here ?_) | wp_step))
  refine ⟨Code.quiet_builtin _ (by decide +kernel), codeAny_builtin F.entry_object_class ?_⟩
  repeat (any_goals (first | assumption | (with_reducible refine wpAny_loadPart_at hx ?_; rw [hc]) | wp_step))
theorem xcls_check {M : Model} {nameV : Value} {Q : Unit → Shared → Prop} (X : K.In h) (F1 : XK1 K C) (hx : h.get? a = some o) (hc : o.cls = .ref C) (hq : Q () ⟨h, g, d, t, os⟩) : wpAny M A (checkBuiltinCall "BaseException.__getattribute__" ⟨[.ref a, nameV], []⟩) Q E ⟨h, g, d, t, os⟩ := by
  have hk : builtinKind "BaseException.__getattribute__" = some .slot := by decide +kernel
  have hs : splitId "BaseException.__getattribute__" = some ("BaseException", "__getattribute__") := by decide +kernel
  have L1 : PySem.W.Looks M h (isSubtype (.ref C) (.type "BaseException")) true := PySem.W.looks_mroIn X F1.be
  have ha := F.args_bexc_ga (.ref a) nameV
  simp only [checkBuiltinCall, hk, hs]
  refine wpAny_bind ?_
  · unfold isInstance
    repeat (first | (with_reducible refine wpAny_loadPart_at hx ?_; rw [hc]) | (with_reducible refine L1.here ?_) | wp_step)
    exact hq
theorem xcls_entry {tk : Tok} {Q : Fin → Shared → Prop} (X : K.In h) (F1 : XK1 K C) (hx : h.get? a = some o) (hc : o.cls = .ref C) (hq : Q (.done (.ret (.ref C))) ⟨h, g, d, t, os⟩) :
    wpAny (model prog w) A (Builtin.«object.__getattribute__» ⟨[.ref a, .str "__class__" tk], []⟩) Q E ⟨h, g, d, t, os⟩ := by
  have hT5 : (⟨h, g, d, t, os⟩ : Shared).TypeIs (.builtin "object.__class__") "getset_descriptor" := F.typeOf_object_class
  have f5 := F.typeOf_object_class
  have f6 := F.slot_gs_get.lookup
  have f7 := F.slot_gs_set.lookup
  have L1 : PySem.W.Looks (model prog w) h (typeLookup (.ref C) "__class__") (some (.builtin "object.__class__")) := PySem.W.looks_findIn X F1.cl
  repeat (any_goals (first | assumption | (with_reducible refine wpAny_loadPart_at hx ?_; rw [hc]) | (with_reducible refine L1.here ?_) | wp_step))
  refine xcls_get X F1 hx hc ?_
  repeat (any_goals (first | assumption | wp_step))
theorem xcls_by {tk : Tok} {Q : Value → Shared → Prop} (X : K.In h) (F1 : XK1 K C) (hx : h.get? a = some o) (hc : o.cls = .ref C) (hq : Q (.ref C) ⟨h, g, d, t, os⟩) :
    wpAny (model prog w) A (getAttrBy (.ref a) (.str "__class__" tk) false) Q E ⟨h, g, d, t, os⟩ := by
  have f3 := F.excAttr_ValueError.ga.bind (.ref a)
  have hx2 : (Value.builtin "BaseException.__getattribute__" == Value.builtin "object.__getattribute__") = false := by decide +kernel
  have hx1 : (onTheHeap (Value.ref C) && Value.builtin "BaseException.__getattribute__" == Value.builtin "object.__getattribute__") = false := by rw [hx2]; rfl
  have L1 : PySem.W.Looks (model prog w) h (typeLookup (.ref C) "__getattribute__") (some (.builtin "BaseException.__getattribute__")) := PySem.W.looks_findIn X F1.ga
  have L2' : PySem.W.Looks (model prog w) h (typeLookup (.ref C) "__getattr__") none := PySem.W.looks_findIn X F1.no
  repeat (any_goals (first | assumption | (with_reducible refine wpAny_loadPart_at hx ?_; rw [hc]) | (with_reducible refine L1.here ?_) | (with_reducible refine L2'.here ?_) | wp_step))
  refine codeAny_call_builtin F.excAttr_ValueError.ga.plain F.entry_bexc_ga (xcls_check X F1 hx hc (xcls_entry X F1 hx hc ?_))
  repeat (any_goals (first | assumption | wp_step))
theorem xcls_attr {Q : Option Value → Shared → Prop} (X : K.In h) (F1 : XK1 K C) (hx : h.get? a = some o) (hc : o.cls = .ref C) (hq : Q (some (.ref C)) ⟨h, g, d, t + 1, os⟩) : wpAny (model prog w) A (getAttr? (.ref a) "__class__") Q E ⟨h, g, d, t, os⟩ := by
  unfold getAttr? getAttrBy?
  repeat (any_goals (first | assumption | with_reducible apply xcls_by X F1 hx hc | wp_step))
end
def IsX (a C : Addr) (h : Heap) : Prop := ∃ o vs, h.get? a = some o ∧ o.cls = .ref C ∧ o.data = .fields vs
theorem kitx_exc {K : PySem.W.Frag} {a C : Addr} (F1 : XK1 K C) : PySem.W.KitX K (.ref a) (.ref C) (IsX a C) where
  ty := fun M h X p => by
    obtain ⟨o, vs, h1, h2, h3⟩ := p
    exact h2 ▸ (PySem.W.Looks.ld h1).andThen .now
  it := fun M h X p => by
    obtain ⟨cd, hcD, _⟩ := Option.bind_eq_some_iff.mp F1.be
    unfold PySem.W.clsIn at hcD
    split at hcD
    · rename_i c' d' cd' sl' ho
      intro A' Q' E' s' k q
      unfold isType loadHead
      exact wpAny_bind (wpAny_loadPart (k _ _ (X _ _ ho)) (wpAny_pure q))
    · cases hcD
  ne := fun h tp dd its n sl X htp => by
    obtain ⟨cd, hcD, _⟩ := Option.bind_eq_some_iff.mp F1.be
    refine Bool.eq_false_iff.mpr fun q => ?_
    have e : C = tp := Value.ref.inj (beq_iff_eq.mp q)
    subst e
    unfold PySem.W.clsIn at hcD
    split at hcD
    · rename_i c' d' cd' sl' ho
      have z := (X _ _ ho).symm.trans htp
      cases z
    · cases hcD
  ca := fun {prog w A E Q s} X p k => by
    obtain ⟨o, vs, h1, h2, h3⟩ := p
    obtain ⟨hh, g, d, t, os⟩ := s
    exact xcls_attr X F1 h1 h2 k
abbrev xO (a C : Addr) : HO := .ext (IsX a C)
theorem xO_ok {P : Program} {w : World} {H : Hp} {h : Heap} {a C : Addr} (x : IsX a C h) : ObjOk P w H h a (xO a C) := by
  obtain ⟨o, vs, h1, h2, h3⟩ := id x
  exact ⟨x, ⟨o, h1⟩, fun g1 g2 ⟨o', vs', e1, e2, e3⟩ k => ⟨o', vs', k _ e1, e2, e3⟩⟩
section
variable {X : Cx} {pins : List (Addr × Obj)} {σ : St} {H : Hp} {s : Shared} {ea C : Addr}
theorem Inv.track {o : HO} (I : Inv X [] σ H s) (hpn : X.pn = []) (hea : H ea = none) (sea : X.s₀.heap.get? ea = none) (hrec : ∃ ob vs, s.heap.get? ea = some ob ∧ ob.data = .fields vs) (new : ObjOk X.prog X.w (upd H ea o) s.heap ea o) : Inv X [] σ (upd H ea o) s := by
  obtain ⟨ob, vs, ho, hd⟩ := hrec
  have neH : ∀ b u, H b = some u → b ≠ ea := fun b u e z => by rw [z, hea] at e; cases e
  refine I.stepN (h' := s.heap) (g' := s.gens) (d' := s.drawn) (t' := s.toks) (ch := [ea]) (fun b hb => ?_) (fun b o _ _ _ e _ => e) (fun b o _ _ _ e _ => ⟨o.slots, e⟩) (fun b o hb _ n => ?_) (fun b o _ e => ⟨o, e⟩) (fun b xs e => by rw [upd_ne (neH _ _ e)]; exact e) (fun b o u e => by rw [upd_ne (neH _ _ e)]; exact e)
    (fun b ps e => ⟨#[], by rw [upd_ne (neH _ _ e), e]; simp⟩) (fun m hm => hm) (fun b u e => ?_) I.bare
  · obtain rfl : b = ea := by simpa using hb
    refine ⟨.inr sea, fun z => ?_, fun x c e z => ?_, fun p hp => by rw [hpn] at hp; cases hp⟩
    · obtain ⟨m, ⟨o', es, ep, ho', hd', _⟩, _⟩ := I.loc
      rw [← z, ho] at ho'; cases ho'
      rw [hd] at hd'; cases hd'
    · obtain ⟨v, oc, hc, hcd⟩ := I.cell x c e
      rw [z, ho] at hc; cases hc
      rw [hd] at hcd; cases hcd
  · rw [upd_ne fun z => hb (by simp [z])]; exact n
  · by_cases hb : b = ea
    · subst hb; rw [upd_same] at e; cases e; exact new
    · rw [upd_ne hb] at e
      exact (I.hok b u e).stay (fun c v _ q => q) (fun c q => by rw [upd_ne (neH _ _ q)]; exact q) fun c xs q => by rw [upd_ne (neH _ _ q)]; exact q
theorem Inv.blank {h' : Heap} {m' : Str → Option Value} {t' : Nat} (I : Inv X [] σ H s) (hn : h'.Ns X.env.locals m') (hs : Heap.SameBut X.env.locals s.heap h') : Inv X [] (List.replicate X.N.length none) H { s with heap := h', toks := t' } := by
  have neL : ∀ b o, X.s₀.heap.get? b = some o → b ≠ X.env.locals := fun b o e => Nat.ne_of_lt (Nat.lt_of_lt_of_le (Heap.lt_size e) I.ok.above)
  refine ⟨I.ok, I.os, I.bare, ⟨fun b o e n hb hx => (hs.2 b (neL b o e)).trans (I.base.keep b o e n hb hx), fun b o e n hb hx => ?_, I.base.free, fun b o e hx => ?_, I.base.tups, I.base.frzs, I.base.tbls⟩, ⟨m', hn, fun i x v e1 e2 _ => ?_⟩, fun x c e => ?_, I.free, I.freeC, fun p hp => ?_, fun b u e => ?_, by simp⟩
  · obtain ⟨sl, e1⟩ := I.base.slot b o e n hb hx
    exact ⟨sl, (hs.2 b (neL b o e)).trans e1⟩
  · obtain ⟨o', e1⟩ := I.base.there b o e hx
    exact ⟨o', (hs.2 b (neL b o e)).trans e1⟩
  · obtain ⟨_, h2⟩ := List.getElem?_eq_some_iff.mp e2
    simp at h2
  · obtain ⟨v, z⟩ := I.cell x c e
    exact ⟨v, z.sameBut hs (I.cne x c e)⟩
  · obtain ⟨e, n, ne, nf, d⟩ := I.pin p hp
    exact ⟨(hs.2 p.1 ne).trans e, n, ne, nf, d⟩
  · have nf : ∀ c u, H c = some u → c ≠ X.env.locals := fun c u q z => by rw [z, I.free] at q; cases q
    refine (I.hok b u e).stay (fun c v hc q => (hs.2 c ?_).trans q) (fun _ q => q) fun _ _ q => q
    rcases hc with z | z
    · rw [z]; exact nf b u e
    · exact nf c _ z
end
end L2

set_option Elab.async false
set_option linter.all false
set_option maxRecDepth 100000
namespace L2
open PySem PySem.Spec PyProof.Rows
abbrev Hnd := Addr × (Value → TS)
def tHd (K : PySem.W.Frag) : List Hnd → Value → TS
  | [], _ => fun _ _ _ => False
  | (C, t) :: r, cls => fun D σ H => ∃ b, PySem.W.exmOne K cls (.ref C) = some b ∧ if b = true then t cls D σ H else tHd K r cls D σ H
def tAs (i N : Nat) (t : TS) : Value → TS := fun cls D σ H => ∃ C0, cls = .ref C0 ∧ ∀ ea, H ea = none →
  t { nx := fun _ H' => D.nx (List.replicate N none) H', rt := D.rt, bk := fun _ H' => D.bk (List.replicate N none) H', ct := fun _ H' => D.ct (List.replicate N none) H' } (σ.set i (some (.ref ea))) (upd H ea (xO ea C0))
inductive PHd (X : Cx) : List ExceptHandler → List Hnd → Prop
  | nil : PHd X [] []
  | cons {x : Str} {C : Addr} {b₀ : Stmt} {suite : List Stmt} {t : TS} {np pos : Pos} {hs : List ExceptHandler} {r : List Hnd} (hm : X.mg x = some (.ref C)) (hg : Gl X x) (hd : (x == ("__debug__" : Str)) = false) (h : ∀ e, PSs (X.held e) (b₀ :: suite) t) (hr : PHd X hs r) :
      PHd X (.ExceptHandler (some (.Name x np)) none (b₀ :: suite) pos :: hs) ((C, fun _ => t) :: r)
  | as {x n : Str} {C : Addr} {i : Nat} {b₀ : Stmt} {suite : List Stmt} {t : TS} {np pos : Pos} {hs : List ExceptHandler} {r : List Hnd} (hm : X.mg x = some (.ref C)) (hg : Gl X x) (hd : (x == ("__debug__" : Str)) = false) (hN : X.N.Nodup) (hi : X.N[i]? = some n) (hl : X.env.scope.names.lookup n = some .local)
      (h : ∀ e, PSs (X.held e) (b₀ :: suite) t) (hr : PHd X hs r) : PHd X (.ExceptHandler (some (.Name x np)) (some n) (b₀ :: suite) pos :: hs) ((C, tAs i X.N.length t) :: r)
theorem hd_ok {X : Cx} {EE : Value → Shared → Prop} (O : Own X) : ∀ {hs : List ExceptHandler} {r : List Hnd}, PHd X hs r → ∀ {s : Shared} {σ : St} {H : Hp} {D : Ends} {ea T : Addr} {cls : Value}, Inv X [] σ H s → XRec s.heap ea T cls .none → H ea = none → H T = none → X.s₀.heap.get? ea = none → X.s₀.heap.get? T = none → tHd X.K r cls D σ H →
    wpAny (model X.prog X.w) X.A (handleBy (.ref ea) X.env hs) (SP X [] D) EE s := by
  intro hs r P
  induction P with
  | nil => intro s σ H D ea T cls I xr hea hT sea sT h; exact False.elim h
  | cons hm hg hd hsu hr ih =>
    intro s σ H D ea T cls I xr hea hT sea sT h
    obtain ⟨b, hb, h⟩ := h
    refine wpAny_handleBy_cons (codeAny_handlers_test (ld_glob (X := X.held (.ref ea)) (I.held (.ref ea)) hg hm ?_ hd)) (by intro q; cases q)
    obtain ⟨oe, vs, a0, oT, ts, a1, a2, a3, a4, a6, a7, a8, a9⟩ := id xr
    have LT : PySem.W.Looks (model X.prog X.w) s.heap (typeOf (.ref ea)) cls := by
      rw [← a2.1]
      exact (PySem.W.Looks.ld a1).andThen .now
    refine (PySem.W.exm_one I.kIn LT hb).here ?_
    cases b with
    | true =>
      rw [if_pos rfl] at h
      refine codeAny_handlers_suite (air_flight (o := none) O I xr hT sT fun h' I' x' => ?_)
      exact wpAny_mono (hsu (.ref ea) [] _ σ H D (I'.held (.ref ea)) h) (fun f s2 q => q.unheld I.ok) fun _ _ z => False.elim z
    | false =>
      rw [if_neg Bool.false_ne_true] at h
      exact ih I xr hea hT sea sT h
  | as hm hg hd hN hi hl hsu hr ih =>
    rename_i n C i b₀ suite t np pos hs r
    intro s σ H D ea T cls I xr hea hT sea sT h
    obtain ⟨b, hb, h⟩ := h
    refine wpAny_handleBy_cons (codeAny_handlers_test (ld_glob (X := X.held (.ref ea)) (I.held (.ref ea)) hg hm ?_ hd)) (by intro q; cases q)
    obtain ⟨oe, vs, a0, oT, ts, a1, a2, a3, a4, a6, a7, a8, a9⟩ := id xr
    have LT : PySem.W.Looks (model X.prog X.w) s.heap (typeOf (.ref ea)) cls := by
      rw [← a2.1]
      exact (PySem.W.Looks.ld a1).andThen .now
    refine (PySem.W.exm_one I.kIn LT hb).here ?_
    cases b with
    | true =>
      rw [if_pos rfl] at h
      obtain ⟨C0, rfl, h⟩ := h
      refine codeAny_handlers_suite_as (air_flight (o := none) O I xr hT sT fun h' I' x' => ?_)
      obtain ⟨oe', vs', a0', oT', ts', c1, c2, c3, _⟩ := id x'
      have isx : IsX ea C0 h' := ⟨oe', vs', c1, c2.1, c3⟩
      have trk : Inv X [] σ (upd H ea (xO ea C0)) { s with heap := h' } := I'.track O.pn hea sea ⟨oe', vs', c1, c3⟩ (xO_ok isx)
      refine store_ok (X := X) trk hN hi (Or.inl hl) (show RelV (.ref ea) (.ref ea) from rfl) (fun s2 I2 => ?_) (.inr hl)
      refine wpAny_mono (hsu (.ref ea) [] s2 _ _ _ (I2.held (.ref ea)) (h ea hea)) (fun f s3 q => ?_) fun _ _ z => False.elim z
      have q := q.unheld I.ok
      have hp : (X.env.scope.kind == .class || (X.env.scope.kind == .module && X.env.locals != X.env.globals)) = false := by rw [I.ok.kind]; rfl
      have go : ∀ {σ' : St} {H' : Hp} {P : Shared → Prop}, Inv X [] σ' H' s3 → (∀ s4, Inv X [] (List.replicate X.N.length none) H' s4 → P s4) → wpAny (model X.prog X.w) X.A (do bindName X.env n .none; unbindBehindTheSuite X.env n pos) (fun _ s4 => P s4) EE s3 := fun {σ' H' P} J k => by
        obtain ⟨m, hns, _⟩ := id J.loc
        exact wpAny_nameGoes hl hns hp fun h4 m4 n4 sb => k _ (J.blank n4 sb)
      cases f with
      | next => obtain ⟨σ', H', J, q⟩ := q; exact go J fun s4 J4 => ⟨_, H', J4, q⟩
      | brk => obtain ⟨σ', H', J, q⟩ := q; exact go J fun s4 J4 => ⟨_, H', J4, q⟩
      | cont => obtain ⟨σ', H', J, q⟩ := q; exact go J fun s4 J4 => ⟨_, H', J4, q⟩
      | ret u => obtain ⟨v, σ', H', J, rv, q⟩ := q; exact go J fun s4 J4 => ⟨v, _, H', J4, rv, q⟩
    | false =>
      rw [if_neg Bool.false_ne_true] at h
      exact ih I xr hea hT sea sT h
def tTry (K : PySem.W.Frag) (tb : (Value → St → Hp → Prop) → TS) (r : List Hnd) : TS := fun D σ H => tb (fun cls σ' H' => tHd K r cls D σ' H') D σ H
theorem ps_try {X : Cx} {body : List Stmt} {h₀ : ExceptHandler} {hs : List ExceptHandler} {tb : (Value → St → Hp → Prop) → TS} {r : List Hnd} {pos : Pos} (O : Own X) (hb : ∀ ES, PSs (X.wish (Air X ES)) body (tb ES)) (hh : PHd X (h₀ :: hs) r) : PS0 X (.Try body (h₀ :: hs) [] [] pos) (tTry X.K tb r) := by
  intro s σ H D I h
  refine wpAny_Try_except (wpAny_mono (hb _ [] s σ H D (I.wish _) h) (fun f s1 q => ?_) fun e s1 hA => ?_)
  · have q' := SP.unwish q
    cases f with
    | next => exact wpAny_execs_nil q'
    | brk => exact q'
    | cont => exact q'
    | ret u => exact q'
  · refine air_noted O hA fun ea T cls σ' H' h' ee I' x h1 h2 h3 h4 hE => ?_
    subst ee
    exact air_flight (s := { s1 with heap := h' }) (o := none) O I' x h2 h4 fun h'' I'' x'' => hd_ok O hh I'' x'' h1 h2 h3 h4 hE
theorem relV_inj {c : V} {u u' : Value} (hc : (∃ a, c = .ref a) ∨ ∃ n, c = .ty n) (h : RelV c u) (h' : RelV c u') : u = u' := by
  rcases hc with ⟨a, rfl⟩ | ⟨n, rfl⟩
  · cases h; cases h'; rfl
  · cases h; cases h'; rfl
theorem call_isX {X : Cx} : CallR X (.builtin "isinstance") (fun xs H Q => ∃ a C c cv b, xs = [.ref a, c] ∧ ((∃ p, c = .ref p) ∨ ∃ n, c = .ty n) ∧ RelV c cv ∧ H a = some (xO a C) ∧ XK1 X.K C ∧ PySem.W.kitOne X.K (.ref C) cv = some b ∧ Q (.bl b) H) := by
  intro pins s σ H xs us Q I r h
  obtain ⟨a, C, c, cv, b, rfl, hc, rc, ha, F1, e, q⟩ := h
  obtain ⟨u, w', rfl, ru, rw'⟩ := vals2 r
  cases ru
  obtain rfl := relV_inj hc rc rw'
  obtain ⟨p, _, _⟩ := (show ObjOk X.prog X.w H s.heap a (xO a C) from I.hok a _ ha)
  exact PySem.W.kia_one (kitx_exc F1) I.kIn p e (fun z => nomatch z) fun tk => ⟨.bl b, H, I.tok _, rfl, q⟩
end L2

set_option Elab.async false
set_option linter.all false
set_option maxRecDepth 100000
namespace L2
open PySem PySem.Spec PyProof.Rows
theorem own_nox {P : Program} {w : World} {K : PySem.W.Frag} {mg : Str → Option Value} {base : Heap} {CX : CXT} {N : List Str} {qual : Str} {scope : Scope} {f : Addr} {cd : Value} {A : Around} {outer : List Env} {s : Shared} {H : Hp} {E : XK} : Own (cxOf CX P w K mg base N qual scope f cd A outer s H E).nox := ⟨rfl, rfl, rfl, rfl⟩
def rCount : V → List V → Hp → VK → Prop := fun x vs H Q => ∃ (l : Addr) (bs : List Bool) (b : Bool), x = .ref l ∧ vs = [.bl b] ∧ H l = some (.lst (bs.map V.bl)) ∧ Q (.int (bs.countP (· == b) : Nat)) H
theorem countP_bools (b : Bool) : ∀ {bs : List Bool} {us : List Value}, Vals (bs.map V.bl) us → us.countP (fun y => match y with | .bool a => a == b | _ => false) = bs.countP (· == b)
  | [], _, .nil => rfl
  | a :: r, _, .cons q t => by
    cases q
    rw [List.countP_cons, List.countP_cons, countP_bools b t]
theorem bools_mem : ∀ {bs : List Bool} {us : List Value} {y : Value}, Vals (bs.map V.bl) us → y ∈ us → ∃ a, y = .bool a
  | [], _, _, .nil, h => nomatch h
  | a :: r, _, y, .cons q t, h => by
    cases q
    rcases List.mem_cons.mp h with e | e
    · exact ⟨a, e⟩
    · exact bools_mem t e
theorem mt_count {X : Cx} : MtM X "list.count" rCount := by
  intro pins s σ H x vs v us Q I rx rv h
  obtain ⟨l, bs, b, rfl, rfl, hH, q⟩ := h
  cases rx
  obtain ⟨u, rfl, ru⟩ := rv.one
  cases ru
  obtain ⟨z, its, n, r, hl, e⟩ := I.lstM hH
  refine call_meets F.slot_list_count ⟨_, e, rfl⟩ F.entry_list_count (F.args_list_count_2 _ _) (PySem.SeqAt.list_countAt l its.toArray n none #[] (.bool b) (fun y => match y with | .bool a => a == b | _ => false)) ⟨e, fun y hy => ?_, ?_⟩
  · obtain ⟨a, rfl⟩ := bools_mem r (by simpa using hy)
    exact SeqAt.EqAt.bool_bool a b
  · have : (its.toArray.toList.countP fun y => match y with | .bool a => a == b | _ => false) = bs.countP (· == b) := countP_bools b r
    rw [this]
    exact ⟨.int _, H, I.tok _, ⟨_, rfl⟩, q⟩
theorem pe_isX {X : Cx} {e c : Expr} {te tc : TE} {p pos : Pos} (B : FL.Bl X.mg) (h : PE X e te) (hc : PE X c tc) (hg : Gl X "isinstance" := by rfl) (he : starEach [e, c] X.env = (false, eval e X.env) :: starEach [c] X.env := by rfl) (he' : starEach [c] X.env = (false, eval c X.env) :: starEach [] X.env := by rfl) :
    PE X (.Call (.Name "isinstance" p) [e, c] [] pos) (tCB (fun xs H Q => ∃ a C c cv b, xs = [.ref a, c] ∧ ((∃ p, c = .ref p) ∨ ∃ n, c = .ty n) ∧ RelV c cv ∧ H a = some (xO a C) ∧ XK1 X.K C ∧ PySem.W.kitOne X.K (.ref C) cv = some b ∧ Q (.bl b) H) (tCons te (tCons tc tNil))) :=
  pe_callB call_isX hg B.isinstance PyProof.Rows.boot_isinstance (pa_cons h (pa_cons hc pa_nil he') he) (he := he) (hpl := by rw [he']; rfl)
structure XInfo (K : PySem.W.Frag) (mg : Str → Option Value) (x : Str) (C : Addr) : Prop where
  mg : mg x = some (.ref C)
  ex : PySem.W.excIn K C [.type "ValueError", .type "Exception", .type "BaseException", .type "object"] "ValueError.__new__" = true
theorem XInfo.fb {K : PySem.W.Frag} {mg : Str → Option Value} {x : Str} {C : Addr} (_ : XInfo K mg x C) : ExcBaseFacts "ValueError" "ValueError.__new__" "ValueError.__init__" [.type "ValueError", .type "Exception", .type "BaseException", .type "object"] := F.excBase_ValueError
end L2
namespace FL
open PySem L2
section
variable {ES : Value → St → Hp → Prop} {t : TA} {σ : St} {M : List Addr} {H : Hp} {ds : List D} {E : Ends} {C : Addr}
theorem s_raise (l : Live M H) (ha : EvA t (but H M) σ ds) (hz : ds.length ≤ 100) (k : ∀ H', Same H H' → ES (.ref C) σ H') : tRaise C ES t E σ H :=
  ha M H (Same.refl _) l _ fun vs H1 s1 rs => ⟨by rw [rs.length]; exact Nat.le_of_lt (small1000 (by omega)), k H1 s1⟩
end
theorem _root_.L2.FnOk.calm {P : Program} {w : World} {K : PySem.W.Frag} {mg : Str → Option Value} {base : Heap} {k : Nat} {f : Addr} {fd : FuncData} {ps : List Str} {sp : Sp} (F : FnOk P w K mg base (CXA P w) k f fd ps sp) : FnOk P w K mg base CX0 k f fd ps (fun vs H Q _ => sp vs H Q L2.E0) :=
  ⟨fun vs H Q E h => F.len vs H Q L2.E0 h, fun A outer s H args us vs Q E hr he hb hv h => codeAny_mono (F.run A outer s H args us vs Q L2.E0 hr he hb hv h) fun r s' q => by
    cases r with
    | ok fl => cases fl <;> exact q
    | error e =>
      obtain ⟨_, _, _, _, _, _, _, _, _, _, _, _, _, _, z⟩ := q
      exact z.elim⟩
end FL

set_option linter.all false
set_option maxRecDepth 100000
namespace PySem
structure Inn (prog : Program) (w : World) (i l : Addr) (St : Nat → Heap → Prop) (item : Nat → Option Value) : Prop where
  here : ∀ k h, St k h → ∃ o vs, h.get? i = some o ∧ o.data = .fields vs
  keep : ∀ k h h', St k h → (∀ o, h.get? i = some o → h'.get? i = some o) → (∀ o, h.get? l = some o → h'.get? l = some o) → St k h'
  one : ∀ (A : Around) (E : Value → Shared → Prop) (k : Nat) (s : Shared) (x : Value) (Q : Value → Shared → Prop), St k s.heap → item k = some x → (∀ h', St (k + 1) h' → Heap.SameBut i s.heap h' → Q x { s with heap := h' }) → wpAny (model prog w) A (Builtin.SmallTypes.nextOf (.ref i)) Q E s
  over : ∀ (A : Around) (E : Value → Shared → Prop) (k : Nat) (s : Shared) (Q : Value → Shared → Prop), A.handled = none → St k s.heap → item k = none → (∀ h' e, Heap.ExtBut i s.heap h' → (∃ o, h'.get? e = some o ∧ o.cls = .type "StopIteration") → E (.ref e) { s with heap := h' }) → wpAny (model prog w) A (Builtin.SmallTypes.nextOf (.ref i)) Q E s
section
variable {prog : Program} {w : World} {A : Around} {E : Value → Shared → Prop} {s : Shared}
variable {z TI TO i1 i2 l1 l2 : Addr} {S1 S2 : Nat → Heap → Prop} {it1 it2 : Nat → Option Value}
structure ZipSt (prog : Program) (w : World) (S1 S2 : Nat → Heap → Prop) (z TI TO i1 i2 l1 l2 : Addr) (f0 : Value) (k : Nat) (h : Heap) : Prop where
  zip : IsZip h z TI TO f0
  ins : IsPair h TI (.ref i1) (.ref i2)
  out : ∃ a b, IsPair h TO a b
  one : S1 k h
  two : S2 k h
theorem ZipSt.keep {f0 : Value} {k : Nat} {h h' : Heap} (I1 : Inn prog w i1 l1 S1 it1) (I2 : Inn prog w i2 l2 S2 it2) (Z : ZipSt prog w S1 S2 z TI TO i1 i2 l1 l2 f0 k h) (kp : ∀ b ∈ [z, TI, TO, i1, i2, l1, l2], ∀ o, h.get? b = some o → h'.get? b = some o) : ZipSt prog w S1 S2 z TI TO i1 i2 l1 l2 f0 k h' :=
  ⟨kp _ (by simp) _ Z.zip, kp _ (by simp) _ Z.ins, let ⟨a, b, e⟩ := Z.out; ⟨a, b, kp _ (by simp) _ e⟩, I1.keep _ _ _ Z.one (fun o e => kp _ (by simp) o e) (fun o e => kp _ (by simp) o e), I2.keep _ _ _ Z.two (fun o e => kp _ (by simp) o e) (fun o e => kp _ (by simp) o e)⟩
end
end PySem

set_option Elab.async false
set_option linter.all false
set_option maxRecDepth 100000
namespace L2
open PySem PySem.Spec PyProof.Rows
section
variable {X : Cx} {pins : List (Addr × Obj)} {σ : St} {H : Hp} {s : Shared}
end
section
variable {X : Cx}
end
end L2
namespace FL
open PySem L2
end FL

set_option Elab.async false
set_option linter.all false
set_option maxRecDepth 100000
namespace L2
open PySem PySem.Spec PyProof.Rows
section
variable {X : Cx}
end
end L2
namespace FL
open PySem L2
end FL

set_option Elab.async false
set_option linter.all false
set_option maxRecDepth 100000
namespace PySem
section
variable {prog : Program} {w : World} {K : Type} [DecidableEq K] {knd : HeapKind prog w K} {A : Around} {E : Value → Shared → Prop} {s : Shared}
end
end PySem
namespace L2
open PySem PySem.Spec PyProof.Rows
section
variable {X : Cx} {pins : List (Addr × Obj)} {σ : St} {H : Hp} {s : Shared} {a : Addr} {y z v : V} {u r : Value} {A : Around} {E : Value → Shared → Prop}
end
end L2

set_option Elab.async false
set_option linter.all false
set_option maxRecDepth 100000
namespace FL
open PySem L2
def D.name : D → Str
  | .str s => s
  | _ => Str.empty
def clash (all : Pairs0) (p : Str × D) : Bool := all.any fun q => decide (q.1 = p.1) && !decide (q.2 = p.2)
def dRun (all : Pairs0) : Pairs0 → Pairs0 → Option Pairs0
  | due, [] => some due
  | due, p :: r => if clash all p = true then none else dRun all (if p ∈ due then due else due ++ [p]) r
structure Ded (P F : Pairs0) : Prop where
  mem : ∀ p, p ∈ F ↔ p ∈ P
  run : ∀ (all : Pairs0), (∀ p ∈ P, clash all p = false) → ∀ r, dRun all [] (P ++ r) = dRun all F r
theorem Ded.nil : Ded [] [] := ⟨fun p => Iff.rfl, fun all _ r => rfl⟩
theorem Ded.snoc {P F : Pairs0} (h : Ded P F) (p : Str × D) : Ded (P ++ [p]) (if p ∈ F then F else F ++ [p]) := by
  refine ⟨fun q => ?_, fun all hc r => ?_⟩
  · by_cases hp : p ∈ F
    · rw [if_pos hp, List.mem_append, ← h.mem]
      constructor
      · exact .inl
      · rintro (z | z)
        · exact z
        · rw [List.mem_singleton.mp z]; exact hp
    · rw [if_neg hp, List.mem_append, List.mem_append, h.mem]
  · rw [List.append_assoc, h.run all (fun q hq => hc q (List.mem_append_left _ hq))]
    show (if clash all p = true then none else dRun all (if p ∈ F then F else F ++ [p]) r) = _
    rw [hc p (List.mem_append_right _ (List.mem_singleton.mpr rfl)), if_neg Bool.false_ne_true]
end FL

set_option Elab.async false
set_option linter.all false
set_option maxRecDepth 100000
namespace FL
open PySem L2
section
variable {X : Cx} {a : Expr} {ta : TE} {apos cpos : Pos}
end
section
variable {G : Hp} {σ : St} {ta tb te : TE} {d : D} {K : PySem.W.Frag}
theorem ev_ixs {x : Str} {i : Int} {c : Nat} (hz : x.length ≤ sizeLine) (hc : atI x.cps.toList i = some c) (ha : EvM ta G σ (.str x)) (hb : EvM tb G σ (.int i)) : EvM (tOp (rIx K) ta tb) G σ (.str ⟨#[c]⟩) :=
  ev_op2 (fun M H v y l rv ry Q k => .inr (.inr ⟨x, i, c, rv.of_str, ry.of_int, hz, hc, k _ H (Same.refl _) (.str _)⟩)) ha hb
end
def TV (tt : TT) (σ : St) (H : Hp) (b : Bool) : Prop := ∀ H1, Same H H1 → ∀ Q : Bool → Hp → Prop, (∀ H', Same H1 H' → Q b H') → tt σ H1 Q
section
variable {σ : St} {δ : Dn} {M : List Addr} {H : Hp} {tt tu : TT} {ta ty te : TE} {E : Ends} {b c : Bool} {d : D} {K : PySem.W.Frag}
theorem TV.of (l : Live M H) (h : EvT tt (but H M) σ b) : TV tt σ H b := fun H1 s1 Q k => h M H1 (s1.but M) (l.same s1) Q k
end
end FL

set_option Elab.async false
set_option linter.all false
set_option maxRecDepth 100000
namespace FL
open PySem L2
section
variable {σ : St} {δ : Dn} {M : List Addr} {H : Hp} {tt tu : TT} {ta ty tz te : TE} {E : Ends} {b c : Bool} {d : D} {ds : List D} {K : PySem.W.Frag}
end
end FL

set_option Elab.async false
set_option linter.all false
set_option maxRecDepth 100000
namespace L2
open PySem PySem.Spec PyProof.Rows
section
variable {X : Cx}
theorem call_all_list (hc : X.calm = true) : CallR X (.builtin "all") (fun xs H Q => ∃ (a : Addr) (bs : List Bool), xs = [.ref a] ∧ SqL X.K H a (bs.map V.bl) ∧ Q (.bl (bs.all id)) H) := by
  intro pins s σ H xs us Q I r h
  obtain ⟨a, bs, rfl, hq, q⟩ := h
  obtain ⟨u, rfl, rx⟩ := vals1 r
  cases rx
  obtain ⟨its, rv, p, hz⟩ := I.list hq
  refine call_all_walk (wpAny_pyIter_list p.isList ?_)
  have hne : a ≠ s.heap.objs.size := by
    obtain ⟨o, ho, _⟩ := p.isList
    exact Nat.ne_of_lt (Heap.lt_size ho)
  have hlen : its.length = bs.length := by have := rv.length; rw [List.length_map] at this; exact this.symm
  refine ⟨s.heap.objs.size, _, _, its.toArray.size, _, _, fun i => bs.getD i true, rfl, Walks.list (A := X.A.in1) (prog := X.prog) (w := X.w) (show X.A.in1.handled = none from I.ok.hd hc) s.heap.objs.size a hne its.toArray, ⟨⟨_, Heap.get?_push_size _ rfl, rfl, rfl⟩, p.isList.push _⟩, fun i v s' Q' E' hv hQ' => ?_, fun h' tk hk => ?_⟩
  · have hv : its[i]? = some v := by simpa using hv
    have hi : i < its.length := (List.getElem?_eq_some_iff.mp hv).1
    have hb : (bs.map V.bl)[i]? = some (.bl (bs.getD i true)) := by
      rw [List.getElem?_map, List.getElem?_eq_getElem (by omega), List.getD, List.getElem?_eq_getElem (by omega)]
      rfl
    obtain ⟨w', hw, rw'⟩ := rv.get hb
    rw [hv] at hw
    cases hw
    obtain rfl : v = Value.bool (bs.getD i true) := rw'
    exact wpAny_truthy_bool hQ'
  · have e : (List.range its.toArray.size).all (fun i => bs.getD i true) = bs.all id := by
      rw [List.size_toArray, hlen]
      clear hlen rv hz hq q
      induction bs with
      | nil => rfl
      | cons b r ih =>
        rw [List.length_cons, List.range_succ_eq_map, List.all_cons, List.all_map]
        show (b && (List.range r.length).all fun i => r.getD i true) = (b && r.all id)
        rw [ih]
    refine ⟨.bl (bs.all id), H, I.kept (t' := tk) (fun b o e' => hk b o (fun z => ?_) (Heap.get?_push_of_some _ e')), congrArg Value.bool e, q⟩
    have : b = s.heap.objs.size := by simpa using z
    exact absurd (Heap.lt_size e') (by rw [this]; exact Nat.lt_irrefl _)
end
end L2

set_option Elab.async false
set_option linter.all false
set_option maxRecDepth 100000
namespace L2
open PySem PySem.Spec PyProof.Rows
section
variable {X : Cx}
end
end L2
namespace FL
open PySem L2
section
variable {G : Hp} {σ : St} {ta tb : TE} {K : PySem.W.Frag} {xs ys : List D}
theorem ev_catL (hz : xs.length + ys.length ≤ 1000) (ha : EvM ta G σ (.lst xs)) (hb : EvM tb G σ (.lst ys)) : EvM (tOp rCat ta tb) G σ (.lst (xs ++ ys)) :=
  ev_op2 (fun M H v y l rv ry Q k => by
    obtain ⟨a, vs, rfl, h1, h2⟩ := rv.of_lst
    obtain ⟨b, ws, rfl, h3, h4⟩ := ry.of_lst
    have l1 := h2.length
    have l2 := h4.length
    exact ⟨a, b, vs, ws, rfl, rfl, (but_some h1).2, (but_some h3).2, Nat.le_of_lt (small1000 (by omega)), fun p hp => k _ _ (same_new hp _) (rep_new_lst l hp (h2.append h4))⟩) ha hb
end
section
variable {X : Cx} {N' : List Str} {scope : Scope} {cl : List (Str × Addr)} {C : Addr} {fp : List Addr} {s : Shared} {H : Hp}
theorem pe_ownc {n : Nat} {x : Str} {ps : List Str} {sp : Sp} {e : Expr} {es : List Expr} {t : TA} {p pos : Pos} {m : Nat} (h : Has X.prog X.w X.K X.mg X.base n x ps sp) (hr : Room m X.A) (ha : PA (cxComp X N' scope cl C fp s H) (e :: es) t) (hle : n ≤ m := by decide)
    (hg : Gl (cxComp X N' scope cl C fp s H) x := by rfl) (hdb : (x == ("__debug__" : Str)) = false := by decide) (he : starEach (e :: es) (cxComp X N' scope cl C fp s H).env = (false, eval e (cxComp X N' scope cl C fp s H).env) :: starEach es (cxComp X N' scope cl C fp s H).env := by rfl) (hpl : (backTo pos (starEach es (cxComp X N' scope cl C fp s H).env)).any (·.1) = false := by rfl) :
    PE (cxComp X N' scope cl C fp s H) (.Call (.Name x p) (e :: es) [] pos) (tCall sp [] E0 t) := pe_own (X := cxComp X N' scope cl C fp s H) h hr ha hle hg hdb he hpl
end
structure HasM (P : Program) (w : World) (K : PySem.W.Frag) (mg : Str → Option Value) (base : Heap) (n : Nat) (C : Addr) (m : Str) (ps : List Str) (sp : Sp) : Prop where
  ex : ∃ f fd, FnOk P w K mg base CX0 n f fd ps sp ∧ Binds K fd ps [] ∧ Meth K C m f
structure HasC (P : Program) (w : World) (K : PySem.W.Frag) (mg : Str → Option Value) (base : Heap) (n : Nat) (C : Addr) (x : Str) (ps : List Str) (sp : Sp) : Prop where
  ex : ∃ f fd, FnOk P w K mg base CX0 n f fd ps sp ∧ Binds K fd ps [] ∧ Mk K C f ∧ mg x = some (.ref C)
section
variable {X : Cx} {C : Addr}
end
section
variable {X : Cx} {e : Expr} {te : TE} {p pos : Pos}
theorem pe_allC (B : Bl X.mg) (h : PE X e te) (hc : X.calm = true := by rfl) (hg : Gl X "all" := by rfl) (he : starEach [e] X.env = (false, eval e X.env) :: starEach [] X.env := by rfl) : PE X (.Call (.Name "all" p) [e] [] pos)
    (tCB (fun xs H Q => ∃ (a : Addr) (bs : List Bool), xs = [.ref a] ∧ SqL X.K H a (bs.map V.bl) ∧ Q (.bl (bs.all id)) H) (tCons te tNil)) :=
  pe_callB (call_all_list hc) hg B.all PyProof.Rows.boot_all (pa_cons h pa_nil he) (he := he)
end
section
variable {G : Hp} {σ : St} {ta : TE} {t : TA} {K : PySem.W.Frag}
theorem reps_bls {H : Hp} : ∀ {vs : List V} {bs : List Bool}, Reps H vs (bs.map D.bl) → vs = bs.map V.bl
  | _, [], .nil => rfl
  | _, b :: r, .cons h t => by rw [h.of_bl, reps_bls t]; rfl
theorem ev_all {bs : List Bool} (h : EvA t G σ [.lst (bs.map D.bl)]) : EvM (tCB (fun xs H Q => ∃ (a : Addr) (bs : List Bool), xs = [.ref a] ∧ SqL K H a (bs.map V.bl) ∧ Q (.bl (bs.all id)) H) t) G σ (.bl (bs.all id)) :=
  ev_cb (fun M H xs l rs Q k => by
    obtain ⟨v, rfl, r⟩ := reps1 rs
    obtain ⟨a, vs, rfl, h1, h2⟩ := r.of_lst
    refine ⟨a, bs, rfl, ?_, k _ H (Same.refl _) (.bl _)⟩
    rw [← reps_bls h2]
    exact SqL.of (but_some h1).2) h
end
end FL

set_option Elab.async false
set_option linter.all false
set_option maxRecDepth 100000
namespace PySem
section
variable {prog : Program} {w : World} {K : Type} [DecidableEq K] {knd : HeapKind prog w K} {A : Around} {E : Value → Shared → Prop} {s : Shared}
end
end PySem
namespace L2
open PySem PySem.Spec PyProof.Rows
section
variable {X : Cx}
end
end L2
namespace FL
open PySem L2
section
variable {X : Cx} {e : Expr} {te : TE} {p pos : Pos}
end
section
variable {X : Cx} {N' : List Str} {scope : Scope} {cl : List (Str × Addr)} {C : Addr} {fp : List Addr} {s : Shared} {H : Hp} {e : Expr} {te : TE} {p pos : Pos}
end
end FL
namespace FL
open PySem L2
section
variable {X : Cx} {N' : List Str} {scope : Scope} {cl : List (Str × Addr)} {C : Addr} {fp : List Addr} {s : Shared} {H : Hp} {e : Expr} {te : TE} {p pos : Pos} {f : Str}
end
end FL

set_option Elab.async false
set_option linter.all false
set_option maxRecDepth 100000
namespace FL
open PySem PySem.StrLaws PySem.Builtin PySem.Builtin.Str
abbrev L := List Nat
def S (l : L) : Str := ⟨l.toArray⟩
theorem S_list (l : L) : (S l).cps.toList = l := rfl
theorem S_of (x : Str) : S x.cps.toList = x := by cases x; rfl
theorem S_len (l : L) : (S l).length = l.length := by simp [S, Str.length]
theorem S_inj {a b : L} (h : S a = S b) : a = b := by have := congrArg (fun x : Str => x.cps.toList) h; exact this
theorem len_list (x : Str) : x.cps.toList.length = x.length := by simp [Str.length]
theorem S_app (a b : L) : S a ++ S b = S (a ++ b) := by
  show (⟨a.toArray ++ b.toArray⟩ : Str) = ⟨(a ++ b).toArray⟩
  simp
def Occ (y x : L) (i : Nat) : Prop := y <+: x.drop i
theorem occ_iff (x y : L) (hy : y ≠ []) (i : Nat) : At (S x) (S y) (S x).length i ↔ Occ y x i := by
  have hp : 0 < y.length := List.length_pos_iff.mpr hy
  constructor
  · intro h
    have h2 := h.2
    rw [subAt_eq, S_list, S_list, S_len] at h2
    have := eq_of_beq h2
    refine ⟨(x.drop i).drop y.length, ?_⟩
    have e := List.take_append_drop y.length (x.drop i)
    rw [this] at e
    exact e
  · intro h
    obtain ⟨t, ht⟩ := id h
    have hl := congrArg List.length ht
    rw [List.length_append, List.length_drop] at hl
    refine ⟨by rw [S_len, S_len]; omega, ?_⟩
    rw [subAt_eq, S_list, S_list, S_len, ← ht]
    simp
theorem occ_at {y x : L} {i j : Nat} {c : Nat} (h : Occ y x i) (hc : y[j]? = some c) : x[i + j]? = some c := by
  obtain ⟨t, ht⟩ := h
  have : (x.drop i)[j]? = some c := by
    rw [← ht, List.getElem?_append_left (List.getElem?_eq_some_iff.mp hc).1]
    exact hc
  rwa [List.getElem?_drop] at this
theorem occ_here (a y b : L) : Occ y (a ++ y ++ b) a.length := by
  refine ⟨b, ?_⟩
  rw [List.append_assoc, List.drop_left]
theorem partition_at {a y b : L} (hy : y ≠ []) (h : ∀ k, k < a.length → ¬ Occ y (a ++ y ++ b) k) : Txt.partition (S (a ++ y ++ b)) (S y) = (S a, S y, S b) := by
  unfold Txt.partition
  rcases occ_head (S (a ++ y ++ b)) (S y) 1 (Nat.le_refl _) with ⟨_, hn⟩ | ⟨i, r, e, hi, hk⟩
  · exact absurd ((occ_iff _ _ hy _).mpr (occ_here a y b)) (hn _)
  · have hi' := (occ_iff _ _ hy _).mp hi
    have e2 : i = a.length := by
      rcases Nat.lt_trichotomy i a.length with q | q | q
      · exact absurd hi' (h i q)
      · exact q
      · exact absurd ((occ_iff _ _ hy _).mpr (occ_here a y b)) (hk _ q)
    rw [e]
    subst e2
    show (strSub _ _ _, S y, strSub _ _ _) = _
    have e3 : strSub (S (a ++ y ++ b)) 0 a.length = S a := by
      apply Str.ext'
      apply Array.toList_inj.mp
      rw [strSub_toList, S_list, List.drop_zero, Nat.sub_zero, List.append_assoc, List.take_left]
      rfl
    have e4 : strSub (S (a ++ y ++ b)) (a.length + (S y).length) (S (a ++ y ++ b)).length = S b := by
      apply Str.ext'
      apply Array.toList_inj.mp
      rw [strSub_toList, S_list, S_len, S_len, ← List.length_append, List.drop_left, List.take_of_length_le]
      · rfl
      · simp only [List.length_append]; omega
    rw [e3, e4]
theorem partition_no {x y : L} (hy : y ≠ []) (h : ∀ k, ¬ Occ y x k) : Txt.partition (S x) (S y) = (S x, Str.empty, Str.empty) := by
  unfold Txt.partition
  rcases occ_head (S x) (S y) 1 (Nat.le_refl _) with ⟨e, hn⟩ | ⟨i, r, e, hi, hk⟩
  · rw [e]
  · exact absurd ((occ_iff _ _ hy _).mp hi) (h _)
def joinL (y : L) : List L → L
  | [] => []
  | [p] => p
  | p :: q :: r => p ++ y ++ joinL y (q :: r)
def Tight (y : L) : List L → Prop
  | [] => False
  | [p] => ∀ k, ¬ Occ y p k
  | p :: q :: r => (∀ k, k < p.length → ¬ Occ y (p ++ y ++ joinL y (q :: r)) k) ∧ Tight y (q :: r)
theorem parts_tight (x y : L) (hy : y ≠ []) : ∀ (ps : List L) (cuts : List Nat) (a f : Nat), a ≤ x.length → ChainG (S x) (S y) (S x).length a cuts f → (∀ k, f ≤ k → ¬ At (S x) (S y) (S x).length k) → x.drop a = joinL y ps → Tight y ps →
    partsFrom (S x) (S y).length a cuts = ps.map S
  | [], _, _, _, _, _, _, _, t => t.elim
  | [p], cuts, a, f, ha, hc, hf, e, t => by
    cases cuts with
    | nil =>
      show [strSub (S x) a (S x).length] = [S p]
      congr 1
      apply Str.ext'
      apply Array.toList_inj.mp
      rw [strSub_toList, S_list, S_len, List.take_of_length_le (by simp), e]
      rfl
    | cons c r =>
      have h1 := (occ_iff _ _ hy _).mp hc.2.1
      have e' : x.drop a = p := e
      exact absurd (show Occ y p (c - a) from by
        unfold Occ at h1 ⊢
        rw [← e', List.drop_drop]
        have : a + (c - a) = c := by have := hc.1; omega
        rw [this]; exact h1) (t _)
  | p :: q :: r, cuts, a, f, ha, hc, hf, e, t => by
    have hx : x = x.take a ++ (p ++ y ++ joinL y (q :: r)) := by
      have := (List.take_append_drop a x).symm
      rw [e] at this
      exact this
    have hla : (x.take a).length = a := by rw [List.length_take]; omega
    have here : Occ y x (a + p.length) := by
      refine ⟨joinL y (q :: r), ?_⟩
      rw [← List.drop_drop, e]
      show _ = (p ++ y ++ joinL y (q :: r)).drop p.length
      rw [List.append_assoc, List.drop_left]
    have none' : ∀ k, a ≤ k → k < a + p.length → ¬ Occ y x k := fun k h1 h2 h3 => by
      refine t.1 (k - a) (by omega) ?_
      unfold Occ at h3 ⊢
      have : p ++ y ++ joinL y (q :: r) = x.drop a := e.symm
      rw [this, List.drop_drop]
      have : a + (k - a) = k := by omega
      rw [this]; exact h3
    have hle : a + p.length + y.length ≤ x.length := by
      obtain ⟨z, hz⟩ := here
      have := congrArg List.length hz
      rw [List.length_append, List.length_drop] at this
      have h0 : 0 < y.length := List.length_pos_iff.mpr hy
      omega
    cases cuts with
    | nil =>
      have e1 : f = a := hc
      exact absurd ((occ_iff _ _ hy _).mpr here) (hf _ (by omega))
    | cons c cs =>
      have h1 := (occ_iff _ _ hy _).mp hc.2.1
      have ec : c = a + p.length := by
        rcases Nat.lt_trichotomy c (a + p.length) with z | z | z
        · exact absurd h1 (none' c hc.1 z)
        · exact z
        · exact absurd ((occ_iff _ _ hy _).mpr here) (hc.2.2.1 _ (by omega) z)
      subst ec
      have hd : x.drop (a + p.length + (S y).length) = joinL y (q :: r) := by
        rw [S_len, Nat.add_assoc, ← List.drop_drop, e]
        show (p ++ y ++ joinL y (q :: r)).drop _ = _
        rw [← List.length_append, List.drop_left]
      have ih := parts_tight x y hy (q :: r) cs (a + p.length + (S y).length) f (by rw [S_len]; omega) hc.2.2.2 hf hd t.2
      show strSub (S x) a (a + p.length) :: partsFrom (S x) (S y).length (a + p.length + (S y).length) cs = S p :: (q :: r).map S
      rw [ih]
      congr 1
      apply Str.ext'
      apply Array.toList_inj.mp
      rw [strSub_toList, S_list, e]
      have : a + p.length - a = p.length := by omega
      rw [this]
      show (p ++ y ++ joinL y (q :: r)).take p.length = _
      rw [List.append_assoc, List.take_left]
      rfl
theorem kind_low {y : L} (h : ∀ c ∈ y, c < 256) (x : Str) : ¬ PySem.Builtin.Str.strKind x < PySem.Builtin.Str.strKind (S y) := by
  have h1 : PySem.Builtin.Str.strKind (S y) = 1 := by
    unfold PySem.Builtin.Str.strKind
    rw [if_pos]
    show y.toArray.all (· < 256) = true
    rw [← Array.all_toList]
    exact List.all_eq_true.mpr fun c hc => decide_eq_true (h c hc)
  have h2 : 1 ≤ PySem.Builtin.Str.strKind x := by
    unfold PySem.Builtin.Str.strKind
    split
    · omega
    split <;> omega
  omega
theorem split_tight {y : L} {ps : List L} (hy : y ≠ []) (hl : ∀ c ∈ y, c < 256) (t : Tight y ps) : Txt.split (S (joinL y ps)) (S y) = ps.map S := by
  obtain ⟨f, hG, hn⟩ := occ_tight (S (joinL y ps)) (S y) (by rw [S_len]; exact List.length_pos_iff.mpr hy)
  have key := parts_tight (joinL y ps) y hy ps _ 0 f (Nat.zero_le _) hG hn rfl t
  have one : occurrences (S (joinL y ps)) (S y) 0 (S (joinL y ps)).length ((S (joinL y ps)).length + 1) = [] → [S (joinL y ps)] = ps.map S := fun e => by
    rw [e] at key
    rw [← key]
    show _ = [strSub _ _ _]
    rw [sub_whole]
  unfold Txt.split
  by_cases h1 : (decide ((S (joinL y ps)).length < (S y).length) || decide (PySem.Builtin.Str.strKind (S (joinL y ps)) < PySem.Builtin.Str.strKind (S y))) = true
  · rw [if_pos h1]
    rw [Bool.or_eq_true, decide_eq_true_eq, decide_eq_true_eq] at h1
    rcases h1 with h1 | h1
    · refine one ?_
      rcases occ_head (S (joinL y ps)) (S y) ((S (joinL y ps)).length + 1) (by omega) with ⟨e, _⟩ | ⟨i, r, e, hi, _⟩
      · exact e
      · have := hi.1; omega
    · exact absurd h1 (kind_low hl _)
  · rw [if_neg h1]
    by_cases h2 : (occurrences (S (joinL y ps)) (S y) 0 (S (joinL y ps)).length ((S (joinL y ps)).length + 1)).isEmpty = true
    · rw [if_pos h2]
      exact one (List.isEmpty_iff.mp h2)
    · rw [if_neg h2, partsBetween_eq]
      exact key
def sp : Nat → L → Bool
  | _, [] => true
  | p, c :: r => (c != 32 || p == 44) && sp c r
theorem sp_app : ∀ (a b : L) (p : Nat), sp p (a ++ b) = (sp p a && sp (a.getLast?.getD p) b)
  | [], b, p => by simp [sp]
  | [c], b, p => by simp [sp]
  | c :: d :: r, b, p => by
    show ((c != 32 || p == 44) && sp c ((d :: r) ++ b)) = (((c != 32 || p == 44) && sp c (d :: r)) && sp (((c :: d :: r).getLast?).getD p) b)
    rw [sp_app (d :: r) b c, Bool.and_assoc]
    have : ((c :: d :: r).getLast?).getD p = ((d :: r).getLast?).getD c := by
      rw [List.getLast?_cons_cons, List.getLast?_eq_some_getLast (by simp)]
      rfl
    rw [this]
theorem sp_no : ∀ {a : L} (p : Nat), (∀ c ∈ a, c ≠ 32) → sp p a = true
  | [], _, _ => rfl
  | c :: r, p, h => by
    show ((c != 32 || p == 44) && sp c r) = true
    rw [sp_no c fun d hd => h d (List.mem_cons_of_mem _ hd)]
    simp [h c List.mem_cons_self]
theorem sp_at : ∀ {a : L} {p j : Nat}, sp p a = true → a[j + 1]? = some 32 → a[j]? = some 44
  | [], _, _, _, h => by simp at h
  | c :: r, p, j, hs, h => by
    rw [sp, Bool.and_eq_true] at hs
    cases j with
    | zero =>
      cases r with
      | nil => simp at h
      | cons d t =>
        have h1 : d = 32 := by simpa using h
        have h2 := hs.2
        rw [sp, Bool.and_eq_true, h1] at h2
        have := h2.1
        simp at this
        simp [this]
    | succ j =>
      have := sp_at (a := r) (j := j) hs.2 (by simpa using h)
      simpa using this
def Sep (y : L) (n : Nat) : Prop := y.length = n + 2 ∧ y[n + 1]? = some 32 ∧ (∃ c, y[n]? = some c ∧ c ≠ 44) ∧ 41 ∉ y
theorem sep_none {y x : L} {n p : Nat} (h : Sep y n) (hs : sp p x = true) (k : Nat) : ¬ Occ y x k := fun o => by
  obtain ⟨c, h1, h2⟩ := h.2.2.1
  have e1 := occ_at o h.2.1
  have e2 := occ_at o h1
  have := sp_at hs (j := k + n) e1
  rw [e2] at this
  exact h2 (Option.some.inj this)
theorem sep_first {y a b : L} {n p : Nat} (h : Sep y n) (hs : sp p a = true) (ha : a.getLast? = some 41) (k : Nat) (hk : k < a.length) : ¬ Occ y (a ++ y ++ b) k := fun o => by
  have hg : ∀ j, j < a.length → (a ++ y ++ b)[j]? = a[j]? := fun j hj => by rw [List.append_assoc, List.getElem?_append_left hj]
  obtain ⟨c, h1, h2⟩ := h.2.2.1
  by_cases hb : k + (n + 1) < a.length
  · have e1 := occ_at o h.2.1
    have e2 := occ_at o h1
    rw [hg _ hb] at e1
    rw [hg _ (by omega)] at e2
    have := sp_at hs (j := k + n) e1
    rw [e2] at this
    exact h2 (Option.some.inj this)
  · have hj : a.length - 1 - k < y.length := by rw [h.1]; omega
    have e1 := occ_at o (List.getElem?_eq_getElem hj)
    have e2 : k + (a.length - 1 - k) = a.length - 1 := by omega
    rw [e2, hg _ (by omega), ← List.getLast?_eq_getElem?, ha] at e1
    exact h.2.2.2 (by rw [Option.some.inj e1]; exact List.getElem_mem hj)
theorem tight_sep {y : L} {n : Nat} (h : Sep y n) : ∀ {ps : List L}, ps ≠ [] → (∀ p ∈ ps, sp 0 p = true ∧ p.getLast? = some 41) → Tight y ps
  | [], hn, _ => absurd rfl hn
  | [p], _, hp => fun k => sep_none h (hp p List.mem_cons_self).1 k
  | p :: q :: r, _, hp => ⟨fun k hk => sep_first h (hp p List.mem_cons_self).1 (hp p List.mem_cons_self).2 k hk, tight_sep h (by simp) fun z hz => hp z (List.mem_cons_of_mem _ hz)⟩
theorem tight_first {c : Nat} {y : L} : ∀ {ps : List L}, ps ≠ [] → (∀ p ∈ ps, c ∉ p) → Tight (c :: y) ps
  | [], hn, _ => absurd rfl hn
  | [p], _, hp => fun k o => by
    have := occ_at (j := 0) (c := c) o rfl
    exact hp p List.mem_cons_self (List.mem_of_getElem? this)
  | p :: q :: r, _, hp => ⟨fun k hk o => by
    have := occ_at (j := 0) (c := c) o rfl
    rw [List.append_assoc, List.getElem?_append_left (by omega)] at this
    exact hp p List.mem_cons_self (List.mem_of_getElem? this), tight_first (by simp) fun z hz => hp z (List.mem_cons_of_mem _ hz)⟩
end FL

set_option Elab.async false
set_option linter.all false
set_option maxRecDepth 100000
namespace L2
open PySem PySem.Spec PyProof.Rows PySem.Builtin PySem.Builtin.Str
theorem vals_strs : ∀ l : List (Str × Tok), Vals ((l.map (·.1)).map V.str) (strValues l)
  | [] => .nil
  | p :: r => .cons ⟨p.2, rfl⟩ (vals_strs r)
theorem strs_vals : ∀ {zs : List Str} {us : List Value}, Vals (zs.map V.str) us → StrsAre us zs
  | [], _, .nil => .nil
  | z :: r, _, .cons ⟨t, e⟩ q => by subst e; exact .cons z t (strs_vals q)
section
variable {X : Cx}
def rPart : V → List V → Hp → VK → Prop := fun x vs H Q => ∃ z y, x = .str z ∧ vs = [.str y] ∧ (y.length == 0) = false ∧ z.length ≤ sizeLine ∧
  ∀ p, H p = none → Q (.ref p) (upd H p (.tup [.str (Txt.partition z y).1, .str (Txt.partition z y).2.1, .str (Txt.partition z y).2.2]))
theorem mt_partition : MtM X "str.partition" rPart := by
  intro pins s σ H x vs v us Q I rx rv h
  obtain ⟨z, y, rfl, rfl, hy, hz, q⟩ := h
  obtain ⟨t, rfl⟩ := rx
  obtain ⟨u, rfl, ru⟩ := rv.one
  obtain ⟨t', rfl⟩ := ru
  refine call_meets F.slot_str_partition (typeIs_str _ _ _) F.entry_str_partition (F.args_str_partition_2 _ _) (meets_str_partition z y t t' hy hz) ?_
  have fin : ∀ (a b c : Str) (ta tb tc : Tok) (k : Nat), (Txt.partition z y) = (a, b, c) → EP X pins σ Q (.ref s.heap.objs.size) { s with heap := s.heap.push { cls := .type "tuple", data := .seq [.str a ta, .str b tb, .str c tc].toArray }, toks := k } := fun a b c ta tb tc k e => by
    rw [e] at q
    refine ⟨.ref s.heap.objs.size, upd H s.heap.objs.size (.tup [.str a, .str b, .str c]), I.laid (t' := k) (fun b' u' e' => Heap.get?_push_of_some _ e') (Nat.le_refl _) ?_, rfl, q _ I.fresh⟩
    exact ⟨by show 3 ≤ sizeLine; decide, _, .cons ⟨ta, rfl⟩ (.cons ⟨tb, rfl⟩ (.cons ⟨tc, rfl⟩ .nil)), ⟨_, Heap.get?_push_size _ rfl, rfl, _, rfl⟩⟩
  unfold Txt.partition at fin
  revert fin
  cases occurrences z y 0 z.length 1 with
  | nil => intro fin; exact fin _ _ _ _ _ _ _ rfl
  | cons i r => intro fin; exact fin _ _ _ _ _ _ _ rfl
def rSplit : V → List V → Hp → VK → Prop := fun x vs H Q => ∃ z y, x = .str z ∧ vs = [.str y] ∧ (y.length == 0) = false ∧ z.length + 2 ≤ sizeLine ∧ ∀ p, H p = none → Q (.ref p) (upd H p (.lst ((Txt.split z y).map V.str)))
theorem mt_split : MtM X "str.split" rSplit := by
  intro pins s σ H x vs v us Q I rx rv h
  obtain ⟨z, y, rfl, rfl, hy, hz, q⟩ := h
  obtain ⟨t, rfl⟩ := rx
  obtain ⟨u, rfl, ru⟩ := rv.one
  obtain ⟨t', rfl⟩ := ru
  have fin : ∀ (l : List (Str × Tok)) (k : Nat), l.map (·.1) = Txt.split z y → l.length ≤ sizeLine → EP X pins σ Q (.ref s.heap.objs.size) { s with heap := s.heap.push { cls := .type "list", data := .seq (strValues l).toArray }, toks := k } := fun l k e hl => by
    refine ⟨.ref s.heap.objs.size, _, I.lnew (t' := k) (vals_strs l) (by simpa using hl), rfl, ?_⟩
    rw [e]
    exact q _ I.fresh
  have cnt : (partsBetween z (occurrences z y 0 z.length (z.length + 1)) y.length).length ≤ sizeLine := by
    rw [length_partsBetween]
    have := StrLaws.occ_length_le z y 0 z.length (z.length + 1)
    omega
  by_cases c1 : (decide (z.length < y.length) || decide (strKind z < strKind y)) = true
  · exact call_meets F.slot_str_split (typeIs_str _ _ _) F.entry_str_split (F.args_str_split_2 _ _) (meets_str_split_cannot_occur z y t t' c1) (fin [(z, t)] s.toks (if_pos c1).symm (by show 1 ≤ sizeLine; decide))
  · by_cases c2 : (occurrences z y 0 z.length (z.length + 1)).isEmpty = true
    · exact call_meets F.slot_str_split (typeIs_str _ _ _) F.entry_str_split (F.args_str_split_2 _ _) (meets_str_split_not_found z y t t' (Bool.eq_false_iff.mpr c1) hy c2) (fin [(z, t)] s.toks ((if_neg c1).trans (if_pos c2)).symm (by show 1 ≤ sizeLine; decide))
    · refine call_meets F.slot_str_split (typeIs_str _ _ _) F.entry_str_split (F.args_str_split_2 _ _) (meets_str_split_sep z y t t' (Bool.eq_false_iff.mpr c1) hy (Bool.eq_false_iff.mpr c2) (by omega) cnt) ?_
      have g := fin (numbered s.toks (partsBetween z (occurrences z y 0 z.length (z.length + 1)) y.length)) (s.toks + (partsBetween z (occurrences z y 0 z.length (z.length + 1)) y.length).length)
        ((numbered_texts _ _).trans ((if_neg c1).trans (if_neg c2)).symm) (by rw [← List.length_map (f := (·.1)), numbered_texts]; exact cnt)
      rw [← strsFrom_eq] at g
      exact g
def rJoin : V → List V → Hp → VK → Prop := fun x vs H Q => ∃ z p zs, x = .str z ∧ vs = [.ref p] ∧ H p = some (.lst (zs.map V.str)) ∧ (zs.map (·.length)).sum + zs.length * z.length ≤ 16777216 ∧ Q (.str (Txt.join z zs)) H
theorem mt_join : MtM X "str.join" rJoin := by
  intro pins s σ H x vs v us Q I rx rv h
  obtain ⟨z, p, zs, rfl, rfl, hH, hz, q⟩ := h
  obtain ⟨t, rfl⟩ := rx
  obtain ⟨u, rfl, ru⟩ := rv.one
  cases ru
  obtain ⟨its, r, pl, hzl⟩ := I.list (SqL.of hH)
  exact join_list pl.isList (by simpa using strs_vals r) hz fun t' k => ⟨.str _, H, I.kept (t' := k) fun b o e => e, ⟨_, rfl⟩, q⟩
def rEnds : V → List V → Hp → VK → Prop := fun x vs H Q => ∃ z y, x = .str z ∧ vs = [.str y] ∧ Q (.bl (Txt.endswith z y)) H
theorem mt_endswith : MtM X "str.endswith" rEnds := by
  intro pins s σ H x vs v us Q I rx rv h
  obtain ⟨z, y, rfl, rfl, q⟩ := h
  obtain ⟨t, rfl⟩ := rx
  obtain ⟨u, rfl, ru⟩ := rv.one
  obtain ⟨t', rfl⟩ := ru
  exact SC.endswith ⟨.bl _, H, I, rfl, q⟩
def rStarts : V → List V → Hp → VK → Prop := fun x vs H Q => ∃ z y, x = .str z ∧ vs = [.str y] ∧ Q (.bl (Txt.startswith z y)) H
theorem mt_startswith : MtM X "str.startswith" rStarts := by
  intro pins s σ H x vs v us Q I rx rv h
  obtain ⟨z, y, rfl, rfl, q⟩ := h
  obtain ⟨t, rfl⟩ := rx
  obtain ⟨u, rfl, ru⟩ := rv.one
  obtain ⟨t', rfl⟩ := ru
  exact SC.startswith ⟨.bl _, H, I, rfl, q⟩
def rSlS : V → Option Int → Option Int → Hp → VK → Prop := fun x lo hi H Q => ∃ z, x = .str z ∧ z.length ≤ sizeLine ∧ Q (.str (Txt.slice z lo hi)) H
theorem sl_str : SlR X rSlS := by
  intro pins s σ H x v vl vu lo hi sl Q I rx hs pl pu h
  obtain ⟨z, rfl, hz, q⟩ := h
  obtain ⟨t, rfl⟩ := rx
  refine ⟨"str", _, F.slot_str_getitem.lookup, typeIs_str _ _ _, ?_⟩
  have fin : ∀ t' k, EP X pins σ Q (.str (Txt.slice z lo hi) t') { s with toks := k } := fun t' k => ⟨.str _, H, I.kept (t' := k) fun b o e => e, ⟨_, rfl⟩, q⟩
  cases pl with
  | none =>
    cases pu with
    | none => exact wpAny_getItem_str_slice (l := none) (u := none) (st := none) hs rfl (post_val_or_str ⟨Nat.le_trans (Txt.slice_le z _ _) hz, fin⟩)
    | int j uj => exact wpAny_getItem_str_slice (l := none) (u := some (j, uj)) (st := none) hs rfl (post_val_or_str ⟨Nat.le_trans (Txt.slice_le z _ _) hz, fin⟩)
  | int i ui =>
    cases pu with
    | none => exact wpAny_getItem_str_slice (l := some (i, ui)) (u := none) (st := none) hs rfl (post_val_or_str ⟨Nat.le_trans (Txt.slice_le z _ _) hz, fin⟩)
    | int j uj => exact wpAny_getItem_str_slice (l := some (i, ui)) (u := some (j, uj)) (st := none) hs rfl (post_val_or_str ⟨Nat.le_trans (Txt.slice_le z _ _) hz, fin⟩)
theorem call_int_text : CallR X (.type "int") (fun xs H Q => ∃ x n, xs = [.str x] ∧ PySem.intText? x = some n ∧ x.length ≤ 640 ∧ Q (.int n) H) := by
  intro pins s σ H xs us Q I r h
  obtain ⟨x, n, rfl, hn, hl, q⟩ := h
  obtain ⟨u, rfl, ru⟩ := Vals.one r
  obtain ⟨t, rfl⟩ := ru
  exact PySem.W.KIN.call_text hn hl ⟨.int n, H, I.tok _, ⟨_, rfl⟩, q⟩
end
section
variable {X : Cx} {e e1 e2 : Expr} {es : List Expr} {te : TE} {t : Str → TE} {pos : Pos}
def PJ (X : Cx) (es : List Expr) (t : Str → TE) : Prop :=
  ∀ (acc : Str) (pins : List (Addr × Obj)) (s : Shared) (σ : St) (H : Hp) (Q : VK), Inv X pins σ H s → t acc σ H Q → wpAny (model X.prog X.w) X.A (joinParts acc (evalEach es X.env)) (EP X pins σ Q) X.xe s
def tJ0 : Str → TE := fun acc _ H Q => acc.length ≤ sizeLine ∧ Q (.str acc) H
def tJ1 (te : TE) (t : Str → TE) : Str → TE := fun acc σ H Q => te σ H fun x H1 => ∃ y, x = .str y ∧ (acc ++ y).length ≤ sizeLine ∧ t (acc ++ y) σ H1 Q
theorem pj_nil : PJ X [] tJ0 := fun acc pins s σ H Q I h => joinParts_nilE (joinParts_nil ⟨.str acc, H, I.tok _, ⟨_, rfl⟩, h.2⟩ h.1)
theorem pj_cons (he : PE X e te) (hr : PJ X es t) : PJ X (e :: es) (tJ1 te t) := fun acc pins s σ H Q I h => by
  refine joinParts_consE (joinParts_cons (thn (he pins s σ H _ I h) fun v s1 ⟨x, H1, I1, r1, y, ey, hz, q⟩ => ?_))
  subst ey
  obtain ⟨tk, rfl⟩ := r1
  exact ⟨hz, hr (acc ++ y) pins s1 σ H1 Q I1 q⟩
theorem pe_fstr (h : PJ X (e1 :: e2 :: es) t) : PE X (.JoinedStr (e1 :: e2 :: es) pos) (t Str.empty) := fun pins s σ H Q I hq => JoinedStr_many (h Str.empty pins s σ H Q I hq)
end
def Its (x : Str) : It := ⟨fun i _ => i < x.cps.size, fun i H v H' => H' = H ∧ ∃ c, x.cps[i]? = some c ∧ v = .str ⟨#[c]⟩, fun i _ => x.cps.size ≤ i⟩
theorem turn_str {P : Program} {w : World} {K : PySem.W.Frag} {tg : Expr} (it : Addr) (x : Str) (t : Tok) : Turn P w K tg (Its x) [it] it (fun i h => h.IsStrIter it "str_ascii_iterator" x t i) where
  mem := by simp
  obj := fun i h st b hb => by
    obtain rfl : b = it := by simpa using hb
    obtain ⟨o, e, c, d⟩ := st
    exact ⟨o, e, fun v z => by rw [d] at z; cases z⟩
  keep := fun i h h' st k => let ⟨o, e, r⟩ := st; ⟨o, k it (by simp) o e, r⟩
  item := by
    intro X hP hw hK hc i pins s σ H E I hf st hg
    subst hP hw hK
    have hg : i < x.cps.size := hg
    obtain ⟨f0, f1, f2, f3, f4, f5⟩ := hf it (by simp)
    refine wpAny_pyNext_ascii_item st (c := x.cps[i]) (by simp [hg]) fun h' st' sb => ?_
    have I1 : Inv X pins σ H { s with heap := h', toks := s.toks + 1 } := I.turned (t' := s.toks + 1) (fun b o hb e => (sb.2 b hb).trans e) f0 f1 f3 f4 f5
    obtain ⟨o, e, c, d⟩ := id st'
    exact ⟨_, rfl, go_of (s := { s with heap := h', toks := s.toks + 1 }) e c d (by decide) ⟨.str ⟨#[x.cps[i]]⟩, H, I1, ⟨_, rfl⟩, ⟨rfl, _, by simp [hg], rfl⟩, st', fun b hb => (hf b hb).1⟩⟩
  done := by
    intro X hP hw hK hc i pins s σ H E I hf st hg
    subst hP hw hK
    have hg : x.cps.size ≤ i := hg
    obtain ⟨f0, f1, f2, f3, f4, f5⟩ := hf it (by simp)
    exact wpAny_pyNext_ascii_end (I.ok.hd hc) st (by simpa using hg) fun h' eb => ⟨rfl, I.turned (t' := s.toks) (fun b o hb e => eb b o hb e) f0 f1 f3 f4 f5⟩
  self := fun _ _ _ _ _ st h => wpAny_pyIter_striter_ascii st h
section
variable {X : Cx} {tg : Expr}
def iStr (te : TE) : TI := fun σ H R => te σ H fun v H1 => ∃ x, v = .str x ∧ x.cps.all (· < 128) = true ∧ R (Its x) H1
theorem pi_str {e : Expr} {te : TE} (h : PE X e te) : PI X tg e (iStr te) := by
  intro pins s σ H R I hq
  refine thn (h pins s σ H _ I hq) fun v s1 ⟨y, H1, I1, r1, x, ey, ha, q⟩ => ?_
  subst ey
  obtain ⟨t, rfl⟩ := r1
  refine wpAny_pyIter_ascii ha ?_
  refine ⟨s1.heap.objs.size, [s1.heap.objs.size], _, _, H1, rfl, I1.kept (t' := s1.toks) fun b o e => Heap.get?_push_of_some _ e, turn_str _ x t, ⟨_, Heap.get?_push_size _ rfl, rfl, rfl⟩, fun b hb => ?_, q⟩
  obtain rfl : b = s1.heap.objs.size := by simpa using hb
  exact I1.fpOk (Nat.le_refl _) (I1.hok.fresh (Nat.le_refl _))
end
end L2
namespace FL
open PySem L2
section
variable {G : Hp} {σ : St} {ta tb te : TE} {t : TA} {d : D} {ds : List D} {K : PySem.W.Frag}
theorem ev_bm {T : String} {r : V → List V → Hp → VK → Prop} {d0 : D} (hty : ∀ M H x, Rep (but H M) x d0 → tyV K T x H) (hr : ∀ M H x xs, Live M H → Rep (but H M) x d0 → Reps (but H M) xs ds → ∀ Q : VK, (∀ v H', Same H H' → Rep (but H' M) v d → Q v H') → r x xs H Q)
    (ha : EvM ta G σ d0) (ht : EvA t G σ ds) : EvM (tBM K T r ta t) G σ d :=
  fun M H s l Q k => ha M H s l _ fun x H1 s1 rx => ⟨hty M H1 x rx, ht M H1 (s.trans (s1.but M)) (l.same s1) _ fun xs H2 s2 rs =>
    hr M H2 x xs (l.same (s1.trans s2)) (rx.mono (s2.but M)) rs Q fun v H3 s3 r3 => k v H3 (s1.trans (s2.trans s3)) r3⟩
theorem ty_str {M : List Addr} {H : Hp} {x : V} {z : Str} (r : Rep (but H M) x (.str z)) : tyV K "str" x H := by rw [r.of_str]; rfl
theorem ev_part {z y a b c : Str} (hy : (y.length == 0) = false) (hz : z.length ≤ sizeLine) (e : Txt.partition z y = (a, b, c)) (ha : EvM ta G σ (.str z)) (hb : EvA t G σ [.str y]) : EvM (tBM K "str" rPart ta t) G σ (.tup [.str a, .str b, .str c]) :=
  ev_bm (fun M H x r => ty_str r) (fun M H x xs l rx rs Q k => by
    obtain ⟨u, rfl, ru⟩ := reps1 rs
    rw [rx.of_str, ru.of_str]
    refine ⟨z, y, rfl, rfl, hy, hz, fun p hp => ?_⟩
    rw [e]
    exact k _ _ (same_new hp _) (rep_new_tup l hp (.cons (.str _) (.cons (.str _) (.cons (.str _) .nil))))) ha hb
theorem reps_strT {H : Hp} : ∀ zs : List Str, Reps H (zs.map V.str) (zs.map D.str)
  | [] => .nil
  | z :: r => .cons (.str z) (reps_strT r)
theorem reps_of_strs {H : Hp} : ∀ {zs : List Str} {vs : List V}, Reps H vs (zs.map D.str) → vs = zs.map V.str
  | [], _, .nil => rfl
  | z :: r, _, .cons h q => by rw [h.of_str, reps_of_strs q]; rfl
theorem ev_split {z y : Str} {zs : List Str} (hy : (y.length == 0) = false) (hz : z.length + 2 ≤ sizeLine) (e : Txt.split z y = zs) (ha : EvM ta G σ (.str z)) (hb : EvA t G σ [.str y]) : EvM (tBM K "str" rSplit ta t) G σ (.lst (zs.map D.str)) :=
  ev_bm (fun M H x r => ty_str r) (fun M H x xs l rx rs Q k => by
    obtain ⟨u, rfl, ru⟩ := reps1 rs
    rw [rx.of_str, ru.of_str]
    refine ⟨z, y, rfl, rfl, hy, hz, fun p hp => ?_⟩
    rw [e]
    exact k _ _ (same_new hp _) (rep_new_lst l hp (reps_strT zs))) ha hb
theorem ev_join {z : Str} {zs : List Str} (hz : (zs.map (·.length)).sum + zs.length * z.length ≤ 16777216) (ha : EvM ta G σ (.str z)) (hb : EvA t G σ [.lst (zs.map D.str)]) : EvM (tBM K "str" rJoin ta t) G σ (.str (Str.join z zs)) :=
  ev_bm (fun M H x r => ty_str r) (fun M H x xs l rx rs Q k => by
    obtain ⟨u, rfl, ru⟩ := reps1 rs
    obtain ⟨p, vs, rfl, h1, h2⟩ := ru.of_lst
    rw [rx.of_str]
    refine ⟨z, p, zs, rfl, rfl, by rw [← reps_of_strs h2]; exact (but_some h1).2, hz, ?_⟩
    have e : Txt.join z zs = Str.join z zs := StrLaws.glued_eq_join z zs
    rw [e]
    exact k _ H (Same.refl _) (.str _)) ha hb
theorem ev_ends {z y : Str} (ha : EvM ta G σ (.str z)) (hb : EvA t G σ [.str y]) : EvM (tBM K "str" rEnds ta t) G σ (.bl (Txt.endswith z y)) :=
  ev_bm (fun M H x r => ty_str r) (fun M H x xs l rx rs Q k => by
    obtain ⟨u, rfl, ru⟩ := reps1 rs
    rw [rx.of_str, ru.of_str]
    exact ⟨z, y, rfl, rfl, k _ H (Same.refl _) (.bl _)⟩) ha hb
theorem ev_starts {z y : Str} (ha : EvM ta G σ (.str z)) (hb : EvA t G σ [.str y]) : EvM (tBM K "str" rStarts ta t) G σ (.bl (Txt.startswith z y)) :=
  ev_bm (fun M H x r => ty_str r) (fun M H x xs l rx rs Q k => by
    obtain ⟨u, rfl, ru⟩ := reps1 rs
    rw [rx.of_str, ru.of_str]
    exact ⟨z, y, rfl, rfl, k _ H (Same.refl _) (.bl _)⟩) ha hb
theorem ev_sliceS {z : Str} {tl th : TO} {lo hi : Option Int} (hz : z.length ≤ sizeLine) (ha : EvM ta G σ (.str z)) (hl : ∀ M H, Same G (but H M) → Live M H → ∀ Q : Option Int → Hp → Prop, (∀ H', Same H H' → Q lo H') → tl σ H Q) (hh : ∀ M H, Same G (but H M) → Live M H → ∀ Q : Option Int → Hp → Prop, (∀ H', Same H H' → Q hi H') → th σ H Q) :
    EvM (tSl rSlS ta tl th) G σ (.str (Txt.slice z lo hi)) := fun M H s l Q k => ha M H s l _ fun x H1 s1 rx => hl M H1 (s.trans (s1.but M)) (l.same s1) _ fun H2 s2 => hh M H2 (s.trans ((s1.trans s2).but M)) (l.same (s1.trans s2)) _ fun H3 s3 => by
    rw [rx.of_str]
    exact ⟨z, rfl, hz, k _ H3 (s1.trans (s2.trans s3)) (.str _)⟩
theorem evo_some {i : Int} (h : EvM ta G σ (.int i)) : ∀ M H, Same G (but H M) → Live M H → ∀ Q : Option Int → Hp → Prop, (∀ H', Same H H' → Q (some i) H') → tPart ta σ H Q := fun M H s l Q k => h M H s l _ fun x H1 s1 rx => ⟨i, rx.of_int, k H1 s1⟩
theorem ev_intT {x : Str} {n : Int} (hn : PySem.intText? x = some n) (hl : x.length ≤ 640) (h : EvA t G σ [.str x]) : EvM (tCB (fun xs H Q => ∃ x n, xs = [.str x] ∧ PySem.intText? x = some n ∧ x.length ≤ 640 ∧ Q (.int n) H) t) G σ (.int n) :=
  ev_cb (fun M H xs l rs Q k => by
    obtain ⟨u, rfl, ru⟩ := reps1 rs
    exact ⟨x, n, by rw [ru.of_str], hn, hl, k _ H (Same.refl _) (.int _)⟩) h
theorem ev_addS {a b : Str} (hz : a.length + b.length ≤ sizeLine) (ha : EvM ta G σ (.str a)) (hb : EvM tb G σ (.str b)) : EvM (tOp (fun x y H Q => ∃ i j, x = .str i ∧ y = .str j ∧ i.length + j.length ≤ sizeLine ∧ Q (.str (i ++ j)) H) ta tb) G σ (.str (a ++ b)) :=
  ev_op2 (fun M H x y l rx ry Q k => ⟨a, b, rx.of_str, ry.of_str, hz, k _ H (Same.refl _) (.str _)⟩) ha hb
theorem ev_inS {x : Str} {c : Nat} (ha : EvM ta G σ (.str ⟨#[c]⟩)) (hb : EvM tb G σ (.str x)) : EvM (tOp (fun x y H Q => ∃ i j, x = .str i ∧ y = .str j ∧ Q (.bl (!(Builtin.Str.occurrences j i 0 j.length 1).isEmpty)) H) ta tb) G σ (.bl (decide (c ∈ x.cps.toList))) :=
  ev_op2 (fun M H u y l rx ry Q k => ⟨⟨#[c]⟩, x, rx.of_str, ry.of_str, by rw [StrLaws.found_one]; exact k _ H (Same.refl _) (.bl _)⟩) ha hb
def EvJ (t : Str → TE) (G : Hp) (σ : St) (zs : List Str) : Prop := ∀ acc : Str, (zs.foldl (fun n z => n + z.length) acc.length) ≤ sizeLine → EvM (t acc) G σ (.str (zs.foldl (· ++ ·) acc))
theorem foldl_le (zs : List Str) : ∀ n : Nat, n ≤ zs.foldl (fun n z => n + z.length) n := by
  induction zs with
  | nil => intro n; exact Nat.le_refl _
  | cons z r ih => intro n; exact Nat.le_trans (Nat.le_add_right _ _) (ih _)
theorem app_len (a b : Str) : (a ++ b).length = a.length + b.length := by
  show (a.cps ++ b.cps).size = _
  rw [Array.size_append]; rfl
theorem ev_j0 : EvJ tJ0 G σ [] := fun acc hz M H s l Q k => ⟨hz, k _ H (Same.refl _) (.str _)⟩
theorem ev_j1 {z : Str} {zs : List Str} {tr : Str → TE} (ha : EvM ta G σ (.str z)) (hr : EvJ tr G σ zs) : EvJ (tJ1 ta tr) G σ (z :: zs) := fun acc hz M H s l Q k =>
  ha M H s l _ fun x H1 s1 rx => ⟨z, rx.of_str, by
    have := foldl_le zs (acc.length + z.length)
    rw [app_len]; exact Nat.le_trans this hz, hr (acc ++ z) (by rw [app_len]; exact hz) M H1 (s.trans (s1.but M)) (l.same s1) Q fun v H2 s2 r2 => k v H2 (s1.trans s2) r2⟩
theorem walk_str {x : Str} (ha : x.cps.all (· < 128) = true) (h : EvM te G σ (.str x)) : Walk (iStr te) G σ (x.cps.toList.map fun c => D.str ⟨#[c]⟩) := fun M H s l R k => h M H s l _ fun v H1 s1 r1 => by
  refine ⟨x, r1.of_str, ha, k _ H1 s1 (fun j d M' H' hj hs hlv => ?_) (fun M' H' hs => ?_)⟩
  · rw [List.getElem?_map] at hj
    cases e : x.cps.toList[j]? with
    | none => rw [e] at hj; cases hj
    | some c =>
      rw [e] at hj
      obtain rfl : D.str ⟨#[c]⟩ = d := Option.some.inj hj
      have hlt : j < x.cps.toList.length := (List.getElem?_eq_some_iff.mp e).1
      refine ⟨(show j < x.cps.size by simpa using hlt), fun y H'' ⟨e1, c', e2, e3⟩ => ?_⟩
      subst e1 e3
      have : some c' = some c := by rw [← e2, ← e]; simp
      cases this
      exact ⟨Same.refl _, .str _⟩
  · show x.cps.size ≤ _
    simp
theorem ev_ifE {tt : TT} {b : Bool} (h : EvT tt G σ b) (h1 : b = true → EvM ta G σ d) (h2 : b = false → EvM tb G σ d) : EvM (tIf tt ta tb) G σ d := fun M H s l Q k => h M H s l _ fun H1 s1 => by
  cases b with
  | true => rw [if_pos rfl]; exact h1 rfl M H1 (s.trans (s1.but M)) (l.same s1) Q fun v H2 s2 r2 => k v H2 (s1.trans s2) r2
  | false => rw [if_neg Bool.false_ne_true]; exact h2 rfl M H1 (s.trans (s1.but M)) (l.same s1) Q fun v H2 s2 r2 => k v H2 (s1.trans s2) r2
end
section
variable {X : Cx} {N' : List Str} {scope : Scope} {cl : List (Str × Addr)} {C : Addr} {fp : List Addr} {s : Shared} {H : Hp} {e : Expr} {te : TE} {p pos : Pos}
theorem pe_strCc (B : Bl X.mg) (h : PE (cxComp X N' scope cl C fp s H) e te) (hg : Gl (cxComp X N' scope cl C fp s H) "str" := by rfl) (he : starEach [e] (cxComp X N' scope cl C fp s H).env = (false, eval e (cxComp X N' scope cl C fp s H).env) :: starEach [] (cxComp X N' scope cl C fp s H).env := by rfl) :
    PE (cxComp X N' scope cl C fp s H) (.Call (.Name "str" p) [e] [] pos) (tCB rStr (tCons te tNil)) := pe_strC (X := cxComp X N' scope cl C fp s H) B h hg he
theorem pe_intC (B : Bl X.mg) (h : PE X e te) (hg : Gl X "int" := by rfl) (he : starEach [e] X.env = (false, eval e X.env) :: starEach [] X.env := by rfl) : PE X (.Call (.Name "int" p) [e] [] pos)
    (tCB (fun xs H Q => ∃ x n, xs = [.str x] ∧ PySem.intText? x = some n ∧ x.length ≤ 640 ∧ Q (.int n) H) (tCons te tNil)) :=
  pe_callTy call_int_text hg B.int PyProof.Rows.boot_int (pa_cons h pa_nil he) (he := he)
end
end FL

set_option Elab.async false
set_option linter.all false
set_option maxRecDepth 100000
namespace FL
open PySem
def low (c : Nat) : Bool := decide (97 ≤ c) && decide (c ≤ 122)
def upc (c : Nat) : Bool := decide (65 ≤ c) && decide (c ≤ 90)
def dig (c : Nat) : Bool := decide (48 ≤ c) && decide (c ≤ 57)
def wordB (l : L) : Bool := !l.isEmpty && l.all low
def blankB : L → Bool
  | [] => false
  | c :: r => upc c && r.all low
def figs (l : L) : L := if l.head? = some 45 then l.drop 1 else l
def numB (l : L) : Bool := decide (l = [48]) || (!(figs l).isEmpty && (!decide ((figs l).head? = some 48) && (figs l).all dig))
theorem small_list : (Str.ofString "abcdefghijklmnopqrstuvwxyz").cps.toList = [97, 98, 99, 100, 101, 102, 103, 104, 105, 106, 107, 108, 109, 110, 111, 112, 113, 114, 115, 116, 117, 118, 119, 120, 121, 122] := by decide +kernel
theorem great_list : (Str.ofString "ABCDEFGHIJKLMNOPQRSTUVWXYZ").cps.toList = [65, 66, 67, 68, 69, 70, 71, 72, 73, 74, 75, 76, 77, 78, 79, 80, 81, 82, 83, 84, 85, 86, 87, 88, 89, 90] := by decide +kernel
theorem figs_list : (Str.ofString "0123456789").cps.toList = [48, 49, 50, 51, 52, 53, 54, 55, 56, 57] := by decide +kernel
theorem mem_small (c : Nat) : decide (c ∈ (Str.ofString "abcdefghijklmnopqrstuvwxyz").cps.toList) = low c := by
  rw [small_list]
  unfold low
  rw [← Bool.decide_and]
  refine decide_eq_decide.mpr ⟨fun h => ?_, fun h => ?_⟩
  · simp only [List.mem_cons, List.not_mem_nil, or_false] at h; omega
  · simp only [List.mem_cons, List.not_mem_nil, or_false]; omega
theorem mem_great (c : Nat) : decide (c ∈ (Str.ofString "ABCDEFGHIJKLMNOPQRSTUVWXYZ").cps.toList) = upc c := by
  rw [great_list]
  unfold upc
  rw [← Bool.decide_and]
  refine decide_eq_decide.mpr ⟨fun h => ?_, fun h => ?_⟩
  · simp only [List.mem_cons, List.not_mem_nil, or_false] at h; omega
  · simp only [List.mem_cons, List.not_mem_nil, or_false]; omega
theorem mem_figs (c : Nat) : decide (c ∈ (Str.ofString "0123456789").cps.toList) = dig c := by
  rw [figs_list]
  unfold dig
  rw [← Bool.decide_and]
  refine decide_eq_decide.mpr ⟨fun h => ?_, fun h => ?_⟩
  · simp only [List.mem_cons, List.not_mem_nil, or_false] at h; omega
  · simp only [List.mem_cons, List.not_mem_nil, or_false]; omega
theorem low_iff {c : Nat} : low c = true ↔ 97 ≤ c ∧ c ≤ 122 := by simp [low]
theorem upc_iff {c : Nat} : upc c = true ↔ 65 ≤ c ∧ c ≤ 90 := by simp [upc]
theorem dig_iff {c : Nat} : dig c = true ↔ 48 ≤ c ∧ c ≤ 57 := by simp [dig]
def digs (n : Nat) : L := (Nat.toDigits 10 n).map Char.toNat
theorem digs_all (n : Nat) : ∀ c ∈ digs n, 48 ≤ c ∧ c ≤ 57 := fun c hc => by
  obtain ⟨ch, hch, e⟩ := List.mem_map.mp hc
  have h1 := Nat.isDigit_of_mem_toDigits (by decide) (by decide) hch
  rw [← e]
  have h2 : ch.isDigit = true := h1
  simp only [Char.isDigit, Bool.and_eq_true, decide_eq_true_eq] at h2
  have a1 : (48 : UInt32) ≤ ch.val := h2.1
  have a2 : ch.val ≤ (57 : UInt32) := h2.2
  have b1 := UInt32.le_iff_toNat_le.mp a1
  have b2 := UInt32.le_iff_toNat_le.mp a2
  exact ⟨b1, b2⟩
theorem digs_step (n : Nat) (h : 10 ≤ n) : digs n = digs (n / 10) ++ digs (n % 10) := by
  have hm : n % 10 < 10 := Nat.mod_lt n (by decide)
  have t : Nat.toDigits 10 (n / 10) ++ Nat.toDigits 10 (n % 10) = Nat.toDigits 10 (10 * (n / 10) + n % 10) := Nat.toDigits_append_toDigits (by decide) (by omega) hm
  rw [Nat.div_add_mod] at t
  unfold digs
  rw [← t, List.map_append]
theorem digs_one {n : Nat} (h : n < 10) : digs n = [48 + n] := by
  unfold digs
  rw [Nat.toDigits_of_lt_base h]
  have : n = 0 ∨ n = 1 ∨ n = 2 ∨ n = 3 ∨ n = 4 ∨ n = 5 ∨ n = 6 ∨ n = 7 ∨ n = 8 ∨ n = 9 := by omega
  rcases this with rfl | rfl | rfl | rfl | rfl | rfl | rfl | rfl | rfl | rfl <;> rfl
theorem digs_len : ∀ (k n : Nat), n < 10 ^ (k + 1) → (digs n).length ≤ k + 1
  | 0, n, h => by rw [digs_one (by simpa using h)]; simp
  | k + 1, n, h => by
    by_cases h0 : n < 10
    · rw [digs_one h0]; simp
    · rw [digs_step n (by omega), List.length_append, digs_one (Nat.mod_lt n (by decide))]
      have := digs_len k (n / 10) (by rw [Nat.pow_succ] at h; omega)
      simp; omega
theorem digs_head : ∀ (k n : Nat), n ≤ k → 0 < n → ∃ c r, digs n = c :: r ∧ 49 ≤ c
  | 0, n, h1, h2 => by omega
  | k + 1, n, h1, h2 => by
    by_cases h0 : n < 10
    · exact ⟨48 + n, [], digs_one h0, by omega⟩
    · obtain ⟨c, r, e, h⟩ := digs_head k (n / 10) (by omega) (by omega)
      exact ⟨c, r ++ digs (n % 10), by rw [digs_step n (by omega), e]; rfl, h⟩
theorem digs_zero : digs 0 = [48] := digs_one (by decide)
def numL (i : Int) : L := if i < 0 then 45 :: digs i.natAbs else digs i.natAbs
theorem num_text (i : Int) : (Str.ofString (toString i)).cps.toList = numL i := by
  rw [Str.ofString_eq_toList]
  show (toString i).toList.map Char.toNat = numL i
  cases i with
  | ofNat n =>
    show (Nat.repr n).toList.map Char.toNat = _
    rw [Nat.toList_repr]
    unfold numL
    rw [if_neg (by simp)]
    rfl
  | negSucc n =>
    show (Int.repr (Int.negSucc n)).toList.map Char.toNat = _
    unfold numL
    rw [if_pos (Int.negSucc_lt_zero n)]
    show ("-" ++ Nat.repr (n + 1)).toList.map Char.toNat = 45 :: digs (n + 1)
    rw [String.toList_append, Nat.toList_repr]
    rfl
theorem num_reads {i : Int} (h : i.natAbs < 10 ^ 30) : PySem.intText? (S (numL i)) = some i := by
  have hd : NumText.AllDigits (digs i.natAbs) := digs_all _
  have hl := digs_len 29 i.natAbs h
  have hne : digs i.natAbs ≠ [] := by
    by_cases h0 : i.natAbs = 0
    · rw [h0, digs_zero]; simp
    · obtain ⟨c, r, e, _⟩ := digs_head i.natAbs i.natAbs (Nat.le_refl _) (by omega)
      rw [e]; simp
  have hv : NumText.digitsVal (digs i.natAbs) = i.natAbs := PySem.W.KIN.val_back _
  unfold numL
  by_cases hs : i < 0
  · rw [if_pos hs]
    have := intText_neg (x := S (45 :: digs i.natAbs)) (cs := digs i.natAbs) rfl hd hne (by rw [S_len, List.length_cons]; omega)
    rw [this, hv]
    congr 1
    omega
  · rw [if_neg hs]
    have := intText_digits (x := S (digs i.natAbs)) hd hne (by rw [S_len]; omega)
    rw [this, S_list, hv]
    congr 1
    omega
theorem num_numB (i : Int) : numB (numL i) = true := by
  by_cases h0 : i.natAbs = 0
  · have : i = 0 := by omega
    subst this
    unfold numL
    rw [if_neg (by decide)]
    show numB (digs 0) = true
    rw [digs_zero]; rfl
  · obtain ⟨c, r, e, hc⟩ := digs_head i.natAbs i.natAbs (Nat.le_refl _) (by omega)
    have hall : ∀ x ∈ c :: r, 48 ≤ x ∧ x ≤ 57 := by rw [← e]; exact digs_all _
    have hf : figs (numL i) = c :: r := by
      unfold numL figs
      by_cases hs : i < 0
      · rw [if_pos hs, e]; rfl
      · rw [if_neg hs, e, if_neg]
        have := hall c List.mem_cons_self
        simp; omega
    unfold numB
    rw [hf]
    have h2 : (c :: r).all dig = true := List.all_eq_true.mpr fun x hx => dig_iff.mpr (hall x hx)
    rw [h2]
    have h3 : ¬ ((c :: r).head? = some 48) := by simp; omega
    rw [decide_eq_false h3]
    simp
theorem num_first (i : Int) : ∃ c r, numL i = c :: r ∧ (c = 45 ∨ (48 ≤ c ∧ c ≤ 57)) := by
  unfold numL
  by_cases hs : i < 0
  · rw [if_pos hs]; exact ⟨45, _, rfl, .inl rfl⟩
  · rw [if_neg hs]
    have hall := digs_all i.natAbs
    by_cases h0 : i.natAbs = 0
    · rw [h0, digs_zero]; exact ⟨48, [], rfl, .inr (by omega)⟩
    · obtain ⟨c, r, e, _⟩ := digs_head i.natAbs i.natAbs (Nat.le_refl _) (by omega)
      rw [e] at hall
      exact ⟨c, r, e, .inr (hall c List.mem_cons_self)⟩
theorem num_all (i : Int) : ∀ c ∈ numL i, c = 45 ∨ (48 ≤ c ∧ c ≤ 57) := fun c hc => by
  unfold numL at hc
  by_cases hs : i < 0
  · rw [if_pos hs] at hc
    rcases List.mem_cons.mp hc with e | e
    · exact .inl e
    · exact .inr (digs_all _ c e)
  · rw [if_neg hs] at hc
    exact .inr (digs_all _ c hc)
theorem num_len {i : Int} (h : i.natAbs < 10 ^ 30) : (numL i).length ≤ 31 := by
  have := digs_len 29 i.natAbs h
  unfold numL
  split
  · simp; omega
  · omega
def partL : D → L
  | .str x => x.cps.toList
  | .int i => numL i
  | _ => []
def goodP : D → Prop
  | .str x => (wordB x.cps.toList || blankB x.cps.toList) = true ∧ x.length ≤ 31
  | .int i => i.natAbs < 10 ^ 30
  | _ => False
theorem word_all {l : L} (h : wordB l = true) : ∀ c ∈ l, 97 ≤ c ∧ c ≤ 122 := fun c hc => by
  simp only [wordB, Bool.and_eq_true] at h
  exact low_iff.mp (List.all_eq_true.mp h.2 c hc)
theorem word_ne {l : L} (h : wordB l = true) : l ≠ [] := fun e => by rw [e] at h; cases h
theorem blank_all {l : L} (h : blankB l = true) : ∀ c ∈ l, (97 ≤ c ∧ c ≤ 122) ∨ (65 ≤ c ∧ c ≤ 90) := fun c hc => by
  cases l with
  | nil => cases hc
  | cons d r =>
    simp only [blankB, Bool.and_eq_true] at h
    rcases List.mem_cons.mp hc with e | e
    · subst e; exact .inr (upc_iff.mp h.1)
    · exact .inl (low_iff.mp (List.all_eq_true.mp h.2 c e))
theorem blank_ne {l : L} (h : blankB l = true) : l ≠ [] := fun e => by rw [e] at h; cases h
theorem part_all {d : D} (h : goodP d) : ∀ c ∈ partL d, c = 45 ∨ (48 ≤ c ∧ c ≤ 57) ∨ (97 ≤ c ∧ c ≤ 122) ∨ (65 ≤ c ∧ c ≤ 90) := fun c hc => by
  cases d with
  | str x =>
    have h1 := h.1
    rw [Bool.or_eq_true] at h1
    rcases h1 with h1 | h1
    · exact .inr (.inr (.inl (word_all h1 c hc)))
    · rcases blank_all h1 c hc with q | q
      · exact .inr (.inr (.inl q))
      · exact .inr (.inr (.inr q))
  | int i => rcases num_all i c hc with q | q
             · exact .inl q
             · exact .inr (.inl q)
  | _ => exact h.elim
theorem part_ne {d : D} (h : goodP d) : partL d ≠ [] := by
  cases d with
  | str x =>
    have h1 := h.1
    rw [Bool.or_eq_true] at h1
    rcases h1 with h1 | h1
    · exact word_ne h1
    · exact blank_ne h1
  | int i => obtain ⟨c, r, e, _⟩ := num_first i; show numL i ≠ []; rw [e]; simp
  | _ => exact h.elim
theorem part_len {d : D} (h : goodP d) : (partL d).length ≤ 31 := by
  cases d with
  | str x => rw [partL, len_list]; exact h.2
  | int i => exact num_len h
  | _ => exact h.elim
theorem part_small {d : D} (h : goodP d) : d.smallS = true := by
  cases d with
  | str x => rfl
  | int i =>
    refine decide_eq_true ?_
    have h1 : i.natAbs < 2 ^ 1920 := Nat.lt_trans h (by decide +kernel)
    by_cases h0 : i.natAbs = 0
    · rw [h0]; decide
    · exact (Nat.log2_lt h0).mpr h1
  | _ => exact h.elim
def atomL (rel : L) (ps : List D) : L := rel ++ [40] ++ (joinL [44, 32] (ps.map partL) ++ [41])
structure GoodA (a : D) (rel : Str) (ps : List D) : Prop where
  eq : a = .tup (.str rel :: ps)
  word : wordB rel.cps.toList = true
  len : rel.length ≤ 31
  good : ∀ d ∈ ps, goodP d
  few : ps.length ≤ 70
theorem joinL_mem {y : L} : ∀ {ps : List L} {c : Nat}, c ∈ joinL y ps → c ∈ y ∨ ∃ p ∈ ps, c ∈ p
  | [], _, h => by cases h
  | [p], c, h => .inr ⟨p, List.mem_cons_self, h⟩
  | p :: q :: r, c, h => by
    have h : c ∈ p ++ y ++ joinL y (q :: r) := h
    rw [List.mem_append, List.mem_append] at h
    rcases h with (h | h) | h
    · exact .inr ⟨p, List.mem_cons_self, h⟩
    · exact .inl h
    · rcases joinL_mem h with z | ⟨p', h1, h2⟩
      · exact .inl z
      · exact .inr ⟨p', List.mem_cons_of_mem _ h1, h2⟩
theorem joinL_len {y : L} {B : Nat} : ∀ {ps : List L}, (∀ p ∈ ps, p.length ≤ B) → (joinL y ps).length ≤ ps.length * (B + y.length)
  | [], _ => by simp [joinL]
  | [p], h => by have := h p List.mem_cons_self; simp [joinL]; omega
  | p :: q :: r, h => by
    have h1 := h p List.mem_cons_self
    have h2 := joinL_len (y := y) (ps := q :: r) fun z hz => h z (List.mem_cons_of_mem _ hz)
    show (p ++ y ++ joinL y (q :: r)).length ≤ _
    rw [List.length_append, List.length_append]
    simp only [List.length_cons, Nat.add_mul, Nat.one_mul] at h2 ⊢
    omega
theorem sp_join : ∀ {ps : List L} (p : Nat), (∀ z ∈ ps, ∀ c ∈ z, c ≠ 32) → sp p (joinL [44, 32] ps) = true
  | [], _, _ => rfl
  | [z], p, h => sp_no p (h z List.mem_cons_self)
  | z :: q :: r, p, h => by
    show sp p (z ++ [44, 32] ++ joinL [44, 32] (q :: r)) = true
    rw [List.append_assoc, sp_app, sp_no p (h z List.mem_cons_self), Bool.true_and]
    show ((44 != 32 || _) && ((32 != 32 || 44 == 44) && sp 32 (joinL [44, 32] (q :: r)))) = true
    rw [sp_join 32 fun w hw => h w (List.mem_cons_of_mem _ hw)]
    rfl
theorem atom_sp {rel : L} {ps : List D} (hr : wordB rel = true) (hp : ∀ d ∈ ps, goodP d) : sp 0 (atomL rel ps) = true ∧ (atomL rel ps).getLast? = some 41 := by
  have h1 : ∀ z ∈ ps.map partL, ∀ c ∈ z, c ≠ 32 := fun z hz c hc => by
    obtain ⟨d, hd, rfl⟩ := List.mem_map.mp hz
    have := part_all (hp d hd) c hc
    omega
  constructor
  · unfold atomL
    have h2 : ∀ c ∈ rel ++ [40], c ≠ 32 := fun c hc => by
      rw [List.mem_append] at hc
      rcases hc with hc | hc
      · have := word_all hr c hc; omega
      · have : c = 40 := by simpa using hc
        omega
    rw [sp_app, sp_no 0 h2, sp_app, sp_join _ h1]
    simp [sp]
  · unfold atomL
    rw [← List.append_assoc, List.getLast?_append]
    rfl
theorem atom_asc {rel : L} {ps : List D} (hr : wordB rel = true) (hp : ∀ d ∈ ps, goodP d) : ∀ c ∈ atomL rel ps, c < 128 := fun c hc => by
  unfold atomL at hc
  simp only [List.mem_append, List.mem_cons, List.not_mem_nil, or_false] at hc
  rcases hc with (hc | hc) | (hc | hc)
  · have := word_all hr c hc; omega
  · omega
  · rcases joinL_mem hc with z | ⟨p, h1, h2⟩
    · simp only [List.mem_cons, List.not_mem_nil, or_false] at z; omega
    · obtain ⟨d, hd, rfl⟩ := List.mem_map.mp h1
      have := part_all (hp d hd) c h2
      omega
  · omega
theorem join_S (y : L) : ∀ ps : List L, Str.join (S y) (ps.map S) = S (joinL y ps)
  | [] => rfl
  | [p] => rfl
  | p :: q :: r => by
    show S p ++ S y ++ Str.join (S y) ((q :: r).map S) = S (p ++ y ++ joinL y (q :: r))
    rw [join_S y (q :: r), S_app, S_app]
def lineL (as : List L) : L := match as with
  | [] => []
  | [h] => h
  | h :: b :: r => h ++ [32, 105, 102, 32] ++ joinL [32, 97, 110, 100, 32] (b :: r)
theorem sep_if : Sep [32, 105, 102, 32] 2 := ⟨rfl, rfl, ⟨102, rfl, by decide⟩, by decide⟩
theorem sep_and : Sep [32, 97, 110, 100, 32] 3 := ⟨rfl, rfl, ⟨100, rfl, by decide⟩, by decide⟩
theorem read_if {h b : L} {r : List L} (h1 : sp 0 h = true) (h2 : h.getLast? = some 41) : Txt.partition (S (lineL (h :: b :: r))) (S [32, 105, 102, 32]) = (S h, S [32, 105, 102, 32], S (joinL [32, 97, 110, 100, 32] (b :: r))) :=
  partition_at (by simp) fun k hk => sep_first sep_if h1 h2 k hk
theorem read_fact {h : L} (h1 : sp 0 h = true) : Txt.partition (S h) (S [32, 105, 102, 32]) = (S h, Str.empty, Str.empty) := partition_no (by simp) fun k => sep_none sep_if h1 k
theorem read_and {as : List L} (hn : as ≠ []) (h : ∀ p ∈ as, sp 0 p = true ∧ p.getLast? = some 41) : Txt.split (S (joinL [32, 97, 110, 100, 32] as)) (S [32, 97, 110, 100, 32]) = as.map S :=
  split_tight (by simp) (by simp) (tight_sep sep_and hn h)
theorem read_open {rel : L} {ps : List D} (hr : wordB rel = true) : Txt.partition (S (atomL rel ps)) (S [40]) = (S rel, S [40], S (joinL [44, 32] (ps.map partL) ++ [41])) :=
  partition_at (by simp) fun k hk o => by
    have := occ_at (j := 0) (c := 40) o rfl
    rw [List.append_assoc, List.getElem?_append_left (by omega)] at this
    have := word_all hr 40 (List.mem_of_getElem? this)
    omega
theorem read_comma {ps : List D} (hn : ps ≠ []) (hp : ∀ d ∈ ps, goodP d) : Txt.split (S (joinL [44, 32] (ps.map partL))) (S [44, 32]) = (ps.map partL).map S :=
  split_tight (by simp) (by simp) (tight_first (by simpa using hn) fun p hpm hc => by
    obtain ⟨d, hd, rfl⟩ := List.mem_map.mp hpm
    have := part_all (hp d hd) 44 hc
    omega)
theorem join_ne {ps : List D} (hn : ps ≠ []) (hp : ∀ d ∈ ps, goodP d) : joinL [44, 32] (ps.map partL) ≠ [] := by
  cases ps with
  | nil => exact absurd rfl hn
  | cons d r =>
    have h1 := part_ne (hp d List.mem_cons_self)
    cases r with
    | nil => exact h1
    | cons e t =>
      show partL d ++ [44, 32] ++ _ ≠ []
      simp
theorem cut_last (l : L) : Txt.slice (S (l ++ [41])) none (some (-1)) = S l := by
  show StrLaws.sliceText _ _ _ = _
  rw [StrLaws.sliceText_to_neg (by decide) (by rw [S_len, List.length_append, List.length_singleton]; omega), S_list, S_len]
  show S _ = S l
  congr 1
  rw [List.drop_zero, List.length_append, List.length_singleton]
  have e : ((-1 : Int) + ((l.length + 1 : Nat) : Int) - 0).toNat = l.length := by omega
  first | rw [e, List.take_left] | (rw [show ((-1 : Int) + ((l.length + 1 : Nat) : Int)).toNat = l.length by omega, List.take_left])
theorem cut_first (c : Nat) (l : L) : Txt.slice (S (c :: l)) (some 1) none = S l := by
  show StrLaws.sliceText _ _ _ = _
  rw [StrLaws.sliceText_from (by rw [S_list, List.length_cons]; omega), S_list]
  show S (((c :: l).drop 1).take _) = S l
  congr 1
  rw [List.drop_one, List.tail_cons, List.take_of_length_le]
  simp
theorem ends_close (l : L) : Txt.endswith (S (l ++ [41])) (S [41]) = true := by
  unfold Txt.endswith
  rw [Bool.and_eq_true, decide_eq_true_eq, S_len, S_len]
  refine ⟨by simp, ?_⟩
  rw [StrLaws.subAt_eq, S_list, S_list, S_len]
  simp
theorem starts_minus (l : L) : Txt.startswith (S l) (S [45]) = decide (l.head? = some 45) := by
  unfold Txt.startswith
  rw [StrLaws.subAt_eq, S_list, S_list, S_len, S_len]
  cases l with
  | nil => rfl
  | cons c r =>
    by_cases e : c = 45
    · subst e
      rw [decide_eq_true (p := (45 :: r).head? = some 45) rfl]
      simp
    · rw [decide_eq_false (p := (c :: r).head? = some 45) (by simp; exact e)]
      simp; exact e
def rd : D → D
  | .str z => if (wordB z.cps.toList || blankB z.cps.toList) = true then .str z else match PySem.intText? z with | some n => .int n | none => .non
  | _ => .non
theorem num_not_word (i : Int) : wordB (numL i) = false ∧ blankB (numL i) = false := by
  obtain ⟨c, r, e, hc⟩ := num_first i
  rw [e]
  constructor
  · have : low c = false := by
      cases q : low c with
      | false => rfl
      | true => have := low_iff.mp q; omega
    simp [wordB, this]
  · have : upc c = false := by
      cases q : upc c with
      | false => rfl
      | true => have := upc_iff.mp q; omega
    simp [blankB, this]
def atomT : D → L
  | .tup (.str rel :: ps) => atomL rel.cps.toList ps
  | _ => []
def goodA (a : D) : Prop := ∃ rel ps, GoodA a rel ps
theorem goodA_T {a : D} (h : goodA a) : ∃ rel ps, GoodA a rel ps ∧ atomT a = atomL rel.cps.toList ps := by
  obtain ⟨rel, ps, g⟩ := h
  exact ⟨rel, ps, g, by rw [g.eq]; rfl⟩
theorem goodA_sp {a : D} (h : goodA a) : sp 0 (atomT a) = true ∧ (atomT a).getLast? = some 41 := by
  obtain ⟨rel, ps, g, e⟩ := goodA_T h
  rw [e]; exact atom_sp g.word g.good
theorem goodA_asc {a : D} (h : goodA a) : ∀ c ∈ atomT a, c < 128 := by
  obtain ⟨rel, ps, g, e⟩ := goodA_T h
  rw [e]; exact atom_asc g.word g.good
def GoodR (h : D) (b : List D) : Prop := goodA h ∧ (∀ a ∈ b, goodA a) ∧ b.length ≤ 70
def lineS (h : D) (b : List D) : Str := S (lineL ((h :: b).map atomT))
theorem sum_len_le {B : Nat} : ∀ {zs : List Str}, (∀ z ∈ zs, z.length ≤ B) → (zs.map (·.length)).sum ≤ zs.length * B
  | [], _ => by simp
  | z :: r, h => by
    have h1 := h z List.mem_cons_self
    have h2 := sum_len_le (zs := r) fun y hy => h y (List.mem_cons_of_mem _ hy)
    simp only [List.map_cons, List.sum_cons, List.length_cons, Nat.add_mul, Nat.one_mul]
    omega
theorem asc_S {l : L} (h : ∀ c ∈ l, c < 128) : (S l).cps.all (· < 128) = true := by
  rw [← Array.all_toList]
  exact List.all_eq_true.mpr fun c hc => decide_eq_true (h c hc)
theorem line16 {n : Nat} (h : n ≤ 1000000) : n + 2 ≤ sizeLine := by rw [sizeLine_eq]; omega
theorem c_comma : Str.ofString ", " = S [44, 32] := by decide +kernel
theorem c_open : Str.ofString "(" = S [40] := by decide +kernel
theorem c_close : Str.ofString ")" = S [41] := by decide +kernel
theorem c_if : Str.ofString " if " = S [32, 105, 102, 32] := by decide +kernel
theorem c_and : Str.ofString " and " = S [32, 97, 110, 100, 32] := by decide +kernel
theorem c_empty : Str.ofString "" = S [] := by decide +kernel
theorem c_minus : Str.ofString "-" = S [45] := by decide +kernel
theorem c_nought : Str.ofString "0" = S [48] := by decide +kernel
theorem ne_S (a b : L) : decide (D.str (S a) = D.str (S b)) = decide (a = b) := by
  refine decide_eq_decide.mpr ⟨fun h => ?_, fun h => by rw [h]⟩
  injection h with h
  exact S_inj h
end FL

set_option Elab.async false
set_option linter.all false
set_option maxRecDepth 100000
namespace FL
open PySem
theorem cut1 {y : L} (x : L) : (∀ k, ¬ Occ y x k) ∨ ∃ a b, x = a ++ y ++ b ∧ ∀ k, k < a.length → ¬ Occ y x k := by
  by_cases h : ∃ k, Occ y x k
  · refine .inr ?_
    obtain ⟨k, hk⟩ := h
    have : ∀ n k, k ≤ n → Occ y x k → ∃ m, Occ y x m ∧ ∀ j, j < m → ¬ Occ y x j := by
      intro n
      induction n with
      | zero => exact fun k hk o => ⟨0, by have : k = 0 := by omega
                                           rw [this] at o; exact o, fun j hj => absurd hj (Nat.not_lt_zero _)⟩
      | succ n ih =>
        intro k hk o
        by_cases h : ∃ j, j < k ∧ Occ y x j
        · obtain ⟨j, h1, h2⟩ := h
          exact ih j (by omega) h2
        · exact ⟨k, o, fun j hj oj => h ⟨j, hj, oj⟩⟩
    obtain ⟨m, hm, hl⟩ := this k k (Nat.le_refl _) hk
    obtain ⟨b, hb⟩ := hm
    have e : x = x.take m ++ y ++ b := by
      conv => lhs; rw [← List.take_append_drop m x, ← hb]
      rw [List.append_assoc]
    refine ⟨x.take m, b, e, fun j hj => hl j ?_⟩
    rw [List.length_take] at hj
    omega
  · exact .inl fun k hk => h ⟨k, hk⟩
theorem partition_any {y : L} (hy : y ≠ []) (x : L) : (Txt.partition (S x) (S y) = (S x, Str.empty, Str.empty) ∧ ∀ k, ¬ Occ y x k) ∨ ∃ a b, x = a ++ y ++ b ∧ Txt.partition (S x) (S y) = (S a, S y, S b) := by
  rcases cut1 (y := y) x with h | ⟨a, b, e, h⟩
  · exact .inl ⟨partition_no hy h, h⟩
  · refine .inr ⟨a, b, e, ?_⟩
    rw [e]
    exact partition_at hy (by rw [← e]; exact h)
theorem cuts {y : L} (hy : y ≠ []) : ∀ (n : Nat) (x : L), x.length ≤ n → ∃ ps, Tight y ps ∧ joinL y ps = x
  | n, x, hn => by
    rcases cut1 (y := y) x with h | ⟨a, b, e, h⟩
    · exact ⟨[x], h, rfl⟩
    · have hlen := congrArg List.length e
      rw [List.length_append, List.length_append] at hlen
      have hy1 : 0 < y.length := List.length_pos_iff.mpr hy
      match n, hn with
      | 0, hn => omega
      | n + 1, hn =>
        obtain ⟨qs, t, ej⟩ := cuts hy n b (by omega)
        cases qs with
        | nil => exact t.elim
        | cons q r => exact ⟨a :: q :: r, ⟨by rw [ej, ← e]; exact h, t⟩, by rw [e, ← ej]; rfl⟩
theorem split_any {y : L} (hy : y ≠ []) (hl : ∀ c ∈ y, c < 256) (x : L) : ∃ ps, ps ≠ [] ∧ joinL y ps = x ∧ Txt.split (S x) (S y) = ps.map S := by
  obtain ⟨ps, t, e⟩ := cuts hy x.length x (Nat.le_refl _)
  refine ⟨ps, fun z => by rw [z] at t; exact t, e, ?_⟩
  rw [← e]
  exact split_tight hy hl t
theorem digs_back : ∀ (n : Nat) (cs : L), cs.length ≤ n → cs ≠ [] → (∀ c ∈ cs, 48 ≤ c ∧ c ≤ 57) → (cs.length = 1 ∨ cs.head? ≠ some 48) → digs (NumText.digitsVal cs) = cs
  | 0, cs, hn, hne, _, _ => absurd (List.length_eq_zero_iff.mp (by omega)) hne
  | n + 1, cs, hn, hne, hd, hh => by
    rcases List.eq_nil_or_concat cs with z | ⟨ini, c, z⟩
    · exact absurd z hne
    rw [List.concat_eq_append] at z
    subst z
    have hc := hd c (List.mem_append_right _ (List.mem_singleton.mpr rfl))
    have hv : NumText.digitsVal (ini ++ [c]) = NumText.digitsVal ini * 10 + (c - 48) := by
      unfold NumText.digitsVal
      rw [List.foldl_append]
      rfl
    rw [hv]
    by_cases h0 : ini = []
    · subst h0
      show digs (0 * 10 + (c - 48)) = [c]
      rw [Nat.zero_mul, Nat.zero_add, digs_one (by omega)]
      congr 1
      omega
    · have hl : ini.length ≤ n := by rw [List.length_append, List.length_singleton] at hn; omega
      have hpos : 0 < ini.length := List.length_pos_iff.mpr h0
      have hhd : ini.head? ≠ some 48 := by
        rcases hh with q | q
        · rw [List.length_append, List.length_singleton] at q; omega
        · cases ini with
          | nil => exact absurd rfl h0
          | cons a l => exact q
      have ih := digs_back n ini hl h0 (fun x hx => hd x (List.mem_append_left _ hx)) (.inr hhd)
      have hv1 : 1 ≤ NumText.digitsVal ini := Nat.one_le_iff_ne_zero.mpr fun q => by
        rw [q, digs_zero] at ih
        rw [← ih] at hhd
        exact hhd rfl
      rw [digs_step _ (by omega), show (NumText.digitsVal ini * 10 + (c - 48)) / 10 = NumText.digitsVal ini by omega, show (NumText.digitsVal ini * 10 + (c - 48)) % 10 = c - 48 by omega, ih, digs_one (by omega)]
      congr 1
      congr 1
      omega
theorem num_back {t : L} (h : numB t = true) (hl : t.length ≤ 4000) : ∃ i : Int, PySem.intText? (S t) = some i ∧ numL i = t := by
  unfold numB at h
  rcases Bool.or_eq_true_iff.mp h with z | z
  · rw [of_decide_eq_true z]
    exact ⟨0, num_reads (i := 0) (by decide), by unfold numL; rw [if_neg (by decide)]; exact digs_zero⟩
  · obtain ⟨z1, z⟩ := Bool.and_eq_true_iff.mp z
    obtain ⟨z2, z3⟩ := Bool.and_eq_true_iff.mp z
    have hne : figs t ≠ [] := by simpa using z1
    have hh : (figs t).head? ≠ some 48 := by simpa using z2
    have hd : ∀ c ∈ figs t, 48 ≤ c ∧ c ≤ 57 := fun c hc => dig_iff.mp (List.all_eq_true.mp z3 c hc)
    have hb := digs_back (figs t).length (figs t) (Nat.le_refl _) hne hd (.inr hh)
    have hv1 : 1 ≤ NumText.digitsVal (figs t) := Nat.one_le_iff_ne_zero.mpr fun q => by
      rw [q, digs_zero] at hb
      rw [← hb] at hh
      exact hh rfl
    by_cases hs : t.head? = some 45
    · have ef : t = 45 :: figs t := by
        unfold figs
        rw [if_pos hs]
        cases t with
        | nil => cases hs
        | cons a l => simp at hs; rw [hs]; rfl
      refine ⟨-(NumText.digitsVal (figs t) : Int), ?_, ?_⟩
      · have := intText_neg (x := S t) (cs := figs t) (by rw [S_list]; exact ef) hd hne (by rw [S_len]; omega)
        rw [this]
      · unfold numL
        rw [if_pos (by omega), show (-(NumText.digitsVal (figs t) : Int)).natAbs = NumText.digitsVal (figs t) by omega, hb]
        exact ef.symm
    · have ef : figs t = t := by unfold figs; rw [if_neg hs]
      rw [ef] at hd hne hb hv1
      refine ⟨(NumText.digitsVal t : Int), ?_, ?_⟩
      · have := intText_digits (x := S t) hd hne (by rw [S_len]; omega)
        rw [this]
        rfl
      · unfold numL
        rw [if_neg (by omega), show (NumText.digitsVal t : Int).natAbs = NumText.digitsVal t by omega, hb]
theorem ends_back {l : L} (h : Txt.endswith (S l) (S [41]) = true) : ∃ b, l = b ++ [41] := by
  unfold Txt.endswith at h
  rw [Bool.and_eq_true, decide_eq_true_eq, S_len, S_len] at h
  obtain ⟨h1, h2⟩ := h
  rw [StrLaws.subAt_eq, S_list, S_list, S_len] at h2
  rcases List.eq_nil_or_concat l with z | ⟨b, c, z⟩
  · subst z; simp at h1
  · rw [List.concat_eq_append] at z
    subst z
    refine ⟨b, ?_⟩
    simp at h2
    rw [h2]
def rdP (z : Str) : Option D := if (wordB z.cps.toList || blankB z.cps.toList) = true then some (.str z) else if numB z.cps.toList = true then (PySem.intText? z).map D.int else none
def okP : D → Prop
  | .str x => (wordB x.cps.toList || blankB x.cps.toList) = true
  | .int _ => True
  | _ => False
theorem rdP_back {z : Str} {d : D} (hl : z.length ≤ 4000) (h : rdP z = some d) : okP d ∧ partL d = z.cps.toList := by
  unfold rdP at h
  by_cases h1 : (wordB z.cps.toList || blankB z.cps.toList) = true
  · rw [if_pos h1] at h
    cases h
    exact ⟨h1, rfl⟩
  · rw [if_neg h1] at h
    by_cases h2 : numB z.cps.toList = true
    · rw [if_pos h2] at h
      obtain ⟨i, e1, e2⟩ := num_back h2 (by rw [len_list]; exact hl)
      rw [S_of] at e1
      rw [e1] at h
      cases h
      exact ⟨trivial, e2⟩
    · rw [if_neg h2] at h; cases h
def okA (a : D) : Prop := ∃ rel ps, a = .tup (.str rel :: ps) ∧ wordB rel.cps.toList = true ∧ ∀ d ∈ ps, okP d
def rdAt (z : Str) : Option D :=
  if (wordB (Txt.partition z (S [40])).1.cps.toList && Txt.endswith (Txt.partition z (S [40])).2.2 (S [41])) = true then
    if Txt.slice (Txt.partition z (S [40])).2.2 none (some (-1)) = S [] then some (.tup [.str (Txt.partition z (S [40])).1])
    else ((Txt.split (Txt.slice (Txt.partition z (S [40])).2.2 none (some (-1))) (S [44, 32])).mapM rdP).map fun ds => .tup (.str (Txt.partition z (S [40])).1 :: ds)
  else none
theorem mapM_back {α β : Type} {f : α → Option β} : ∀ {l : List α} {r : List β}, l.mapM f = some r → l.length = r.length ∧ ∀ (i : Nat) a, l[i]? = some a → ∃ b, r[i]? = some b ∧ f a = some b
  | [], r, h => by
    simp at h
    subst h
    exact ⟨rfl, fun i a q => by simp at q⟩
  | x :: l, r, h => by
    rw [List.mapM_cons] at h
    cases e : f x with
    | none => rw [e] at h; cases h
    | some y =>
      rw [e] at h
      cases e2 : l.mapM f with
      | none => rw [e2] at h; cases h
      | some r' =>
        rw [e2] at h
        cases h
        obtain ⟨h1, h2⟩ := mapM_back e2
        refine ⟨by simp [h1], fun i a q => ?_⟩
        cases i with
        | zero => simp at q; subst q; exact ⟨y, rfl, e⟩
        | succ i => exact h2 i a (by simpa using q)
theorem joinL_part {y : L} : ∀ {ps : List L} {p : L}, p ∈ ps → p.length ≤ (joinL y ps).length
  | [q], p, h => by rw [List.mem_singleton.mp h]; exact Nat.le_refl _
  | a :: q :: r, p, h => by
    have e : (joinL y (a :: q :: r)).length = a.length + y.length + (joinL y (q :: r)).length := by
      show (a ++ y ++ joinL y (q :: r)).length = _
      rw [List.length_append, List.length_append]
    rcases List.mem_cons.mp h with z | z
    · rw [z]; omega
    · have := joinL_part (y := y) z
      omega
theorem parts_back {f : Str → Option D} {g : D → L} {ok : D → Prop} {ps : List L} {ds : List D} {B : Nat} (hf : ∀ z d, z.length ≤ B → f z = some d → ok d ∧ g d = z.cps.toList) (hB : ∀ p ∈ ps, p.length ≤ B) (h : (ps.map S).mapM f = some ds) : (∀ d ∈ ds, ok d) ∧ ds.map g = ps := by
  obtain ⟨h1, h2⟩ := mapM_back h
  rw [List.length_map] at h1
  have at_ : ∀ (i : Nat) p, ps[i]? = some p → ∃ d, ds[i]? = some d ∧ ok d ∧ g d = p := fun i p q => by
    obtain ⟨d, e1, e2⟩ := h2 i (S p) (by rw [List.getElem?_map, q]; rfl)
    obtain ⟨k1, k2⟩ := hf _ _ (by rw [S_len]; exact hB p (List.mem_of_getElem? q)) e2
    exact ⟨d, e1, k1, k2⟩
  refine ⟨fun d hd => ?_, ?_⟩
  · obtain ⟨i, hi⟩ := List.mem_iff_getElem?.mp hd
    have hil := (List.getElem?_eq_some_iff.mp hi).1
    obtain ⟨d', e1, e2, _⟩ := at_ i _ (List.getElem?_eq_getElem (show i < ps.length by omega))
    rw [hi] at e1
    cases e1
    exact e2
  · refine List.ext_getElem? fun i => ?_
    rw [List.getElem?_map]
    cases e : ps[i]? with
    | none => rw [List.getElem?_eq_none (by have := List.getElem?_eq_none_iff.mp e; omega)]; rfl
    | some p =>
      obtain ⟨d, e1, _, e3⟩ := at_ i p e
      rw [e1]
      show some (g d) = some p
      rw [e3]
theorem rdAt_back {z : Str} {a : D} (hl : z.length ≤ 4000) (h : rdAt z = some a) : okA a ∧ atomT a = z.cps.toList := by
  unfold rdAt at h
  rcases partition_any (y := [40]) (by simp) z.cps.toList with ⟨e, _⟩ | ⟨r, b, ez, e⟩
  · rw [S_of] at e
    rw [e] at h
    rw [if_neg (by
      intro q
      have := (Bool.and_eq_true_iff.mp q).2
      obtain ⟨b, hb⟩ := ends_back (l := []) this
      cases b <;> simp at hb)] at h
    cases h
  · rw [S_of] at e
    rw [e] at h
    dsimp only at h
    by_cases hc : (wordB (S r).cps.toList && Txt.endswith (S b) (S [41])) = true
    · rw [if_pos hc] at h
      obtain ⟨hw, hend⟩ := Bool.and_eq_true_iff.mp hc
      obtain ⟨b', rfl⟩ := ends_back hend
      rw [cut_last] at h
      have hlen := congrArg List.length ez
      rw [List.length_append, List.length_append, List.length_append, len_list] at hlen
      by_cases hn : S b' = S []
      · rw [if_pos hn] at h
        cases h
        have := S_inj hn
        subst this
        exact ⟨⟨_, _, rfl, hw, (fun d hd => nomatch hd)⟩, by rw [ez]; rfl⟩
      · rw [if_neg hn] at h
        obtain ⟨ps, hne, ej, es⟩ := split_any (y := [44, 32]) (by simp) (by decide) b'
        rw [es] at h
        obtain ⟨ds, hd, rfl⟩ := Option.map_eq_some_iff.mp h
        obtain ⟨k1, k2⟩ := parts_back (B := 4000) (fun z d hz => rdP_back hz) (fun p hp => by
          have := joinL_part (y := [44, 32]) hp
          rw [ej] at this
          omega) hd
        refine ⟨⟨_, _, rfl, hw, k1⟩, ?_⟩
        rw [ez]
        show atomL (S r).cps.toList ds = _
        unfold atomL
        rw [k2, ej, S_list]
    · rw [if_neg hc] at h; cases h
def rdLn (z : Str) : Option (D × List D) := (rdAt (Txt.partition z (S [32, 105, 102, 32])).1).bind fun h => if (Txt.partition z (S [32, 105, 102, 32])).2.1 = Str.empty then some (h, []) else ((Txt.split (Txt.partition z (S [32, 105, 102, 32])).2.2 (S [32, 97, 110, 100, 32])).mapM rdAt).map fun b => (h, b)
theorem rdLn_back {z : Str} {r : D × List D} (hl : z.length ≤ 4000) (h : rdLn z = some r) : okA r.1 ∧ (∀ a ∈ r.2, okA a) ∧ lineL ((r.1 :: r.2).map atomT) = z.cps.toList := by
  unfold rdLn at h
  obtain ⟨hd, h1, h⟩ := Option.bind_eq_some_iff.mp h
  rcases partition_any (y := [32, 105, 102, 32]) (by simp) z.cps.toList with ⟨e, _⟩ | ⟨a, b, ez, e⟩
  · rw [S_of] at e
    rw [e] at h h1
    rw [if_pos rfl] at h
    cases h
    obtain ⟨k1, k2⟩ := rdAt_back hl h1
    exact ⟨k1, (fun a ha => nomatch ha), k2⟩
  · rw [S_of] at e
    rw [e] at h h1
    dsimp only at h h1
    rw [if_neg (fun q => by have := S_inj (a := [32, 105, 102, 32]) (b := []) q; cases this)] at h
    have hlen := congrArg List.length ez
    rw [List.length_append, List.length_append, len_list] at hlen
    obtain ⟨k1, k2⟩ := rdAt_back (by rw [S_len]; omega) h1
    obtain ⟨ps, hne, ej, es⟩ := split_any (y := [32, 97, 110, 100, 32]) (by simp) (by decide) b
    rw [es] at h
    obtain ⟨ds, hds, rfl⟩ := Option.map_eq_some_iff.mp h
    obtain ⟨g1, g2⟩ := parts_back (B := 4000) (fun z d hz => rdAt_back hz) (fun p hp => by
      have := joinL_part (y := [32, 97, 110, 100, 32]) hp
      rw [ej] at this
      omega) hds
    refine ⟨k1, g1, ?_⟩
    show lineL (atomT hd :: ds.map atomT) = _
    rw [g2, ez, k2, S_list]
    cases ps with
    | nil => exact absurd rfl hne
    | cons q r =>
      show a ++ [32, 105, 102, 32] ++ joinL [32, 97, 110, 100, 32] (q :: r) = _
      rw [ej]
end FL

set_option Elab.async false
set_option linter.all false
set_option maxRecDepth 100000
namespace FL
open PySem
theorem rdP_part {p : D} (h : goodP p) : rdP (S (partL p)) = some p := by
  cases p with
  | str x =>
    show (if (wordB (S (x.cps.toList)).cps.toList || blankB (S (x.cps.toList)).cps.toList) = true then some (D.str (S x.cps.toList)) else _) = _
    rw [S_of, if_pos h.1]
  | int i =>
    show (if (wordB (S (numL i)).cps.toList || blankB (S (numL i)).cps.toList) = true then some (D.str (S (numL i))) else if numB (S (numL i)).cps.toList = true then _ else _) = _
    rw [S_list, (num_not_word i).1, (num_not_word i).2, if_neg (by simp), if_pos (num_numB i), show PySem.intText? (S (partL (D.int i))) = some i from num_reads h]
    rfl
  | _ => exact h.elim
theorem mapM_all {α β : Type} {f : α → Option β} {g : β → α} : ∀ {l : List β}, (∀ b ∈ l, f (g b) = some b) → (l.map g).mapM f = some l
  | [], _ => rfl
  | b :: l, h => by
    rw [List.map_cons, List.mapM_cons, h b List.mem_cons_self, mapM_all fun x hx => h x (List.mem_cons_of_mem _ hx)]
    rfl
theorem rdAt_atom {a : D} (h : goodA a) : rdAt (S (atomT a)) = some a := by
  obtain ⟨rel, ps, g, e⟩ := goodA_T h
  rw [e]
  unfold rdAt
  rw [read_open g.word]
  dsimp only
  rw [S_list, g.word, ends_close, if_pos (show (true && true) = true from rfl), cut_last]
  by_cases hn : ps = []
  · subst hn
    rw [if_pos (show S (joinL [44, 32] (List.map partL [])) = S [] from rfl), g.eq, S_of]
  · rw [if_neg fun z => join_ne hn g.good (S_inj z), read_comma hn g.good, List.map_map, mapM_all (g := S ∘ partL) fun d hd => rdP_part (g.good d hd), S_of, g.eq]
    rfl
theorem rdLn_line {h : D} {b : List D} (g : GoodR h b) : rdLn (lineS h b) = some (h, b) := by
  obtain ⟨g1, g2, _⟩ := g
  unfold rdLn lineS
  cases b with
  | nil =>
    have e : Txt.partition (S (lineL ([h].map atomT))) (S [32, 105, 102, 32]) = (S (atomT h), Str.empty, Str.empty) := read_fact (goodA_sp g1).1
    rw [e]
    show (rdAt (S (atomT h))).bind _ = _
    rw [rdAt_atom g1]
    rfl
  | cons b r =>
    have e : Txt.partition (S (lineL ((h :: b :: r).map atomT))) (S [32, 105, 102, 32]) = (S (atomT h), S [32, 105, 102, 32], S (joinL [32, 97, 110, 100, 32] ((b :: r).map atomT))) := read_if (goodA_sp g1).1 (goodA_sp g1).2
    rw [e]
    dsimp only
    rw [rdAt_atom g1, Option.bind_some, if_neg (fun q => by have := S_inj (a := [32, 105, 102, 32]) (b := []) q; cases this), read_and (by simp) (fun p hp => by
      obtain ⟨a, ha, rfl⟩ := List.mem_map.mp hp
      exact goodA_sp (g2 a ha)), List.map_map, mapM_all (g := S ∘ atomT) fun a ha => rdAt_atom (g2 a ha)]
    rfl
def txt (s : String) : L := s.toList.map Char.toNat
def goodT : List L := ["0", "-1", "10", "ash", "X", "Xa"].map txt
def badT : List L := ["-0", "01", "-", "aX", "", "XX", "x1", " a", "+1", "a)", "X1", "XaY", "X-", "a ", "", "00", "-05", ""].map txt
def gapT : List L := [",", ",  ", " , "].map txt
def lineT (a g b : L) : L := txt "road(" ++ a ++ g ++ b ++ txt ") if rain()"
def noR (l : L) : Bool := (rdLn (S l)).isNone
end FL

set_option Elab.async false
set_option maxRecDepth 100000
namespace FL
open PySem
def badA (a : L) : Bool := badT.all fun b => noR (lineT a (txt ", ") b) && noR (lineT b (txt ", ") a)
def badG (a : L) : Bool := goodT.all fun b => gapT.all fun g => noR (lineT a g b)
theorem bad0 : badA (txt "0") = true ∧ badG (txt "0") = true := ⟨by decide +kernel, by decide +kernel⟩
theorem bad1 : badA (txt "-1") = true ∧ badG (txt "-1") = true := ⟨by decide +kernel, by decide +kernel⟩
theorem bad2 : badA (txt "10") = true ∧ badG (txt "10") = true := ⟨by decide +kernel, by decide +kernel⟩
theorem bad3 : badA (txt "ash") = true ∧ badG (txt "ash") = true := ⟨by decide +kernel, by decide +kernel⟩
theorem bad4 : badA (txt "X") = true ∧ badG (txt "X") = true := ⟨by decide +kernel, by decide +kernel⟩
theorem bad5 : badA (txt "Xa") = true ∧ badG (txt "Xa") = true := ⟨by decide +kernel, by decide +kernel⟩
theorem bad_all : ∀ a ∈ goodT, badA a = true ∧ badG a = true := by
  intro a ha
  simp only [goodT, List.map_cons, List.map_nil, List.mem_cons, List.not_mem_nil, or_false] at ha
  rcases ha with rfl | rfl | rfl | rfl | rfl | rfl
  · exact bad0
  · exact bad1
  · exact bad2
  · exact bad3
  · exact bad4
  · exact bad5
theorem noR_none {l : L} (h : noR l = true) : rdLn (S l) = none := by
  unfold noR at h
  cases e : rdLn (S l) with
  | none => rfl
  | some r => rw [e] at h; cases h
theorem bad_line {a b : L} (ha : a ∈ goodT) (hb : b ∈ badT) : rdLn (S (lineT a (txt ", ") b)) = none ∧ rdLn (S (lineT b (txt ", ") a)) = none := by
  obtain ⟨h1, h2⟩ := Bool.and_eq_true_iff.mp (List.all_eq_true.mp (bad_all a ha).1 b hb)
  exact ⟨noR_none h1, noR_none h2⟩
theorem gap_line {a b g : L} (ha : a ∈ goodT) (hb : b ∈ goodT) (hg : g ∈ gapT) : rdLn (S (lineT a g b)) = none := noR_none (List.all_eq_true.mp (List.all_eq_true.mp (bad_all a ha).2 b hb) g hg)
end FL

set_option Elab.async false
set_option linter.all false
set_option maxRecDepth 100000
namespace L2
open PySem PySem.Spec PyProof.Rows
section
variable {X : Cx}
theorem op_le_str : OpR X (compareOp .LtE) (fun x y H Q => ∃ i j, x = .str i ∧ y = .str j ∧ Q (.bl (!decide (j.cps.toList < i.cps.toList))) H) := by
  intro pins s σ H x y v u Q I rx ry h
  obtain ⟨i, j, rfl, rfl, q⟩ := h
  obtain ⟨t, rfl⟩ := rx
  obtain ⟨t', rfl⟩ := ry
  exact P.le_str (fin_bl I q rfl)
variable {e : Expr} {te : TE} {pos : Pos}
def tFmtR (te : TE) : TE := fun σ H Q => te σ H fun x H1 => ∃ y, x = .str y ∧ (reprText y).length ≤ sizeLine ∧ Q (.str (reprText y)) H1
theorem pe_fmtR (h : PE X e te) : PE X (.FormattedValue e 114 none pos) (tFmtR te) := fun pins s σ H Q I hq => by
  refine wpAny_FormattedValue_repr (thn (h pins s σ H _ I hq) fun v s1 ⟨x, H1, I1, r1, y, ey, hz, q⟩ => ?_)
  subst ey
  obtain ⟨tk, rfl⟩ := r1
  refine pyReprObj_str ?_ hz
  exact formatField_str (fun t' k => ⟨.str (reprText y), H1, I1.kept (t' := k) fun b o e => e, ⟨_, rfl⟩, q⟩) hz
end
section
variable {X : Cx} {tg iter elt : Expr} {ifs : List Expr} {scope : Scope} {pos : Pos} {wi : TI} {g : TG} {tt : TT} {E : Value → St → Hp → Prop} {te : St → TE}
theorem pe_compAC (N' : List Str) (idx : List Nat) (k : Nat) (O : Own X) (hi : PI (X.wish (Air X E)) tg iter wi) (hg : ∀ cl C fp s H, PG (cxComp X N' scope cl C fp s H) tg g) (hts : ∀ cl C fp s H, PTs (cxComp X N' scope cl C fp s H) ifs tt)
    (hel : ∀ σ cl C fp s H, PE ((cxComp X N' scope cl C fp s H).wish (CAir (cxComp X N' scope cl C fp s H) fun cls H' => E cls σ H')) elt (te σ))
    (hc : X.calm = true := by rfl) (hkind : scope.kind = .function := by rfl) (hck : FL.scopeChk X.env.scope scope = true := by rfl) (hl : N'.length = idx.length + k := by rfl) (hcp : FL.capChk X.N N' scope.names idx 0 = true := by rfl)
    (hs : ∀ x, foldedSetIterable iter X.env x = pure x := by intro _; rfl) : PE (X.wish (Air X E)) (.ListComp elt [⟨tg, iter, ifs, 0⟩] scope pos) (fun σ => tComp wi (FL.capsOf idx k) g tt (te σ) σ) :=
  let h := FL.scopeChk_ok hck
  pe_compA O hc hkind h.1 h.2.1 h.2.2 (FL.caps_ok hl hcp) hi hg hts hel hs
variable {N' : List Str} {cl : List (Str × Addr)} {C : Addr} {fp : List Addr} {s : Shared} {H : Hp} {EE : Value → Hp → Prop}
theorem pe_ownYc {n : Nat} {x : Str} {ps : List Str} {sp : Sp} {e : Expr} {es : List Expr} {t : TA} {p pos : Pos} {m : Nat} (h : HasA X.prog X.w X.K X.mg X.base n x ps sp) (hr : Room m X.A) (ha : PA ((cxComp X N' scope cl C fp s H).wish (CAir (cxComp X N' scope cl C fp s H) EE)) (e :: es) t) (hle : n ≤ m := by decide)
    (hg : Gl (cxComp X N' scope cl C fp s H) x := by rfl) (hdb : (x == ("__debug__" : Str)) = false := by decide) (he : starEach (e :: es) (cxComp X N' scope cl C fp s H).env = (false, eval e (cxComp X N' scope cl C fp s H).env) :: starEach es (cxComp X N' scope cl C fp s H).env := by rfl) (hpl : (backTo pos (starEach es (cxComp X N' scope cl C fp s H).env)).any (·.1) = false := by rfl) :
    PE ((cxComp X N' scope cl C fp s H).wish (CAir (cxComp X N' scope cl C fp s H) EE)) (.Call (.Name x p) (e :: es) [] pos) (tCallA sp (fun cls _ H => EE cls H) t) := pe_ownY (Y := cxComp X N' scope cl C fp s H) h hr ha hle hg hdb he hpl
end
end L2
namespace FL
open PySem L2
def spO (C : Addr) (R : List D → Option D → Prop) : Sp := fun vs H Q E => ∃ M ds o, Live M H ∧ Reps (but H M) vs ds ∧ R ds o ∧ (∀ d, o = some d → ∀ v H', Same H H' → Rep (but H' M) v d → Q v H') ∧ (o = none → ∀ H', Same H H' → E (.ref C) none H')
theorem spO_len {C : Addr} {R : List D → Option D → Prop} {n : Nat} (hn : ∀ ds o, R ds o → ds.length = n) : ∀ vs H Q E, spO C R vs H Q E → vs.length = n := fun vs H Q E ⟨M, ds, o, l, r, e, _⟩ => by rw [r.length]; exact hn ds o e
def EvN (te : TE) (G : Hp) (σ : St) (Z : Hp → Prop) : Prop := ∀ M H, Same G (but H M) → Live M H → (∀ H', Same H H' → Z H') → ∀ Q, te σ H Q
def EvAN (te : TA) (G : Hp) (σ : St) (Z : Hp → Prop) : Prop := ∀ M H, Same G (but H M) → Live M H → (∀ H', Same H H' → Z H') → ∀ Q, te σ H Q
section
variable {G : Hp} {σ : St} {ta tb te : TE} {t : TA} {d : D} {ds : List D} {Z : Hp → Prop} {C : Addr} {R : List D → Option D → Prop} {ES : Value → St → Hp → Prop}
theorem EvN.at {M : List Addr} {H : Hp} (h : EvN te (but H M) σ Z) (l : Live M H) (k : ∀ H', Same H H' → Z H') (Q : VK) : te σ H Q := h M H (Same.refl _) l k Q
theorem ev_callO (hR : R ds (some d)) (ha : EvA t G σ ds) : EvM (tCallA (spO C R) ES t) G σ d :=
  fun M H s l Q k => ha M H s l _ fun vs H1 s1 rs => ⟨M, ds, some d, l.same s1, rs, hR, fun d' e v H' s' r => by cases e; exact k v H' (s1.trans s') r, fun e => nomatch e⟩
theorem evn_callO (hR : R ds none) (ha : EvA t G σ ds) : EvN (tCallA (spO C R) ES t) G σ (ES (.ref C) σ) :=
  fun M H s l k Q => ha M H s l _ fun vs H1 s1 rs => ⟨M, ds, none, l.same s1, rs, hR, (fun d e => nomatch e), fun _ H' s' => k H' (s1.trans s')⟩
theorem evan_1 (h : EvN te G σ Z) : EvAN (tCons te t) G σ Z := fun M H s l k Q => h M H s l k _
theorem evan_2 (h : EvM te G σ d) (h2 : EvAN t G σ Z) : EvAN (tCons te t) G σ Z := fun M H s l k Q => h M H s l _ fun v H1 s1 _ => h2 M H1 (s.trans (s1.but M)) (l.same s1) (fun H' s' => k H' (s1.trans s')) _
theorem evn_cb {r : List V → Hp → VK → Prop} (h : EvAN t G σ Z) : EvN (tCB r t) G σ Z := fun M H s l k Q => h M H s l k _
theorem evn_tup (h : EvAN t G σ Z) : EvN (tTup t) G σ Z := fun M H s l k Q => h M H s l k _
theorem evn_op2 {r : R2} (h : EvM ta G σ d) (h2 : EvN tb G σ Z) : EvN (tOp r ta tb) G σ Z := fun M H s l k Q => h M H s l _ fun v H1 s1 _ => h2 M H1 (s.trans (s1.but M)) (l.same s1) (fun H' s' => k H' (s1.trans s')) _
theorem evn_comp {wi : TI} {caps : St → St} {i : Nat} {f : D → Option D} (hw : Walk wi G σ ds)
    (he : ∀ G' v d, Same G G' → d ∈ ds → Rep G' v d → (∃ y, f d = some y ∧ EvM te G' ((caps σ).set i (some v)) y) ∨ (f d = none ∧ EvN te G' ((caps σ).set i (some v)) Z)) (hn : ∃ d ∈ ds, f d = none) (hz : ds.length < sizeLine) :
    EvN (tComp wi caps (gName i) tYes te) G σ Z := fun M H s l kz Q => hw M H s l _ fun J H1 s1 hgo hstop D hD => by
  have lf : D ∉ M := (l.same s1).fresh hD
  have sG1 : Same G (but H1 M) := s.trans (s1.but M)
  refine ⟨fun j m τ H' => m = ds.length - j ∧ j ≤ ds.length ∧ (∀ v, τ.set i (some v) = (caps σ).set i (some v)) ∧ Same H1 H' ∧ (∀ d ∈ ds.take j, f d ≠ none) ∧ ∃ ys, H' D = some (.lst ys) ∧ ys.length ≤ j,
    ⟨ds.length, by simp, Nat.zero_le _, fun _ => rfl, same_new hD _, (fun d h => by simp at h), [], upd_same, Nat.le_refl _⟩, ?_⟩
  rintro j m τ H' ⟨rfl, hj, hτ, s2, hf, ys, hD', ly⟩
  have hs : Same (but H1 M) (but H' (D :: M)) := sub_hide hD s2
  have hl : Live (D :: M) H' := ((l.same s1).same s2).cons hD'
  by_cases hlt : j < ds.length
  · have hd : ds[j]? = some ds[j] := List.getElem?_eq_getElem hlt
    obtain ⟨go, gy⟩ := hgo j _ (D :: M) H' hd hs hl
    refine .inr ⟨go, fun τ' H'' => (∀ v, τ'.set i (some v) = (caps σ).set i (some v)) ∧ Same H1 H'' ∧ (∀ d ∈ ds.take (j + 1), f d ≠ none) ∧ ∃ ys, H'' D = some (.lst ys) ∧ ys.length ≤ j + 1,
      fun τ' H'' ⟨a, b, c⟩ => ⟨ds.length - (j + 1), by omega, rfl, hlt, a, b, c⟩, fun x H'' hy => ?_⟩
    obtain ⟨s3, rx⟩ := gy x H'' hy
    have hm : ds[j] ∈ ds := List.getElem_mem hlt
    have sG : Same G (but H'' (D :: M)) := sG1.trans (hs.trans (s3.but _))
    have hl3 := hl.same s3
    have setset : ∀ v, ((caps σ).set i (some x)).set i (some v) = (caps σ).set i (some v) := fun v => by rw [List.set_set]
    show te (τ.set i (some x)) H'' _
    rw [hτ x]
    rcases he _ x _ sG hm rx with ⟨y, hy1, hy2⟩ | ⟨_, hy2⟩
    · refine hy2 (D :: M) H'' (Same.refl _) hl3 _ fun v H5 s5 r5 => ?_
      have hD5 : H5 D = some (.lst ys) := s5 _ _ (s3 _ _ hD')
      refine ⟨ys, hD5, by omega, setset, ?_, ?_, ys ++ [v], upd_same, by rw [List.length_append, List.length_singleton]; omega⟩
      · intro b o e
        rw [upd_ne (ne_of_none e hD)]
        exact s5 _ _ (s3 _ _ (s2 _ _ e))
      · intro d hd'
        rw [List.take_add_one, hd] at hd'
        rcases List.mem_append.mp hd' with z | z
        · exact hf d z
        · have : d = ds[j] := by simpa using z
          rw [this, hy1]
          exact fun z => nomatch z
    · exact hy2 (D :: M) H'' (Same.refl _) hl3 (fun H6 s6 => kz H6 (s1.trans (s2.trans (s3.trans s6)))) _
  · have e : j = ds.length := by omega
    subst e
    obtain ⟨d, hd, e⟩ := hn
    exact absurd e (hf d (by rw [List.take_of_length_le (Nat.le_refl _)]; exact hd))
theorem ev_fmtR {z : Str} (hz : (reprText z).length ≤ sizeLine) (ha : EvM ta G σ (.str z)) : EvM (tFmtR ta) G σ (.str (reprText z)) := fun M H s l Q k => ha M H s l _ fun x H1 s1 rx => ⟨z, rx.of_str, hz, k _ H1 s1 (.str _)⟩
theorem repr_fits {z : L} (h : ∀ c ∈ z, c < 128) (hl : z.length ≤ 5000) : (reprText (S z)).length ≤ 50002 := by
  have := StrLaws.reprText_len (S z) (fun c hc => Nat.lt_trans (h c hc) (by decide))
  rw [S_len] at this
  omega
theorem lex1 (a b : Nat) (y : L) : (decide (([b] : L) < a :: y)) = decide (b < a ∨ (b = a ∧ y ≠ [])) := by
  rw [decide_eq_decide, List.cons_lt_cons_iff]
  cases y <;> simp
end
end FL

set_option Elab.async false
set_option linter.all false
set_option maxRecDepth 100000
set_option exponentiation.threshold 3000
namespace FL
open PySem
def dm (c : Nat) : Bool := decide (c = 45) || dig c
def runB (n : Nat) : Nat → L → Bool
  | k, [] => decide (k ≤ n)
  | k, c :: r => if dm c = true then runB n (k + 1) r else decide (k ≤ n) && runB n 0 r
theorem r_le {n : Nat} : ∀ {l : L} {k : Nat}, runB n k l = true → k ≤ n
  | [], k, h => of_decide_eq_true h
  | c :: r, k, h => by
    rw [runB] at h
    split at h
    · have := r_le h; omega
    · exact of_decide_eq_true (Bool.and_eq_true_iff.mp h).1
theorem r_mono {n n' : Nat} (hn : n ≤ n') : ∀ {l : L} {k k' : Nat}, runB n k l = true → k' ≤ k → runB n' k' l = true
  | [], k, k', h, hk => by have := r_le h; exact decide_eq_true (by omega)
  | c :: r, k, k', h, hk => by
    have h0 := r_le h
    rw [runB] at h ⊢
    split at h
    · rename_i hc
      rw [if_pos hc]
      exact r_mono hn h (by omega)
    · rename_i hc
      rw [if_neg hc, Bool.and_eq_true]
      exact ⟨decide_eq_true (by omega), r_mono hn (Bool.and_eq_true_iff.mp h).2 (Nat.le_refl _)⟩
theorem r_pre {n : Nat} {b : L} : ∀ {a : L} {k : Nat}, runB n k (a ++ b) = true → runB n k a = true
  | [], k, h => decide_eq_true (r_le h)
  | c :: r, k, h => by
    rw [List.cons_append, runB] at h
    rw [runB]
    split at h
    · rename_i hc; rw [if_pos hc]; exact r_pre h
    · rename_i hc
      rw [if_neg hc, Bool.and_eq_true]
      exact ⟨(Bool.and_eq_true_iff.mp h).1, r_pre (Bool.and_eq_true_iff.mp h).2⟩
theorem r_suf {n : Nat} {b : L} : ∀ {a : L} {k : Nat}, runB n k (a ++ b) = true → runB n 0 b = true
  | [], k, h => r_mono (Nat.le_refl _) h (Nat.zero_le _)
  | c :: r, k, h => by
    rw [List.cons_append, runB] at h
    split at h
    · exact r_suf h
    · exact r_suf (Bool.and_eq_true_iff.mp h).2
theorem r_len {n : Nat} : ∀ {l : L} {k : Nat}, k + l.length ≤ n → runB n k l = true
  | [], k, h => decide_eq_true h
  | c :: r, k, h => by
    rw [List.length_cons] at h
    rw [runB]
    split
    · exact r_len (by omega)
    · rw [Bool.and_eq_true]
      exact ⟨decide_eq_true (by omega), r_len (by omega)⟩
theorem r_num {n : Nat} : ∀ {l : L} {k : Nat}, (∀ c ∈ l, dm c = true) → runB n k l = true → k + l.length ≤ n
  | [], k, _, h => of_decide_eq_true h
  | c :: r, k, hl, h => by
    rw [runB, if_pos (hl c List.mem_cons_self)] at h
    have := r_num (fun d hd => hl d (List.mem_cons_of_mem _ hd)) h
    rw [List.length_cons]
    omega
theorem r_shift {m j : Nat} : ∀ {l : L} {k : Nat}, runB m k l = true → runB (m + j) (k + j) l = true
  | [], k, h => by have := r_le h; exact decide_eq_true (by omega)
  | c :: r, k, h => by
    have h0 := r_le h
    rw [runB] at h ⊢
    split at h
    · rename_i hc
      rw [if_pos hc]
      have := r_shift (j := j) h
      rwa [show k + 1 + j = k + j + 1 by omega] at this
    · rename_i hc
      rw [if_neg hc, Bool.and_eq_true]
      exact ⟨decide_eq_true (by omega), r_mono (by omega) (Bool.and_eq_true_iff.mp h).2 (Nat.le_refl _)⟩
theorem r_app {n m : Nat} {y : L} (hy : runB m 0 y = true) : ∀ {x : L} {k : Nat}, runB n k x = true → runB (n + m) k (x ++ y) = true
  | [], k, h => by
    have h0 := r_le h
    have := r_shift (j := k) hy
    rw [Nat.zero_add] at this
    exact r_mono (by omega) this (Nat.le_refl _)
  | c :: r, k, h => by
    have h0 := r_le h
    rw [List.cons_append, runB]
    rw [runB] at h
    split at h
    · rename_i hc; rw [if_pos hc]; exact r_app hy h
    · rename_i hc
      rw [if_neg hc, Bool.and_eq_true]
      exact ⟨decide_eq_true (by omega), r_app hy (Bool.and_eq_true_iff.mp h).2⟩
theorem r_sep {n c : Nat} {y : L} (hc : dm c = false) (hy : runB n 0 y = true) : ∀ {x : L} {k : Nat}, runB n k x = true → runB n k (x ++ c :: y) = true
  | [], k, h => by
    rw [List.nil_append, runB, if_neg (by rw [hc]; exact Bool.false_ne_true), Bool.and_eq_true]
    exact ⟨decide_eq_true (r_le h), hy⟩
  | d :: r, k, h => by
    rw [List.cons_append, runB]
    rw [runB] at h
    split at h
    · rename_i hd; rw [if_pos hd]; exact r_sep hc hy h
    · rename_i hd
      rw [if_neg hd, Bool.and_eq_true]
      exact ⟨(Bool.and_eq_true_iff.mp h).1, r_sep hc hy (Bool.and_eq_true_iff.mp h).2⟩
theorem r_cons {n c : Nat} {y : L} (hc : dm c = false) (hy : runB n 0 y = true) : runB n 0 (c :: y) = true := r_sep (x := []) hc hy (decide_eq_true (Nat.zero_le _))
structure FitL (l : L) : Prop where
  asc : ∀ c ∈ l, c < 128
  len : l.length ≤ 4000
  run : runB 500 0 l = true
theorem FitL.sub {a l b : L} (h : FitL (a ++ l ++ b)) : FitL l :=
  ⟨fun c hc => h.asc c (List.mem_append_left _ (List.mem_append_right _ hc)), by have := h.len; simp only [List.length_append] at this; omega, r_suf (r_pre h.run)⟩
theorem FitL.pre {a b : L} (h : FitL (a ++ b)) : FitL a := FitL.sub (a := []) (b := b) (by simpa using h)
theorem FitL.suf {a b : L} (h : FitL (a ++ b)) : FitL b := FitL.sub (a := a) (b := []) (by simpa using h)
theorem joinL_sub {y : L} : ∀ {ps : List L} {p : L}, p ∈ ps → ∃ a b, joinL y ps = a ++ p ++ b
  | [], p, h => nomatch h
  | [q], p, h => by
    rw [List.mem_singleton.mp h]
    exact ⟨[], [], by simp [joinL]⟩
  | q :: q2 :: r, p, h => by
    rcases List.mem_cons.mp h with e | e
    · subst e
      exact ⟨[], y ++ joinL y (q2 :: r), by simp [joinL]⟩
    · obtain ⟨a, b, e2⟩ := joinL_sub (y := y) e
      exact ⟨q ++ y ++ a, b, by rw [joinL, e2]; simp⟩
theorem FitL.part {y : L} {ps : List L} (h : FitL (joinL y ps)) {p : L} (hp : p ∈ ps) : FitL p := by
  obtain ⟨a, b, e⟩ := joinL_sub (y := y) hp
  rw [e] at h
  exact h.sub
theorem joinL_count {y : L} (hy : y ≠ []) : ∀ (ps : List L), ps.length ≤ (joinL y ps).length + 1 ∧ (ps.map List.length).sum ≤ (joinL y ps).length
  | [] => ⟨Nat.zero_le _, Nat.zero_le _⟩
  | [p] => ⟨by simp, by simp [joinL]⟩
  | p :: q :: r => by
    have := joinL_count hy (q :: r)
    have h0 : 0 < y.length := List.length_pos_iff.mpr hy
    simp only [joinL, List.length_append, List.length_cons, List.map_cons, List.sum_cons] at this ⊢
    omega
theorem num_dm {l : L} (h : numB l = true) : ∀ c ∈ l, dm c = true := by
  unfold numB at h
  rcases Bool.or_eq_true_iff.mp h with h | h
  · rw [of_decide_eq_true h]; decide
  · have h3 := (Bool.and_eq_true_iff.mp (Bool.and_eq_true_iff.mp h).2).2
    rw [List.all_eq_true] at h3
    intro c hc
    unfold figs at h3
    split at h3
    · rename_i hh
      cases l with
      | nil => cases hc
      | cons d r =>
        rcases List.mem_cons.mp hc with e | e
        · have : d = 45 := by simpa using hh
          rw [e, this]; rfl
        · have := h3 c (by simpa using e)
          unfold dm; rw [this, Bool.or_true]
    · unfold dm; rw [h3 c hc, Bool.or_true]
theorem digs_big : ∀ (k n : Nat), n ≤ k → n < 10 ^ (digs n).length
  | k, n, h => by
    by_cases h1 : n < 10
    · rw [digs_one h1]; simpa using h1
    · cases k with
      | zero => omega
      | succ k =>
        have ih := digs_big k (n / 10) (by omega)
        rw [digs_step n (by omega), digs_one (n := n % 10) (by omega), List.length_append, List.length_singleton, Nat.pow_succ]
        omega
theorem num_small500 {i : Int} (h : (numL i).length ≤ 500) : i.natAbs.log2 < 1920 := by
  have h1 : (digs i.natAbs).length ≤ 500 := by
    unfold numL at h
    split at h
    · rw [List.length_cons] at h; omega
    · exact h
  have h2 := digs_big i.natAbs i.natAbs (Nat.le_refl _)
  have h3 : i.natAbs < 10 ^ 500 := Nat.lt_of_lt_of_le h2 (Nat.pow_le_pow_right (by decide) h1)
  have h4 : (10 : Nat) ^ 500 ≤ 2 ^ 1920 := by decide +kernel
  by_cases h0 : i.natAbs = 0
  · rw [h0]; decide
  · exact (Nat.log2_lt h0).mpr (Nat.lt_of_lt_of_le h3 h4)
theorem FitL.num {l : L} (h : FitL l) (hn : numB l = true) : ∃ i : Int, PySem.intText? (S l) = some i ∧ numL i = l ∧ l.length ≤ 500 ∧ i.natAbs.log2 < 1920 := by
  obtain ⟨i, h1, h2⟩ := num_back hn h.len
  have h3 := r_num (num_dm hn) h.run
  rw [Nat.zero_add] at h3
  exact ⟨i, h1, h2, h3, num_small500 (by rw [h2]; exact h3)⟩
def okW : D → Prop
  | .str x => (wordB x.cps.toList || blankB x.cps.toList) = true
  | .int i => i.natAbs.log2 < 1920
  | _ => False
def wrA (a : D) : Prop := ∃ rel ps, a = .tup (.str rel :: ps) ∧ wordB rel.cps.toList = true ∧ ∀ d ∈ ps, okW d
structure FitR (h : D) (b : List D) : Prop where
  atm : ∀ a ∈ h :: b, wrA a
  len : (lineL ((h :: b).map atomT)).length ≤ 4000
theorem okW_text {d : D} (h : okW d) : d.text = S (partL d) := by
  cases d with
  | str x => exact (S_of x).symm
  | int i =>
    show Str.ofString (toString i) = S (numL i)
    rw [← num_text, S_of]
  | _ => exact h.elim
theorem okW_small {d : D} (h : okW d) : d.smallS = true := by
  cases d with
  | str x => rfl
  | int i =>
    have h : i.natAbs.log2 < 1920 := h
    show decide (i.natAbs.log2 < 1920) = true
    exact decide_eq_true h
  | _ => exact h.elim
theorem okW_of {d : D} (h : goodP d) : okW d := by
  have := part_small h
  cases d with
  | str x => exact h.1
  | int i =>
    have this : decide (i.natAbs.log2 < 1920) = true := this
    show i.natAbs.log2 < 1920
    exact of_decide_eq_true this
  | _ => exact h.elim
theorem wrA_of {a : D} (h : goodA a) : wrA a := by
  obtain ⟨rel, ps, g⟩ := h
  exact ⟨rel, ps, g.eq, g.word, fun d hd => okW_of (g.good d hd)⟩
theorem rdP_ok {l : L} {d : D} (f : FitL l) (h : rdP (S l) = some d) : okW d := by
  unfold rdP at h
  rw [S_list] at h
  split at h
  · cases h; assumption
  · split at h
    · obtain ⟨i, h1, _, _, h4⟩ := f.num (by assumption)
      rw [h1] at h
      cases h
      exact h4
    · cases h
theorem mapM_ok {f : Str → Option D} {ok : D → Prop} {ps : List L} {ds : List D} (hf : ∀ p ∈ ps, ∀ d, f (S p) = some d → ok d) (h : (ps.map S).mapM f = some ds) : ∀ d ∈ ds, ok d := fun d hd => by
  obtain ⟨hl, hb⟩ := mapM_back h
  obtain ⟨i, hi, e⟩ := List.getElem_of_mem hd
  have hi' : i < ps.length := by rw [List.length_map] at hl; omega
  obtain ⟨b, h1, h2⟩ := hb i (S ps[i]) (by rw [List.getElem?_map, List.getElem?_eq_getElem hi']; rfl)
  rw [List.getElem?_eq_getElem hi, e] at h1
  cases h1
  exact hf _ (List.getElem_mem hi') _ h2
theorem rdAt_ok {l : L} {a : D} (f : FitL l) (h : rdAt (S l) = some a) : wrA a := by
  unfold rdAt at h
  rcases partition_any (y := [40]) (by simp) l with ⟨e, _⟩ | ⟨r, b, ez, e⟩
  · rw [e] at h
    rw [if_neg (by
      intro q
      have := (Bool.and_eq_true_iff.mp q).2
      obtain ⟨b, hb⟩ := ends_back (l := []) this
      cases b <;> simp at hb)] at h
    cases h
  · rw [e] at h
    dsimp only at h
    subst ez
    have fb := f.suf
    split at h
    · rename_i hc
      obtain ⟨hw, hend⟩ := Bool.and_eq_true_iff.mp hc
      obtain ⟨b', rfl⟩ := ends_back hend
      have fb' := fb.pre
      rw [cut_last] at h
      split at h
      · cases h
        exact ⟨_, _, rfl, hw, fun d hd => nomatch hd⟩
      · obtain ⟨ps, hne, ej, es⟩ := split_any (y := [44, 32]) (by simp) (by decide) b'
        rw [es] at h
        obtain ⟨ds, hd, rfl⟩ := Option.map_eq_some_iff.mp h
        rw [← ej] at fb'
        exact ⟨_, _, rfl, hw, mapM_ok (fun p hp d => rdP_ok (fb'.part hp)) hd⟩
    · cases h
theorem rdLn_ok {l : L} {r : D × List D} (f : FitL l) (h : rdLn (S l) = some r) : FitR r.1 r.2 ∧ lineL ((r.1 :: r.2).map atomT) = l := by
  obtain ⟨_, _, k3⟩ := rdLn_back (by rw [S_len]; exact f.len) h
  rw [S_list] at k3
  refine ⟨⟨?_, by rw [k3]; exact f.len⟩, k3⟩
  unfold rdLn at h
  obtain ⟨hd, h1, h2⟩ := Option.bind_eq_some_iff.mp h
  clear h
  rcases partition_any (y := [32, 105, 102, 32]) (by simp) l with ⟨e, _⟩ | ⟨a, b, ez, e⟩
  · rw [e] at h2 h1
    rw [if_pos rfl] at h2
    cases h2
    intro a ha
    rw [List.mem_singleton.mp ha]
    exact rdAt_ok f h1
  · rw [e] at h2 h1
    dsimp only at h2 h1
    rw [if_neg (fun q => by have := S_inj (a := [32, 105, 102, 32]) (b := []) q; cases this)] at h2
    subst ez
    obtain ⟨ps, hne, ej, es⟩ := split_any (y := [32, 97, 110, 100, 32]) (by simp) (by decide) b
    rw [es] at h2
    obtain ⟨ds, hds, rfl⟩ := Option.map_eq_some_iff.mp h2
    have fb := f.suf
    rw [← ej] at fb
    have g := mapM_ok (ok := wrA) (fun p hp d => rdAt_ok (fb.part hp)) hds
    intro a' ha
    rcases List.mem_cons.mp ha with q | q
    · rw [q]; exact rdAt_ok f.pre.pre h1
    · exact g a' q
end FL

set_option Elab.async false
set_option linter.all false
set_option maxRecDepth 100000
namespace FL
open PySem
theorem cutL_to {l : L} {p : Nat} (h : p ≤ l.length) : Txt.slice (S l) none (some (p : Int)) = S (l.take p) := by
  show StrLaws.sliceText _ _ _ = _
  rw [StrLaws.sliceText_to ⟨by omega, by rw [S_list]; omega⟩, S_list]
  show S ((l.drop 0).take ((p : Int) - 0).toNat) = S (l.take p)
  rw [List.drop_zero, show ((p : Int) - 0).toNat = p by omega]
theorem cutL_from0 {l : L} {p : Nat} (h : p ≤ l.length) : Txt.slice (S l) (some (p : Int)) none = S (l.drop p) := by
  show StrLaws.sliceText _ _ _ = _
  rw [StrLaws.sliceText_from ⟨by omega, by rw [S_list]; omega⟩, S_list]
  show S (((l.drop (p : Int).toNat)).take ((l.length : Int) - (p : Int)).toNat) = _
  rw [show ((p : Int)).toNat = p by omega, List.take_of_length_le (by rw [List.length_drop]; omega)]
theorem cutL_from {l : L} {p : Nat} : Txt.slice (S l) (some (p : Int)) none = S (l.drop p) := by
  by_cases h : p ≤ l.length
  · exact cutL_from0 h
  · have e : Txt.slice (S l) (some (p : Int)) none = Txt.slice (S l) (some (l.length : Int)) none := by
      show StrLaws.sliceText _ _ _ = StrLaws.sliceText _ _ _
      unfold StrLaws.sliceText
      have : Builtin.Str.strSliceIndices (some (p : Int)) none 1 (S l).length = Builtin.Str.strSliceIndices (some (l.length : Int)) none 1 (S l).length := by
        rw [S_len]
        have a : ¬ ((p : Int) < 0) := by omega
        have b : ¬ ((l.length : Int) < 0) := by omega
        have c : min (p : Int) (l.length : Int) = l.length := by omega
        simp [Builtin.Str.strSliceIndices, a, b, c]
      rw [this]
    rw [e, cutL_from0 (Nat.le_refl _), List.drop_of_length_le (Nat.le_refl _), List.drop_of_length_le (by omega)]
def spoil (l : L) (way : Int) (p c : Nat) : L := if way = 1 then l.take p ++ [c] ++ l.drop (p + 1) else if way = 2 then l.take p ++ l.drop (p + 1) else if way = 3 then l.take p ++ [c] ++ l.drop p else l
theorem spoil_fit {l : L} {way : Int} {p c : Nat} (ha : ∀ d ∈ l, d < 128) (hl : l.length ≤ 3999) (hr : runB 31 0 l = true) (hc : c < 128) : FitL (spoil l way p c) := by
  have t : ∀ k, runB 31 0 (l.take k) = true := fun k => r_pre (b := l.drop k) (by rw [List.take_append_drop]; exact hr)
  have s : ∀ k, runB 31 0 (l.drop k) = true := fun k => r_suf (a := l.take k) (k := 0) (by rw [List.take_append_drop]; exact hr)
  have mt : ∀ k d, d ∈ l.take k → d < 128 := fun k d h => ha d (List.mem_of_mem_take h)
  have md : ∀ k d, d ∈ l.drop k → d < 128 := fun k d h => ha d (List.mem_of_mem_drop h)
  have o : runB 1 0 [c] = true := r_len (by simp)
  have m3 : ∀ k j, ∀ d ∈ l.take k ++ [c] ++ l.drop j, d < 128 := fun k j d hd => by
    rcases List.mem_append.mp hd with z | z
    · rcases List.mem_append.mp z with z | z
      · exact mt _ _ z
      · rw [List.mem_singleton.mp z]; exact hc
    · exact md _ _ z
  have r3 : ∀ k j, runB 500 0 (l.take k ++ [c] ++ l.drop j) = true := fun k j => r_mono (n := 31 + 1 + 31) (by decide) (r_app (s j) (r_app o (t k))) (Nat.le_refl _)
  unfold spoil
  split
  · exact ⟨m3 _ _, by simp only [List.length_append, List.length_take, List.length_drop, List.length_singleton]; omega, r3 _ _⟩
  · split
    · refine ⟨fun d hd => ?_, by simp only [List.length_append, List.length_take, List.length_drop]; omega, r_mono (n := 31 + 31) (by decide) (r_app (s _) (t _)) (Nat.le_refl _)⟩
      rcases List.mem_append.mp hd with z | z
      · exact mt _ _ z
      · exact md _ _ z
    · split
      · exact ⟨m3 _ _, by simp only [List.length_append, List.length_take, List.length_drop, List.length_singleton]; omega, r3 _ _⟩
      · exact ⟨ha, by omega, r_mono (by decide) hr (Nat.le_refl _)⟩
theorem join_run {n c : Nat} {y : L} (hc : dm c = false) (hy : ∀ z, runB n 0 z = true → runB n 0 (y ++ z) = true) : ∀ {ps : List L}, (∀ p ∈ ps, runB n 0 p = true) → runB n 0 (joinL (c :: y) ps) = true
  | [], _ => decide_eq_true (Nat.zero_le _)
  | [p], h => h p List.mem_cons_self
  | p :: q :: r, h => by
    show runB n 0 (p ++ (c :: y) ++ joinL (c :: y) (q :: r)) = true
    rw [List.append_assoc]
    exact r_sep hc (hy _ (join_run hc hy fun z hz => h z (List.mem_cons_of_mem _ hz))) (h p List.mem_cons_self)
theorem goodA_run {a : D} (h : goodA a) : runB 31 0 (atomT a) = true := by
  obtain ⟨rel, ps, g, e⟩ := goodA_T h
  rw [e]
  unfold atomL
  rw [List.append_assoc]
  have hj : runB 31 0 (joinL [44, 32] (ps.map partL)) = true := join_run (by decide) (fun z hz => r_cons (by decide) hz) fun p hp => by
    obtain ⟨d, hd, rfl⟩ := List.mem_map.mp hp
    exact r_len (by have := part_len (g.good d hd); omega)
  have hw : runB 31 0 rel.cps.toList = true := r_len (by have := g.len; rw [← len_list] at this; omega)
  exact r_sep (c := 40) (by decide) (r_sep (c := 41) (y := []) (by decide) (decide_eq_true (Nat.zero_le _)) hj) hw
theorem line_run {h : D} {b : List D} (g : GoodR h b) : runB 31 0 (lineL ((h :: b).map atomT)) = true := by
  cases b with
  | nil => exact goodA_run g.1
  | cons c r =>
    show runB 31 0 (atomT h ++ [32, 105, 102, 32] ++ joinL [32, 97, 110, 100, 32] ((c :: r).map atomT)) = true
    rw [List.append_assoc]
    have hj : runB 31 0 (joinL [32, 97, 110, 100, 32] ((c :: r).map atomT)) = true := join_run (by decide) (fun z hz => r_cons (by decide) (r_cons (by decide) (r_cons (by decide) (r_cons (by decide) hz)))) fun p hp => by
      obtain ⟨d, hd, rfl⟩ := List.mem_map.mp hp
      exact goodA_run (g.2.1 d hd)
    exact r_sep (c := 32) (by decide) (r_cons (by decide) (r_cons (by decide) (r_cons (by decide) hj))) (goodA_run g.1)
theorem line_asc {h : D} {b : List D} (g : GoodR h b) : ∀ c ∈ lineL ((h :: b).map atomT), c < 128 := by
  cases b with
  | nil => exact goodA_asc g.1
  | cons c r =>
    show ∀ d ∈ atomT h ++ [32, 105, 102, 32] ++ joinL [32, 97, 110, 100, 32] ((c :: r).map atomT), d < 128
    intro d hd
    rcases List.mem_append.mp hd with z | z
    · rcases List.mem_append.mp z with z | z
      · exact goodA_asc g.1 d z
      · simp only [List.mem_cons, List.not_mem_nil, or_false] at z; omega
    · rcases joinL_mem z with z | ⟨p, h1, h2⟩
      · simp only [List.mem_cons, List.not_mem_nil, or_false] at z; omega
      · obtain ⟨a, ha, rfl⟩ := List.mem_map.mp h1
        exact goodA_asc (g.2.1 a ha) d h2
def cells : D → Nat
  | .tup l => l.length
  | _ => 0
theorem goodA_cells {a : D} (h : goodA a) : (atomT a).length + 5 ≤ 38 * cells a := by
  obtain ⟨rel, ps, g, e⟩ := goodA_T h
  have hj := joinL_len (y := [44, 32]) (B := 31) (ps := ps.map partL) fun z hz => by
    obtain ⟨d, hd, rfl⟩ := List.mem_map.mp hz
    exact part_len (g.good d hd)
  have hc : cells a = ps.length + 1 := by rw [g.eq]; rfl
  have hw := g.len
  rw [← len_list] at hw
  rw [e, hc]
  unfold atomL
  simp only [List.length_append, List.length_map, List.length_cons, List.length_nil] at hj ⊢
  omega
theorem joinL_sum {y : L} : ∀ {ps : List L}, (joinL y ps).length ≤ (ps.map fun p => p.length + y.length).sum
  | [] => Nat.zero_le _
  | [p] => by simp [joinL]
  | p :: q :: r => by
    have h2 := joinL_sum (y := y) (ps := q :: r)
    show (p ++ y ++ joinL y (q :: r)).length ≤ _
    rw [List.length_append, List.length_append, List.map_cons, List.sum_cons]
    omega
theorem sum_cells : ∀ {b : List D}, (∀ a ∈ b, goodA a) → (b.map fun a => (atomT a).length + 5).sum ≤ 38 * (b.map cells).sum
  | [], _ => Nat.zero_le _
  | a :: r, h => by
    have h1 := goodA_cells (h a List.mem_cons_self)
    have h2 := sum_cells fun x hx => h x (List.mem_cons_of_mem _ hx)
    simp only [List.map_cons, List.sum_cons]
    omega
theorem line_cells {h : D} {b : List D} (g : GoodR h b) : (lineL ((h :: b).map atomT)).length ≤ 38 * ((h :: b).map cells).sum := by
  have h1 := goodA_cells g.1
  rw [List.map_cons (f := cells), List.sum_cons]
  cases b with
  | nil => show (atomT h).length ≤ _; omega
  | cons c r =>
    have h2 := joinL_sum (y := [32, 97, 110, 100, 32]) (ps := (c :: r).map atomT)
    have h3 := sum_cells g.2.1
    rw [List.map_map] at h2
    have h2 : (joinL [32, 97, 110, 100, 32] ((c :: r).map atomT)).length ≤ ((c :: r).map fun a => (atomT a).length + 5).sum := h2
    show (atomT h ++ [32, 105, 102, 32] ++ joinL [32, 97, 110, 100, 32] ((c :: r).map atomT)).length ≤ _
    rw [List.length_append, List.length_append]
    simp only [List.length_cons, List.length_nil]
    omega
theorem mod_lt {x : Int} {n : Nat} (hn : 0 < n) : 0 ≤ x % (n : Int) ∧ (x % (n : Int)).toNat < n := by
  have a := Int.emod_nonneg x (show (n : Int) ≠ 0 by omega)
  have b := Int.emod_lt_of_pos x (show (0 : Int) < n by omega)
  omega
theorem getD_in {l : List L} {k : Nat} (h : k < l.length) : l.getD k [] ∈ l := by
  rw [List.getD, List.getElem?_eq_getElem h]
  exact List.getElem_mem h
def okT (l : L) : Bool := decide (l.length ≤ 5) && l.all fun c => decide (c < 128)
theorem okT_le {l : L} (h : okT l = true) : l.length ≤ 5 ∧ ∀ c ∈ l, c < 128 := by
  obtain ⟨h1, h2⟩ := Bool.and_eq_true_iff.mp h
  exact ⟨of_decide_eq_true h1, fun c hc => of_decide_eq_true (List.all_eq_true.mp h2 c hc)⟩
theorem good_ok : goodT.all okT = true := by decide +kernel
theorem bad_ok : badT.all okT = true := by decide +kernel
theorem gap_ok : gapT.all okT = true := by decide +kernel
theorem lineT_fit {a g b : L} (ha : okT a = true) (hg : okT g = true) (hb : okT b = true) : FitL (lineT a g b) := by
  have h1 := okT_le ha
  have h2 := okT_le hg
  have h3 := okT_le hb
  have l1 : (txt "road(").length = 5 := by decide +kernel
  have l2 : (txt ") if rain()").length = 11 := by decide +kernel
  have c1 : ∀ c ∈ txt "road(", c < 128 := by decide +kernel
  have c2 : ∀ c ∈ txt ") if rain()", c < 128 := by decide +kernel
  have hl : (lineT a g b).length ≤ 31 := by
    unfold lineT
    simp only [List.length_append]
    omega
  refine ⟨fun c hc => ?_, by omega, r_len (by omega)⟩
  unfold lineT at hc
  simp only [List.mem_append] at hc
  rcases hc with (((z | z) | z) | z) | z
  · exact c1 c z
  · exact h1.2 c z
  · exact h2.2 c z
  · exact h3.2 c z
  · exact c2 c z
def oneT (ns : List Int) : L := goodT.getD (ns.getD 1 0 % 6).toNat []
def twoT (ns : List Int) (way : Int) : L := if way < 7 then badT.getD (ns.getD 2 0 % 18).toNat [] else goodT.getD (ns.getD 2 0 % 6).toNat []
def gapOf (ns : List Int) (way : Int) : L := if way = 7 then gapT.getD (ns.getD 1 0 / 6 % 3).toNat [] else txt ", "
def twoL (ns : List Int) (way : Int) : L := if ns.getD 1 0 / 18 % 2 = 1 then lineT (twoT ns way) (gapOf ns way) (oneT ns) else lineT (oneT ns) (gapOf ns way) (twoT ns way)
theorem one_in (ns : List Int) : oneT ns ∈ goodT := getD_in (mod_lt (n := 6) (by decide)).2
theorem two_bad {ns : List Int} {way : Int} (h : way < 7) : twoT ns way ∈ badT := by
  unfold twoT
  rw [if_pos h]
  exact getD_in (mod_lt (n := 18) (by decide)).2
theorem two_good {ns : List Int} {way : Int} (h : ¬ way < 7) : twoT ns way ∈ goodT := by
  unfold twoT
  rw [if_neg h]
  exact getD_in (mod_lt (n := 6) (by decide)).2
theorem gap_in {ns : List Int} : gapOf ns 7 ∈ gapT := by
  unfold gapOf
  rw [if_pos rfl]
  exact getD_in (mod_lt (n := 3) (by decide)).2
theorem twoL_none {ns : List Int} {way : Int} (h : way < 8) : rdLn (S (twoL ns way)) = none := by
  by_cases h7 : way < 7
  · have hg : gapOf ns way = txt ", " := by unfold gapOf; rw [if_neg (by omega)]
    obtain ⟨b1, b2⟩ := bad_line (one_in ns) (two_bad (ns := ns) h7)
    unfold twoL
    rw [hg]
    split
    · exact b2
    · exact b1
  · have e : way = 7 := by omega
    subst e
    have h2 := two_good (ns := ns) h7
    unfold twoL
    split
    · exact gap_line h2 (one_in ns) gap_in
    · exact gap_line (one_in ns) h2 gap_in
theorem twoL_fit {ns : List Int} {way : Int} : FitL (twoL ns way) := by
  have h1 : okT (oneT ns) = true := List.all_eq_true.mp good_ok _ (one_in ns)
  have h2 : okT (twoT ns way) = true := by
    by_cases h : way < 7
    · exact List.all_eq_true.mp bad_ok _ (two_bad h)
    · exact List.all_eq_true.mp good_ok _ (two_good h)
  have h3 : okT (gapOf ns way) = true := by
    by_cases h : way = 7
    · subst h; exact List.all_eq_true.mp gap_ok _ gap_in
    · unfold gapOf; rw [if_neg h]; decide +kernel
  unfold twoL
  split
  · exact lineT_fit h2 h3 h1
  · exact lineT_fit h1 h3 h2
def piecesT : List L := ["a", "()", "(", ")", ", ", " if ", " and ", "X", "-", "0", " ", "a(b)"].map txt
def pieceOf (c : Int) : L := piecesT.getD (c % 12).toNat []
theorem pieces_ok : piecesT.all okT = true := by decide +kernel
theorem piece_ok (c : Int) : okT (pieceOf c) = true := List.all_eq_true.mp pieces_ok _ (getD_in (mod_lt (n := 12) (by decide)).2)
theorem pieces_fit {cs : List Int} (h : cs.length ≤ 63) : FitL (joinL [] (cs.map pieceOf)) := by
  have hl := joinL_len (y := []) (B := 5) (ps := cs.map pieceOf) fun z hz => by
    obtain ⟨d, _, rfl⟩ := List.mem_map.mp hz
    exact (okT_le (piece_ok d)).1
  rw [List.length_map, List.length_nil] at hl
  have hl2 : (joinL [] (cs.map pieceOf)).length ≤ 315 := by omega
  refine ⟨fun c hc => ?_, by omega, r_len (by omega)⟩
  rcases joinL_mem hc with z | ⟨p, h1, h2⟩
  · cases z
  · obtain ⟨d, _, rfl⟩ := List.mem_map.mp h1
    exact (okT_le (piece_ok d)).2 c h2
def signT : L := txt " (),-0aXZ.iqzBM19[{"
def signOf (x : Int) : Nat := signT.getD (x % 19).toNat 0
theorem sign_len : signT.length = 19 := by decide +kernel
theorem sign_at (x : Int) : signT[(x % 19).toNat]? = some (signOf x) := by
  have h := (mod_lt (x := x) (n := 19) (by decide)).2
  unfold signOf
  rw [List.getD, List.getElem?_eq_getElem (by rw [sign_len]; exact h)]
  rfl
theorem sign_asc (x : Int) : signOf x < 128 := by
  have h : ∀ c ∈ signT, c < 128 := by decide +kernel
  exact h _ (List.mem_of_getElem? (sign_at x))
def goodS : List Str := [Str.ofString "0", Str.ofString "-1", Str.ofString "10", Str.ofString "ash", Str.ofString "X", Str.ofString "Xa"]
def badS1 : List Str := [Str.ofString "-0", Str.ofString "01", Str.ofString "-", Str.ofString "aX", Str.ofString "", Str.ofString "XX", Str.ofString "x1", Str.ofString " a", Str.ofString "+1", Str.ofString "a)", Str.ofString "X1", Str.ofString "XaY"]
def badS2 : List Str := [Str.ofString "X-", Str.ofString "a ", Str.ofString "", Str.ofString "00", Str.ofString "-05", Str.ofString ""]
def gapS : List Str := [Str.ofString ",", Str.ofString ",  ", Str.ofString " , "]
def piecesS : List Str := [Str.ofString "a", Str.ofString "()", Str.ofString "(", Str.ofString ")", Str.ofString ", ", Str.ofString " if ", Str.ofString " and ", Str.ofString "X", Str.ofString "-", Str.ofString "0", Str.ofString " ", Str.ofString "a(b)"]
theorem goodS_eq : goodS = goodT.map S := by decide +kernel
theorem badS_eq : badS1 ++ badS2 = badT.map S := by decide +kernel
theorem gapS_eq : gapS = gapT.map S := by decide +kernel
theorem piecesS_eq : piecesS = piecesT.map S := by decide +kernel
theorem at_modL {l : List Str} {l' : List L} {n : Nat} (x : Int) (hn : 0 < n) (hl : l'.length = n) (e : l = l'.map S) : L2.atI (l.map D.str) (x % (n : Int)) = some (.str (S (l'.getD (x % (n : Int)).toNat []))) := by
  subst e
  obtain ⟨h0, h1⟩ := mod_lt (x := x) hn
  refine atI_of_nat h0 ?_
  rw [List.getElem?_map, List.getElem?_map, List.getElem?_eq_getElem (by omega)]
  rw [List.getD, List.getElem?_eq_getElem (by omega)]
  rfl
theorem c_road : Str.ofString "road(" = S (txt "road(") := by decide +kernel
theorem c_rain : Str.ofString ") if rain()" = S (txt ") if rain()") := by decide +kernel
theorem c_gap : Str.ofString ", " = S (txt ", ") := by decide +kernel
theorem c_signs : (Str.ofString " (),-0aXZ.iqzBM19[{").cps.toList = signT := by decide +kernel
end FL

set_option Elab.async false
set_option linter.all false
set_option maxRecDepth 100000
set_option maxHeartbeats 4000000
namespace K12
open PySem L2 FL
def top (i : Nat) : Stmt := PySem.Challenge.pw_factloom_k12_whole_read_and_shown.main.body.getD i (.Pass ⟨0, 0, 0, 0⟩)
abbrev s_read : Stmt := top 11
abbrev s_read_atom : Stmt := top 12
abbrev s_read_part : Stmt := top 13
abbrev s_has_only : Stmt := top 14
abbrev s_is_word : Stmt := top 15
abbrev s_is_written_blank : Stmt := top 16
abbrev s_is_written_number : Stmt := top 17
abbrev s_law_whole : Stmt := top 19
abbrev s_law_at : Stmt := top 20
abbrev s_law_part_by : Stmt := top 21
abbrev s_law_atom_by : Stmt := top 22
abbrev s_law_atoms_by : Stmt := top 23
abbrev s_law_written : Stmt := top 24
abbrev s_law_spoilt : Stmt := top 25
abbrev s_law_two_texts : Stmt := top 26
abbrev s_law_some_line : Stmt := top 27
abbrev s_law_is_word : Stmt := top 28
abbrev s_law_an_atom : Stmt := top 29
abbrev s_law_a_rule : Stmt := top 30
abbrev s_law_refuses : Stmt := top 31
abbrev s_law : Stmt := top 32
section
variable {P : Program} {w : World} {K : PySem.W.Frag} {mg : Str → Option Value} {base : Heap} {f : Addr} {fd : FuncData}
def RHasOnly : List D → D → Prop := fun ds d => ∃ (l : L) (y : Str), ds = [.str (S l), .str y] ∧ (∀ c ∈ l, c < 128) ∧ l.length ≤ 1000000 ∧ d = .bl (l.all fun c => decide (c ∈ y.cps.toList))
theorem sc_has_only : FnScope ["text", "signs"] ["text", "signs"] (defScope s_has_only) := ⟨rfl, rfl, rfl, by decide +kernel, rfl, by decide +kernel, by decide +kernel⟩
theorem ok_has_only (F : Fun K "has_only" "has_only" s_has_only f fd) (B : Bl mg) : FnOk P w K mg base CX0 1 f fd ["text", "signs"] (spR RHasOnly) := by
  refine F.ok sc_has_only (spR_len (n := 2) fun ds d ⟨l, y, e, _⟩ => by rw [e]; rfl) (fun cdv A outer s H vs Q E hr h => ?_)
  obtain ⟨M, ds, d, lv, rs, ⟨l, y, rfl, ha, hz, rfl⟩, q⟩ := h
  refine ⟨_, (pss_one (ps_ret (pe_allC B (pe_compC ["signs", "sign"] [1] 1 (pi_str (pv 0)) (fun _ _ _ _ _ => (pg_name (i := 1) (show (["signs", "sign"] : List Str).Nodup from by decide +kernel) rfl (by first | exact Or.inl rfl | exact Or.inr rfl))) (fun _ _ _ _ _ => pts_nil) (fun _ _ _ _ _ => (pe_cmpR op_in_str (pv 1) (pv 0) rfl)))))), ?_⟩
  have E0 := env_start rs ["text", "signs"]
  obtain ⟨v1, hv1, r1⟩ := E0.get 1 _ rfl
  have hlen : l.length < sizeLine := by have := line16 hz; omega
  refine s_ret lv ((ev_all (K := K) (bs := l.map fun c => decide (c ∈ y.cps.toList)) (ev_cons ((ev_comp (i := 1) (p := fun _ => true) (f := fun d => match d with | .str z => .bl (decide (z.cps.toList.headD 0 ∈ y.cps.toList)) | _ => .non) (walk_str (asc_S ha) (ev_v E0 rfl)) (fun G' v d _ _ _ => evt_yes) (fun G' v d sG hd _ r => ?_) ?_).eq ?_) ev_nil)).eq ?_) q
  · obtain ⟨c, hc, rfl⟩ := List.mem_map.mp hd
    exact ev_inS (c := c) (ev_var (by simp [capsOf]) r) (ev_var (by simp [capsOf, hv1]) (r1.mono sG))
  · rw [List.length_map]; exact hlen
  · rw [List.filter_eq_self.mpr fun _ _ => rfl, List.map_map, List.map_map]
    rfl
  · rw [List.all_map]; rfl
def RIsWord : List D → D → Prop := fun ds d => ∃ l : L, ds = [.str (S l)] ∧ (∀ c ∈ l, c < 128) ∧ l.length ≤ 1000000 ∧ d = .bl (wordB l)
theorem ne_nil (l : L) : (!decide (D.str (S l) = D.str (Str.ofString ""))) = !l.isEmpty := by
  rw [c_empty, ne_S]
  cases l <;> simp
theorem all_small (l : L) : (l.all fun c => decide (c ∈ (Str.ofString "abcdefghijklmnopqrstuvwxyz").cps.toList)) = l.all low := by
  congr 1; funext c; exact mem_small c
theorem all_figs (l : L) : (l.all fun c => decide (c ∈ (Str.ofString "0123456789").cps.toList)) = l.all dig := by
  congr 1; funext c; exact mem_figs c
theorem sc_is_word : FnScope ["text"] ["text"] (defScope s_is_word) := ⟨rfl, rfl, rfl, by decide +kernel, rfl, by decide +kernel, by decide +kernel⟩
theorem ok_is_word (F : Fun K "is_word" "is_word" s_is_word f fd) (B : Bl mg) {t1 : Tok} (c_SMALL : mg "SMALL" = some (.str "abcdefghijklmnopqrstuvwxyz" t1) ∧ RelV (.str "abcdefghijklmnopqrstuvwxyz") (.str "abcdefghijklmnopqrstuvwxyz" t1))
    (G_has_only : Has P w K mg base 1 "has_only" ["text", "signs"] (spR RHasOnly)) : FnOk P w K mg base CX0 2 f fd ["text"] (spR RIsWord) := by
  refine F.ok sc_is_word (spR_len (n := 1) fun ds d ⟨l, e, _⟩ => by rw [e]; rfl) (fun cdv A outer s H vs Q E hr h => ?_)
  obtain ⟨M, ds, d, lv, rs, ⟨l, rfl, ha, hz, rfl⟩, q⟩ := h
  have hu := hu50 hr
  refine ⟨_, (pss_one (ps_ret (pe_and (pe_cmpR (op_neA (by exact hu)) (pv 0) pe_str (nomark _)) (pe_one (pe_own G_has_only hr (pa_cons (pv 0) (pa_cons (pe_glob rfl c_SMALL.1 c_SMALL.2) pa_nil))))))), ?_⟩
  have E0 := env_start rs ["text"]
  refine s_ret lv ((ev_and (ev_neA rfl (Nat.zero_le _) (ev_v E0 rfl) ev_str) fun _ => ev_callR ⟨l, _, rfl, ha, hz, rfl⟩ (ev_cons (ev_v E0 rfl) (ev_cons (ev_C fun _ => .str _) ev_nil))).eq ?_) q
  rw [ne_nil, all_small]
  rfl
def RIsBlk : List D → D → Prop := fun ds d => ∃ l : L, ds = [.str (S l)] ∧ (∀ c ∈ l, c < 128) ∧ l.length ≤ 1000000 ∧ d = .bl (blankB l)
theorem sc_is_written_blank : FnScope ["text"] ["text"] (defScope s_is_written_blank) := ⟨rfl, rfl, rfl, by decide +kernel, rfl, by decide +kernel, by decide +kernel⟩
theorem ok_is_written_blank (F : Fun K "is_written_blank" "is_written_blank" s_is_written_blank f fd) (B : Bl mg) {t1 t2 : Tok} (c_SMALL : mg "SMALL" = some (.str "abcdefghijklmnopqrstuvwxyz" t1) ∧ RelV (.str "abcdefghijklmnopqrstuvwxyz") (.str "abcdefghijklmnopqrstuvwxyz" t1))
    (c_GREAT : mg "GREAT" = some (.str "ABCDEFGHIJKLMNOPQRSTUVWXYZ" t2) ∧ RelV (.str "ABCDEFGHIJKLMNOPQRSTUVWXYZ") (.str "ABCDEFGHIJKLMNOPQRSTUVWXYZ" t2))
    (G_has_only : Has P w K mg base 1 "has_only" ["text", "signs"] (spR RHasOnly)) : FnOk P w K mg base CX0 2 f fd ["text"] (spR RIsBlk) := by
  refine F.ok sc_is_written_blank (spR_len (n := 1) fun ds d ⟨l, e, _⟩ => by rw [e]; rfl) (fun cdv A outer s H vs Q E hr h => ?_)
  obtain ⟨M, ds, d, lv, rs, ⟨l, rfl, ha, hz, rfl⟩, q⟩ := h
  have hu := hu50 hr
  refine ⟨_, (pss_one (ps_ret (pe_and (pe_cmpR (op_neA (by exact hu)) (pv 0) pe_str (nomark _)) (pe_and (pe_cmpR op_in_str (pe_ixS (pv 0) pe_int) (pe_glob rfl c_GREAT.1 c_GREAT.2) rfl) (pe_one (pe_own G_has_only hr (pa_cons (pe_slice sl_str (pv 0) (po_some pe_int) po_none) (pa_cons (pe_glob rfl c_SMALL.1 c_SMALL.2) pa_nil)))))))), ?_⟩
  have E0 := env_start rs ["text"]
  have hl2 := line16 hz
  cases l with
  | nil =>
    exact s_ret lv ((ev_and (c := false) (ev_neA rfl (Nat.zero_le _) (ev_v E0 rfl) ev_str) fun z => by rw [ne_nil] at z; cases z).eq (by rw [ne_nil]; rfl)) q
  | cons c r =>
    have hlr : r.length ≤ 1000000 := by rw [List.length_cons] at hz; omega
    refine s_ret lv ((ev_and (ev_neA rfl (Nat.zero_le _) (ev_v E0 rfl) ev_str) fun _ => ev_and (ev_inS (c := c) (ev_ixs (x := S (c :: r)) (by rw [S_len]; omega) atI_zero (ev_v E0 rfl) ev_int) (ev_C fun _ => .str _)) fun _ =>
      ev_callR ⟨r, _, rfl, fun d hd => ha d (List.mem_cons_of_mem _ hd), hlr, rfl⟩ (ev_cons ((ev_sliceS (lo := some 1) (hi := none) (by rw [S_len]; omega) (ev_v E0 rfl) (evo_some ev_int) (fun M' H' _ _ Q k => k H' (Same.refl _))).eq (by rw [cut_first])) (ev_cons (ev_C fun _ => .str _) ev_nil))).eq ?_) q
    rw [ne_nil, all_small, mem_great]
    rfl
def RIsNum : List D → D → Prop := fun ds d => ∃ l : L, ds = [.str (S l)] ∧ (∀ c ∈ l, c < 128) ∧ l.length ≤ 1000000 ∧ d = .bl (numB l)
theorem figs_len (l : L) : (figs l).length ≤ l.length := by unfold figs; split <;> simp
theorem figs_mem {l : L} {c : Nat} (h : c ∈ figs l) : c ∈ l := by
  unfold figs at h
  split at h
  · exact List.mem_of_mem_drop h
  · exact h
theorem sc_is_written_number : FnScope ["text", "figures"] ["text"] (defScope s_is_written_number) := ⟨rfl, rfl, rfl, by decide +kernel, rfl, by decide +kernel, by decide +kernel⟩
theorem ok_is_written_number (F : Fun K "is_written_number" "is_written_number" s_is_written_number f fd) (B : Bl mg) {t1 : Tok} (c_FIGURES : mg "FIGURES" = some (.str "0123456789" t1) ∧ RelV (.str "0123456789") (.str "0123456789" t1))
    (G_has_only : Has P w K mg base 1 "has_only" ["text", "signs"] (spR RHasOnly)) : FnOk P w K mg base CX0 2 f fd ["text"] (spR RIsNum) := by
  refine F.ok sc_is_written_number (spR_len (n := 1) fun ds d ⟨l, e, _⟩ => by rw [e]; rfl) (fun cdv A outer s H vs Q E hr h => ?_)
  obtain ⟨M, ds, d, lv, rs, ⟨l, rfl, ha, hz, rfl⟩, q⟩ := h
  have hu := hu50 hr
  refine ⟨_, (pss_cons (ps_if (pt_cmpR (op_eqA (by exact hu)) (pv 0) pe_str (nomark _)) (pss_one (ps_ret pe_bl)) pss_nil)
      (pss_cons (ps_set (i := 1) sc_is_written_number.nd rfl (Or.inl rfl) (pe_ifExp (pt_val (pe_bm PySem.F.plainAttrs_str PySem.F.slot_str_startswith PySem.F.type_str_startswith mt_startswith (pv 0) (pa_cons pe_str pa_nil))) (pe_slice sl_str (pv 0) (po_some pe_int) po_none) (pv 0)))
      (pss_one (ps_ret (pe_and (pe_cmpR (op_neA (by exact hu)) (pv 1) pe_str (nomark _)) (pe_and (pe_cmpR (op_neA (by exact hu)) (pe_ixS (pv 1) pe_int) pe_str (nomark _)) (pe_one (pe_own G_has_only hr (pa_cons (pv 1) (pa_cons (pe_glob rfl c_FIGURES.1 c_FIGURES.2) pa_nil)))))))))), ?_⟩
  have E0 := env_start rs ["text", "figures"]
  have hl2 := line16 hz
  have hfl := figs_len l
  refine s_if lv E0 (evt_test (ev_eqA rfl (Nat.zero_le _) (ev_v E0 rfl) ev_str)) (fun e H1 s1 l1 E1 => ?_) (fun e H1 s1 l1 E1 => ?_)
  · rw [c_nought, ne_S] at e
    have e' := of_decide_eq_true e
    subst e'
    exact q (.bl true) H1 s1 (.bl true)
  · rw [c_nought, ne_S] at e
    refine nx ?_
    refine s_set (d := .str (S (figs l))) l1 E1 (ev_ifE (b := decide (l.head? = some 45)) (EvT.eq (evt_tB (ev_starts (ev_v E1 rfl) (ev_cons ev_str ev_nil))) (by rw [c_minus, starts_minus])) (fun h => ?_) (fun h => ?_)) fun σ2 H2 s2 l2 E2 => ?_
    · have h1 := of_decide_eq_true h
      cases l with
      | nil => cases h1
      | cons c r =>
        have hf : figs (c :: r) = r := by unfold figs; rw [if_pos h1]; rfl
        exact (ev_sliceS (lo := some 1) (hi := none) (by rw [S_len]; omega) (ev_v E1 rfl) (evo_some ev_int) (fun M' H' _ _ Q k => k H' (Same.refl _))).eq (by rw [cut_first, hf])
    · have hf : figs l = l := by unfold figs; rw [if_neg (of_decide_eq_false h)]
      rw [hf]
      exact ev_v E1 rfl
    · have hb : numB l = (!(figs l).isEmpty && (!decide ((figs l).head? = some 48) && (figs l).all dig)) := by unfold numB; rw [e]; rfl
      rw [hb] at q
      have q' : ∀ v H', Same H2 H' → Rep (but H' M) v (.bl (!(figs l).isEmpty && (!decide ((figs l).head? = some 48) && (figs l).all dig))) → Q v H' := fun v H' s3 r3 => q v H' (s1.trans (s2.trans s3)) r3
      have fa : ∀ c ∈ figs l, c < 128 := fun c hc => ha c (figs_mem hc)
      generalize figs l = g at q' E2 hfl fa
      cases g with
      | nil =>
        exact s_ret l2 ((ev_and (c := false) (ev_neA rfl (Nat.zero_le _) (ev_v E2 rfl) ev_str) fun z => by rw [ne_nil] at z; cases z).eq (by rw [ne_nil]; rfl)) q'
      | cons c r =>
        refine s_ret l2 ((ev_and (ev_neA rfl (Nat.zero_le _) (ev_v E2 rfl) ev_str) fun _ => ev_and (ev_neA rfl (Nat.zero_le _) (ev_ixs (x := S (c :: r)) (c := c) (by rw [S_len]; omega) atI_zero (ev_v E2 rfl) ev_int) ev_str) fun _ =>
          ev_callR ⟨c :: r, _, rfl, fa, by omega, rfl⟩ (ev_cons (ev_v E2 rfl) (ev_cons (ev_C fun _ => .str _) ev_nil))).eq ?_) q'
        rw [ne_nil, all_figs, c_nought]
        have h3 : decide (D.str (⟨#[c]⟩ : Str) = D.str (S [48])) = decide ((c :: r).head? = some 48) := by
          have := ne_S [c] [48]
          rw [show (⟨#[c]⟩ : Str) = S [c] from rfl, this]
          simp
        rw [h3]
theorem ev_msg {x : Str} {l : L} {G : Hp} {σ : St} {ta : TE} (hx : x.length ≤ 100) (f : FitL l) (h : EvM ta G σ (.str (S l))) : EvM (tJ1 (tC (.str x)) (tJ1 (tFmtR ta) tJ0) Str.empty) G σ (.str (Str.empty ++ x ++ reprText (S l))) := by
  have hr := repr_fits f.asc (by have := f.len; omega)
  have hz := line16 (n := 60000) (by omega)
  refine ev_j1 ev_str (ev_j1 (ev_fmtR (by omega) h) ev_j0) Str.empty ?_
  simp only [List.foldl_cons, List.foldl_nil]
  have h0 : Str.empty.length = 0 := rfl
  omega
def RReadPart : List D → Option D → Prop := fun ds o => ∃ l, FitL l ∧ ds = [.str (S l)] ∧ o = rdP (S l)
theorem sc_read_part : FnScope ["text"] ["text"] (defScope s_read_part) := ⟨rfl, rfl, rfl, by decide +kernel, rfl, by decide +kernel, by decide +kernel⟩
theorem ok_read_part {nr : Addr} (F : Fun K "read_part" "read_part" s_read_part f fd) (B : Bl mg) (X_NoRule : XInfo K mg "NoRule" nr) (G_is_word : Has P w K mg base 2 "is_word" ["text"] (spR RIsWord)) (G_is_written_blank : Has P w K mg base 2 "is_written_blank" ["text"] (spR RIsBlk))
    (G_is_written_number : Has P w K mg base 2 "is_written_number" ["text"] (spR RIsNum)) : FnOk P w K mg base (CXA P w) 3 f fd ["text"] (spO nr RReadPart) := by
  refine F.okA sc_read_part (spO_len (n := 1) fun ds o ⟨l, _, e, _⟩ => by rw [e]; rfl) (fun cdv A outer s H vs Q E hr h => ?_)
  obtain ⟨M, ds, o, lv, rs, ⟨l, fl, rfl, rfl⟩, q, qx⟩ := h
  refine ⟨_, (pss_cons (ps_if (pw_or (pt_val (pe_own G_is_word hr (pa_cons (pv 0) pa_nil))) (pw_or1 (pt_val (pe_own G_is_written_blank hr (pa_cons (pv 0) pa_nil))))).pt (pss_one (ps_ret (pv 0))) pss_nil)
      (pss_cons (ps_if (pt_val (pe_own G_is_written_number hr (pa_cons (pv 0) pa_nil))) (pss_one (ps_ret (pe_intC B (pv 0)))) pss_nil)
      (pss_one (ps_raise own_cx X_NoRule.fb X_NoRule.ex X_NoRule.mg (pa_cons (pe_fstr (pj_cons pe_str (pj_cons (pe_fmtR (pv 0)) pj_nil))) pa_nil))))), ?_⟩
  have E0 := env_start rs ["text"]
  have hl := fl.len
  have ha := fl.asc
  refine s_if (b := wordB l || blankB l) lv E0 (evt_or (evt_tB (ev_callR ⟨l, rfl, ha, by omega, rfl⟩ (ev_cons (ev_v E0 rfl) ev_nil))) fun _ => evt_tB (ev_callR ⟨l, rfl, ha, by omega, rfl⟩ (ev_cons (ev_v E0 rfl) ev_nil))) (fun e H1 s1 l1 E1 => ?_) (fun e H1 s1 l1 E1 => ?_)
  · have e2 : rdP (S l) = some (.str (S l)) := by unfold rdP; rw [S_list, if_pos e]
    exact s_ret l1 (ev_v E1 rfl) fun v H' s2 r2 => q _ e2 v H' (s1.trans s2) r2
  · refine nx ?_
    have e2 : rdP (S l) = if numB l = true then (PySem.intText? (S l)).map D.int else none := by unfold rdP; rw [S_list, if_neg (by rw [e]; exact Bool.false_ne_true)]
    refine s_if (b := numB l) l1 E1 (evt_tB (ev_callR ⟨l, rfl, ha, by omega, rfl⟩ (ev_cons (ev_v E1 rfl) ev_nil))) (fun e3 H2 s2 l2 E2 => ?_) (fun e3 H2 s2 l2 E2 => ?_)
    · obtain ⟨i, h1, h2, h3, h4⟩ := fl.num e3
      rw [if_pos e3, h1] at e2
      exact s_ret l2 (ev_intT h1 (by rw [S_len]; omega) (ev_cons (ev_v E2 rfl) ev_nil)) fun v H' s3 r3 => q _ e2 v H' (s1.trans (s2.trans s3)) r3
    · refine nx ?_
      rw [if_neg (by rw [e3]; exact Bool.false_ne_true)] at e2
      dsimp only
      refine s_raise (ds := [.str _]) l2 (ev_cons (ev_msg ?_ fl (ev_v (i := 0) E2 rfl)) ev_nil) (Nat.le_add_left 1 99) fun H' s3 => ?_
      · decide +kernel
      · exact qx e2 H' (s1.trans (s2.trans s3))
end
end K12

set_option Elab.async false
set_option linter.all false
set_option maxRecDepth 100000
set_option maxHeartbeats 4000000
namespace K12
open PySem L2 FL
section
variable {P : Program} {w : World} {K : PySem.W.Frag} {mg : Str → Option Value} {base : Heap} {f : Addr} {fd : FuncData}
theorem mapM_none {α β : Type} {f : α → Option β} : ∀ {l : List α}, l.mapM f = none → ∃ a ∈ l, f a = none
  | [], h => by simp at h
  | a :: r, h => by
    cases e : f a with
    | none => exact ⟨a, List.mem_cons_self, e⟩
    | some b =>
      rw [List.mapM_cons, e] at h
      cases e2 : r.mapM f with
      | none =>
        obtain ⟨c, hc, e3⟩ := mapM_none e2
        exact ⟨c, List.mem_cons_of_mem _ hc, e3⟩
      | some bs => rw [e2] at h; cases h
theorem mapM_some {α β : Type} {f : α → Option β} {d0 : β} : ∀ {l : List α} {r : List β}, l.mapM f = some r → r = l.map (fun a => (f a).getD d0) ∧ ∀ a ∈ l, f a = some ((f a).getD d0)
  | [], r, h => by simp at h; subst h; exact ⟨rfl, fun a h => nomatch h⟩
  | a :: t, r, h => by
    rw [List.mapM_cons] at h
    cases e : f a with
    | none => rw [e] at h; cases h
    | some b =>
      rw [e] at h
      cases e2 : t.mapM f with
      | none => rw [e2] at h; cases h
      | some bs =>
        rw [e2] at h
        obtain ⟨h1, h2⟩ := mapM_some (d0 := d0) e2
        cases h
        refine ⟨by rw [List.map_cons, e, ← h1]; rfl, fun x hx => ?_⟩
        rcases List.mem_cons.mp hx with q | q
        · rw [q, e]; rfl
        · exact h2 x q
section
variable {G : Hp} {σ : St} {ta tb : TE} {d : D} {xs ys : List D} {Z : Hp → Prop} {wi : TI} {caps : St → St} {g : TG} {tt : TT} {te : St → TE}
theorem ev_compL (h : EvM (tComp wi caps g tt (te σ)) G σ d) : EvM (fun σ => tComp wi caps g tt (te σ) σ) G σ d := h
theorem evn_compL (h : EvN (tComp wi caps g tt (te σ)) G σ Z) : EvN (fun σ => tComp wi caps g tt (te σ) σ) G σ Z := h
theorem ev_catLn (hz : xs.length + ys.length ≤ sizeLine) (ha : EvM ta G σ (.lst xs)) (hb : EvM tb G σ (.lst ys)) : EvM (tOp rCat ta tb) G σ (.lst (xs ++ ys)) :=
  ev_op2 (fun M H v y l rv ry Q k => by
    obtain ⟨a, vs, rfl, h1, h2⟩ := rv.of_lst
    obtain ⟨b, ws, rfl, h3, h4⟩ := ry.of_lst
    have l1 := h2.length
    have l2 := h4.length
    exact ⟨a, b, vs, ws, rfl, rfl, (but_some h1).2, (but_some h3).2, by omega, fun p hp => k _ _ (same_new hp _) (rep_new_lst l hp (h2.append h4))⟩) ha hb
theorem s_retN {M : List Addr} {H : Hp} {E : Ends} (l : Live M H) (h : EvN ta (but H M) σ Z) (k : ∀ H', Same H H' → Z H') : tRet ta E σ H := h.at l k _
theorem s_setN {M : List Addr} {H : Hp} {E : Ends} (l : Live M H) (h : EvN ta (but H M) σ Z) (k : ∀ H', Same H H' → Z H') : tAsg ta g E σ H := h.at l k _
theorem s_dropN {M : List Addr} {H : Hp} {E : Ends} (l : Live M H) (h : EvN ta (but H M) σ Z) (k : ∀ H', Same H H' → Z H') : tDrop ta E σ H := h.at l k _
end
theorem part_fit {l y : L} (hy : y ≠ []) (f : FitL l) : ∃ r m b, Txt.partition (S l) (S y) = (S r, S m, S b) ∧ FitL r ∧ FitL b ∧ (m = [] ∨ m = y) := by
  rcases partition_any hy l with ⟨e, _⟩ | ⟨a, b, ez, e⟩
  · exact ⟨l, [], [], e, f, ⟨(fun c hc => nomatch hc), Nat.zero_le _, rfl⟩, .inl rfl⟩
  · subst ez
    exact ⟨a, y, b, e, f.pre.pre, f.suf, .inr rfl⟩
theorem sz_fit {l : L} (f : FitL l) : (S l).length + 2 ≤ sizeLine := by rw [S_len]; exact line16 (by have := f.len; omega)
def rd1 (f : Str → Option D) : D → D
  | .str z => (f z).getD .non
  | _ => .non
def rd2 (f : Str → Option D) : D → Option D
  | .str z => f z
  | _ => none
def RReadAtom : List D → Option D → Prop := fun ds o => ∃ l, FitL l ∧ ds = [.str (S l)] ∧ o = rdAt (S l)
theorem sc_read_atom : FnScope ["text", "pieces", "relation", "parts"] ["text"] (defScope s_read_atom) := ⟨rfl, rfl, rfl, by decide +kernel, rfl, by decide +kernel, by decide +kernel⟩
theorem ok_read_atom {nr : Addr} (F : Fun K "read_atom" "read_atom" s_read_atom f fd) (B : Bl mg) (X_NoRule : XInfo K mg "NoRule" nr) (G_is_word : Has P w K mg base 2 "is_word" ["text"] (spR RIsWord)) (G_read_part : HasA P w K mg base 3 "read_part" ["text"] (spO nr RReadPart)) : FnOk P w K mg base (CXA P w) 4 f fd ["text"] (spO nr RReadAtom) := by
  refine F.okA sc_read_atom (spO_len (n := 1) fun ds o ⟨l, _, e, _⟩ => by rw [e]; rfl) (fun cdv A outer s H vs Q E hr h => ?_)
  obtain ⟨M, ds, o, lv, rs, ⟨l, fl, rfl, rfl⟩, q, qx⟩ := h
  have hu := hu50 hr
  refine ⟨_, (pss_cons (ps_set (i := 1) sc_read_atom.nd rfl (Or.inl rfl) (pe_bm PySem.F.plainAttrs_str PySem.F.slot_str_partition PySem.F.type_str_partition mt_partition (pv 0) (pa_cons pe_str pa_nil)))
      (pss_cons (ps_set (i := 2) sc_read_atom.nd rfl (Or.inl rfl) (pe_ixS (pv 1) pe_int))
      (pss_cons (ps_if (pw_or (pt_not (pt_val (pe_own G_is_word hr (pa_cons (pv 2) pa_nil)))) (pw_or1 (pt_not (pt_val (pe_bm PySem.F.plainAttrs_str PySem.F.slot_str_endswith PySem.F.type_str_endswith mt_endswith (pe_ixS (pv 1) pe_int) (pa_cons pe_str pa_nil)))))).pt (pss_one (ps_raise own_cx X_NoRule.fb X_NoRule.ex X_NoRule.mg (pa_cons (pe_fstr (pj_cons pe_str (pj_cons (pe_fmtR (pv 0)) pj_nil))) pa_nil))) pss_nil)
      (pss_cons (ps_set (i := 3) sc_read_atom.nd rfl (Or.inl rfl) (pe_slice sl_str (pe_ixS (pv 1) pe_int) po_none (po_some (pe_un un_neg pe_int))))
      (pss_cons (ps_if (pt_cmpR (op_eqA (by exact hu)) (pv 3) pe_str (nomark _)) (pss_one (ps_ret (pe_tup (pa_cons (pv 2) pa_nil)))) pss_nil)
      (pss_one (ps_ret (pe_tupleC B (pe_op op_cat (pe_lst (pa_cons (pv 2) pa_nil)) (pe_compAC ["part"] [] 1 own_cx (pi_seq (pe_bm PySem.F.plainAttrs_str PySem.F.slot_str_split PySem.F.type_str_split mt_split (pv 3) (pa_cons pe_str pa_nil))) (fun _ _ _ _ _ => (pg_name (i := 0) (show (["part"] : List Str).Nodup from by decide +kernel) rfl (by first | exact Or.inl rfl | exact Or.inr rfl))) (fun _ _ _ _ _ => pts_nil) (fun _ _ _ _ _ _ => (pe_ownYc G_read_part hr (pa_cons (pv 0) pa_nil))))))))))))), ?_⟩
  have E0 := env_start rs ["text", "pieces", "relation", "parts"]
  obtain ⟨r, m, b, ep, fr, fb, _⟩ := part_fit (y := [40]) (by simp) fl
  have er : rdAt (S l) = if (wordB r && Txt.endswith (S b) (S [41])) = true then if Txt.slice (S b) none (some (-1)) = S [] then some (.tup [.str (S r)]) else ((Txt.split (Txt.slice (S b) none (some (-1))) (S [44, 32])).mapM rdP).map fun ds => .tup (.str (S r) :: ds) else none := by
    unfold rdAt
    rw [ep]
    rfl
  have b1 := sz_fit fl
  have b2 := sz_fit fb
  have hrl := fr.len
  refine s_set lv E0 (ev_part (a := S r) (b := S m) (c := S b) rfl (by omega) (by rw [c_open]; exact ep) (ev_v E0 rfl) (ev_cons ev_str ev_nil)) fun σ1 H1 s1 l1 E1 => ?_
  refine s_set l1 E1 (ev_ixt atI_zero (ev_v E1 rfl) ev_int) fun σ2 H2 s2 l2 E2 => ?_
  refine s_if (b := !wordB r || !Txt.endswith (S b) (S [41])) l2 E2 (evt_or (evt_not (evt_tB (ev_callR ⟨r, rfl, fr.asc, by omega, rfl⟩ (ev_cons (ev_v E2 rfl) ev_nil)))) fun _ => evt_not (EvT.eq (evt_tB (ev_ends (ev_ixt (d := .str (S b)) (atI_of_nat (by decide) rfl) (ev_v E2 rfl) ev_int) (ev_cons ev_str ev_nil))) (by rw [c_close]))) (fun e H3 s3 l3 E3 => ?_) (fun e H3 s3 l3 E3 => ?_)
  · have hc : ¬ (wordB r && Txt.endswith (S b) (S [41])) = true := by revert e; cases wordB r <;> cases Txt.endswith (S b) (S [41]) <;> decide
    rw [if_neg hc] at er
    dsimp only
    refine s_raise (ds := [.str _]) l3 (ev_cons (ev_msg ?_ fl (ev_v (i := 0) E3 rfl)) ev_nil) (Nat.le_add_left 1 99) fun H' s4 => ?_
    · decide +kernel
    · exact qx er H' (s1.trans (s2.trans (s3.trans s4)))
  · have hc : (wordB r && Txt.endswith (S b) (S [41])) = true := by revert e; cases wordB r <;> cases Txt.endswith (S b) (S [41]) <;> decide
    rw [if_pos hc] at er
    obtain ⟨b', rfl⟩ := ends_back (Bool.and_eq_true_iff.mp hc).2
    rw [cut_last] at er
    refine nx ?_
    refine s_set (d := .str (S b')) l3 E3 ((ev_sliceS (lo := none) (hi := some (-1)) (by omega) (ev_ixt (d := .str (S (b' ++ [41]))) (atI_of_nat (by decide) rfl) (ev_v E3 rfl) ev_int) (fun M' H' _ _ Q k => k H' (Same.refl _)) (evo_some (ev_neg ev_int))).eq (by rw [cut_last])) fun σ4 H4 s4 l4 E4 => ?_
    have sH : Same H H4 := s1.trans (s2.trans (s3.trans s4))
    refine s_if l4 E4 (evt_test (ev_eqA rfl (Nat.zero_le _) (ev_v E4 rfl) ev_str)) (fun e H5 s5 l5 E5 => ?_) (fun e H5 s5 l5 E5 => ?_)
    · rw [c_empty, ne_S] at e
      rw [if_pos (by rw [of_decide_eq_true e])] at er
      exact s_ret l5 (ev_tup (ev_cons (ev_v E5 rfl) ev_nil)) fun v H' s6 r6 => q _ er v H' (sH.trans (s5.trans s6)) r6
    · rw [c_empty, ne_S] at e
      rw [if_neg (fun z => of_decide_eq_false e (S_inj z))] at er
      refine nx ?_
      dsimp only
      have fb' := fb.pre
      have b3 := sz_fit fb'
      obtain ⟨ps, hne, ej, es⟩ := split_any (y := [44, 32]) (by simp) (by decide) b'
      rw [es] at er
      have hn : ps.length ≤ 4001 := by
        have := (joinL_count (y := [44, 32]) (by simp) ps).1
        rw [ej] at this
        have := fb'.len
        omega
      have hz : ps.length + 1 < sizeLine := by have := line16 (n := ps.length) (by omega); omega
      have fps : ∀ p ∈ ps, FitL p := fun p hp => FitL.part (y := [44, 32]) (by rw [ej]; exact fb') hp
      cases em : (ps.map S).mapM rdP with
      | some ds =>
        rw [em] at er
        obtain ⟨g1, g2⟩ := mapM_some (d0 := D.non) em
        refine s_ret l5 ((ev_tupleL (ev_cons (ev_catLn (xs := [.str (S r)]) (ys := ds) ?_ (ev_lst (ev_cons (ev_v (i := 2) E5 rfl) ev_nil)) ((ev_compL (ev_comp (i := 0) (p := fun _ => true) (f := rd1 rdP) (walk_seqL (ev_split (y := Str.ofString ", ") (zs := ps.map S) rfl b3 (by rw [c_comma]; exact es) (ev_v (i := 3) E5 rfl) (ev_cons ev_str ev_nil))) (fun G' v d _ _ _ => evt_yes) (fun G' v d sG hd _ rr => ?_) ?_)).eq ?_)) ev_nil)).eq rfl) fun v H' s6 r6 => q _ er v H' (sH.trans (s5.trans s6)) r6
        · rw [g1, List.length_map, List.length_map, List.length_singleton]; omega
        · obtain ⟨t, ht, rfl⟩ := List.mem_map.mp hd
          obtain ⟨p, hp, rfl⟩ := List.mem_map.mp ht
          exact ev_callO (R := RReadPart) (ds := [.str (S p)]) ⟨p, fps p hp, rfl, (g2 _ ht).symm⟩ (ev_cons (ev_var (by simp [capsOf]) rr) ev_nil)
        · rw [List.length_map, List.length_map]; omega
        · rw [List.filter_eq_self.mpr fun _ _ => rfl, List.map_map, g1]
          rfl
      | none =>
        rw [em] at er
        obtain ⟨z, hz1, hz2⟩ := mapM_none em
        refine s_retN l5 (evn_cb (evan_1 (evn_op2 (ev_lst (ev_cons (ev_v (i := 2) E5 rfl) ev_nil)) (evn_compL (evn_comp (i := 0) (f := rd2 rdP) (walk_seqL (ev_split (y := Str.ofString ", ") (zs := ps.map S) rfl b3 (by rw [c_comma]; exact es) (ev_v (i := 3) E5 rfl) (ev_cons ev_str ev_nil))) (fun G' v d sG hd rr => ?_) ⟨.str z, List.mem_map_of_mem hz1, hz2⟩ ?_))))) fun H' s6 => qx er H' (sH.trans (s5.trans s6))
        · obtain ⟨t, ht, rfl⟩ := List.mem_map.mp hd
          obtain ⟨p, hp, rfl⟩ := List.mem_map.mp ht
          cases e6 : rdP (S p) with
          | some y => exact .inl ⟨y, e6, ev_callO (R := RReadPart) (ds := [.str (S p)]) ⟨p, fps p hp, rfl, e6.symm⟩ (ev_cons (ev_var (by simp [capsOf]) rr) ev_nil)⟩
          | none => exact .inr ⟨e6, evn_callO (R := RReadPart) (ds := [.str (S p)]) ⟨p, fps p hp, rfl, e6.symm⟩ (ev_cons (ev_var (by simp [capsOf]) rr) ev_nil)⟩
        · rw [List.length_map, List.length_map]; omega
end
end K12

set_option Elab.async false
set_option linter.all false
set_option maxRecDepth 100000
set_option maxHeartbeats 4000000
namespace K12
open PySem L2 FL
section
variable {P : Program} {w : World} {K : PySem.W.Frag} {mg : Str → Option Value} {base : Heap} {f : Addr} {fd : FuncData}
def RRead : List D → Option D → Prop := fun ds o => ∃ l, FitL l ∧ ds = [.str (S l)] ∧ o = (rdLn (S l)).map fun r => .tup [r.1, .tup r.2]
theorem sc_read : FnScope ["line", "pieces", "head"] ["line"] (defScope s_read) := ⟨rfl, rfl, rfl, by decide +kernel, rfl, by decide +kernel, by decide +kernel⟩
theorem ok_read {nr : Addr} (F : Fun K "read" "read" s_read f fd) (B : Bl mg) (G_read_atom : HasA P w K mg base 4 "read_atom" ["text"] (spO nr RReadAtom)) : FnOk P w K mg base (CXA P w) 5 f fd ["line"] (spO nr RRead) := by
  refine F.okA sc_read (spO_len (n := 1) fun ds o ⟨l, _, e, _⟩ => by rw [e]; rfl) (fun cdv A outer s H vs Q E hr h => ?_)
  obtain ⟨M, ds, o, lv, rs, ⟨l, fl, rfl, rfl⟩, q, qx⟩ := h
  have hu := hu50 hr
  refine ⟨_, (pss_cons (ps_set (i := 1) sc_read.nd rfl (Or.inl rfl) (pe_bm PySem.F.plainAttrs_str PySem.F.slot_str_partition PySem.F.type_str_partition mt_partition (pv 0) (pa_cons pe_str pa_nil)))
      (pss_cons (ps_set (i := 2) sc_read.nd rfl (Or.inl rfl) (pe_ownA own_cx G_read_atom hr (pa_cons (pe_ixS (pv 1) pe_int) pa_nil)))
      (pss_cons (ps_if (pt_cmpR (op_eqA (by exact hu)) (pe_ixS (pv 1) pe_int) pe_str (nomark _)) (pss_one (ps_ret (pe_tup (pa_cons (pv 2) (pa_cons (pe_tup pa_nil) pa_nil))))) pss_nil)
      (pss_one (ps_ret (pe_tup (pa_cons (pv 2) (pa_cons (pe_tupleC B (pe_compAC ["text"] [] 1 own_cx (pi_seq (pe_bm PySem.F.plainAttrs_str PySem.F.slot_str_split PySem.F.type_str_split mt_split (pe_ixS (pv 1) pe_int) (pa_cons pe_str pa_nil))) (fun _ _ _ _ _ => (pg_name (i := 0) (show (["text"] : List Str).Nodup from by decide +kernel) rfl (by first | exact Or.inl rfl | exact Or.inr rfl))) (fun _ _ _ _ _ => pts_nil) (fun _ _ _ _ _ _ => (pe_ownYc G_read_atom hr (pa_cons (pv 0) pa_nil))))) pa_nil)))))))), ?_⟩
  have E0 := env_start rs ["line", "pieces", "head"]
  obtain ⟨r, m, b, ep, fr, fb, hm⟩ := part_fit (y := [32, 105, 102, 32]) (by simp) fl
  have er : rdLn (S l) = (rdAt (S r)).bind fun h => if S m = Str.empty then some (h, []) else ((Txt.split (S b) (S [32, 97, 110, 100, 32])).mapM rdAt).map fun b => (h, b) := by
    unfold rdLn
    rw [ep]
  have b1 := sz_fit fl
  have b2 := sz_fit fb
  refine s_set lv E0 (ev_part (a := S r) (b := S m) (c := S b) rfl (by omega) (by rw [c_if]; exact ep) (ev_v E0 rfl) (ev_cons ev_str ev_nil)) fun σ1 H1 s1 l1 E1 => ?_
  dsimp only
  cases eh : rdAt (S r) with
  | none =>
    rw [eh] at er
    refine s_setN l1 (evn_callO (R := RReadAtom) (ds := [.str (S r)]) ⟨r, fr, rfl, eh.symm⟩ (ev_cons (ev_ixt (d := .str (S r)) atI_zero (ev_v (i := 1) E1 rfl) ev_int) ev_nil)) fun H' s2 => ?_
    exact qx (by rw [er]; rfl) H' (s1.trans s2)
  | some hd =>
    rw [eh] at er
    refine s_set (d := hd) l1 E1 (ev_callO (R := RReadAtom) (ds := [.str (S r)]) ⟨r, fr, rfl, eh.symm⟩ (ev_cons (ev_ixt (d := .str (S r)) atI_zero (ev_v (i := 1) E1 rfl) ev_int) ev_nil)) fun σ2 H2 s2 l2 E2 => ?_
    have er : rdLn (S l) = if S m = Str.empty then some (hd, []) else ((Txt.split (S b) (S [32, 97, 110, 100, 32])).mapM rdAt).map fun b => (hd, b) := er
    refine s_if l2 E2 (evt_test (ev_eqA rfl (Nat.zero_le _) (ev_ixt (d := .str (S m)) (atI_of_nat (by decide) rfl) (ev_v (i := 1) E2 rfl) ev_int) ev_str)) (fun e H3 s3 l3 E3 => ?_) (fun e H3 s3 l3 E3 => ?_)
    · rw [c_empty, ne_S] at e
      rw [if_pos (by rw [of_decide_eq_true e]; rfl)] at er
      exact s_ret l3 (ev_tup (ev_cons (ev_v (i := 2) E3 rfl) (ev_cons (ev_tup ev_nil) ev_nil))) fun v H' s4 r4 => q (.tup [hd, .tup []]) (by rw [er]; rfl) v H' (s1.trans (s2.trans (s3.trans s4))) r4
    · rw [c_empty, ne_S] at e
      rw [if_neg (show ¬ S m = Str.empty from fun z => of_decide_eq_false e (S_inj (b := []) z))] at er
      refine nx ?_
      dsimp only
      obtain ⟨ps, hne, ej, es⟩ := split_any (y := [32, 97, 110, 100, 32]) (by simp) (by decide) b
      rw [es] at er
      have hn : ps.length ≤ 4001 := by
        have := (joinL_count (y := [32, 97, 110, 100, 32]) (by simp) ps).1
        rw [ej] at this
        have := fb.len
        omega
      have hz : ps.length + 1 < sizeLine := by have := line16 (n := ps.length) (by omega); omega
      have fps : ∀ p ∈ ps, FitL p := fun p hp => FitL.part (y := [32, 97, 110, 100, 32]) (by rw [ej]; exact fb) hp
      cases em : (ps.map S).mapM rdAt with
      | some ds =>
        rw [em] at er
        obtain ⟨g1, g2⟩ := mapM_some (d0 := D.non) em
        refine s_ret l3 (ev_tup (ev_cons (ev_v (i := 2) E3 rfl) (ev_cons (ev_tupleL (ev_cons ((ev_compL (ev_comp (i := 0) (p := fun _ => true) (f := rd1 rdAt) (walk_seqL (ev_split (y := Str.ofString " and ") (zs := ps.map S) rfl b2 (by rw [c_and]; exact es) (ev_ixt (d := .str (S b)) (atI_of_nat (by decide) rfl) (ev_v (i := 1) E3 rfl) ev_int) (ev_cons ev_str ev_nil))) (fun G' v d _ _ _ => evt_yes) (fun G' v d sG hd _ rr => ?_) ?_)).eq (d' := .lst ds) ?_) ev_nil)) ev_nil))) fun v H' s4 r4 => q (.tup [hd, .tup ds]) (by rw [er]; rfl) v H' (s1.trans (s2.trans (s3.trans s4))) r4
        · obtain ⟨t, ht, rfl⟩ := List.mem_map.mp hd
          obtain ⟨p, hp, rfl⟩ := List.mem_map.mp ht
          exact ev_callO (R := RReadAtom) (ds := [.str (S p)]) ⟨p, fps p hp, rfl, (g2 _ ht).symm⟩ (ev_cons (ev_var (by simp [capsOf]) rr) ev_nil)
        · rw [List.length_map, List.length_map]; omega
        · rw [List.filter_eq_self.mpr fun _ _ => rfl, List.map_map, g1]
          rfl
      | none =>
        rw [em] at er
        obtain ⟨z, hz1, hz2⟩ := mapM_none em
        refine s_retN l3 (evn_tup (evan_2 (ev_v (i := 2) E3 rfl) (evan_1 (evn_cb (evan_1 (evn_compL (evn_comp (i := 0) (f := rd2 rdAt) (walk_seqL (ev_split (y := Str.ofString " and ") (zs := ps.map S) rfl b2 (by rw [c_and]; exact es) (ev_ixt (d := .str (S b)) (atI_of_nat (by decide) rfl) (ev_v (i := 1) E3 rfl) ev_int) (ev_cons ev_str ev_nil))) (fun G' v d sG hd rr => ?_) ⟨.str z, List.mem_map_of_mem hz1, hz2⟩ ?_))))))) fun H' s4 => qx (by rw [er]; rfl) H' (s1.trans (s2.trans (s3.trans s4)))
        · obtain ⟨t, ht, rfl⟩ := List.mem_map.mp hd
          obtain ⟨p, hp, rfl⟩ := List.mem_map.mp ht
          cases e6 : rdAt (S p) with
          | some y => exact .inl ⟨y, e6, ev_callO (R := RReadAtom) (ds := [.str (S p)]) ⟨p, fps p hp, rfl, e6.symm⟩ (ev_cons (ev_var (by simp [capsOf]) rr) ev_nil)⟩
          | none => exact .inr ⟨e6, evn_callO (R := RReadAtom) (ds := [.str (S p)]) ⟨p, fps p hp, rfl, e6.symm⟩ (ev_cons (ev_var (by simp [capsOf]) rr) ev_nil)⟩
        · rw [List.length_map, List.length_map]; omega
end
end K12

set_option Elab.async false
set_option linter.all false
set_option maxRecDepth 100000
set_option maxHeartbeats 4000000
namespace K12
open PySem L2 FL
section
variable {P : Program} {w : World} {K : PySem.W.Frag} {mg : Str → Option Value} {base : Heap} {f : Addr} {fd : FuncData}
theorem sc_law_at : FnScope ["_law_script", "_law_k"] ["_law_script", "_law_k"] (defScope s_law_at) := ⟨rfl, rfl, rfl, by decide +kernel, rfl, by decide +kernel, by decide +kernel⟩
theorem ok_law_at (F : Fun K "_law_at" "_law_at" s_law_at f fd) (B : Bl mg) : FnOk P w K mg base CX0 1 f fd ["_law_script", "_law_k"] (spR RAt) := by
  refine F.ok sc_law_at (spR_len (n := 2) fun ds d ⟨l, k, e, _⟩ => by rw [e]; rfl) (fun cdv A outer s H vs Q E hr h => ?_)
  obtain ⟨M, ds, d, lv, rs, ⟨l, k, rfl, h0, rfl⟩, q⟩ := h
  have hu := hu50 hr
  refine ⟨_, (pss_cons (ps_if (pt_cmpR op_lt (pv 1) (pe_len B (pv 0)) (nomark _)) (pss_one (ps_ret (pe_ixS (pv 0) (pv 1)))) pss_nil)
      (pss_one (ps_ret pe_int))), ?_⟩
  have E0 := env_start rs ["_law_script", "_law_k"]
  refine s_if lv E0 (evt_test (ev_lt (ev_v E0 rfl) (ev_lenL (ev_cons (ev_v E0 rfl) ev_nil)))) (fun e H1 s1 l1 E1 => ?_) (fun e H1 s1 l1 E1 => ?_)
  · have hlt := of_decide_eq_true e
    have hg : l[k.toNat]? = some (cellD l k) := by
      unfold cellD
      rw [if_pos hlt, List.getD, List.getElem?_eq_getElem (by omega)]
      rfl
    exact s_ret l1 (ev_ix (atI_of_nat h0 hg) (ev_v E1 rfl) (ev_v E1 rfl)) fun v H2 s2 r2 => q v H2 (s1.trans s2) r2
  · have hlt := of_decide_eq_false e
    have hg : cellD l k = .int 0 := by unfold cellD; rw [if_neg hlt]
    rw [hg] at q
    exact q (.int 0) H1 s1 (.int 0)
theorem sc_law_whole : FnScope ["_law_found"] ["_law_found"] (defScope s_law_whole) := ⟨rfl, rfl, rfl, by decide +kernel, rfl, by decide +kernel, by decide +kernel⟩
theorem ok_law_whole (F : Fun K "_law_whole" "_law_whole" s_law_whole f fd) (B : Bl mg) : FnOk P w K mg base CX0 1 f fd ["_law_found"] (spR RWhole) := by
  refine F.ok sc_law_whole (spR_len (n := 1) fun ds d ⟨x, e, _⟩ => by rw [e]; rfl) (fun cdv A outer s H vs Q E hr h => ?_)
  obtain ⟨M, ds, d, lv, rs, ⟨x, rfl, rfl⟩, q⟩ := h
  refine ⟨_, (pss_one (ps_ret (pe_and (pe_isin B (pv 0) B.int PyProof.Rows.boot_int) (pe_one (pe_not (pe_isin B (pv 0) B.bool PyProof.Rows.boot_bool)))))), ?_⟩
  have E0 := env_start rs ["_law_found"]
  exact s_ret lv (ev_and (ev_isInt (ev_v E0 rfl)) fun _ => ev_not (ev_isBool (ev_v E0 rfl))) q
def tailsS : List Str := [Str.ofString "", Str.ofString "zip", Str.ofString "q"]
def preS (k : Nat) : List Str := [Str.ofString "", S [90 - k]]
def spotN (c : Int) : Nat := (c / 11 % 26).toNat
def numOf (c : Int) : Int := if (c / 9 % 200 - 100) % 8 = 3 then (c / 9 % 200 - 100) * 100000000000 else c / 9 % 200 - 100
def restD (n : Int) : List D := [.str (Str.ofString "X"), .str (Str.ofString "Yew"), .str (Str.ofString "ash"), .str (Str.ofString "if"), .str (Str.ofString "and"), .str (Str.ofString "Z"), .str (Str.ofString "less"), .int n, .int 0]
def partBy (c : Int) : D := if c % 11 = 7 then .str ((preS (spotN c)).getD (c / 858 % 2).toNat Str.empty ++ (S [97 + spotN c] ++ tailsS.getD (c / 286 % 3).toNat Str.empty)) else (restD (numOf c)).getD (c % 9).toNat .non
def RPartBy : List D → D → Prop := fun ds d => ∃ c : Int, ds = [.int c] ∧ d = partBy c
theorem at_modS {l : List Str} {n : Nat} (x : Int) (hn : 0 < n) (hl : l.length = n) : atI (l.map D.str) (x % (n : Int)) = some (.str (l.getD (x % (n : Int)).toNat Str.empty)) := by
  obtain ⟨d, h1, h2, h3⟩ := at_mod (l := l.map D.str) x hn (by rw [List.length_map]; exact hl)
  rw [h1, h3]
  have a := Int.emod_nonneg x (show (n : Int) ≠ 0 by omega)
  have b := Int.emod_lt_of_pos x (show (0 : Int) < n by omega)
  have c : (x % (n : Int)).toNat < l.length := by omega
  simp [List.getD, c]
theorem spot_lt (c : Int) : spotN c < 26 ∧ ((spotN c : Nat) : Int) = c / 11 % 26 := by
  have a := Int.emod_nonneg (c / 11) (show (26 : Int) ≠ 0 by decide)
  have b := Int.emod_lt_of_pos (c / 11) (show (0 : Int) < 26 by decide)
  unfold spotN
  omega
theorem small_at {k : Nat} (h : k < 26) : (Str.ofString "abcdefghijklmnopqrstuvwxyz").cps.toList[k]? = some (97 + k) := by
  rw [small_list]
  have : ∀ k : Nat, k < 26 → ([97, 98, 99, 100, 101, 102, 103, 104, 105, 106, 107, 108, 109, 110, 111, 112, 113, 114, 115, 116, 117, 118, 119, 120, 121, 122] : L)[k]? = some (97 + k) := by decide
  exact this k h
theorem back_list : (Str.ofString "ZYXWVUTSRQPONMLKJIHGFEDCBA").cps.toList = [90, 89, 88, 87, 86, 85, 84, 83, 82, 81, 80, 79, 78, 77, 76, 75, 74, 73, 72, 71, 70, 69, 68, 67, 66, 65] := by decide +kernel
theorem back_at {k : Nat} (h : k < 26) : (Str.ofString "ZYXWVUTSRQPONMLKJIHGFEDCBA").cps.toList[k]? = some (90 - k) := by
  rw [back_list]
  have : ∀ k : Nat, k < 26 → ([90, 89, 88, 87, 86, 85, 84, 83, 82, 81, 80, 79, 78, 77, 76, 75, 74, 73, 72, 71, 70, 69, 68, 67, 66, 65] : L)[k]? = some (90 - k) := by decide
  exact this k h
theorem tails_len (i : Nat) : (tailsS.getD i Str.empty).length ≤ 3 ∧ ∀ c ∈ (tailsS.getD i Str.empty).cps.toList, low c = true := by
  have h3 : (Str.ofString "zip").cps.toList = [122, 105, 112] := by decide +kernel
  have h4 : (Str.ofString "q").cps.toList = [113] := by decide +kernel
  have h2 : (Str.ofString "").cps.toList = [] := by decide +kernel
  match i with
  | 0 => exact ⟨by rw [← len_list]; show (Str.ofString "").cps.toList.length ≤ 3; rw [h2]; decide, fun c hc => by rw [show (tailsS.getD 0 Str.empty).cps.toList = (Str.ofString "").cps.toList from rfl, h2] at hc; cases hc⟩
  | 1 => exact ⟨by rw [← len_list]; show (Str.ofString "zip").cps.toList.length ≤ 3; rw [h3]; decide, fun c hc => by
      rw [show (tailsS.getD 1 Str.empty).cps.toList = (Str.ofString "zip").cps.toList from rfl, h3] at hc
      exact (by decide : ∀ c ∈ ([122, 105, 112] : L), low c = true) c hc⟩
  | 2 => exact ⟨by rw [← len_list]; show (Str.ofString "q").cps.toList.length ≤ 3; rw [h4]; decide, fun c hc => by
      rw [show (tailsS.getD 2 Str.empty).cps.toList = (Str.ofString "q").cps.toList from rfl, h4] at hc
      exact (by decide : ∀ c ∈ ([113] : L), low c = true) c hc⟩
  | n + 3 => exact ⟨by show Str.empty.length ≤ 3; decide, fun c hc => by cases hc⟩
theorem pre_cases (k i : Nat) : (preS k).getD i Str.empty = S [] ∨ (preS k).getD i Str.empty = S [90 - k] := by
  match i with
  | 0 => exact .inl c_empty
  | 1 => exact .inr rfl
  | n + 2 => exact .inl rfl
theorem app_list (a b : Str) : (a ++ b).cps.toList = a.cps.toList ++ b.cps.toList := by
  show (a.cps ++ b.cps).toList = _
  rw [Array.toList_append]
theorem rest_good (n : Int) (hn : n.natAbs < 10 ^ 30) : ∀ d ∈ restD n, goodP d := fun d hd => by
  unfold restD at hd
  simp only [List.mem_cons, List.not_mem_nil, or_false] at hd
  rcases hd with rfl | rfl | rfl | rfl | rfl | rfl | rfl | rfl | rfl
  · exact ⟨by decide +kernel, by decide +kernel⟩
  · exact ⟨by decide +kernel, by decide +kernel⟩
  · exact ⟨by decide +kernel, by decide +kernel⟩
  · exact ⟨by decide +kernel, by decide +kernel⟩
  · exact ⟨by decide +kernel, by decide +kernel⟩
  · exact ⟨by decide +kernel, by decide +kernel⟩
  · exact ⟨by decide +kernel, by decide +kernel⟩
  · exact hn
  · show (0 : Int).natAbs < 10 ^ 30
    decide
theorem num_small (c : Int) : (numOf c).natAbs < 10 ^ 30 := by
  have a := Int.emod_nonneg (c / 9) (show (200 : Int) ≠ 0 by decide)
  have b := Int.emod_lt_of_pos (c / 9) (show (0 : Int) < 200 by decide)
  have e : (10 : Nat) ^ 30 = 1000000000000000000000000000000 := by decide
  unfold numOf
  rw [e]
  split <;> omega
theorem partBy_good (c : Int) : goodP (partBy c) := by
  unfold partBy
  split
  · have hk := (spot_lt c).1
    obtain ⟨t1, t2⟩ := tails_len (c / 286 % 3).toNat
    have hw : (S [97 + spotN c] ++ tailsS.getD (c / 286 % 3).toNat Str.empty).cps.toList = (97 + spotN c) :: (tailsS.getD (c / 286 % 3).toNat Str.empty).cps.toList := by rw [app_list, S_list]; rfl
    have hlow : ((97 + spotN c) :: (tailsS.getD (c / 286 % 3).toNat Str.empty).cps.toList).all low = true := List.all_eq_true.mpr fun x hx => by
      rcases List.mem_cons.mp hx with e | e
      · rw [e]; exact low_iff.mpr (by omega)
      · exact t2 x e
    rcases pre_cases (spotN c) (c / 858 % 2).toNat with e | e
    · rw [e]
      refine ⟨?_, ?_⟩
      · rw [app_list, S_list, List.nil_append, hw]
        have : wordB ((97 + spotN c) :: (tailsS.getD (c / 286 % 3).toNat Str.empty).cps.toList) = true := by
          show (true && _) = true
          rw [hlow]; rfl
        rw [this]; rfl
      · rw [← len_list, app_list, S_list, List.nil_append, hw, List.length_cons, len_list]
        omega
    · rw [e]
      refine ⟨?_, ?_⟩
      · rw [app_list, S_list, hw]
        have : blankB ([90 - spotN c] ++ (97 + spotN c) :: (tailsS.getD (c / 286 % 3).toNat Str.empty).cps.toList) = true := by
          show (upc (90 - spotN c) && _) = true
          rw [upc_iff.mpr (by omega)]
          exact hlow
        rw [this, Bool.or_true]
      · rw [← len_list, app_list, S_list, hw]
        simp only [List.length_append, List.length_cons, List.length_nil, len_list]
        omega
  · obtain ⟨d, _, h2, h3⟩ := at_mod (l := restD (numOf c)) (n := 9) c (by decide) rfl
    have h3' : d = (restD (numOf c)).getD (c % 9).toNat .non := h3
    rw [← h3']
    exact rest_good _ (num_small c) d h2
end
end K12

set_option Elab.async false
set_option linter.all false
set_option maxRecDepth 100000
set_option maxHeartbeats 4000000
namespace K12
open PySem L2 FL
section
variable {P : Program} {w : World} {K : PySem.W.Frag} {mg : Str → Option Value} {base : Heap} {f : Addr} {fd : FuncData}
theorem sc_law_part_by : FnScope ["_law_cell", "_law_spot", "_law_word", "_law_number"] ["_law_cell"] (defScope s_law_part_by) := ⟨rfl, rfl, rfl, by decide +kernel, rfl, by decide +kernel, by decide +kernel⟩
theorem ok_law_part_by (F : Fun K "_law_part_by" "_law_part_by" s_law_part_by f fd) (B : Bl mg) : FnOk P w K mg base CX0 1 f fd ["_law_cell"] (spR RPartBy) := by
  refine F.ok sc_law_part_by (spR_len (n := 1) fun ds d ⟨p, e, _⟩ => by rw [e]; rfl) (fun cdv A outer s H vs Q E hr h => ?_)
  obtain ⟨M, ds, d, lv, rs, ⟨c, rfl, rfl⟩, q⟩ := h
  have hu := hu50 hr
  refine ⟨_, (pss_cons (ps_if (pt_cmpR (op_eqA (by exact hu)) (pe_op op_mod (pv 0) pe_int) pe_int (nomark _)) (pss_cons (ps_set (i := 1) sc_law_part_by.nd rfl (Or.inl rfl) (pe_op op_mod (pe_op op_fdiv (pv 0) pe_int) pe_int))
      (pss_cons (ps_set (i := 2) sc_law_part_by.nd rfl (Or.inl rfl) (pe_op op_add_str (pe_ixS pe_str (pv 1)) (pe_ixS (pe_lst (pa_cons pe_str (pa_cons pe_str (pa_cons pe_str pa_nil)))) (pe_op op_mod (pe_op op_fdiv (pv 0) pe_int) pe_int))))
      (pss_one (ps_ret (pe_op op_add_str (pe_ixS (pe_lst (pa_cons pe_str (pa_cons (pe_ixS pe_str (pv 1)) pa_nil))) (pe_op op_mod (pe_op op_fdiv (pv 0) pe_int) pe_int)) (pv 2)))))) pss_nil)
      (pss_cons (ps_set (i := 3) sc_law_part_by.nd rfl (Or.inl rfl) (pe_op op_sub (pe_op op_mod (pe_op op_fdiv (pv 0) pe_int) pe_int) pe_int))
      (pss_cons (ps_if (pt_cmpR (op_eqA (by exact hu)) (pe_op op_mod (pv 3) pe_int) pe_int (nomark _)) (pss_one (ps_set (i := 3) sc_law_part_by.nd rfl (Or.inl rfl) (pe_op op_mul (pv 3) pe_int))) pss_nil)
      (pss_one (ps_ret (pe_ixS (pe_lst (pa_cons pe_str (pa_cons pe_str (pa_cons pe_str (pa_cons pe_str (pa_cons pe_str (pa_cons pe_str (pa_cons pe_str (pa_cons (pv 3) (pa_cons pe_int pa_nil)))))))))) (pe_op op_mod (pv 0) pe_int))))))), ?_⟩
  have E0 := env_start rs ["_law_cell", "_law_spot", "_law_word", "_law_number"]
  have hk := spot_lt c
  have hsz : ∀ n : Nat, n ≤ 1000 → n ≤ sizeLine := fun n h => by have := line16 (n := n) (by omega); omega
  refine s_if lv E0 (evt_test (ev_eqI (ev_mod (by decide) (ev_v E0 rfl) ev_int) ev_int)) (fun e H1 s1 l1 E1 => ?_) (fun e H1 s1 l1 E1 => ?_)
  · have e' := of_decide_eq_true e
    have hp : partBy c = .str ((preS (spotN c)).getD (c / 858 % 2).toNat Str.empty ++ (S [97 + spotN c] ++ tailsS.getD (c / 286 % 3).toNat Str.empty)) := if_pos e'
    rw [hp] at q
    have t1 := (tails_len (c / 286 % 3).toNat).1
    have ixa : atI (Str.ofString "abcdefghijklmnopqrstuvwxyz").cps.toList (c / 11 % 26) = some (97 + spotN c) := atI_of_nat (by omega) (small_at hk.1)
    have ixz : atI (Str.ofString "ZYXWVUTSRQPONMLKJIHGFEDCBA").cps.toList (c / 11 % 26) = some (90 - spotN c) := atI_of_nat (by omega) (back_at hk.1)
    refine s_set l1 E1 (ev_mod (by decide) (ev_fdiv ⟨by decide, by decide⟩ (ev_v E1 rfl) ev_int) ev_int) fun σ2 H2 s2 l2 E2 => ?_
    refine s_set (d := .str (S [97 + spotN c] ++ tailsS.getD (c / 286 % 3).toNat Str.empty)) l2 E2 (ev_addS (by rw [S_len]; exact hsz _ (by simp only [List.length_singleton]; omega)) (ev_ixs (c := 97 + spotN c) (hsz _ (by decide +kernel)) ixa ev_str (ev_v E2 rfl)) (ev_ix (at_modS (l := tailsS) (n := 3) (c / 286) (by decide) rfl) (ev_lst (ds := tailsS.map D.str) (ev_cons ev_str (ev_cons ev_str (ev_cons ev_str ev_nil))) (hz := by show 3 ≤ sizeLine; decide)) (ev_mod (by decide) (ev_fdiv ⟨by decide, by decide⟩ (ev_v E2 rfl) ev_int) ev_int))) fun σ3 H3 s3 l3 E3 => ?_
    refine s_ret l3 (ev_addS (a := (preS (spotN c)).getD (c / 858 % 2).toNat Str.empty) ?_ (ev_ix (at_modS (l := preS (spotN c)) (n := 2) (c / 858) (by decide) rfl) (ev_lst (ds := (preS (spotN c)).map D.str) (ev_cons ev_str (ev_cons (ev_ixs (c := 90 - spotN c) (hsz _ (by decide +kernel)) ixz ev_str (ev_v E3 rfl)) ev_nil)) (hz := by show 2 ≤ sizeLine; decide)) (ev_mod (by decide) (ev_fdiv ⟨by decide, by decide⟩ (ev_v E3 rfl) ev_int) ev_int)) (ev_v E3 rfl)) fun v H' s4 r4 => q v H' (s1.trans (s2.trans (s3.trans s4))) r4
    rw [app_len, S_len]
    refine hsz _ ?_
    rcases pre_cases (spotN c) (c / 858 % 2).toNat with e2 | e2 <;> rw [e2, S_len] <;> simp only [List.length_singleton, List.length_nil] <;> omega
  · have e' := of_decide_eq_false e
    have hp : partBy c = (restD (numOf c)).getD (c % 9).toNat .non := if_neg e'
    rw [hp] at q
    refine nx ?_
    refine s_set l1 E1 (ev_sub (ev_mod (by decide) (ev_fdiv ⟨by decide, by decide⟩ (ev_v E1 rfl) ev_int) ev_int) ev_int) fun σ2 H2 s2 l2 E2 => ?_
    obtain ⟨d, h1, h2, h3⟩ := at_mod (l := restD (numOf c)) (n := 9) c (by decide) rfl
    have h3' : d = (restD (numOf c)).getD (c % 9).toNat .non := h3
    rw [← h3'] at q
    refine s_ifK (fun σ' H' => Same H2 H' ∧ Live M H' ∧ EnvR (but H' M) σ' [some (.int c), none, none, some (.int (numOf c))]) l2 E2 (evt_test (ev_eqI (ev_mod (by decide) (ev_v E2 rfl) ev_int) ev_int)) (fun hk e2 H3 s3 l3 E3 => ?_) (fun hk e2 H3 s3 l3 E3 => ?_) (fun σ3 H3 ⟨s3, l3, E3⟩ => ?_)
    · have hn : numOf c = (c / 9 % 200 - 100) * 100000000000 := if_pos (of_decide_eq_true e2)
      refine s_set l3 E3 (ev_mul (.inr ⟨by decide, by decide⟩) (ev_v E3 rfl) ev_int) fun σ4 H4 s4 l4 E4 => hk _ _ ⟨s3.trans s4, l4, ?_⟩
      rw [hn]
      exact E4
    · have hn : numOf c = c / 9 % 200 - 100 := if_neg (of_decide_eq_false e2)
      refine nx (hk _ _ ⟨s3, l3, ?_⟩)
      rw [hn]
      exact E3
    · exact s_ret l3 (ev_ix h1 (ev_lst (ds := restD (numOf c)) (ev_cons ev_str (ev_cons ev_str (ev_cons ev_str (ev_cons ev_str (ev_cons ev_str (ev_cons ev_str (ev_cons ev_str (ev_cons (ev_v E3 rfl) (ev_cons ev_int ev_nil))))))))) (hz := by show 9 ≤ sizeLine; decide)) (ev_mod (by decide) (ev_v E3 rfl) ev_int)) fun v H' s4 r4 => q v H' (s1.trans (s2.trans (s3.trans s4))) r4
end
end K12

set_option Elab.async false
set_option linter.all false
set_option maxRecDepth 100000
namespace L2
open PySem PySem.Spec PyProof.Rows
structure WE (X : Cx) (e : Expr) (t : TE) : Prop where
  h : PE X e t
structure WA (X : Cx) (es : List Expr) (t : TA) : Prop where
  h : PA X es t
structure WS (X : Cx) (st : Stmt) (t : TS) : Prop where
  h : PS X st t
structure WSs (X : Cx) (l : List Stmt) (t : TS) : Prop where
  h : PSs X l t
structure WT (X : Cx) (e : Expr) (t : TT) : Prop where
  h : PT X e t
section
variable {X : Cx} {e a b c : Expr} {es : List Expr} {te ta tb : TE} {t : TA} {st : Stmt} {rest : List Stmt} {ts us : TS} {pos : Pos}
theorem we_str {x : Str} {j} : WE X (.Constant (.str x) j pos) (tC (.str x)) := ⟨pe_str⟩
theorem we_int {i : Int} {j} : WE X (.Constant (.int i) j pos) (tC (.int i)) := ⟨pe_int⟩
theorem wv (i : Nat) {x : Str} (hN : X.N[i]? = some x := by rfl) (hv : Vis X.env.scope x := by first | exact Or.inl rfl | exact Or.inr (Or.inl rfl) | exact Or.inr (Or.inr rfl)) (hd : (x == ("__debug__" : Str)) = false := by decide) (hcd : (x == ("__classdict__" : Str)) = false := by decide) : WE X (.Name x pos) (tVar i) := ⟨pe_var hN hv hd hcd⟩
theorem wa_nil : WA X [] tNil := ⟨pa_nil⟩
theorem wa_cons (ha : WE X e te) (hr : WA X es t) (hs : starEach (e :: es) X.env = (false, eval e X.env) :: starEach es X.env := by rfl) : WA X (e :: es) (tCons te t) := ⟨pa_cons ha.h hr.h hs⟩
theorem we_lst (h : WA X es t) : WE X (.List es pos) (tLst t) := ⟨pe_lst h.h⟩
theorem we_op {op : Operator} {r : R2} (ho : OpR X (binaryOp op) r) (ha : WE X a ta) (hb : WE X b tb) : WE X (.BinOp a op b pos) (tOp r ta tb) := ⟨pe_op ho ha.h hb.h⟩
theorem we_ixS (ha : WE X a ta) (hb : WE X b tb) (hs : PlainIx b := by intro _ _; rfl) : WE X (.Subscript a b pos) (tOp (rIx X.K) ta tb) := ⟨FL.pe_ixS ha.h hb.h hs⟩
theorem wss_nil : WSs X [] tNext := ⟨pss_nil⟩
theorem wss_one (h : WS X st ts) : WSs X [st] ts := ⟨pss_one h.h⟩
theorem wss_cons (h : WS X st ts) (h2 : WSs X rest us) : WSs X (st :: rest) (tSeq ts us) := ⟨pss_cons h.h h2.h⟩
theorem ws_if {tc : TT} {l1 l2 : List Stmt} (hc : PT X c tc) (ha : WSs X l1 ts) (hb : WSs X l2 us) : WS X (.If c l1 l2 pos) (tIfS tc ts us) := ⟨ps_if hc ha.h hb.h⟩
theorem ws_set {i : Nat} {x : Str} {pos' : Pos} (hN : X.N.Nodup) (hi : X.N[i]? = some x) (hx : Loc X.env.scope x) (he : WE X e te) (hs : swapsWith e (some (.Name x pos')) pos.line X.env = pure false := by rfl) (hf : X.fn x = true ∨ X.env.scope.names.lookup x = some .local := by first | exact .inl rfl | exact .inr rfl | assumption) :
    WS X (.Assign [.Name x pos'] e pos) (tAsg te (gName i)) := ⟨ps_set hN hi hx he.h hs hf⟩
end
section
variable {P : Program} {w : World} {K : PySem.W.Frag} {mg : Str → Option Value} {base : Heap}
theorem Fun.okW {x qual : Str} {st : Stmt} {f : Addr} {fd : FuncData} {N ps : List Str} {k : Nat} {sp : Sp} (F : Fun K x qual st f fd) (S : FnScope N ps (defScope st)) (len : ∀ vs H Q E, sp vs H Q E → vs.length = ps.length)
    (hbody : ∀ (cdv : Value) (A : Around) (outer : List Env) (s : Shared) (H : Hp) (vs : List V) (Q : VK) (E : XK), Room k (A.deeper (envOfC qual (defScope st) s.heap.objs.size f cdv)) → sp vs H Q E →
      ∃ t, WSs (cxOf CX0 P w K mg base N qual (defScope st) f cdv A outer s H E).nox (defBody st) t ∧ t { nx := fun _ H' => Q .non H', rt := Q } (start N vs) H) : FnOk P w K mg base CX0 (k + 1) f fd ps sp :=
  F.ok S len fun cdv A outer s H vs Q E hr hsp => let ⟨t, h, q⟩ := hbody cdv A outer s H vs Q E hr hsp; ⟨t, h.h, q⟩
end
end L2

set_option Elab.async false
set_option linter.all false
set_option maxRecDepth 100000
set_option maxHeartbeats 4000000
namespace K12
open PySem L2 FL
section
variable {P : Program} {w : World} {K : PySem.W.Frag} {mg : Str → Option Value} {base : Heap} {f : Addr} {fd : FuncData}
def relsS (c : Int) : List Str := [Str.ofString "road", Str.ofString "rain", Str.ofString "less", Str.ofString "if", Str.ofString "and", Str.ofString "a", S [97 + (c / 7 % 26).toNat]]
def relBy (c : Int) : Str := (relsS c).getD (c % 7).toNat Str.empty
def atomBy (c : Int) (cs : List Int) : D := .tup (.str (relBy c) :: cs.map partBy)
def RAtomBy : List D → D → Prop := fun ds d => ∃ c cs, ds = [.lst ((c :: cs).map D.int)] ∧ cs.length ≤ 70 ∧ d = atomBy c cs
theorem rel_good (c : Int) : wordB (relBy c).cps.toList = true ∧ (relBy c).length ≤ 31 := by
  have a := Int.emod_nonneg (c / 7) (show (26 : Int) ≠ 0 by decide)
  have b := Int.emod_lt_of_pos (c / 7) (show (0 : Int) < 26 by decide)
  have a2 := Int.emod_nonneg c (show (7 : Int) ≠ 0 by decide)
  have b2 := Int.emod_lt_of_pos c (show (0 : Int) < 7 by decide)
  unfold relBy
  have : (c % 7).toNat < 7 := by omega
  generalize (c % 7).toNat = i at this
  match i, this with
  | 0, _ => exact (by decide +kernel : wordB (Str.ofString "road").cps.toList = true ∧ (Str.ofString "road").length ≤ 31)
  | 1, _ => exact (by decide +kernel : wordB (Str.ofString "rain").cps.toList = true ∧ (Str.ofString "rain").length ≤ 31)
  | 2, _ => exact (by decide +kernel : wordB (Str.ofString "less").cps.toList = true ∧ (Str.ofString "less").length ≤ 31)
  | 3, _ => exact (by decide +kernel : wordB (Str.ofString "if").cps.toList = true ∧ (Str.ofString "if").length ≤ 31)
  | 4, _ => exact (by decide +kernel : wordB (Str.ofString "and").cps.toList = true ∧ (Str.ofString "and").length ≤ 31)
  | 5, _ => exact (by decide +kernel : wordB (Str.ofString "a").cps.toList = true ∧ (Str.ofString "a").length ≤ 31)
  | 6, _ =>
    show wordB (S [97 + (c / 7 % 26).toNat]).cps.toList = true ∧ (S [97 + (c / 7 % 26).toNat]).length ≤ 31
    rw [S_list, S_len]
    refine ⟨?_, by simp⟩
    show (true && (low _ && true)) = true
    rw [low_iff.mpr (by omega)]
    rfl
theorem atomBy_good (c : Int) (cs : List Int) (h : cs.length ≤ 70) : goodA (atomBy c cs) :=
  ⟨relBy c, cs.map partBy, rfl, (rel_good c).1, (rel_good c).2, fun d hd => by obtain ⟨x, _, rfl⟩ := List.mem_map.mp hd; exact partBy_good x, by rw [List.length_map]; exact h⟩
theorem sc_law_atom_by : FnScope ["_law_cells", "_law_words"] ["_law_cells"] (defScope s_law_atom_by) := ⟨rfl, rfl, rfl, by decide +kernel, rfl, by decide +kernel, by decide +kernel⟩
theorem ok_law_atom_by (F : Fun K "_law_atom_by" "_law_atom_by" s_law_atom_by f fd) (B : Bl mg) (G_law_part_by : Has P w K mg base 1 "_law_part_by" ["_law_cell"] (spR RPartBy)) : FnOk P w K mg base CX0 2 f fd ["_law_cells"] (spR RAtomBy) := by
  refine F.okW sc_law_atom_by (spR_len (n := 1) fun ds d ⟨c, cs, e, _⟩ => by rw [e]; rfl) (fun cdv A outer s H vs Q E hr h => ?_)
  obtain ⟨M, ds, d, lv, rs, ⟨c, cs, rfl, hl, rfl⟩, q⟩ := h
  refine ⟨_, (wss_cons (ws_set (i := 1) sc_law_atom_by.nd rfl (Or.inl rfl) (we_lst (wa_cons we_str (wa_cons we_str (wa_cons we_str (wa_cons we_str (wa_cons we_str (wa_cons we_str (wa_cons (we_ixS we_str (we_op op_mod (we_op op_fdiv (we_ixS (wv 0) we_int) we_int) we_int)) wa_nil)))))))))
      (wss_one ⟨ps_ret (pe_tupleC B (pe_op op_cat (pe_lst (pa_cons (pe_ixS (pv 1) (pe_op op_mod (pe_ixS (pv 0) pe_int) pe_int)) pa_nil)) (pe_compC ["_law_cell"] [] 1 (pi_seq (pe_slice sl_list (pv 0) (po_some pe_int) po_none)) (fun _ _ _ _ _ => (pg_name (i := 0) (show (["_law_cell"] : List Str).Nodup from by decide +kernel) rfl (by first | exact Or.inl rfl | exact Or.inr rfl))) (fun _ _ _ _ _ => pts_nil) (fun _ _ _ _ _ => (pe_ownc G_law_part_by hr (pa_cons (pv 0) pa_nil))))))⟩)), ?_⟩
  have E0 := env_start rs ["_law_cells", "_law_words"]
  have a := Int.emod_nonneg (c / 7) (show (26 : Int) ≠ 0 by decide)
  have b := Int.emod_lt_of_pos (c / 7) (show (0 : Int) < 26 by decide)
  have ixa : atI (Str.ofString "abcdefghijklmnopqrstuvwxyz").cps.toList (c / 7 % 26) = some (97 + (c / 7 % 26).toNat) := atI_of_nat a (small_at (by omega))
  refine s_set lv E0 (ev_lst (ds := (relsS c).map D.str) (ev_cons ev_str (ev_cons ev_str (ev_cons ev_str (ev_cons ev_str (ev_cons ev_str (ev_cons ev_str (ev_cons (ev_ixs (c := 97 + (c / 7 % 26).toNat) (by decide +kernel) ixa ev_str (ev_mod (by decide) (ev_fdiv ⟨by decide, by decide⟩ (ev_ix atI_zero (ev_v E0 rfl) ev_int) ev_int) ev_int)) ev_nil))))))) (hz := by show 7 ≤ sizeLine; decide)) fun σ1 H1 s1 l1 E1 => ?_
  refine s_ret l1 ((ev_tupleL (ev_cons (ev_catL (xs := [.str (relBy c)]) (ys := cs.map partBy) (by simp only [List.length_singleton, List.length_map]; omega) (ev_lst (ev_cons (ev_ix (at_modS (l := relsS c) (n := 7) c (by decide) rfl) (ev_v E1 rfl) (ev_mod (by decide) (ev_ix (d := .int c) atI_zero (ev_v E1 rfl) ev_int) ev_int)) ev_nil)) ((ev_comp (i := 0) (p := fun _ => true) (f := fun d => match d with | .int x => partBy x | _ => .non) (walk_seqL (ev_from (k := 1) (ev_v E1 rfl))) (fun G' v d _ _ _ => evt_yes) (fun G' v d sG hd _ r => ?_) ?_).eq ?_)) ev_nil)).eq rfl) fun v H' s2 r2 => q v H' (s1.trans s2) r2
  · have hd : d ∈ cs.map D.int := hd
    obtain ⟨x, hx, rfl⟩ := List.mem_map.mp hd
    exact ev_callR ⟨x, rfl, rfl⟩ (ev_cons (ev_var (by simp [capsOf]) r) ev_nil)
  · show (cs.map D.int).length < _
    rw [List.length_map]
    exact small1000 (by omega)
  · rw [List.filter_eq_self.mpr fun _ _ => rfl]
    show D.lst ((cs.map D.int).map _) = _
    rw [List.map_map]
    rfl
end
end K12

set_option Elab.async false
set_option linter.all false
set_option maxRecDepth 100000
set_option maxHeartbeats 4000000
namespace K12
open PySem L2 FL
section
variable {P : Program} {w : World} {K : PySem.W.Frag} {mg : Str → Option Value} {base : Heap} {f : Addr} {fd : FuncData}
def atomOf : List Int → D
  | [] => .non
  | c :: cs => atomBy c cs
def stepA (st : List D × List Int) (c : Int) : List D × List Int := if c % 4 = 0 then (st.1 ++ [atomOf (st.2 ++ [c / 4])], []) else (st.1, st.2 ++ [c / 4])
def foldA (ns : List Int) : List D × List Int := ns.foldl stepA ([], [])
def atomsBy (ns : List Int) : List D := (foldA ns).1 ++ [atomOf ((foldA ns).2 ++ [(ns.length : Int)])]
theorem atomOf_good {l : List Int} (h : l ≠ []) (h2 : l.length ≤ 71) : goodA (atomOf l) := by
  cases l with
  | nil => exact absurd rfl h
  | cons c cs => exact atomBy_good c cs (by rw [List.length_cons] at h2; omega)
theorem fold_bound : ∀ (ns : List Int) (st : List D × List Int) (k : Nat), st.1.length + st.2.length ≤ k → (∀ a ∈ st.1, goodA a) → k + ns.length ≤ 63 → (ns.foldl stepA st).1.length + (ns.foldl stepA st).2.length ≤ k + ns.length ∧ ∀ a ∈ (ns.foldl stepA st).1, goodA a
  | [], st, k, h1, h2, _ => ⟨h1, h2⟩
  | c :: r, st, k, h1, h2, h3 => by
    rw [List.length_cons] at h3
    have hs : (stepA st c).1.length + (stepA st c).2.length ≤ k + 1 ∧ ∀ a ∈ (stepA st c).1, goodA a := by
      unfold stepA
      split
      · refine ⟨by simp only [List.length_append, List.length_singleton, List.length_nil]; omega, fun a ha => ?_⟩
        rcases List.mem_append.mp ha with z | z
        · exact h2 a z
        · rw [List.mem_singleton.mp z]
          exact atomOf_good (by simp) (by simp only [List.length_append, List.length_singleton]; omega)
      · exact ⟨by simp only [List.length_append, List.length_singleton]; omega, h2⟩
    have := fold_bound r (stepA st c) (k + 1) hs.1 hs.2 (by omega)
    rw [List.foldl_cons]
    refine ⟨by rw [List.length_cons]; omega, this.2⟩
theorem foldA_bound {ns : List Int} (h : ns.length ≤ 63) : (foldA ns).1.length + (foldA ns).2.length ≤ ns.length ∧ ∀ a ∈ (foldA ns).1, goodA a := by
  have := fold_bound ns ([], []) 0 (Nat.le_refl _) (fun a h => nomatch h) (by omega)
  rw [Nat.zero_add] at this
  exact this
theorem foldA_take {ns : List Int} {j : Nat} {c : Int} (h : ns[j]? = some c) : foldA (ns.take (j + 1)) = stepA (foldA (ns.take j)) c := by
  unfold foldA
  rw [List.take_add_one, h, List.foldl_append]
  rfl
theorem atomsBy_good {ns : List Int} (h : ns.length ≤ 63) : ∃ h' b, atomsBy ns = h' :: b ∧ GoodR h' b := by
  obtain ⟨h1, h2⟩ := foldA_bound h
  have hg : ∀ a ∈ atomsBy ns, goodA a := fun a ha => by
    rcases List.mem_append.mp ha with z | z
    · exact h2 a z
    · rw [List.mem_singleton.mp z]
      exact atomOf_good (by simp) (by simp only [List.length_append, List.length_singleton]; omega)
  have hl : (atomsBy ns).length ≤ 64 := by unfold atomsBy; simp only [List.length_append, List.length_singleton]; omega
  cases e : atomsBy ns with
  | nil => exact absurd (congrArg List.length e) (by unfold atomsBy; simp)
  | cons a b =>
    rw [e] at hg hl
    exact ⟨a, b, rfl, hg a List.mem_cons_self, fun x hx => hg x (List.mem_cons_of_mem _ hx), by rw [List.length_cons] at hl; omega⟩
theorem same_loop {H1 H' H'' : Hp} {L : List Addr} {a : Addr} (S' : Same (but H1 L) (but H' L)) (ha : a ∈ L ∨ H1 a = none) (k : ∀ b o, b ≠ a → H' b = some o → H'' b = some o) : Same (but H1 L) (but H'' L) := fun b o e => by
  obtain ⟨h1, h2⟩ := but_some e
  have h3 := (but_some (S' b o e)).2
  rw [but_out h1]
  refine k b o (fun z => ?_) h3
  rcases ha with q | q
  · exact h1 (by rw [z]; exact q)
  · rw [z, q] at h2; cases h2
def AInv (H H2 : Hp) (M : List Addr) (p0 q : Addr) (cells : D) (st : List D × List Int) (σ' : St) (H' : Hp) : Prop :=
  ∃ p us vs, σ'[1]? = some (some (.ref q)) ∧ σ'[2]? = some (some (.ref p)) ∧ p ∉ q :: M ∧ H' q = some (.lst us) ∧ Reps (but H' (p :: q :: M)) us st.1 ∧ H' p = some (.lst vs) ∧ Reps (but H' (p :: q :: M)) vs (st.2.map D.int) ∧ Live (p :: q :: M) H' ∧
    EnvR (but H' (p :: q :: M)) σ' [some cells, none, none, none] ∧ Same H H' ∧ (∀ b o, H b = some o → b ≠ p) ∧ (p = p0 ∨ H2 p = none) ∧ Same (but H2 (p0 :: q :: M)) (but H' (p0 :: q :: M)) ∧ Live (p0 :: q :: M) H'
def RAtomsBy : List D → D → Prop := fun ds d => ∃ ns : List Int, ns.length ≤ 63 ∧ ds = [.lst (ns.map D.int)] ∧ d = .lst (atomsBy ns)
theorem live_app {L : List Addr} {H H' : Hp} {a : Addr} {o : HO} (l : Live L H) (k : ∀ b o, b ≠ a → H b = some o → H' b = some o) (h : H' a = some o) : Live L H' := fun b hb z => by
  by_cases e : b = a
  · subst e; rw [h] at z; cases z
  · cases q : H b with
    | none => exact l b hb q
    | some u => rw [k b u e q] at z; cases z
theorem same_app {H H' H'' : Hp} {a : Addr} (s : Same H H') (ha : ∀ b o, H b = some o → b ≠ a) (k : ∀ b o, b ≠ a → H' b = some o → H'' b = some o) : Same H H'' := fun b o e => k b o (ha b o e) (s b o e)
theorem sc_law_atoms_by : FnScope ["_law_cells", "_law_atoms", "_law_row", "_law_cell"] ["_law_cells"] (defScope s_law_atoms_by) := ⟨rfl, rfl, rfl, by decide +kernel, rfl, by decide +kernel, by decide +kernel⟩
theorem ok_law_atoms_by (F : Fun K "_law_atoms_by" "_law_atoms_by" s_law_atoms_by f fd) (B : Bl mg) (G_law_atom_by : Has P w K mg base 2 "_law_atom_by" ["_law_cells"] (spR RAtomBy)) : FnOk P w K mg base CX0 3 f fd ["_law_cells"] (spR RAtomsBy) := by
  refine F.ok sc_law_atoms_by (spR_len (n := 1) fun ds d ⟨ns, _, e, _⟩ => by rw [e]; rfl) (fun cdv A outer s H vs Q E hr h => ?_)
  obtain ⟨M, ds, d, lv, rs, ⟨ns, h63, rfl, rfl⟩, fin⟩ := h
  have hu := hu50 hr
  refine ⟨_, (pss_cons (ps_set (i := 1) sc_law_atoms_by.nd rfl (Or.inl rfl) (pe_lst pa_nil))
      (pss_cons (ps_set (i := 2) sc_law_atoms_by.nd rfl (Or.inl rfl) (pe_lst pa_nil))
      (pss_cons (ps_for PassesOwn.never rfl (pi_seq (pv 0)) (pg_name (i := 3) sc_law_atoms_by.nd rfl (by first | exact Or.inl rfl | exact Or.inr rfl)) (pss_cons (ps_append (pv 2) (pe_op op_fdiv (pv 3) pe_int))
      (pss_one (ps_if (pt_cmpR (op_eqA (by exact hu)) (pe_op op_mod (pv 3) pe_int) pe_int (nomark _)) (pss_cons (ps_append (pv 1) (pe_own G_law_atom_by hr (pa_cons (pv 2) pa_nil)))
      (pss_one (ps_set (i := 2) sc_law_atoms_by.nd rfl (Or.inl rfl) (pe_lst pa_nil)))) pss_nil))))
      (pss_cons (ps_append (pv 2) (pe_len B (pv 0)))
      (pss_cons (ps_append (pv 1) (pe_own G_law_atom_by hr (pa_cons (pv 2) pa_nil)))
      (pss_one (ps_ret (pv 1)))))))), ?_⟩
  have E0 := env_start rs ["_law_cells", "_law_atoms", "_law_row", "_law_cell"]
  refine s_new lv E0 (by simp) ev_nil (Nat.zero_le _) fun q us0 σ1 H1 o1 i1 nq h1 r1 l1 k1 E1 => ?_
  refine s_new l1 E1 (by simp) ev_nil (Nat.zero_le _) fun p0 vs0 σ2 H2 o2 i2 np h2 r2 l2 k2 E2 => ?_
  have i21 : σ2[1]? = some (some (.ref q)) := (o2 1 (by decide)).trans i1
  obtain ⟨neqp, h2q⟩ := k2 _ _ h1
  have sH2 : Same H H2 := fun b o e => (k2 _ _ (k1 b o e).2).2
  have hq0 : ∀ b o, H b = some o → b ≠ q := fun b o e => (k1 b o e).1
  have hp00 : ∀ b o, H b = some o → b ≠ p0 := fun b o e => (k2 _ _ (k1 b o e).2).1
  have r2q : Reps (but H2 (p0 :: q :: M)) us0 [] := by cases r1; exact .nil
  refine st_for (M := p0 :: q :: M) (ds := ns.map D.int) (walk_seqL (ev_v E2 rfl)) l2 fun H3 s3 => ?_
  refine ⟨fun j σ' H' => AInv H H3 M p0 q (.lst (ns.map D.int)) (foldA (ns.take j)) σ' H', ?_, fun j σ' H' ⟨_, _, _, _, _, _, _, _, _, _, _, _, _, _, _, x, y⟩ => ⟨x, y⟩, ?_, ?_⟩
  · exact ⟨p0, us0, vs0, i21, i2, np, s3 _ _ h2q, r2q.mono (s3.but _), s3 _ _ h2, r2.mono (s3.but _), l2.same s3, E2.same s3, sH2.trans s3, hp00, .inl rfl, Same.refl _, l2.same s3⟩
  · rintro j d x σ' H' H'' hd ⟨p, us, vs, i1', i2', hpn, hq', rq', hp', rp', l', E', sH', hp0', hor, S', L'⟩ s4 rx
    obtain ⟨c, hc, rfl⟩ : ∃ c, ns[j]? = some c ∧ d = .int c := by
      rw [List.getElem?_map] at hd
      cases e : ns[j]? with
      | none => rw [e] at hd; cases hd
      | some y => rw [e] at hd; exact ⟨y, rfl, (Option.some.inj hd).symm⟩
    have hx := rx.of_int
    subst hx
    have hjl : j < ns.length := (List.getElem?_eq_some_iff.mp hc).1
    obtain ⟨bd, bg⟩ := foldA_bound (ns := ns.take j) (by rw [List.length_take]; omega)
    rw [List.length_take, Nat.min_eq_left (by omega)] at bd
    have hs0 := foldA_take hc
    generalize foldA (ns.take j) = st at bd bg rq' rp' hs0
    have E3 : EnvR (but H'' (p :: q :: M)) (σ'.set 3 (some (.int c))) [some (.lst (ns.map D.int)), none, none, some (.int c)] := (E'.same s4).set 3 (.int c)
    have i13 : (σ'.set 3 (some (.int c)))[1]? = some (some (.ref q)) := (List.getElem?_set_ne (by decide)).trans i1'
    have i23 : (σ'.set 3 (some (.int c)))[2]? = some (some (.ref p)) := (List.getElem?_set_ne (by decide)).trans i2'
    have hqp : q ≠ p := fun z => hpn (by rw [z]; exact List.mem_cons_self)
    refine s_app (l'.same s4) E3 (by simp) i23 (s4 _ _ hp') (rp'.mono (s4.but _)) (by rw [List.length_map]; exact small1000 (by omega)) (ev_fdiv ⟨by decide, by decide⟩ (ev_v E3 rfl) ev_int) fun v H5 k5 l5 h5 r5 E5 => ?_
    have h5q : H5 q = some (.lst us) := k5 _ _ hqp (s4 _ _ hq')
    have r5q : Reps (but H5 (p :: q :: M)) us st.1 := rq'.mono (s4.but _ |>.trans (hide_same (by simp) k5))
    have s5 : Same H H5 := same_app (sH'.trans s4) hp0' k5
    have hor' : p ∈ p0 :: q :: M ∨ H3 p = none := hor.imp (fun z => by rw [z]; exact List.mem_cons_self) id
    have S5 : Same (but H3 (p0 :: q :: M)) (but H5 (p0 :: q :: M)) := same_loop (S'.trans (s4.but _)) hor' k5
    have L5 : Live (p0 :: q :: M) H5 := live_app (L'.same s4) k5 h5
    have r5' : Reps (but H5 (p :: q :: M)) (vs ++ [v]) ((st.2 ++ [c / 4]).map D.int) := by rw [List.map_append]; exact r5
    refine s_if l5 E5 (evt_test (ev_eqI (ev_mod (by decide) (ev_v E5 rfl) ev_int) ev_int)) (fun e H6 s6 l6 E6 => ?_) (fun e H6 s6 l6 E6 => ?_)
    · have hst : stepA st c = (st.1 ++ [atomOf (st.2 ++ [c / 4])], []) := if_pos (of_decide_eq_true e)
      obtain ⟨c0, cs, ec⟩ : ∃ c0 cs, st.2 ++ [c / 4] = c0 :: cs := by
        cases z : st.2 ++ [c / 4] with
        | nil => simp at z
        | cons a b => exact ⟨a, b, rfl⟩
      have hcl : cs.length ≤ 70 := by
        have := congrArg List.length ec
        rw [List.length_append, List.length_singleton, List.length_cons] at this
        omega
      have E7 := env_show (M := q :: M) (i := 2) hpn (by simp) i23 (s6 _ _ h5) (r5'.mono (s6.but _)) E6
      have l7 : Live (q :: M) H6 := fun b hb => l6 b (List.mem_cons_of_mem _ hb)
      have r7q : Reps (but H6 (q :: M)) us st.1 := r5q.mono ((s6.but _).trans (but_mono fun b hb => List.mem_cons_of_mem _ hb))
      rw [ec] at E7 hst
      refine s_app l7 E7 (by simp) i13 (s6 _ _ h5q) r7q (by exact small1000 (by omega)) (ev_callR ⟨c0, cs, rfl, hcl, rfl⟩ (ev_cons (ev_v E7 rfl) ev_nil)) fun v8 H8 k8 l8 h8 r8 E8 => ?_
      refine s_new l8 E8 (by simp) ev_nil (Nat.zero_le _) fun p' vs9 σ9 H9 o9 i9 np9 h9 r9 l9 k9 E9 => ?_
      have hn8 : H8 p' = none := by
        cases z : H8 p' with
        | none => rfl
        | some o => exact absurd rfl (k9 _ _ z).1
      have s89 : Same H8 H9 := fun b o e => (k9 b o e).2
      have S8 : Same (but H3 (p0 :: q :: M)) (but H8 (p0 :: q :: M)) := same_loop (S5.trans (s6.but _)) (.inl (by simp)) k8
      have L8 : Live (p0 :: q :: M) H8 := live_app (L5.same s6) k8 h8
      have sH8 : Same H H8 := same_app (s5.trans s6) hq0 k8
      show AInv H H3 M p0 q (.lst (ns.map D.int)) (foldA (ns.take (j + 1))) _ _
      rw [hs0, hst]
      refine ⟨p', us ++ [v8], vs9, (o9 1 (by decide)).trans i13, i9, np9, s89 _ _ h8, r8.mono (sub_hide hn8 s89), h9, r9, l9, E9.drop 3, sH8.trans s89, fun b o e => (k9 b o (sH8 b o e)).1, .inr ?_, S8.trans (s89.but _), L8.same s89⟩
      cases z : H3 p' with
      | none => rfl
      | some o =>
        by_cases hb : p' ∈ p0 :: q :: M
        · exact absurd hn8 (L8 p' hb)
        · have := (but_some (S8 p' o (by rw [but_out hb]; exact z))).2
          rw [hn8] at this; cases this
    · have hst : stepA st c = (st.1, st.2 ++ [c / 4]) := if_neg (of_decide_eq_false e)
      refine nx ?_
      show AInv H H3 M p0 q (.lst (ns.map D.int)) (foldA (ns.take (j + 1))) _ _
      rw [hs0, hst]
      exact ⟨p, us, vs ++ [v], i13, i23, hpn, s6 _ _ h5q, r5q.mono (s6.but _), s6 _ _ h5, r5'.mono (s6.but _), l6, E6.drop 3, s5.trans s6, hp0', hor, S5.trans (s6.but _), L5.same s6⟩
  · rintro σ' H' ⟨p, us, vs, i1', i2', hpn, hq', rq', hp', rp', l', E', sH', hp0', hor, S', L'⟩
    rw [List.length_map, List.take_of_length_le (Nat.le_refl _)] at rq' rp'
    obtain ⟨bd, bg⟩ := foldA_bound (ns := ns) h63
    have hab : atomsBy ns = (foldA ns).1 ++ [atomOf ((foldA ns).2 ++ [(ns.length : Int)])] := rfl
    rw [hab] at fin
    generalize foldA ns = st at bd bg rq' rp' fin
    have hqp : q ≠ p := fun z => hpn (by rw [z]; exact List.mem_cons_self)
    refine s_app l' E' (by simp) i2' hp' rp' (by rw [List.length_map]; exact small1000 (by omega)) ((ev_lenL (ev_cons (ev_v E' rfl) ev_nil)).eq (d' := .int (ns.length : Int)) (by simp)) fun v H5 k5 l5 h5 r5 E5 => ?_
    have h5q : H5 q = some (.lst us) := k5 _ _ hqp hq'
    have r5q : Reps (but H5 (p :: q :: M)) us st.1 := rq'.mono (hide_same (by simp) k5)
    have s5 : Same H H5 := same_app sH' hp0' k5
    have r5' : Reps (but H5 (p :: q :: M)) (vs ++ [v]) ((st.2 ++ [(ns.length : Int)]).map D.int) := by rw [List.map_append]; exact r5
    obtain ⟨c0, cs, ec⟩ : ∃ c0 cs, st.2 ++ [(ns.length : Int)] = c0 :: cs := by
      cases z : st.2 ++ [(ns.length : Int)] with
      | nil => simp at z
      | cons a b => exact ⟨a, b, rfl⟩
    have hcl : cs.length ≤ 70 := by
      have := congrArg List.length ec
      rw [List.length_append, List.length_singleton, List.length_cons] at this
      omega
    have E7 := env_show (M := q :: M) (i := 2) hpn (by simp) i2' h5 r5' E5
    have l7 : Live (q :: M) H5 := fun b hb => l5 b (List.mem_cons_of_mem _ hb)
    have r7q : Reps (but H5 (q :: M)) us st.1 := r5q.mono (but_mono fun b hb => List.mem_cons_of_mem _ hb)
    rw [ec] at E7 fin
    refine s_app l7 E7 (by simp) i1' h5q r7q (by exact small1000 (by omega)) (ev_callR ⟨c0, cs, rfl, hcl, rfl⟩ (ev_cons (ev_v E7 rfl) ev_nil)) fun v8 H8 k8 l8 h8 r8 E8 => ?_
    have sH8 : Same H H8 := same_app s5 hq0 k8
    have E9 := env_show (M := M) (i := 1) nq (by simp) i1' h8 r8 E8
    have l9 : Live M H8 := fun b hb => l8 b (List.mem_cons_of_mem _ hb)
    exact s_ret l9 (ev_v E9 rfl) fun v H' s9 r9 => fin v H' (sH8.trans s9) r9
end
end K12

set_option Elab.async false
set_option linter.all false
set_option maxRecDepth 100000
set_option maxHeartbeats 4000000
namespace K12
open PySem L2 FL
section
variable {P : Program} {w : World} {K : PySem.W.Frag} {mg : Str → Option Value} {base : Heap} {f : Addr} {fd : FuncData}
theorem join_fits2 {y : L} {ps : List L} (hy : y ≠ []) (hl : y.length ≤ 10) (h : (joinL y ps).length ≤ 4000) : (((ps.map S).map (·.length)).sum + (ps.map S).length * (S y).length ≤ 16777216) := by
  obtain ⟨h1, h2⟩ := joinL_count hy ps
  have e : (ps.map S).map (·.length) = ps.map List.length := by
    rw [List.map_map]
    exact List.map_congr_left fun p _ => S_len p
  rw [e, List.length_map, S_len]
  have := Nat.mul_le_mul (show ps.length ≤ 4001 by omega) hl
  omega
theorem line_part {as : List L} {p : L} (hp : p ∈ as) : p.length ≤ (lineL as).length := by
  match as, hp with
  | [h], hp => rw [List.mem_singleton.mp hp]; exact Nat.le_refl _
  | h :: b :: r, hp =>
    show _ ≤ (h ++ [32, 105, 102, 32] ++ joinL [32, 97, 110, 100, 32] (b :: r)).length
    rw [List.length_append, List.length_append]
    rcases List.mem_cons.mp hp with e | e
    · rw [e]; omega
    · have := joinL_part (y := [32, 97, 110, 100, 32]) e
      omega
theorem line_join {h b : L} {r : List L} : (joinL [32, 97, 110, 100, 32] (b :: r)).length + h.length + 4 = (lineL (h :: b :: r)).length := by
  show _ = (h ++ [32, 105, 102, 32] ++ joinL [32, 97, 110, 100, 32] (b :: r)).length
  rw [List.length_append, List.length_append]
  simp only [List.length_cons, List.length_nil]
  omega
theorem line_few {h : L} {b : List L} : b.length ≤ (lineL (h :: b)).length + 1 := by
  cases b with
  | nil => exact Nat.zero_le _
  | cons c r =>
    have := (joinL_count (y := [32, 97, 110, 100, 32]) (by simp) (c :: r)).1
    have := line_join (h := h) (b := c) (r := r)
    omega
theorem texts_w {ps : List D} (hp : ∀ d ∈ ps, okW d) : ps.map (fun d => D.str d.text) = ((ps.map partL).map S).map D.str := by
  rw [List.map_map, List.map_map]
  exact List.map_congr_left fun d hd => congrArg D.str (okW_text (hp d hd))
theorem pe_lenS {X : Cx} {e : Expr} {te : TE} {p pos : Pos} (B : Bl X.mg) (h : PE X e te) (hg : Gl X "len" := by rfl) (he : starEach [e] X.env = (false, eval e X.env) :: starEach [] X.env := by rfl) : PE X (.Call (.Name "len" p) [e] [] pos) (tCB (fun xs H Q => ∃ z, xs = [.str z] ∧ z.length ≤ sizeLine ∧ Q (.int z.length) H) (tCons te tNil)) :=
  pe_callB call_len_str hg B.len PySem.boot_len (pa_cons h pa_nil he) (he := he)
theorem ev_lenS {G : Hp} {σ : St} {t : TA} {z : Str} (hz : z.length ≤ sizeLine) (h : EvA t G σ [.str z]) : EvM (tCB (fun xs H Q => ∃ z, xs = [.str z] ∧ z.length ≤ sizeLine ∧ Q (.int z.length) H) t) G σ (.int z.length) :=
  ev_cb (fun M H xs l rs Q k => by
    obtain ⟨u, rfl, ru⟩ := reps1 rs
    exact ⟨z, by rw [ru.of_str], hz, k _ H (Same.refl _) (.int _)⟩) h
theorem ev_to1 {G : Hp} {σ : St} {ta tb : TE} {l : L} {p : Nat} (hz : l.length ≤ 4000) (h : p ≤ l.length) (ha : EvM ta G σ (.str (S l))) (hb : EvM tb G σ (.int (p : Int))) : EvM (tSl rSlS ta tNoPart (tPart tb)) G σ (.str (S (l.take p))) :=
  (ev_sliceS (lo := none) (hi := some (p : Int)) (by rw [S_len]; have := line16 (n := l.length) (by omega); omega) ha (fun M' H' _ _ Q k => k H' (Same.refl _)) (evo_some hb)).eq (by rw [cutL_to h])
theorem ev_from1 {G : Hp} {σ : St} {ta tb : TE} {l : L} {p : Nat} (hz : l.length ≤ 4000) (ha : EvM ta G σ (.str (S l))) (hb : EvM tb G σ (.int (p : Int))) : EvM (tSl rSlS ta (tPart tb) tNoPart) G σ (.str (S (l.drop p))) :=
  (ev_sliceS (lo := some (p : Int)) (hi := none) (by rw [S_len]; have := line16 (n := l.length) (by omega); omega) ha (evo_some hb) (fun M' H' _ _ Q k => k H' (Same.refl _))).eq (by rw [cutL_from])
theorem ev_addL {G : Hp} {σ : St} {ta tb : TE} {a b : L} (hz : a.length + b.length ≤ 1000000) (ha : EvM ta G σ (.str (S a))) (hb : EvM tb G σ (.str (S b))) : EvM (tOp (fun x y H Q => ∃ i j, x = .str i ∧ y = .str j ∧ i.length + j.length ≤ sizeLine ∧ Q (.str (i ++ j)) H) ta tb) G σ (.str (S (a ++ b))) :=
  (ev_addS (by rw [S_len, S_len]; have := line16 hz; omega) ha hb).eq (by rw [S_app])
def RSpoilt : List D → D → Prop := fun ds d => ∃ (l : L) (way spot : Int) (c : Nat), l.length ≤ 3999 ∧ ds = [.str (S l), .int way, .int spot, .str (S [c])] ∧ d = .str (S (spoil l way (spot % ((l.length + 1 : Nat) : Int)).toNat c))
theorem sc_law_spoilt : FnScope ["_law_line", "_law_way", "_law_spot", "_law_sign", "_law_place"] ["_law_line", "_law_way", "_law_spot", "_law_sign"] (defScope s_law_spoilt) := ⟨rfl, rfl, rfl, by decide +kernel, rfl, by decide +kernel, by decide +kernel⟩
theorem ok_law_spoilt (F : Fun K "_law_spoilt" "_law_spoilt" s_law_spoilt f fd) (B : Bl mg) : FnOk P w K mg base CX0 1 f fd ["_law_line", "_law_way", "_law_spot", "_law_sign"] (spR RSpoilt) := by
  refine F.ok sc_law_spoilt (spR_len (n := 4) fun ds d ⟨_, _, _, _, _, e, _⟩ => by rw [e]; rfl) (fun cdv A outer s H vs Q E hr h => ?_)
  obtain ⟨M, ds, d, lv, rs, ⟨l, way, spot, c, hl, rfl, rfl⟩, q⟩ := h
  have hu := hu50 hr
  refine ⟨_, (pss_cons (ps_set (i := 4) sc_law_spoilt.nd rfl (Or.inl rfl) (pe_op op_mod (pv 2) (pe_op op_add (pe_lenS B (pv 0)) pe_int)))
      (pss_cons (ps_if (pt_cmpR (op_eqA (by exact hu)) (pv 1) pe_int (nomark _)) (pss_one (ps_ret (pe_op op_add_str (pe_op op_add_str (pe_slice sl_str (pv 0) po_none (po_some (pv 4))) (pv 3)) (pe_slice sl_str (pv 0) (po_some (pe_op op_add (pv 4) pe_int)) po_none)))) pss_nil)
      (pss_cons (ps_if (pt_cmpR (op_eqA (by exact hu)) (pv 1) pe_int (nomark _)) (pss_one (ps_ret (pe_op op_add_str (pe_slice sl_str (pv 0) po_none (po_some (pv 4))) (pe_slice sl_str (pv 0) (po_some (pe_op op_add (pv 4) pe_int)) po_none)))) pss_nil)
      (pss_cons (ps_if (pt_cmpR (op_eqA (by exact hu)) (pv 1) pe_int (nomark _)) (pss_one (ps_ret (pe_op op_add_str (pe_op op_add_str (pe_slice sl_str (pv 0) po_none (po_some (pv 4))) (pv 3)) (pe_slice sl_str (pv 0) (po_some (pv 4)) po_none)))) pss_nil)
      (pss_one (ps_ret (pv 0))))))), ?_⟩
  have E0 := env_start rs ["_law_line", "_law_way", "_law_spot", "_law_sign", "_law_place"]
  obtain ⟨h0, h1⟩ := mod_lt (x := spot) (n := l.length + 1) (by omega)
  have hp : spot % ((l.length + 1 : Nat) : Int) = (((spot % ((l.length + 1 : Nat) : Int)).toNat : Nat) : Int) := by omega
  refine s_set (d := .int (((spot % ((l.length + 1 : Nat) : Int)).toNat : Nat) : Int)) lv E0 ((ev_mod (j := ((l.length + 1 : Nat) : Int)) (by omega) (ev_v (i := 2) E0 rfl) ((ev_add (ev_lenS (z := S l) (by rw [S_len]; have := line16 (n := l.length) (by omega); omega) (ev_cons (ev_v (i := 0) E0 rfl) ev_nil)) ev_int).eq (by rw [S_len]; rfl))).eq (by rw [← hp])) fun σ1 H1 s1 l1 E1 => ?_
  generalize (spot % ((l.length + 1 : Nat) : Int)).toNat = p at E1 q h1
  have hpl : p ≤ l.length := by omega
  have hn : ((p : Int) + 1) = ((p + 1 : Nat) : Int) := by omega
  refine s_if l1 E1 (evt_test (ev_eqI (ev_v (i := 1) E1 rfl) ev_int)) (fun e H2 s2 l2 E2 => ?_) (fun e H2 s2 l2 E2 => ?_)
  · have hs : spoil l way p c = l.take p ++ [c] ++ l.drop (p + 1) := if_pos (of_decide_eq_true e)
    rw [hs] at q
    exact s_ret l2 (ev_addL (by simp only [List.length_append, List.length_take, List.length_drop, List.length_singleton]; omega) (ev_addL (by simp only [List.length_take, List.length_singleton]; omega) (ev_to1 (by omega) hpl (ev_v (i := 0) E2 rfl) (ev_v (i := 4) E2 rfl)) (ev_v (i := 3) E2 rfl)) (ev_from1 (p := p + 1) (by omega) (ev_v (i := 0) E2 rfl) ((ev_add (ev_v (i := 4) E2 rfl) ev_int).eq (by rw [hn])))) fun v H' s3 r3 => q v H' (s1.trans (s2.trans s3)) r3
  · have e1 := of_decide_eq_false e
    refine nx ?_
    refine s_if l2 E2 (evt_test (ev_eqI (ev_v (i := 1) E2 rfl) ev_int)) (fun e H3 s3 l3 E3 => ?_) (fun e H3 s3 l3 E3 => ?_)
    · have hs : spoil l way p c = l.take p ++ l.drop (p + 1) := by unfold spoil; rw [if_neg e1, if_pos (of_decide_eq_true e)]
      rw [hs] at q
      exact s_ret l3 (ev_addL (by simp only [List.length_take, List.length_drop]; omega) (ev_to1 (by omega) hpl (ev_v (i := 0) E3 rfl) (ev_v (i := 4) E3 rfl)) (ev_from1 (p := p + 1) (by omega) (ev_v (i := 0) E3 rfl) ((ev_add (ev_v (i := 4) E3 rfl) ev_int).eq (by rw [hn])))) fun v H' s4 r4 => q v H' (s1.trans (s2.trans (s3.trans s4))) r4
    · have e2 := of_decide_eq_false e
      refine nx ?_
      refine s_if l3 E3 (evt_test (ev_eqI (ev_v (i := 1) E3 rfl) ev_int)) (fun e H4 s4 l4 E4 => ?_) (fun e H4 s4 l4 E4 => ?_)
      · have hs : spoil l way p c = l.take p ++ [c] ++ l.drop p := by unfold spoil; rw [if_neg e1, if_neg e2, if_pos (of_decide_eq_true e)]
        rw [hs] at q
        exact s_ret l4 (ev_addL (by simp only [List.length_append, List.length_take, List.length_drop, List.length_singleton]; omega) (ev_addL (by simp only [List.length_take, List.length_singleton]; omega) (ev_to1 (by omega) hpl (ev_v (i := 0) E4 rfl) (ev_v (i := 4) E4 rfl)) (ev_v (i := 3) E4 rfl)) (ev_from1 (by omega) (ev_v (i := 0) E4 rfl) (ev_v (i := 4) E4 rfl))) fun v H' s5 r5 => q v H' (s1.trans (s2.trans (s3.trans (s4.trans s5)))) r5
      · have hs : spoil l way p c = l := by unfold spoil; rw [if_neg e1, if_neg e2, if_neg (of_decide_eq_false e)]
        rw [hs] at q
        refine nx ?_
        exact s_ret l4 (ev_v (i := 0) E4 rfl) fun v H' s5 r5 => q v H' (s1.trans (s2.trans (s3.trans (s4.trans s5)))) r5
def RTwo : List D → D → Prop := fun ds d => ∃ (ns : List Int) (way : Int), ds = [.lst (ns.map D.int), .int way] ∧ d = .str (S (twoL ns way))
abbrev NTwo : List Str := ["_law_script", "_law_way", "_law_good", "_law_bad", "_law_one", "_law_two", "_law_gap"]
theorem sc_law_two_texts : FnScope NTwo ["_law_script", "_law_way"] (defScope s_law_two_texts) := ⟨rfl, rfl, rfl, by decide +kernel, rfl, by decide +kernel, by decide +kernel⟩
theorem ev_line {G : Hp} {σ : St} {ta tb tc : TE} {a g b : L} (ha : a.length ≤ 5) (hg : g.length ≤ 5) (hb : b.length ≤ 5) (h1 : EvM ta G σ (.str (S a))) (h2 : EvM tb G σ (.str (S g))) (h3 : EvM tc G σ (.str (S b))) :
    EvM (tOp (fun x y H Q => ∃ i j, x = .str i ∧ y = .str j ∧ i.length + j.length ≤ sizeLine ∧ Q (.str (i ++ j)) H) (tOp (fun x y H Q => ∃ i j, x = .str i ∧ y = .str j ∧ i.length + j.length ≤ sizeLine ∧ Q (.str (i ++ j)) H) (tOp (fun x y H Q => ∃ i j, x = .str i ∧ y = .str j ∧ i.length + j.length ≤ sizeLine ∧ Q (.str (i ++ j)) H) (tOp (fun x y H Q => ∃ i j, x = .str i ∧ y = .str j ∧ i.length + j.length ≤ sizeLine ∧ Q (.str (i ++ j)) H) (tC (.str (Str.ofString "road("))) ta) tb) tc) (tC (.str (Str.ofString ") if rain()")))) G σ (.str (S (lineT a g b))) := by
  have l1 : (txt "road(").length = 5 := by decide +kernel
  have l2 : (txt ") if rain()").length = 11 := by decide +kernel
  exact ev_addL (by simp only [List.length_append]; omega) (ev_addL (by simp only [List.length_append]; omega) (ev_addL (by simp only [List.length_append]; omega) (ev_addL (by omega) (ev_str.eq (by rw [c_road])) h1) h2) h3) (ev_str.eq (by rw [c_rain]))
theorem two_small (ns : List Int) (way : Int) : (twoT ns way).length ≤ 5 ∧ (gapOf ns way).length ≤ 5 := by
  constructor
  · by_cases h : way < 7
    · exact (okT_le (List.all_eq_true.mp bad_ok _ (two_bad h))).1
    · exact (okT_le (List.all_eq_true.mp good_ok _ (two_good h))).1
  · by_cases h : way = 7
    · subst h; exact (okT_le (List.all_eq_true.mp gap_ok _ gap_in)).1
    · unfold gapOf; rw [if_neg h]; decide +kernel
theorem ok_law_two_texts (F : Fun K "_law_two_texts" "_law_two_texts" s_law_two_texts f fd) (B : Bl mg) (G_law_at : Has P w K mg base 1 "_law_at" ["_law_script", "_law_k"] (spR RAt)) : FnOk P w K mg base CX0 2 f fd ["_law_script", "_law_way"] (spR RTwo) := by
  refine F.okW sc_law_two_texts (spR_len (n := 2) fun ds d ⟨_, _, e, _⟩ => by rw [e]; rfl) (fun cdv A outer s H vs Q E hr h => ?_)
  obtain ⟨M, ds, d, lv, rs, ⟨ns, way, rfl, rfl⟩, q⟩ := h
  have hu := hu50 hr
  refine ⟨_, (wss_cons (ws_set (i := 2) sc_law_two_texts.nd rfl (Or.inl rfl) (we_lst (wa_cons we_str (wa_cons we_str (wa_cons we_str (wa_cons we_str (wa_cons we_str (wa_cons we_str wa_nil))))))))
      (wss_cons (ws_set (i := 3) sc_law_two_texts.nd rfl (Or.inl rfl) (we_lst (wa_cons we_str (wa_cons we_str (wa_cons we_str (wa_cons we_str (wa_cons we_str (wa_cons we_str (wa_cons we_str (wa_cons we_str (wa_cons we_str (wa_cons we_str (wa_cons we_str (wa_cons we_str wa_nil))))))))))))))
      (wss_cons (ws_set (i := 3) sc_law_two_texts.nd rfl (Or.inl rfl) (we_op op_cat (wv 3) (we_lst (wa_cons we_str (wa_cons we_str (wa_cons we_str (wa_cons we_str (wa_cons we_str (wa_cons we_str wa_nil)))))))))
      (wss_cons ⟨ps_set (i := 4) sc_law_two_texts.nd rfl (Or.inl rfl) (pe_ixS (pv 2) (pe_op op_mod (pe_own G_law_at hr (pa_cons (pv 0) (pa_cons pe_int pa_nil))) pe_int))⟩
      (wss_cons ⟨ps_set (i := 5) sc_law_two_texts.nd rfl (Or.inl rfl) (pe_ixS (pv 2) (pe_op op_mod (pe_own G_law_at hr (pa_cons (pv 0) (pa_cons pe_int pa_nil))) pe_int))⟩
      (wss_cons ⟨ps_set (i := 6) sc_law_two_texts.nd rfl (Or.inl rfl) pe_str⟩
      (wss_cons ⟨ps_if (pt_cmpR op_lt (pv 1) pe_int (nomark _)) (pss_one (ps_set (i := 5) sc_law_two_texts.nd rfl (Or.inl rfl) (pe_ixS (pv 3) (pe_op op_mod (pe_own G_law_at hr (pa_cons (pv 0) (pa_cons pe_int pa_nil))) pe_int)))) pss_nil⟩
      (wss_cons ⟨ps_if (pt_cmpR (op_eqA (by exact hu)) (pv 1) pe_int (nomark _)) (pss_one (ps_set (i := 6) sc_law_two_texts.nd rfl (Or.inl rfl) (pe_ixS (pe_lst (pa_cons pe_str (pa_cons pe_str (pa_cons pe_str pa_nil)))) (pe_op op_mod (pe_op op_fdiv (pe_own G_law_at hr (pa_cons (pv 0) (pa_cons pe_int pa_nil))) pe_int) pe_int)))) pss_nil⟩
      (wss_cons ⟨ps_if (pt_cmpR (op_eqA (by exact hu)) (pe_op op_mod (pe_op op_fdiv (pe_own G_law_at hr (pa_cons (pv 0) (pa_cons pe_int pa_nil))) pe_int) pe_int) pe_int (nomark _)) (pss_one (ps_ret (pe_op op_add_str (pe_op op_add_str (pe_op op_add_str (pe_op op_add_str pe_str (pv 5)) (pv 6)) (pv 4)) pe_str))) pss_nil⟩
      (wss_one ⟨ps_ret (pe_op op_add_str (pe_op op_add_str (pe_op op_add_str (pe_op op_add_str pe_str (pv 4)) (pv 6)) (pv 5)) pe_str)⟩)))))))))), ?_⟩
  have E0 := env_start rs NTwo
  refine s_set (i := 2) (d := .lst (goodS.map D.str)) lv E0 (ev_lst (ds := goodS.map D.str) (ev_cons ev_str (ev_cons ev_str (ev_cons ev_str (ev_cons ev_str (ev_cons ev_str (ev_cons ev_str ev_nil)))))) (hz := by show 6 ≤ sizeLine; decide)) fun σ1 H1 s1 l1 E1 => ?_
  refine s_set (i := 3) (d := .lst (badS1.map D.str)) l1 E1 (ev_lst (ds := badS1.map D.str) (ev_cons ev_str (ev_cons ev_str (ev_cons ev_str (ev_cons ev_str (ev_cons ev_str (ev_cons ev_str (ev_cons ev_str (ev_cons ev_str (ev_cons ev_str (ev_cons ev_str (ev_cons ev_str (ev_cons ev_str ev_nil)))))))))))) (hz := by show 12 ≤ sizeLine; decide)) fun σ2 H2 s2 l2 E2 => ?_
  refine s_set (i := 3) (d := .lst ((badS1 ++ badS2).map D.str)) l2 E2 ((ev_catL (xs := badS1.map D.str) (ys := badS2.map D.str) (by show 18 ≤ 1000; decide) (ev_v (i := 3) E2 rfl) (ev_lst (ds := badS2.map D.str) (ev_cons ev_str (ev_cons ev_str (ev_cons ev_str (ev_cons ev_str (ev_cons ev_str (ev_cons ev_str ev_nil)))))) (hz := by show 6 ≤ sizeLine; decide))).eq (by rw [List.map_append])) fun σ3 H3 s3 l3 E3 => ?_
  refine s_set (i := 4) (d := .str (S (oneT ns))) l3 E3 (ev_ix (at_modL (n := 6) (ns.getD 1 0) (by decide) rfl goodS_eq) (ev_v (i := 2) E3 rfl) (ev_mod (by decide) (ev_callR (RAt_int ns 1) (ev_cons (ev_v (i := 0) E3 rfl) (ev_cons ev_int ev_nil))) ev_int)) fun σ4 H4 s4 l4 E4 => ?_
  refine s_set (i := 5) (d := .str (S (goodT.getD (ns.getD 2 0 % 6).toNat []))) l4 E4 (ev_ix (at_modL (n := 6) (ns.getD 2 0) (by decide) rfl goodS_eq) (ev_v (i := 2) E4 rfl) (ev_mod (by decide) (ev_callR (RAt_int ns 2) (ev_cons (ev_v (i := 0) E4 rfl) (ev_cons ev_int ev_nil))) ev_int)) fun σ5 H5 s5 l5 E5 => ?_
  dsimp only
  refine s_set (i := 6) (d := .str (Str.ofString ", ")) l5 E5 ev_str fun σ6 H6 s6 l6 E6 => ?_
  have sH : Same H H6 := s1.trans (s2.trans (s3.trans (s4.trans (s5.trans s6))))
  clear E0 E1 E2 E3 E4 E5
  have E6 : EnvR (but H6 M) σ6 [some (.lst (ns.map D.int)), some (.int way), some (.lst (goodS.map D.str)), some (.lst ((badS1 ++ badS2).map D.str)), some (.str (S (oneT ns))), some (.str (S (goodT.getD (ns.getD 2 0 % 6).toNat []))), some (.str (Str.ofString ", "))] := E6
  refine s_ifK (fun σ' H' => Same H H' ∧ Live M H' ∧ EnvR (but H' M) σ' [some (.lst (ns.map D.int)), some (.int way), some (.lst (goodS.map D.str)), some (.lst ((badS1 ++ badS2).map D.str)), some (.str (S (oneT ns))), some (.str (S (twoT ns way))), some (.str (Str.ofString ", "))]) l6 E6 (evt_test (ev_lt (ev_v (i := 1) E6 rfl) ev_int)) (fun hk e H7 s7 l7 E7 => ?_) (fun hk e H7 s7 l7 E7 => ?_) (fun σ7 H7 ⟨s7, l7, E7⟩ => ?_)
  · have ht : twoT ns way = badT.getD (ns.getD 2 0 % 18).toNat [] := if_pos (of_decide_eq_true e)
    refine s_set (i := 5) (d := .str (S (badT.getD (ns.getD 2 0 % 18).toNat []))) l7 E7 (ev_ix (at_modL (n := 18) (ns.getD 2 0) (by decide) rfl badS_eq) (ev_v (i := 3) E7 rfl) (ev_mod (by decide) (ev_callR (RAt_int ns 2) (ev_cons (ev_v (i := 0) E7 rfl) (ev_cons ev_int ev_nil))) ev_int)) fun σ8 H8 s8 l8 E8 => hk _ _ ⟨sH.trans (s7.trans s8), l8, ?_⟩
    rw [ht]
    exact E8
  · have ht : twoT ns way = goodT.getD (ns.getD 2 0 % 6).toNat [] := if_neg (of_decide_eq_false e)
    refine nx (hk _ _ ⟨sH.trans s7, l7, ?_⟩)
    rw [ht]
    exact E7
  clear E6 sH
  refine s_ifK (fun σ' H' => Same H H' ∧ Live M H' ∧ EnvR (but H' M) σ' [some (.lst (ns.map D.int)), some (.int way), some (.lst (goodS.map D.str)), some (.lst ((badS1 ++ badS2).map D.str)), some (.str (S (oneT ns))), some (.str (S (twoT ns way))), some (.str (S (gapOf ns way)))]) l7 E7 (evt_test (ev_eqI (ev_v (i := 1) E7 rfl) ev_int)) (fun hk e H8 s8 l8 E8 => ?_) (fun hk e H8 s8 l8 E8 => ?_) (fun σ8 H8 ⟨s8, l8, E8⟩ => ?_)
  · have ht : gapOf ns way = gapT.getD (ns.getD 1 0 / 6 % 3).toNat [] := if_pos (of_decide_eq_true e)
    refine s_set (i := 6) (d := .str (S (gapT.getD (ns.getD 1 0 / 6 % 3).toNat []))) l8 E8 (ev_ix (at_modL (n := 3) (ns.getD 1 0 / 6) (by decide) rfl gapS_eq) (ev_lst (ds := gapS.map D.str) (ev_cons ev_str (ev_cons ev_str (ev_cons ev_str ev_nil))) (hz := by show 3 ≤ sizeLine; decide)) (ev_mod (by decide) (ev_fdiv ⟨by decide, by decide⟩ (ev_callR (RAt_int ns 1) (ev_cons (ev_v (i := 0) E8 rfl) (ev_cons ev_int ev_nil))) ev_int) ev_int)) fun σ9 H9 s9 l9 E9 => hk _ _ ⟨s7.trans (s8.trans s9), l9, ?_⟩
    rw [ht]
    exact E9
  · have ht : gapOf ns way = txt ", " := if_neg (of_decide_eq_false e)
    refine nx (hk _ _ ⟨s7.trans s8, l8, ?_⟩)
    rw [ht, ← c_gap]
    exact E8
  have o1 := okT_le (List.all_eq_true.mp good_ok _ (one_in ns))
  obtain ⟨o2, o3⟩ := two_small ns way
  refine s_if l8 E8 (evt_test (ev_eqI (ev_mod (by decide) (ev_fdiv ⟨by decide, by decide⟩ (ev_callR (RAt_int ns 1) (ev_cons (ev_v (i := 0) E8 rfl) (ev_cons ev_int ev_nil))) ev_int) ev_int) ev_int)) (fun e H9 s9 l9 E9 => ?_) (fun e H9 s9 l9 E9 => ?_)
  · have hs : twoL ns way = lineT (twoT ns way) (gapOf ns way) (oneT ns) := if_pos (of_decide_eq_true e)
    rw [hs] at q
    exact s_ret l9 (ev_line o2 o3 o1.1 (ev_v (i := 5) E9 rfl) (ev_v (i := 6) E9 rfl) (ev_v (i := 4) E9 rfl)) fun v H' s10 r10 => q v H' (s8.trans (s9.trans s10)) r10
  · have hs : twoL ns way = lineT (oneT ns) (gapOf ns way) (twoT ns way) := if_neg (of_decide_eq_false e)
    rw [hs] at q
    refine nx ?_
    exact s_ret l9 (ev_line o1.1 o3 o2 (ev_v (i := 4) E9 rfl) (ev_v (i := 6) E9 rfl) (ev_v (i := 5) E9 rfl)) fun v H' s10 r10 => q v H' (s8.trans (s9.trans s10)) r10
end
end K12

set_option Elab.async false
set_option linter.all false
set_option maxRecDepth 100000
set_option maxHeartbeats 4000000
namespace K12
open PySem L2 FL
section
variable {P : Program} {w : World} {K : PySem.W.Frag} {mg : Str → Option Value} {base : Heap} {f : Addr} {fd : FuncData}
def RWritten : List D → D → Prop := fun ds d => ∃ h b, FitR h b ∧ ds = [.lst (h :: b)] ∧ d = .str (lineS h b)
theorem sc_law_written : FnScope ["_law_atoms", "_law_texts", "_law_atom"] ["_law_atoms"] (defScope s_law_written) := ⟨rfl, rfl, rfl, by decide +kernel, rfl, by decide +kernel, by decide +kernel⟩
theorem ok_law_written (F : Fun K "_law_written" "_law_written" s_law_written f fd) (B : Bl mg) : FnOk P w K mg base CX0 1 f fd ["_law_atoms"] (spR RWritten) := by
  refine F.ok sc_law_written (spR_len (n := 1) fun ds d ⟨_, _, _, e, _⟩ => by rw [e]; rfl) (fun cdv A outer s H vs Q E hr h => ?_)
  obtain ⟨M, ds, d, lv, rs, ⟨h, b, g, rfl, rfl⟩, fin⟩ := h
  have hu := hu50 hr
  refine ⟨_, (pss_cons (ps_set (i := 1) sc_law_written.nd rfl (Or.inl rfl) (pe_lst pa_nil))
      (pss_cons (ps_for PassesOwn.never rfl (pi_seq (pv 0)) (pg_name (i := 2) sc_law_written.nd rfl (by first | exact Or.inl rfl | exact Or.inr rfl)) (pss_one (ps_append (pv 1) (pe_op op_add_str (pe_op op_add_str (pe_op op_add_str (pe_ixS (pv 2) pe_int) pe_str) (pe_bm PySem.F.plainAttrs_str PySem.F.slot_str_join PySem.F.type_str_join mt_join pe_str (pa_cons (pe_compC ["_law_part"] [] 1 (pi_seq (pe_slice sl_tup (pv 2) (po_some pe_int) po_none)) (fun _ _ _ _ _ => (pg_name (i := 0) (show (["_law_part"] : List Str).Nodup from by decide +kernel) rfl (by first | exact Or.inl rfl | exact Or.inr rfl))) (fun _ _ _ _ _ => pts_nil) (fun _ _ _ _ _ => (pe_strCc B (pv 0)))) pa_nil))) pe_str))))
      (pss_cons (ps_if (pt_cmpR (op_eqA (by exact hu)) (pe_len B (pv 1)) pe_int (nomark _)) (pss_one (ps_ret (pe_ixS (pv 1) pe_int))) pss_nil)
      (pss_one (ps_ret (pe_op op_add_str (pe_op op_add_str (pe_ixS (pv 1) pe_int) pe_str) (pe_bm PySem.F.plainAttrs_str PySem.F.slot_str_join PySem.F.type_str_join mt_join pe_str (pa_cons (pe_slice sl_list (pv 1) (po_some pe_int) po_none) pa_nil)))))))), ?_⟩
  have E0 := env_start rs ["_law_atoms", "_law_texts", "_law_atom"]
  have hlb := g.len
  have hbl : b.length ≤ 4001 := by have := line_few (h := atomT h) (b := b.map atomT); rw [List.length_map] at this; rw [List.map_cons] at hlb; omega
  have hsz : ∀ n : Nat, n ≤ 1000000 → n ≤ sizeLine := fun n h => by have := line16 h; omega
  refine s_new lv E0 (by simp) ev_nil (Nat.zero_le _) fun q us0 σ1 H1 o1 i1 nq h1 r1 l1 k1 E1 => ?_
  have hq0 : ∀ b o, H b = some o → b ≠ q := fun b o e => (k1 b o e).1
  have sH1 : Same H H1 := fun b o e => (k1 b o e).2
  refine st_for (M := q :: M) (ds := h :: b) (walk_seqL (ev_v E1 rfl)) l1 fun H2 s2 => ?_
  refine ⟨fun j σ' H' => ∃ us, σ'[1]? = some (some (.ref q)) ∧ H' q = some (.lst us) ∧ Reps (but H' (q :: M)) us (((h :: b).take j).map fun a => .str (S (atomT a))) ∧ Live (q :: M) H' ∧ EnvR (but H' (q :: M)) σ' [some (.lst (h :: b)), none, none] ∧ Same H H' ∧ Same (but H2 (q :: M)) (but H' (q :: M)), ?_, fun j σ' H' ⟨_, _, _, _, x, _, _, y⟩ => ⟨y, x⟩, ?_, ?_⟩
  · exact ⟨us0, i1, s2 _ _ h1, by cases r1; exact .nil, l1.same s2, E1.same s2, sH1.trans s2, Same.refl _⟩
  · rintro j d x σ' H' H'' hd ⟨us, i1', hq', rq', l', E', sH', S'⟩ s4 rx
    have hdm := List.mem_of_getElem? hd
    have hj : j < (h :: b).length := (List.getElem?_eq_some_iff.mp hd).1
    have hlen : (atomT d).length ≤ 4000 := Nat.le_trans (line_part (List.mem_map_of_mem hdm)) hlb
    obtain ⟨rel, ps, ed, hw, hps⟩ := g.atm d hdm
    have ea : atomT d = atomL rel.cps.toList ps := by rw [ed]; rfl
    have E3 : EnvR (but H'' (q :: M)) (σ'.set 2 (some x)) [some (.lst (h :: b)), none, some d] := (E'.same s4).set 2 rx
    have i13 : (σ'.set 2 (some x))[1]? = some (some (.ref q)) := (List.getElem?_set_ne (by decide)).trans i1'
    obtain ⟨hrl, hjl⟩ : rel.length ≤ 4000 ∧ (joinL [44, 32] (ps.map partL)).length ≤ 4000 := by
      rw [ea] at hlen
      unfold atomL at hlen
      simp only [List.length_append] at hlen
      rw [← len_list]
      omega
    have hpn : ps.length ≤ 4001 := by have := (joinL_count (y := [44, 32]) (by simp) (ps.map partL)).1; rw [List.length_map] at this; omega
    subst ed
    refine s_app (l'.same s4) E3 (by simp) i13 (s4 _ _ hq') (rq'.mono (s4.but _)) (by rw [List.length_map, List.length_take]; have := line16 (n := (h :: b).length) (by rw [List.length_cons]; omega); omega)
      ((ev_addS ?_ (ev_addS ?_ (ev_addS ?_ (ev_ixt atI_zero (ev_v E3 rfl) ev_int) ev_str) (ev_join (zs := (ps.map partL).map S) (by rw [c_comma]; exact join_fits2 (by simp) (by simp) hjl) ev_str (ev_cons ((ev_comp (i := 0) (p := fun _ => true) (f := fun d => .str d.text) (walk_seqT (ev_fromT (k := 1) (l := .str rel :: ps) (by decide) (by simp) (ev_v E3 rfl))) (fun G' v d _ _ _ => evt_yes) (fun G' v d sG hd _ r => ?_) ?_).eq ?_) ev_nil))) ev_str).eq (d' := .str (S (atomT (.tup (.str rel :: ps))))) ?_) fun v H5 k5 l5 h5 r5 E5 => ?_
    · rw [c_comma, join_S, c_open, c_close, app_len, app_len]
      simp only [S_len, List.length_singleton]
      exact hsz _ (by omega)
    · rw [c_comma, join_S, c_open, app_len]
      simp only [S_len, List.length_singleton]
      exact hsz _ (by omega)
    · rw [c_open]
      simp only [S_len, List.length_singleton]
      exact hsz _ (by omega)
    · exact ev_strD (okW_small (hps d hd)) (ev_cons (ev_var (by simp [capsOf]) r) ev_nil)
    · show ps.length < _
      have := line16 (n := ps.length) (by omega); omega
    · rw [List.filter_eq_self.mpr fun _ _ => rfl]
      exact congrArg D.lst (texts_w hps)
    · rw [c_comma, join_S, c_open, c_close, ea, ← S_of rel, S_app, S_app, S_app]
      unfold atomL
      rw [S_of]
      simp
    · refine ⟨us ++ [v], i13, h5, ?_, l5, E5.drop 2, same_app (sH'.trans s4) hq0 k5, same_loop (S'.trans (s4.but _)) (.inl (by simp)) k5⟩
      rw [List.take_add_one, hd, List.map_append]
      exact r5
  · rintro σ' H' ⟨us, i1', hq', rq', l', E', sH', S'⟩
    rw [List.take_of_length_le (Nat.le_refl _)] at rq'
    have E7 := env_show (M := M) (i := 1) nq (by simp) i1' hq' rq' E'
    have l7 : Live M H' := fun b hb => l' b (List.mem_cons_of_mem _ hb)
    have hl1 : (atomT h).length ≤ 4000 := Nat.le_trans (line_part (as := (h :: b).map atomT) List.mem_cons_self) hlb
    refine s_if l7 E7 (evt_test (ev_eqI (ev_lenL (ev_cons (ev_v E7 rfl) ev_nil)) ev_int)) (fun e H8 s8 l8 E8 => ?_) (fun e H8 s8 l8 E8 => ?_)
    · have e' := of_decide_eq_true e
      have hb : b = [] := by
        cases b with
        | nil => rfl
        | cons c r => simp at e'; omega
      subst hb
      exact s_ret l8 ((ev_ix atI_zero (ev_v E8 rfl) ev_int).eq (d' := .str (lineS h [])) rfl) fun v H9 s9 r9 => fin v H9 (sH'.trans (s8.trans s9)) r9
    · have e' := of_decide_eq_false e
      refine nx ?_
      cases b with
      | nil => exact absurd rfl e'
      | cons c r =>
        have hj : (joinL [32, 97, 110, 100, 32] ((c :: r).map atomT)).length ≤ 4000 := by
          have := line_join (h := atomT h) (b := atomT c) (r := r.map atomT)
          simp only [List.map_cons] at hlb ⊢
          omega
        refine s_ret l8 ((ev_addS ?_ (ev_addS ?_ (ev_ix (d := .str (S (atomT h))) atI_zero (ev_v E8 rfl) ev_int) ev_str) (ev_join (zs := ((c :: r).map atomT).map S) (by rw [c_and]; exact join_fits2 (by simp) (by simp) hj) ev_str (ev_cons ((ev_from (k := 1) (ev_v E8 rfl)).eq ?_) ev_nil))).eq ?_) fun v H9 s9 r9 => fin v H9 (sH'.trans (s8.trans s9)) r9
        · rw [c_and, join_S, c_if, app_len]
          simp only [S_len]
          exact hsz _ (by simp only [List.length_cons, List.length_nil]; omega)
        · rw [c_if]
          simp only [S_len]
          exact hsz _ (by simp only [List.length_cons, List.length_nil]; omega)
        · show D.lst (List.map (fun a => D.str (S (atomT a))) (c :: r)) = _
          rw [List.map_map, List.map_map]
          rfl
        · rw [c_and, join_S, c_if, S_app, S_app]
          rfl
end
end K12

set_option Elab.async false
set_option linter.all false
set_option maxRecDepth 100000
set_option maxHeartbeats 4000000
namespace K12
open PySem L2 FL
section
variable {P : Program} {w : World} {K : PySem.W.Frag} {mg : Str → Option Value} {base : Heap} {f : Addr} {fd : FuncData}
theorem cells_of {l : List Int} (h : l ≠ []) : cells (atomOf l) = l.length := by
  cases l with
  | nil => exact absurd rfl h
  | cons c cs =>
    show (cs.map partBy).length + 1 = _
    rw [List.length_map]
    rfl
theorem step_cells (st : List D × List Int) (c : Int) : ((stepA st c).1.map cells).sum + (stepA st c).2.length = (st.1.map cells).sum + st.2.length + 1 := by
  unfold stepA
  split
  · rw [List.map_append, List.sum_append]
    show _ + (cells (atomOf (st.2 ++ [c / 4])) + 0) + 0 = _
    rw [cells_of (by simp), List.length_append, List.length_singleton]
    omega
  · show (st.1.map cells).sum + (st.2 ++ [c / 4]).length = _
    rw [List.length_append, List.length_singleton]
    omega
theorem fold_cells : ∀ (ns : List Int) (st : List D × List Int), ((ns.foldl stepA st).1.map cells).sum + (ns.foldl stepA st).2.length = (st.1.map cells).sum + st.2.length + ns.length
  | [], st => rfl
  | c :: r, st => by
    rw [List.foldl_cons, fold_cells r (stepA st c), List.length_cons, step_cells]
    omega
theorem atoms_cells (ns : List Int) : ((atomsBy ns).map cells).sum = ns.length + 1 := by
  have h := fold_cells ns ([], [])
  have h2 : ((foldA ns).1.map cells).sum + (foldA ns).2.length = ns.length := by
    unfold foldA
    rw [h]
    simp
  unfold atomsBy
  rw [List.map_append, List.sum_append]
  show _ + (cells (atomOf ((foldA ns).2 ++ [(ns.length : Int)])) + 0) = _
  rw [cells_of (by simp), List.length_append, List.length_singleton]
  omega
def wayOf (ns : List Int) : Int := ns.getD 0 0 % 8
def ruleL (ns : List Int) : L := lineL ((atomsBy (ns.drop 3)).map atomT)
def lineOf (ns : List Int) : L := if 4 < wayOf ns then twoL ns (wayOf ns) else if wayOf ns = 4 then joinL [] ((ns.drop 1).map pieceOf) else spoil (ruleL ns) (wayOf ns) (ns.getD 1 0 % (((ruleL ns).length + 1 : Nat) : Int)).toNat (signOf (ns.getD 2 0))
theorem way_lt (ns : List Int) : 0 ≤ wayOf ns ∧ wayOf ns < 8 := by
  have h := mod_lt (x := ns.getD 0 0) (n := 8) (by decide)
  have e : wayOf ns = ns.getD 0 0 % ((8 : Nat) : Int) := rfl
  omega
theorem rule_fit {ns : List Int} (h63 : ns.length ≤ 63) : ∃ h b, atomsBy (ns.drop 3) = h :: b ∧ GoodR h b ∧ ruleL ns = lineL ((h :: b).map atomT) ∧ (ruleL ns).length ≤ 3999 := by
  obtain ⟨h, b, e, g⟩ := atomsBy_good (ns := ns.drop 3) (by rw [List.length_drop]; omega)
  have er : ruleL ns = lineL ((h :: b).map atomT) := by unfold ruleL; rw [e]
  refine ⟨h, b, e, g, er, ?_⟩
  have h1 := line_cells g
  have h2 := atoms_cells (ns.drop 3)
  rw [e, List.length_drop] at h2
  rw [er]
  omega
theorem line_fit {ns : List Int} (h63 : ns.length ≤ 63) : FitL (lineOf ns) := by
  unfold lineOf
  split
  · exact twoL_fit
  · split
    · exact pieces_fit (by rw [List.length_drop]; omega)
    · obtain ⟨h, b, _, g, er, hl⟩ := rule_fit h63
      refine spoil_fit ?_ hl ?_ (sign_asc _)
      · rw [er]; exact line_asc g
      · rw [er]; exact line_run g
theorem line_own {ns : List Int} (h63 : ns.length ≤ 63) (h0 : wayOf ns = 0) : rdLn (S (lineOf ns)) ≠ none := by
  obtain ⟨h, b, _, g, er, _⟩ := rule_fit h63
  have e : lineOf ns = lineL ((h :: b).map atomT) := by
    unfold lineOf
    rw [if_neg (by omega), if_neg (by omega)]
    unfold spoil
    rw [if_neg (by omega), if_neg (by omega), if_neg (by omega), er]
  have h2 : rdLn (S (lineOf ns)) = some (h, b) := by rw [e]; exact rdLn_line g
  rw [h2]
  exact fun z => nomatch z
theorem line_bad {ns : List Int} (h4 : 4 < wayOf ns) : rdLn (S (lineOf ns)) = none := by
  unfold lineOf
  rw [if_pos h4]
  exact twoL_none (way_lt ns).2
def RSome : List D → D → Prop := fun ds d => ∃ ns : List Int, ns.length ≤ 63 ∧ ds = [.lst (ns.map D.int)] ∧ d = .str (S (lineOf ns))
theorem sc_law_some_line : FnScope ["_law_script", "_law_way", "_law_pieces", "_law_sign"] ["_law_script"] (defScope s_law_some_line) := ⟨rfl, rfl, rfl, by decide +kernel, rfl, by decide +kernel, by decide +kernel⟩
theorem ok_law_some_line (F : Fun K "_law_some_line" "_law_some_line" s_law_some_line f fd) (B : Bl mg) (G_law_at : Has P w K mg base 1 "_law_at" ["_law_script", "_law_k"] (spR RAt)) (G_law_two_texts : Has P w K mg base 2 "_law_two_texts" ["_law_script", "_law_way"] (spR RTwo))
    (G_law_atoms_by : Has P w K mg base 3 "_law_atoms_by" ["_law_cells"] (spR RAtomsBy)) (G_law_written : Has P w K mg base 1 "_law_written" ["_law_atoms"] (spR RWritten)) (G_law_spoilt : Has P w K mg base 1 "_law_spoilt" ["_law_line", "_law_way", "_law_spot", "_law_sign"] (spR RSpoilt)) : FnOk P w K mg base CX0 4 f fd ["_law_script"] (spR RSome) := by
  refine F.okW sc_law_some_line (spR_len (n := 1) fun ds d ⟨_, _, e, _⟩ => by rw [e]; rfl) (fun cdv A outer s H vs Q E hr h => ?_)
  obtain ⟨M, ds, d, lv, rs, ⟨ns, h63, rfl, rfl⟩, q⟩ := h
  have hu := hu50 hr
  refine ⟨_, (wss_cons ⟨ps_set (i := 1) sc_law_some_line.nd rfl (Or.inl rfl) (pe_op op_mod (pe_own G_law_at hr (pa_cons (pv 0) (pa_cons pe_int pa_nil))) pe_int)⟩
      (wss_cons ⟨ps_if (pt_cmpR op_gt (pv 1) pe_int (nomark _)) (pss_one (ps_ret (pe_own G_law_two_texts hr (pa_cons (pv 0) (pa_cons (pv 1) pa_nil))))) pss_nil⟩
      (wss_cons (ws_if (pt_cmpR (op_eqA (by exact hu)) (pv 1) pe_int (nomark _)) (wss_cons (ws_set (i := 2) sc_law_some_line.nd rfl (Or.inr rfl) (we_lst (wa_cons we_str (wa_cons we_str (wa_cons we_str (wa_cons we_str (wa_cons we_str (wa_cons we_str (wa_cons we_str (wa_cons we_str (wa_cons we_str (wa_cons we_str (wa_cons we_str (wa_cons we_str wa_nil)))))))))))))) (wss_one ⟨ps_ret (pe_bm PySem.F.plainAttrs_str PySem.F.slot_str_join PySem.F.type_str_join mt_join pe_str (pa_cons (pe_compC ["_law_pieces", "_law_cell"] [2] 1 (pi_seq (pe_slice sl_list (pv 0) (po_some pe_int) po_none)) (fun _ _ _ _ _ => (pg_name (i := 1) (show (["_law_pieces", "_law_cell"] : List Str).Nodup from by decide +kernel) rfl (by first | exact Or.inl rfl | exact Or.inr rfl))) (fun _ _ _ _ _ => pts_nil) (fun _ _ _ _ _ => (pe_ixSc (pv 0) (pe_op op_mod (pv 1) pe_int)))) pa_nil))⟩)) wss_nil)
      (wss_cons ⟨ps_set (i := 3) sc_law_some_line.nd rfl (Or.inl rfl) (pe_ixS pe_str (pe_op op_mod (pe_own G_law_at hr (pa_cons (pv 0) (pa_cons pe_int pa_nil))) pe_int))⟩
      (wss_one ⟨ps_ret (pe_own G_law_spoilt hr (pa_cons (pe_own G_law_written hr (pa_cons (pe_own G_law_atoms_by hr (pa_cons (pe_slice sl_list (pv 0) (po_some pe_int) po_none) pa_nil)) pa_nil)) (pa_cons (pv 1) (pa_cons (pe_own G_law_at hr (pa_cons (pv 0) (pa_cons pe_int pa_nil))) (pa_cons (pv 3) pa_nil)))))⟩))))), ?_⟩
  have E0 := env_start rs ["_law_script", "_law_way", "_law_pieces", "_law_sign"]
  refine s_set (i := 1) (d := .int (wayOf ns)) lv E0 (ev_mod (by decide) (ev_callR (RAt_int ns 0) (ev_cons (ev_v (i := 0) E0 rfl) (ev_cons ev_int ev_nil))) ev_int) fun σ1 H1 s1 l1 E1 => ?_
  refine s_if l1 E1 (evt_test (ev_gt (ev_v (i := 1) E1 rfl) ev_int)) (fun e H2 s2 l2 E2 => ?_) (fun e H2 s2 l2 E2 => ?_)
  · have hl : lineOf ns = twoL ns (wayOf ns) := if_pos (of_decide_eq_true e)
    rw [hl] at q
    exact s_ret l2 (ev_callR (R := RTwo) ⟨ns, wayOf ns, rfl, rfl⟩ (ev_cons (ev_v (i := 0) E2 rfl) (ev_cons (ev_v (i := 1) E2 rfl) ev_nil))) fun v H' s3 r3 => q v H' (s1.trans (s2.trans s3)) r3
  have e1 := of_decide_eq_false e
  refine nx ?_
  refine s_if l2 E2 (evt_test (ev_eqI (ev_v (i := 1) E2 rfl) ev_int)) (fun e H3 s3 l3 E3 => ?_) (fun e H3 s3 l3 E3 => ?_)
  · have hl : lineOf ns = joinL [] ((ns.drop 1).map pieceOf) := by unfold lineOf; rw [if_neg e1, if_pos (of_decide_eq_true e)]
    rw [hl] at q
    refine s_set (i := 2) (d := .lst (piecesS.map D.str)) l3 E3 (ev_lst (ds := piecesS.map D.str) (ev_cons ev_str (ev_cons ev_str (ev_cons ev_str (ev_cons ev_str (ev_cons ev_str (ev_cons ev_str (ev_cons ev_str (ev_cons ev_str (ev_cons ev_str (ev_cons ev_str (ev_cons ev_str (ev_cons ev_str ev_nil)))))))))))) (hz := by show 12 ≤ sizeLine; decide)) fun σ4 H4 s4 l4 E4 => ?_
    obtain ⟨v2, hv2, r2⟩ := E4.get 2 _ rfl
    refine s_ret l4 ((ev_join (z := Str.ofString "") (zs := ((ns.drop 1).map pieceOf).map S) ?_ ev_str (ev_cons ((ev_comp (i := 1) (p := fun _ => true) (f := fun d => match d with | .int x => .str (S (pieceOf x)) | _ => .non) (walk_seqL (ev_from (k := 1) (l := ns.map D.int) (ev_v (i := 0) E4 rfl))) (fun G' v d _ _ _ => evt_yes) (fun G' v d sG hd _ r => ?_) ?_).eq ?_) ev_nil)).eq ?_) fun v H' s5 r5 => q v H' (s1.trans (s2.trans (s3.trans (s4.trans s5)))) r5
    · have h1 := sum_len_le (B := 5) (zs := ((ns.drop 1).map pieceOf).map S) fun z hz => by
        obtain ⟨t, ht, rfl⟩ := List.mem_map.mp hz
        obtain ⟨x, _, rfl⟩ := List.mem_map.mp ht
        rw [S_len]
        exact (okT_le (piece_ok x)).1
      have h2 : (((ns.drop 1).map pieceOf).map S).length ≤ 63 := by rw [List.length_map, List.length_map, List.length_drop]; omega
      have h3 : (Str.ofString "").length = 0 := by decide +kernel
      rw [h3, Nat.mul_zero]
      omega
    · obtain ⟨x, _, rfl⟩ := List.mem_map.mp (List.mem_of_mem_drop hd)
      exact ev_ix (at_modL (n := 12) x (by decide) rfl piecesS_eq) (ev_var (i := 0) (by simp [capsOf, hv2]) (r2.mono sG)) (ev_mod (by decide) (ev_var (i := 1) (by simp [capsOf]) r) ev_int)
    · rw [List.length_drop, List.length_map]
      exact small1000 (by omega)
    · rw [List.filter_eq_self.mpr fun _ _ => rfl, ← List.map_drop, List.map_map, List.map_map, List.map_map]
      rfl
    · rw [c_empty, join_S]
  · have e2 := of_decide_eq_false e
    refine nx ?_
    obtain ⟨h, b, ea, g, er, hl⟩ := rule_fit h63
    have fr : FitR h b := ⟨fun a ha => wrA_of (by rcases List.mem_cons.mp ha with z | z; · rw [z]; exact g.1
                                                  · exact g.2.1 a z), by rw [← er]; omega⟩
    have hs : lineOf ns = spoil (ruleL ns) (wayOf ns) (ns.getD 1 0 % (((ruleL ns).length + 1 : Nat) : Int)).toNat (signOf (ns.getD 2 0)) := by unfold lineOf; rw [if_neg e1, if_neg e2]
    rw [hs] at q
    refine s_set (i := 3) (d := .str (S [signOf (ns.getD 2 0)])) l3 E3 (ev_ixs (x := Str.ofString " (),-0aXZ.iqzBM19[{") (c := signOf (ns.getD 2 0)) (by decide +kernel) (by rw [c_signs]; exact atI_of_nat (mod_lt (n := 19) (by decide)).1 (sign_at _)) ev_str (ev_mod (by decide) (ev_callR (RAt_int ns 2) (ev_cons (ev_v (i := 0) E3 rfl) (ev_cons ev_int ev_nil))) ev_int)) fun σ4 H4 s4 l4 E4 => ?_
    exact s_ret l4 (ev_callR (R := RSpoilt) ⟨ruleL ns, wayOf ns, ns.getD 1 0, signOf (ns.getD 2 0), hl, rfl, rfl⟩ (ev_cons ((ev_callR (R := RWritten) ⟨h, b, fr, rfl, rfl⟩ (ev_cons ((ev_callR (R := RAtomsBy) ⟨ns.drop 3, by rw [List.length_drop]; omega, rfl, rfl⟩ (ev_cons ((ev_from (k := 3) (l := ns.map D.int) (ev_v (i := 0) E4 rfl)).eq (by rw [List.map_drop])) ev_nil)).eq (by rw [ea])) ev_nil)).eq (by rw [er]; rfl)) (ev_cons (ev_v (i := 1) E4 rfl) (ev_cons (ev_callR (RAt_int ns 1) (ev_cons (ev_v (i := 0) E4 rfl) (ev_cons ev_int ev_nil))) (ev_cons (ev_v (i := 3) E4 rfl) ev_nil))))) fun v H' s5 r5 => q v H' (s1.trans (s2.trans (s3.trans (s4.trans s5)))) r5
end
end K12

set_option Elab.async false
set_option linter.all false
set_option maxRecDepth 100000
set_option maxHeartbeats 4000000
namespace K12
open PySem L2 FL
section
variable {P : Program} {w : World} {K : PySem.W.Frag} {mg : Str → Option Value} {base : Heap} {f : Addr} {fd : FuncData}
def leS (i j : Str) : Bool := !decide (j.cps.toList < i.cps.toList)
theorem ev_chainS {G : Hp} {σ : St} {ta tb tc : TE} {a b c : Str} (ha : EvM ta G σ (.str a)) (hb : EvM tb G σ (.str b)) (hc : EvM tc G σ (.str c)) :
    EvM (tChain (fun x y H Q => ∃ i j, x = .str i ∧ y = .str j ∧ Q (.bl (!decide (j.cps.toList < i.cps.toList))) H) (fun x y H Q => ∃ i j, x = .str i ∧ y = .str j ∧ Q (.bl (!decide (j.cps.toList < i.cps.toList))) H) ta tb tc) G σ (.bl (leS a b && leS b c)) :=
  fun M H s l Q k => ha M H s l _ fun x H1 s1 rx => hb M H1 (s.trans (s1.but M)) (l.same s1) _ fun y H2 s2 ry => by
    refine ⟨a, b, rx.of_str, ry.of_str, leS a b, rfl, ?_⟩
    cases e : leS a b with
    | true =>
      rw [e] at k
      rw [if_pos rfl]
      exact hc M H2 (s.trans ((s1.trans s2).but M)) (l.same (s1.trans s2)) _ fun z H3 s3 rz => ⟨b, c, ry.of_str, rz.of_str, k _ H3 (s1.trans (s2.trans s3)) (.bl (leS b c))⟩
    | false =>
      rw [e] at k
      rw [if_neg Bool.false_ne_true]
      exact k _ H2 (s1.trans s2) (.bl false)
theorem le_one (a c : Nat) : (!decide (([c] : L) < [a])) = decide (a ≤ c) := by
  rw [lex1, Bool.eq_iff_iff, Bool.not_eq_true', decide_eq_false_iff_not, decide_eq_true_iff]
  constructor
  · intro h
    exact Nat.le_of_not_lt fun z => h (.inl z)
  · rintro h (z | ⟨_, z⟩)
    · omega
    · exact z rfl
theorem one_a : (Str.ofString "a").cps.toList = [97] ∧ (Str.ofString "z").cps.toList = [122] ∧ (Str.ofString "A").cps.toList = [65] ∧ (Str.ofString "Z").cps.toList = [90] := by decide +kernel
theorem low_le (c : Nat) : (leS (Str.ofString "a") ⟨#[c]⟩ && leS ⟨#[c]⟩ (Str.ofString "z")) = low c := by
  unfold leS low
  rw [one_a.1, one_a.2.1]
  show ((!decide (([c] : L) < [97])) && (!decide (([122] : L) < [c]))) = _
  rw [le_one, le_one]
theorem upc_le (c : Nat) : (leS (Str.ofString "A") (S [c]) && leS (S [c]) (Str.ofString "Z")) = upc c := by
  unfold leS upc
  rw [one_a.2.2.1, one_a.2.2.2]
  show ((!decide (([c] : L) < [65])) && (!decide (([90] : L) < [c]))) = _
  rw [le_one, le_one]
def offB : D → Bool
  | .str z => !(leS (Str.ofString "a") z && leS z (Str.ofString "z"))
  | _ => false
theorem word_count (l : L) : (!l.isEmpty && decide ((((((S l).cps.toList.map fun c => D.str ⟨#[c]⟩).filter offB).map fun d => d).length : Int) = 0)) = wordB l := by
  unfold wordB
  congr 1
  rw [S_list, List.length_map, List.filter_map, List.length_map]
  have e : (offB ∘ fun c => D.str ⟨#[c]⟩) = fun c => !low c := funext fun c => by
    show (!(leS (Str.ofString "a") ⟨#[c]⟩ && leS ⟨#[c]⟩ (Str.ofString "z"))) = _
    rw [low_le]
  rw [e, Bool.eq_iff_iff, decide_eq_true_iff, List.all_eq_true]
  constructor
  · intro h c hc
    have h2 : l.filter (fun c => !low c) = [] := List.length_eq_zero_iff.mp (by omega)
    have := List.filter_eq_nil_iff.mp h2 c hc
    simpa using this
  · intro h
    rw [List.filter_eq_nil_iff.mpr (fun c hc => by rw [h c hc]; exact Bool.false_ne_true)]
    rfl
def RIsW : List D → D → Prop := fun ds d => ∃ l : L, ds = [.str (S l)] ∧ (∀ c ∈ l, c < 128) ∧ l.length ≤ 4000 ∧ d = .bl (wordB l)
theorem sc_law_is_word : FnScope ["_law_one"] ["_law_one"] (defScope s_law_is_word) := ⟨rfl, rfl, rfl, by decide +kernel, rfl, by decide +kernel, by decide +kernel⟩
theorem ok_law_is_word (F : Fun K "_law_is_word" "_law_is_word" s_law_is_word f fd) (B : Bl mg) : FnOk P w K mg base CX0 1 f fd ["_law_one"] (spR RIsW) := by
  refine F.ok sc_law_is_word (spR_len (n := 1) fun ds d ⟨_, e, _⟩ => by rw [e]; rfl) (fun cdv A outer s H vs Q E hr h => ?_)
  obtain ⟨M, ds, d, lv, rs, ⟨l, rfl, ha, hz, rfl⟩, q⟩ := h
  have hu := hu50 hr
  refine ⟨_, (pss_one (ps_ret (pe_and (pe_cmpR (op_neA (by exact hu)) (pv 0) pe_str (nomark _)) (pe_one (pe_cmpR (op_eqA (by exact hu)) (pe_len B (pe_compC ["_law_sign"] [] 1 (pi_str (pv 0)) (fun _ _ _ _ _ => (pg_name (i := 0) (show (["_law_sign"] : List Str).Nodup from by decide +kernel) rfl (by first | exact Or.inl rfl | exact Or.inr rfl))) (fun _ _ _ _ _ => (pts_one (pt_not (pt_chain op_le_str op_le_str pe_str (pv 0) pe_str)))) (fun _ _ _ _ _ => (pv 0)))) pe_int (nomark _)))))), ?_⟩
  have E0 := env_start rs ["_law_one"]
  refine s_ret lv ((ev_and (ev_neA (d1 := .str (S l)) (d2 := .str (Str.ofString "")) rfl (Nat.zero_le _) (ev_v (i := 0) E0 rfl) ev_str) fun _ => ev_eqI (ev_lenL (ev_cons (ev_comp (i := 0) (p := offB) (f := fun d => d) (walk_str (asc_S ha) (ev_v (i := 0) E0 rfl)) (fun G' v d sG hd r => ?_) (fun G' v d sG hd _ r => ev_var (by simp [capsOf]) r) ?_) ev_nil)) ev_int).eq ?_) q
  · obtain ⟨c, hc, rfl⟩ := List.mem_map.mp hd
    exact evt_not (evt_test (ev_chainS ev_str (ev_var (by simp [capsOf]) r) ev_str))
  · rw [List.length_map, S_list]
    have := line16 (n := l.length) (by omega)
    omega
  · rw [ne_nil, word_count]
theorem part_fits {rel : L} {ps : List D} {d : D} (hd : d ∈ ps) (h : (atomL rel ps).length ≤ 4000) : (partL d).length ≤ 4000 := by
  have h1 := joinL_part (y := [44, 32]) (List.mem_map_of_mem (f := partL) hd)
  unfold atomL at h
  simp only [List.length_append] at h
  omega
def RAnAtom : List D → D → Prop := fun ds d => ∃ a, wrA a ∧ (atomT a).length ≤ 4000 ∧ ds = [a] ∧ d = .bl true
theorem sc_law_an_atom : FnScope ["_law_found", "_law_part", "_law_great"] ["_law_found"] (defScope s_law_an_atom) := ⟨rfl, rfl, rfl, by decide +kernel, rfl, by decide +kernel, by decide +kernel⟩
theorem ok_law_an_atom (F : Fun K "_law_an_atom" "_law_an_atom" s_law_an_atom f fd) (B : Bl mg) (G_law_whole : Has P w K mg base 1 "_law_whole" ["_law_found"] (spR RWhole)) (G_law_is_word : Has P w K mg base 1 "_law_is_word" ["_law_one"] (spR RIsW)) : FnOk P w K mg base CX0 2 f fd ["_law_found"] (spR RAnAtom) := by
  refine F.ok sc_law_an_atom (spR_len (n := 1) fun ds d ⟨_, _, _, e, _⟩ => by rw [e]; rfl) (fun cdv A outer s H vs Q E hr h => ?_)
  obtain ⟨M, ds, d, lv, rs, ⟨a, ⟨rel, ps, ea, hw, hps⟩, hl, rfl, rfl⟩, q⟩ := h
  have hu := hu50 hr
  refine ⟨_, (pss_cons (ps_if (pw_or (pt_not (pt_val (pe_isin B (pv 0) B.tuple PyProof.Rows.boot_tuple))) (pw_or (pt_cmpR (op_eqA (by exact hu)) (pe_len B (pv 0)) pe_int (nomark _)) (pw_or1 (pt_not (pt_val (pe_isin B (pe_ixS (pv 0) pe_int) B.str PyProof.Rows.boot_str)))))).pt (pss_one (ps_ret pe_bl)) pss_nil)
      (pss_cons (ps_if (pt_not (pt_val (pe_own G_law_is_word hr (pa_cons (pe_ixS (pv 0) pe_int) pa_nil)))) (pss_one (ps_ret pe_bl)) pss_nil)
      (pss_cons (ps_for PassesOwn.never rfl (pi_seq (pe_slice sl_tup (pv 0) (po_some pe_int) po_none)) (pg_name (i := 1) sc_law_an_atom.nd rfl (by first | exact Or.inl rfl | exact Or.inr rfl)) (pss_one (ps_if (pt_val (pe_isin B (pv 1) B.str PyProof.Rows.boot_str)) (pss_cons (ps_set (i := 2) sc_law_an_atom.nd rfl (Or.inl rfl) (pe_and (pe_chain op_le_str op_le_str pe_str (pe_slice sl_str (pv 1) po_none (po_some pe_int)) pe_str) (pe_one (pe_or (pe_cmpR (op_eqA (by exact hu)) (pe_slice sl_str (pv 1) (po_some pe_int) po_none) pe_str (nomark _)) (pe_one (pe_own G_law_is_word hr (pa_cons (pe_slice sl_str (pv 1) (po_some pe_int) po_none) pa_nil)))))))
      (pss_one (ps_if (pw_and (pt_not (pt_val (pv 2))) (pw_and1 (pt_not (pt_val (pe_own G_law_is_word hr (pa_cons (pv 1) pa_nil)))))).pt (pss_one (ps_ret pe_bl)) pss_nil))) (pss_one (ps_if (pt_not (pt_val (pe_own G_law_whole hr (pa_cons (pv 1) pa_nil)))) (pss_one (ps_ret pe_bl)) pss_nil)))))
      (pss_one (ps_ret pe_bl))))), ?_⟩
  have E0 := env_start rs ["_law_found", "_law_part", "_law_great"]
  obtain ⟨lr, rfl⟩ : ∃ l, rel = S l := ⟨_, (S_of rel).symm⟩
  subst ea
  rw [S_list] at hw
  have hl : (atomL lr ps).length ≤ 4000 := by have hl : (atomL (S lr).cps.toList ps).length ≤ 4000 := hl; rw [S_list] at hl; exact hl
  have hrl : lr.length ≤ 4000 := by unfold atomL at hl; simp only [List.length_append] at hl; omega
  have hra : ∀ c ∈ lr, c < 128 := fun c hc => by have := word_all hw c hc; omega
  refine s_if (b := false) lv E0 (evt_or (b := false) (evt_not (b := true) (evt_tB (ev_isTuple (d := .tup (.str (S lr) :: ps)) (ev_v (i := 0) E0 rfl)))) fun _ => evt_or (b := false) (EvT.eq (evt_test (ev_eqI (ev_lenT (ev_cons (ev_v (i := 0) E0 rfl) ev_nil)) ev_int)) (decide_eq_false (by simp; omega))) fun _ => evt_not (b := true) (evt_tB (ev_isStr (ev_ixt (d := .str (S lr)) atI_zero (ev_v (i := 0) E0 rfl) ev_int)))) (fun e => nomatch e) (fun e H1 s1 l1 E1 => ?_)
  refine nx ?_
  refine s_if (b := false) l1 E1 (evt_not (b := true) (EvT.eq (evt_tB (ev_callR (R := RIsW) ⟨lr, rfl, hra, hrl, rfl⟩ (ev_cons (ev_ixt (d := .str (S lr)) atI_zero (ev_v (i := 0) E1 rfl) ev_int) ev_nil))) hw)) (fun e => nomatch e) (fun e H2 s2 l2 E2 => ?_)
  refine nx ?_
  refine st_for (M := M) (ds := ps) (walk_seqT (ev_fromT (k := 1) (l := .str (S lr) :: ps) (by decide) (by simp) (ev_v (i := 0) E2 rfl))) l2 fun H3 s3 => ?_
  refine ⟨fun j σ' H' => Same H3 H' ∧ EnvR (but H' M) σ' [some (.tup (.str (S lr) :: ps)), none, none], ⟨Same.refl _, E2.same s3⟩, fun j σ' H' ⟨a, b⟩ => ⟨a.but M, (l2.same s3).same a⟩, fun j d x σ' H' H'' hd ⟨a, b⟩ s4 rx => ?_, fun σ' H' ⟨a, b⟩ => q (.bl true) H' (s1.trans (s2.trans (s3.trans a))) (.bl true)⟩
  have E4 : EnvR (but H'' M) (σ'.set 1 (some x)) [some (.tup (.str (S lr) :: ps)), some d, none] := (b.same s4).set 1 rx
  have l4 : Live M H'' := ((l2.same s3).same a).same s4
  have hdm := List.mem_of_getElem? hd
  have hk := hps d hdm
  have hdl := part_fits hdm hl
  cases d with
  | str z =>
    obtain ⟨lz, rfl⟩ : ∃ l, z = S l := ⟨_, (S_of z).symm⟩
    have hk : (wordB lz || blankB lz) = true := by have hk : (wordB (S lz).cps.toList || blankB (S lz).cps.toList) = true := hk; rw [S_list] at hk; exact hk
    have hdl : lz.length ≤ 4000 := by have hdl : (S lz).cps.toList.length ≤ 4000 := hdl; rw [S_list] at hdl; exact hdl
    have hza : ∀ c ∈ lz, c < 128 := fun c hc => by
      rcases Bool.or_eq_true_iff.mp hk with z | z
      · have := word_all z c hc; omega
      · have := blank_all z c hc; omega
    obtain ⟨c, r, rfl⟩ : ∃ c r, lz = c :: r := by
      cases lz with
      | nil => cases hk
      | cons c r => exact ⟨c, r, rfl⟩
    rw [List.length_cons] at hdl
    have hra2 : ∀ d ∈ r, d < 128 := fun d hd => hza d (List.mem_cons_of_mem _ hd)
    have hg : (upc c && (decide (r = []) || wordB r)) = blankB (c :: r) := by
      cases r with
      | nil => rfl
      | cons d t => rfl
    refine s_if (b := true) l4 E4 (evt_tB (ev_isStr (d := .str (S (c :: r))) (ev_v (i := 1) E4 rfl))) (fun _ H5 s5 l5 E5 => ?_) (fun z => nomatch z)
    refine s_set (i := 2) (d := .bl (blankB (c :: r))) l5 E5 ((ev_and ((ev_chainS ev_str (ev_to1 (p := 1) (l := c :: r) (by simp only [List.length_cons]; omega) (by simp) (ev_v (i := 1) E5 rfl) ev_int) ev_str).eq (d' := .bl (upc c)) (congrArg D.bl (upc_le c))) fun _ => ev_or ((ev_eqA (d1 := .str (S r)) (d2 := .str (Str.ofString "")) rfl (Nat.zero_le _) (ev_from1 (p := 1) (l := c :: r) (by simp only [List.length_cons]; omega) (ev_v (i := 1) E5 rfl) ev_int) ev_str).eq (d' := .bl (decide (r = []))) (by rw [c_empty, ne_S])) fun _ => ev_callR (R := RIsW) ⟨r, rfl, hra2, by omega, rfl⟩ (ev_cons (ev_from1 (p := 1) (l := c :: r) (by simp only [List.length_cons]; omega) (ev_v (i := 1) E5 rfl) ev_int) ev_nil)).eq (congrArg D.bl hg)) fun σ6 H6 s6 l6 E6 => ?_
    refine s_if (b := false) l6 E6 (EvT.eq (evt_and (evt_not (evt_tB (ev_v (i := 2) E6 rfl))) fun _ => evt_not (evt_tB (ev_callR (R := RIsW) ⟨c :: r, rfl, hza, by simp only [List.length_cons]; omega, rfl⟩ (ev_cons (ev_v (i := 1) E6 rfl) ev_nil)))) ?_) (fun z => nomatch z) (fun _ H7 s7 l7 E7 => ?_)
    · revert hk
      cases wordB (c :: r) <;> cases blankB (c :: r) <;> decide
    · exact nx ⟨a.trans (s4.trans (s5.trans (s6.trans s7))), (E7.drop 1).drop 2⟩
  | int i =>
    refine s_if (b := false) l4 E4 (evt_tB (ev_isStr (d := .int i) (ev_v (i := 1) E4 rfl))) (fun z => nomatch z) (fun _ H5 s5 l5 E5 => ?_)
    refine s_if (b := false) l5 E5 (evt_not (b := true) (evt_tB (ev_callR (R := RWhole) ⟨.int i, rfl, rfl⟩ (ev_cons (ev_v (i := 1) E5 rfl) ev_nil)))) (fun z => nomatch z) (fun _ H6 s6 l6 E6 => ?_)
    exact nx ⟨a.trans (s4.trans (s5.trans s6)), E6.drop 1⟩
  | _ => exact hk.elim
def RARule : List D → D → Prop := fun ds d => ∃ h b, FitR h b ∧ ds = [.tup [h, .tup b]] ∧ d = .bl true
theorem sc_law_a_rule : FnScope ["_law_found", "_law_atom"] ["_law_found"] (defScope s_law_a_rule) := ⟨rfl, rfl, rfl, by decide +kernel, rfl, by decide +kernel, by decide +kernel⟩
theorem ok_law_a_rule (F : Fun K "_law_a_rule" "_law_a_rule" s_law_a_rule f fd) (B : Bl mg) (G_law_an_atom : Has P w K mg base 2 "_law_an_atom" ["_law_found"] (spR RAnAtom)) : FnOk P w K mg base CX0 3 f fd ["_law_found"] (spR RARule) := by
  refine F.ok sc_law_a_rule (spR_len (n := 1) fun ds d ⟨_, _, _, e, _⟩ => by rw [e]; rfl) (fun cdv A outer s H vs Q E hr h => ?_)
  obtain ⟨M, ds, d, lv, rs, ⟨h, b, fr, rfl, rfl⟩, q⟩ := h
  have hu := hu50 hr
  refine ⟨_, (pss_cons (ps_if (pw_or (pt_not (pt_val (pe_isin B (pv 0) B.tuple PyProof.Rows.boot_tuple))) (pw_or (pt_cmpR (op_neA (by exact hu)) (pe_len B (pv 0)) pe_int (nomark _)) (pw_or1 (pt_not (pt_val (pe_own G_law_an_atom hr (pa_cons (pe_ixS (pv 0) pe_int) pa_nil))))))).pt (pss_one (ps_ret pe_bl)) pss_nil)
      (pss_cons (ps_if (pt_not (pt_val (pe_isin B (pe_ixS (pv 0) pe_int) B.tuple PyProof.Rows.boot_tuple))) (pss_one (ps_ret pe_bl)) pss_nil)
      (pss_cons (ps_for PassesOwn.never rfl (pi_seq (pe_ixS (pv 0) pe_int)) (pg_name (i := 1) sc_law_a_rule.nd rfl (by first | exact Or.inl rfl | exact Or.inr rfl)) (pss_one (ps_if (pt_not (pt_val (pe_own G_law_an_atom hr (pa_cons (pv 1) pa_nil)))) (pss_one (ps_ret pe_bl)) pss_nil)))
      (pss_one (ps_ret pe_bl))))), ?_⟩
  have E0 := env_start rs ["_law_found", "_law_atom"]
  have ht : ∀ a ∈ h :: b, RAnAtom [a] (.bl true) := fun a ha => ⟨a, fr.atm a ha, Nat.le_trans (line_part (List.mem_map_of_mem ha)) fr.len, rfl, rfl⟩
  refine s_if (b := false) lv E0 (evt_or (b := false) (evt_not (b := true) (evt_tB (ev_isTuple (d := .tup [h, .tup b]) (ev_v (i := 0) E0 rfl)))) fun _ => evt_or (b := false) (EvT.eq (evt_test (ev_neA (d1 := .int (([h, .tup b] : List D).length : Nat)) (d2 := .int 2) rfl (Nat.zero_le _) (ev_lenT (ev_cons (ev_v (i := 0) E0 rfl) ev_nil)) ev_int)) (by simp)) fun _ => evt_not (b := true) (evt_tB (ev_callR (R := RAnAtom) (ht h List.mem_cons_self) (ev_cons (ev_ixt (d := h) atI_zero (ev_v (i := 0) E0 rfl) ev_int) ev_nil)))) (fun e => nomatch e) (fun e H1 s1 l1 E1 => ?_)
  refine nx ?_
  refine s_if (b := false) l1 E1 (evt_not (b := true) (evt_tB (ev_isTuple (ev_ixt (d := .tup b) (atI_of_nat (by decide) rfl) (ev_v (i := 0) E1 rfl) ev_int)))) (fun e => nomatch e) (fun e H2 s2 l2 E2 => ?_)
  refine nx ?_
  refine st_for (M := M) (ds := b) (walk_seqT (ev_ixt (d := .tup b) (atI_of_nat (by decide) rfl) (ev_v (i := 0) E2 rfl) ev_int)) l2 fun H3 s3 => ?_
  refine ⟨fun j σ' H' => Same H3 H' ∧ EnvR (but H' M) σ' [some (.tup [h, .tup b]), none], ⟨Same.refl _, E2.same s3⟩, fun j σ' H' ⟨a, c⟩ => ⟨a.but M, (l2.same s3).same a⟩, fun j d x σ' H' H'' hd ⟨a, c⟩ s4 rx => ?_, fun σ' H' ⟨a, c⟩ => q (.bl true) H' (s1.trans (s2.trans (s3.trans a))) (.bl true)⟩
  have E4 : EnvR (but H'' M) (σ'.set 1 (some x)) [some (.tup [h, .tup b]), some d] := (c.same s4).set 1 rx
  have l4 : Live M H'' := ((l2.same s3).same a).same s4
  refine s_if (b := false) l4 E4 (evt_not (b := true) (evt_tB (ev_callR (R := RAnAtom) (ht d (List.mem_cons_of_mem _ (List.mem_of_getElem? hd))) (ev_cons (ev_v (i := 1) E4 rfl) ev_nil)))) (fun z => nomatch z) (fun _ H5 s5 l5 E5 => ?_)
  exact nx ⟨a.trans (s4.trans s5), E5.drop 1⟩
end
end K12

set_option Elab.async false
set_option linter.all false
set_option maxRecDepth 100000
set_option maxHeartbeats 4000000
namespace K12
open PySem L2 FL
section
variable {P : Program} {w : World} {K : PySem.W.Frag} {mg : Str → Option Value} {base : Heap} {f : Addr} {fd : FuncData}
structure KitN (K : PySem.W.Frag) (nr bh bg lb nt L : Addr) : Prop where
  x : XK1 K nr
  h : PySem.W.kitOne K (.ref nr) (.ref bh) = some false
  g : PySem.W.kitOne K (.ref nr) (.ref bg) = some false
  b : PySem.W.kitOne K (.ref nr) (.ref lb) = some false
  t : PySem.W.kitOne K (.ref nr) (.ref nt) = some false
  r : PySem.W.kitOne K (.ref nr) (.ref nr) = some true
  ve : PySem.W.kitOne K (.ref nr) (.type "ValueError") = some true
  xl : PySem.W.exmOne K (.ref nr) (.ref L) = some true
  xr : PySem.W.exmOne K (.ref nr) (.ref nr) = some true
section
variable {G : Hp} {σ : St} {ta : TE}
theorem ev_isX {i : Nat} {ea C C' : Addr} {b : Bool} (e : σ[i]? = some (some (.ref ea))) (hG : G ea = some (xO ea C)) (x : XK1 K C) (hk : PySem.W.kitOne K (.ref C) (.ref C') = some b) :
    EvM (tCB (fun xs H Q => ∃ a C c cv b, xs = [.ref a, c] ∧ ((∃ p, c = .ref p) ∨ ∃ n, c = .ty n) ∧ RelV c cv ∧ H a = some (xO a C) ∧ XK1 K C ∧ PySem.W.kitOne K (.ref C) cv = some b ∧ Q (.bl b) H) (tCons (tVar i) (tCons (tC (.ref C')) tNil))) G σ (.bl b) :=
  fun M H s l Q k => ⟨.ref ea, e, ea, C, .ref C', .ref C', b, rfl, .inl ⟨_, rfl⟩, rfl, (but_some (s _ _ hG)).2, x, hk, k _ H (Same.refl _) (.bl b)⟩
theorem ev_isXT {i : Nat} {ea C : Addr} {n : String} {b : Bool} (e : σ[i]? = some (some (.ref ea))) (hG : G ea = some (xO ea C)) (x : XK1 K C) (hk : PySem.W.kitOne K (.ref C) (.type n) = some b) :
    EvM (tCB (fun xs H Q => ∃ a C c cv b, xs = [.ref a, c] ∧ ((∃ p, c = .ref p) ∨ ∃ n, c = .ty n) ∧ RelV c cv ∧ H a = some (xO a C) ∧ XK1 K C ∧ PySem.W.kitOne K (.ref C) cv = some b ∧ Q (.bl b) H) (tCons (tVar i) (tCons (tC (.ty n)) tNil))) G σ (.bl b) :=
  fun M H s l Q k => ⟨.ref ea, e, ea, C, .ty n, .type n, b, rfl, .inr ⟨_, rfl⟩, rfl, (but_some (s _ _ hG)).2, x, hk, k _ H (Same.refl _) (.bl b)⟩
theorem reps_bl : ∀ {H : Hp} {vs : List V} {bs : List Bool}, Reps H vs (bs.map D.bl) → vs = bs.map V.bl
  | H, _, [], .nil => rfl
  | H, _, b :: r, .cons q t => by rw [q.of_bl, reps_bl t]; rfl
theorem ev_count {bs : List Bool} {b : Bool} (h : EvM ta G σ (.lst (bs.map D.bl))) : EvM (tBM K "list" rCount ta (tCons (tC (.bl b)) tNil)) G σ (.int (bs.countP (· == b) : Nat)) :=
  fun M H s l Q k => h M H s l _ fun v H1 s1 rv => by
    obtain ⟨a, vs, rfl, h1, h2⟩ := rv.of_lst
    have hH := (but_some h1).2
    have e := reps_bl h2
    subst e
    exact ⟨.inl ⟨rfl, _, SqL.of hH⟩, a, bs, b, rfl, rfl, hH, k _ H1 s1 (.int _)⟩
end
theorem pe_isXh {Y : Cx} {v : Value} {e c : Expr} {te tc : TE} {p pos : Pos} (B : FL.Bl Y.mg) (h : PE (Y.held v) e te) (hc : PE (Y.held v) c tc) (hg : Gl (Y.held v) "isinstance" := by rfl) (he : starEach [e, c] (Y.held v).env = (false, eval e (Y.held v).env) :: starEach [c] (Y.held v).env := by rfl) (he' : starEach [c] (Y.held v).env = (false, eval c (Y.held v).env) :: starEach [] (Y.held v).env := by rfl) :
    PE (Y.held v) (.Call (.Name "isinstance" p) [e, c] [] pos) (tCB (fun xs H Q => ∃ a C c cv b, xs = [.ref a, c] ∧ ((∃ p, c = .ref p) ∨ ∃ n, c = .ty n) ∧ RelV c cv ∧ H a = some (xO a C) ∧ XK1 Y.K C ∧ PySem.W.kitOne Y.K (.ref C) cv = some b ∧ Q (.bl b) H) (tCons te (tCons tc tNil))) :=
  pe_isX (X := Y.held v) B h hc hg he he'
theorem pe_counth {Y : Cx} {v : Value} {o e : Expr} {to te : TE} {apos cpos : Pos} (ho : PE (Y.held v) o to) (h : PE (Y.held v) e te) (he : starEach [e] (Y.held v).env = (false, eval e (Y.held v).env) :: starEach [] (Y.held v).env := by rfl) (hbase : attributeBase o "count" (Y.held v).env (eval o (Y.held v).env) = eval o (Y.held v).env := by rfl)
    (hfew : ((backTo cpos (starEach [e] (Y.held v).env)).all (fun x => !x.1) && (backToKw cpos (keywordEach [] (Y.held v).env)).all (fun x => x.1.isSome) && decide ([e].length + ([] : List Keyword).length + (if ([] : List Keyword).isEmpty then 0 else 1) < 30)) = true := by rfl)
    (hline : (apos.endLine == cpos.line) = true := by rfl) (hplain : (backTo cpos (starEach [] (Y.held v).env)).any (·.1) = false := by rfl) :
    PE (Y.held v) (.Call (.Attribute o "count" apos) [e] [] cpos) (tBM Y.K "list" rCount to (tCons te tNil)) :=
  pe_bm (X := Y.held v) PySem.F.plainAttrs_list PySem.F.slot_list_count PySem.F.type_list_count mt_count ho (pa_cons h pa_nil he) hbase hfew hline he hplain
def RRefuses : List D → D → Prop := fun ds d => ∃ l, FitL l ∧ ds = [.str (S l)] ∧ d = .bl (rdLn (S l)).isNone
abbrev NRs : List Str := ["_law_line", "e", "_law_under"]
theorem sc_law_refuses : FnScope NRs ["_law_line"] (defScope s_law_refuses) := ⟨rfl, rfl, rfl, by decide +kernel, rfl, by decide +kernel, by decide +kernel⟩
theorem ok_law_refuses {nr bh bg lb nt L : Addr} (F : Fun K "_law_refuses" "_law_refuses" s_law_refuses f fd) (B : Bl mg) (KN : KitN K nr bh bg lb nt L) (X_BadHead : XInfo K mg "BadHead" bh) (X_BadGuard : XInfo K mg "BadGuard" bg) (X_LooseBlank : XInfo K mg "LooseBlank" lb) (X_LoomError : XInfo K mg "LoomError" L) (X_NotTold : XInfo K mg "NotTold" nt) (X_NoRule : XInfo K mg "NoRule" nr) (B_ValueError : mg "ValueError" = none)
    (G_read : HasA P w K mg base 5 "read" ["line"] (spO nr RRead)) : FnOk P w K mg base CX0 6 f fd ["_law_line"] (spR RRefuses) := by
  refine F.ok0 sc_law_refuses (spR_len (n := 1) fun ds d ⟨_, _, e, _⟩ => by rw [e]; rfl) (fun cdv A outer s H vs Q E hr h => ?_)
  obtain ⟨M, ds, d, lv, rs, ⟨l, fl, rfl, rfl⟩, q⟩ := h
  have hu := hu50 hr
  refine ⟨_, (pss0_cons (ps_try own_nox (fun _ => (pss_one (ps_expr (pe_ownA own_nox G_read hr (pa_cons (pv 0) pa_nil))))) (PHd.as (i := 1) X_LoomError.mg rfl (by decide) sc_law_refuses.nd rfl rfl (fun _ => (pss_cons (ps_set (i := 2) sc_law_refuses.nd rfl (Or.inl rfl) (pe_lst (pa_cons (pe_isXh B (pv 1) (pe_glob (v := .ref _) (by rfl) (by exact X_BadHead.mg) (by rfl))) (pa_cons (pe_isXh B (pv 1) (pe_glob (v := .ref _) (by rfl) (by exact X_BadGuard.mg) (by rfl))) (pa_cons (pe_isXh B (pv 1) (pe_glob (v := .ref _) (by rfl) (by exact X_LooseBlank.mg) (by rfl))) pa_nil)))))
      (pss_cons (ps_set (i := 2) sc_law_refuses.nd rfl (Or.inl rfl) (pe_op op_cat (pv 2) (pe_lst (pa_cons (pe_isXh B (pv 1) (pe_glob (v := .ref _) (by rfl) (by exact X_NotTold.mg) (by rfl))) (pa_cons (pe_isXh B (pv 1) (pe_glob (v := .ref _) (by rfl) (by exact X_NoRule.mg) (by rfl))) pa_nil)))))
      (pss_one (ps_ret (pe_and (pe_isXh B (pv 1) (pe_bltn (v := .ty "ValueError") (by rfl) (by exact B_ValueError) PyProof.Rows.Boot.«ValueError» (by rfl))) (pe_one (pe_cmpR (op_eqA (by exact hu)) (pe_counth (pv 2) pe_bl) pe_int (nomark _))))))))) PHd.nil))
      (pss0_one (ps_ret pe_bl).z)), ?_⟩
  have E0 := env_start rs NRs
  cases er : rdLn (S l) with
  | some r =>
    rw [er] at q
    refine (ev_callO (R := RRead) (ds := [.str (S l)]) (d := .tup [r.1, .tup r.2]) ⟨l, fl, rfl, by rw [er]; rfl⟩ (ev_cons (ev_v (i := 0) E0 rfl) ev_nil)).at lv fun v H1 s1 r1 => ?_
    exact q (.bl false) H1 s1 (.bl false)
  | none =>
  rw [er] at q
  refine s_dropN lv (evn_callO (R := RRead) (ds := [.str (S l)]) ⟨l, fl, rfl, by rw [er]; rfl⟩ (ev_cons (ev_v (i := 0) E0 rfl) ev_nil)) fun H2 s2 => ?_
  have l2 := lv.same s2
  have E2 := E0.same s2
  refine ⟨true, KN.xl, ?_⟩
  rw [if_pos rfl]
  refine ⟨nr, rfl, fun ea hea => ?_⟩
  have s3 : Same H2 (upd H2 ea (xO ea nr)) := same_new hea _
  have l3 := l2.same s3
  have hfr : ea ∉ M := l2.fresh hea
  have E3 : EnvR (but (upd H2 ea (xO ea nr)) M) ((L2.start NRs vs).set 1 (some (.ref ea))) [some (.str (S l)), none, none] := (E2.same s3).off 1 _
  have g3 : but (upd H2 ea (xO ea nr)) M ea = some (xO ea nr) := by rw [but_out hfr]; exact upd_same
  have hl := E2.len
  have i3 : ((L2.start NRs vs).set 1 (some (.ref ea)))[1]? = some (some (.ref ea)) := List.getElem?_set_self (by rw [hl]; simp)
  generalize upd H2 ea (xO ea nr) = H3 at s3 l3 E3 g3
  generalize (L2.start NRs vs).set 1 (some (.ref ea)) = σ3 at E3 i3
  have x := KN.x
  refine s_setR (i := 2) (d := .lst ([false, false, false].map D.bl)) l3 E3 (ev_lst (ev_cons (ev_isX i3 g3 x KN.h) (ev_cons (ev_isX i3 g3 x KN.g) (ev_cons (ev_isX i3 g3 x KN.b) ev_nil))) (hz := by show 3 ≤ sizeLine; decide)) fun σ4 H4 o4 s4 l4 E4 => ?_
  have i4 := (o4 1 (by decide)).trans i3
  have g4 := s4.but M _ _ g3
  refine s_setR (i := 2) (d := .lst ([false, false, false, false, true].map D.bl)) l4 E4 (ev_catL (xs := [false, false, false].map D.bl) (ys := [false, true].map D.bl) (by show 5 ≤ 1000; decide) (ev_v (i := 2) E4 rfl) (ev_lst (ev_cons (ev_isX i4 g4 x KN.t) (ev_cons (ev_isX i4 g4 x KN.r) ev_nil)) (hz := by show 2 ≤ sizeLine; decide))) fun σ5 H5 o5 s5 l5 E5 => ?_
  have i5 := (o5 1 (by decide)).trans i4
  have g5 := s5.but M _ _ g4
  refine s_ret l5 (EvM.eq (ev_and (ev_isXT i5 g5 x KN.ve) fun _ => ev_eqI (ev_count (b := true) (ev_v (i := 2) E5 rfl)) ev_int) ?_) fun v H6 s6 r6 => q v H6 (s2.trans (s3.trans (s4.trans (s5.trans s6)))) r6
  decide
abbrev Nlaw : List Str := ["_law_script", "_law_line", "_law_way", "_law_found", "_law_refused"]
theorem sc_law : FnScope Nlaw ["_law_script"] (defScope s_law) := ⟨rfl, rfl, rfl, by decide +kernel, rfl, by decide +kernel, by decide +kernel⟩
theorem ok_law {nr bh bg lb nt L : Addr} (F : Fun K "law" "law" s_law f fd) (B : Bl mg) (KN : KitN K nr bh bg lb nt L) (X_NoRule : XInfo K mg "NoRule" nr) (G_law_at : Has P w K mg base 1 "_law_at" ["_law_script", "_law_k"] (spR RAt)) (G_law_some_line : Has P w K mg base 4 "_law_some_line" ["_law_script"] (spR RSome)) (G_read : HasA P w K mg base 5 "read" ["line"] (spO nr RRead))
    (G_law_refuses : Has P w K mg base 6 "_law_refuses" ["_law_line"] (spR RRefuses)) (G_law_a_rule : Has P w K mg base 3 "_law_a_rule" ["_law_found"] (spR RARule)) (G_law_written : Has P w K mg base 1 "_law_written" ["_law_atoms"] (spR RWritten)) : FnOk P w K mg base CX0 8 f fd ["_law_script"] (spLaw K) := by
  refine F.ok0 sc_law (fun vs H Q E h => ?_) (fun cdv A outer s H vs Q E hr h => ?_)
  · obtain ⟨a, ns, rfl, _⟩ := h
    rfl
  obtain ⟨a, ns, rfl, hS, h63, q⟩ := h
  have hu := hu50 hr
  refine ⟨_, (pss0_cons (ps_set (i := 0) sc_law.nd rfl (Or.inl rfl) (pe_slice sl_list (pv 0) po_none (po_some pe_int))).z
      (pss0_cons (ps_set (i := 1) sc_law.nd rfl (Or.inl rfl) (pe_own G_law_some_line hr (pa_cons (pv 0) pa_nil))).z
      (pss0_cons (ps_set (i := 2) sc_law.nd rfl (Or.inl rfl) (pe_op op_mod (pe_own G_law_at hr (pa_cons (pv 0) (pa_cons pe_int pa_nil))) pe_int)).z
      (pss0_cons (ps_set (i := 3) sc_law.nd rfl (Or.inl rfl) pe_non).z
      (pss0_cons (ps_set (i := 4) sc_law.nd rfl (Or.inl rfl) pe_bl).z
      (pss0_cons (ps_try own_nox (fun _ => (pss_one (ps_set (i := 3) sc_law.nd rfl (Or.inl rfl) (pe_ownA own_nox G_read hr (pa_cons (pv 1) pa_nil))))) (PHd.cons X_NoRule.mg rfl (by decide) (fun _ => (pss_one (ps_set (i := 4) sc_law.nd rfl (Or.inl rfl) pe_bl))) PHd.nil))
      (pss0_cons (ps_if (pt_cmpR (op_neA (by exact hu)) (pe_own G_law_refuses hr (pa_cons (pv 1) pa_nil)) (pv 4) (nomark _)) (pss_one (ps_ret pe_bl)) pss_nil).z
      (pss0_cons (ps_if (pw_and (pt_cmpR op_gt (pv 2) pe_int (nomark _)) (pw_and1 (pt_not (pt_val (pv 4))))).pt (pss_one (ps_ret pe_bl)) pss_nil).z
      (pss0_cons (ps_if (pt_val (pv 4)) (pss_one (ps_ret (pe_cmpR (op_neA (by exact hu)) (pv 2) pe_int (nomark _)))) pss_nil).z
      (pss0_cons (ps_if (pt_not (pt_val (pe_own G_law_a_rule hr (pa_cons (pv 3) pa_nil)))) (pss_one (ps_ret pe_bl)) pss_nil).z
      (pss0_one (ps_ret (pe_cmpR (op_eqA (by exact hu)) (pe_own G_law_written hr (pa_cons (pe_op op_cat (pe_lst (pa_cons (pe_ixS (pv 3) pe_int) pa_nil)) (pe_listC B (pe_ixS (pv 3) pe_int))) pa_nil)) (pv 1) (nomark _))).z))))))))))), ?_⟩
  refine ⟨_, rfl, 500, rfl, a, _, rfl, hS, fun p hp => ?_⟩
  rw [cut500 h63]
  have E1 := env_law (H := H) (p := p) (ns := ns) Nlaw a 4 rfl
  have fl := line_fit h63
  refine s_set (i := 1) (d := .str (S (lineOf ns))) Live.nil E1 (ev_callR (R := RSome) ⟨ns, h63, rfl, rfl⟩ (ev_cons (ev_v (i := 0) E1 rfl) ev_nil)) fun σ2 H2 s2 l2 E2 => ?_
  refine s_set (i := 2) (d := .int (wayOf ns)) l2 E2 (ev_mod (by decide) (ev_callR (RAt_int ns 0) (ev_cons (ev_v (i := 0) E2 rfl) (ev_cons ev_int ev_nil))) ev_int) fun σ3 H3 s3 l3 E3 => ?_
  dsimp only
  refine s_set (i := 3) (d := .non) l3 E3 ev_non fun σ4 H4 s4 l4 E4 => ?_
  dsimp only
  refine s_set (i := 4) (d := .bl false) l4 E4 ev_bl fun σ5 H5 s5 l5 E5 => ?_
  clear E1 E2 E3 E4
  have E5 : EnvR (but H5 []) σ5 [some (.lst (ns.map D.int)), some (.str (S (lineOf ns))), some (.int (wayOf ns)), some .non, some (.bl false)] := E5
  cases er : rdLn (S (lineOf ns)) with
  | some r =>
    obtain ⟨fr, ef⟩ := rdLn_ok fl er
    have hw : ¬ 4 < wayOf ns := fun z => by rw [line_bad z] at er; cases er
    refine s_set (i := 3) (d := .tup [r.1, .tup r.2]) l5 E5 (ev_callO (R := RRead) (ds := [.str (S (lineOf ns))]) (d := .tup [r.1, .tup r.2]) ⟨lineOf ns, fl, rfl, by rw [er]; rfl⟩ (ev_cons (ev_v (i := 1) E5 rfl) ev_nil)) fun σ6 H6 s6 l6 E6 => ?_
    have E6 : EnvR (but H6 []) σ6 [some (.lst (ns.map D.int)), some (.str (S (lineOf ns))), some (.int (wayOf ns)), some (.tup [r.1, .tup r.2]), some (.bl false)] := E6
    refine s_if (b := false) l6 E6 (EvT.eq (evt_test (ev_neAB (a := (rdLn (S (lineOf ns))).isNone) (b := false) (ev_callR (R := RRefuses) ⟨lineOf ns, fl, rfl, rfl⟩ (ev_cons (ev_v (i := 1) E6 rfl) ev_nil)) (ev_v (i := 4) E6 rfl))) (by rw [er]; rfl)) (fun z => nomatch z) (fun _ H7 s7 l7 E7 => ?_)
    refine nx ?_
    refine s_if (b := false) l7 E7 (evt_and (b := false) (c := false) (EvT.eq (evt_test (ev_gt (ev_v (i := 2) E7 rfl) ev_int)) (decide_eq_false hw)) (fun z => nomatch z)) (fun z => nomatch z) (fun _ H8 s8 l8 E8 => ?_)
    refine nx ?_
    refine s_if (b := false) l8 E8 (evt_tB (ev_v (i := 4) E8 rfl)) (fun z => nomatch z) (fun _ H9 s9 l9 E9 => ?_)
    refine nx ?_
    refine s_if (b := false) l9 E9 (evt_not (b := true) (evt_tB (ev_callR (R := RARule) ⟨r.1, r.2, fr, rfl, rfl⟩ (ev_cons (ev_v (i := 3) E9 rfl) ev_nil)))) (fun z => nomatch z) (fun _ H10 s10 l10 E10 => ?_)
    refine nx ?_
    have hn : r.2.length ≤ 4001 := by
      have := line_few (h := atomT r.1) (b := r.2.map atomT)
      rw [List.length_map] at this
      have h2 := fr.len
      rw [List.map_cons] at h2
      omega
    refine s_ret l10 ((ev_eqA (d1 := .str (lineS r.1 r.2)) (d2 := .str (S (lineOf ns))) rfl (Nat.zero_le _) (ev_callR (R := RWritten) ⟨r.1, r.2, fr, rfl, rfl⟩ (ev_cons (ev_catLn (xs := [r.1]) (ys := r.2) (by rw [List.length_singleton]; have := line16 (n := r.2.length) (by omega); omega) (ev_lst (ev_cons (ev_ixt (d := r.1) atI_zero (ev_v (i := 3) E10 rfl) ev_int) ev_nil)) (ev_listT (ev_cons (ev_ixt (d := .tup r.2) (atI_of_nat (by decide) rfl) (ev_v (i := 3) E10 rfl) ev_int) ev_nil))) ev_nil)) (ev_v (i := 1) E10 rfl)).eq (d' := .bl true) ?_) fun v H' s11 r11 => by rw [r11.of_bl]; exact q H'
    have e2 : lineS r.1 r.2 = S (lineOf ns) := congrArg S ef
    rw [e2]
    simp
  | none =>
    have hw : wayOf ns ≠ 0 := fun z => line_own h63 z er
    refine s_setN l5 (evn_callO (R := RRead) (ds := [.str (S (lineOf ns))]) ⟨lineOf ns, fl, rfl, by rw [er]; rfl⟩ (ev_cons (ev_v (i := 1) E5 rfl) ev_nil)) fun H6 s6 => ?_
    refine ⟨true, KN.xr, ?_⟩
    rw [if_pos rfl]
    have l6 := l5.same s6
    have E6 := E5.same s6
    refine s_set (i := 4) (d := .bl true) l6 E6 ev_bl fun σ7 H7 s7 l7 E7 => ?_
    have E7 : EnvR (but H7 []) σ7 [some (.lst (ns.map D.int)), some (.str (S (lineOf ns))), some (.int (wayOf ns)), some .non, some (.bl true)] := E7
    refine s_if (b := false) l7 E7 (EvT.eq (evt_test (ev_neAB (a := (rdLn (S (lineOf ns))).isNone) (b := true) (ev_callR (R := RRefuses) ⟨lineOf ns, fl, rfl, rfl⟩ (ev_cons (ev_v (i := 1) E7 rfl) ev_nil)) (ev_v (i := 4) E7 rfl))) (by rw [er]; rfl)) (fun z => nomatch z) (fun _ H8 s8 l8 E8 => ?_)
    refine nx ?_
    refine s_if (b := false) l8 E8 (EvT.eq (evt_and (evt_test (ev_gt (ev_v (i := 2) E8 rfl) ev_int)) fun _ => evt_not (b := true) (evt_tB (ev_v (i := 4) E8 rfl))) (by rw [Bool.not_true, Bool.and_false])) (fun z => nomatch z) (fun _ H9 s9 l9 E9 => ?_)
    refine nx ?_
    refine s_if (b := true) l9 E9 (evt_tB (ev_v (i := 4) E9 rfl)) (fun _ H10 s10 l10 E10 => ?_) (fun z => nomatch z)
    refine s_ret l10 ((ev_neA (d1 := .int (wayOf ns)) (d2 := .int 0) rfl (Nat.zero_le _) (ev_v (i := 2) E10 rfl) ev_int).eq (d' := .bl true) (by simp [hw])) fun v H' s11 r11 => by rw [r11.of_bl]; exact q H'
end
end K12

set_option Elab.async false
set_option linter.all false
set_option maxRecDepth 100000
set_option maxHeartbeats 4000000
namespace K12
open PySem L2 FL
theorem exm_of {K : PySem.W.Frag} {C0 C : Addr} {b : Bool} (hT : PySem.W.typeIn K (.ref C) = some (.type "type")) (hB : PySem.W.mroIn K C (.type "BaseException") = some true) (hm : PySem.W.mroIn K C0 (.ref C) = some b) : PySem.W.exmOne K (.ref C0) (.ref C) = some b := by
  have h1 : (PySem.W.clsIn K C).isSome = true := by
    obtain ⟨cd, h, _⟩ := Option.bind_eq_some_iff.mp hB
    rw [h]; rfl
  have h2 : PySem.W.subIn K (.ref C) (.type "BaseException") = some true := hB
  show (if (PySem.W.subIn K (.ref C) (.type "BaseException") == some true) = true then (if ((PySem.W.clsIn K C).isSome && PySem.W.typeIn K (.ref C) == some (.type "type")) = true then PySem.W.mroIn K C0 (.ref C) else none) else none) = some b
  rw [h2, h1, hT, hm]
  have e1 : ((some true : Option Bool) == some true) = true := rfl
  have e2 : ((some (Value.type "type") : Option Value) == some (.type "type")) = true := by decide +kernel
  rw [if_pos e1, e2, Bool.true_and, if_pos rfl]
theorem kit_of {K : PySem.W.Frag} {C0 C : Addr} {b : Bool} (hT : PySem.W.typeIn K (.ref C) = some (.type "type")) (hB : PySem.W.mroIn K C (.type "BaseException") = some true) (hs : PySem.W.mroIn K C (.ref C) = some true) (hm : PySem.W.mroIn K C0 (.ref C) = some b) : PySem.W.kitOne K (.ref C0) (.ref C) = some b := by
  have h1 : (PySem.W.clsIn K C).isSome = true := by
    obtain ⟨cd, h, _⟩ := Option.bind_eq_some_iff.mp hB
    rw [h]; rfl
  show (if ((Value.ref C0) == (Value.ref C)) = true then some true else (if ((PySem.W.clsIn K C).isSome && PySem.W.typeIn K (.ref C) == some (.type "type")) = true then PySem.W.mroIn K C0 (.ref C) else none)) = some b
  by_cases e : ((Value.ref C0) == (Value.ref C)) = true
  · have e' : C0 = C := Value.ref.inj (beq_iff_eq.mp e)
    subst e'
    rw [if_pos e]
    exact hs.symm.trans hm
  · have e2 : ((some (Value.type "type") : Option Value) == some (.type "type")) = true := by decide +kernel
    rw [if_neg e, h1, hT, hm, e2, Bool.true_and, if_pos rfl]
theorem kit_ve {K : PySem.W.Frag} {C0 : Addr} (hm : PySem.W.mroIn K C0 (.type "ValueError") = some true) : PySem.W.kitOne K (.ref C0) (.type "ValueError") = some true := by
  show (if ((Value.ref C0) == (Value.type "ValueError")) = true then some true else (if PySem.W.kitMeta "ValueError" = true then PySem.W.mroIn K C0 (.type "ValueError") else none)) = some true
  have e : PySem.W.kitMeta "ValueError" = true := by decide +kernel
  rw [e, hm]
  split
  · rfl
  · rfl
theorem all_mk {l : PySem.W.OpenLaw} {w : World} {K : PySem.W.Frag} {h : Heap} {mg : Str → Option Value} {fa f_read f_read_atom f_read_part f_has_only f_is_word f_is_written_blank f_is_written_number f_law_whole f_law_at f_law_part_by f_law_atom_by f_law_atoms_by f_law_written f_law_spoilt f_law_two_texts f_law_some_line f_law_is_word f_law_an_atom f_law_a_rule f_law_refuses f_law : Addr} (X : K.In h) (G : h.Ns mainGlobals mg) (hfa : mg "law" = some (.ref fa))
    {od_read an_read od_read_atom an_read_atom od_read_part an_read_part od_has_only an_has_only od_is_word an_is_word od_is_written_blank an_is_written_blank od_is_written_number an_is_written_number od_law_whole an_law_whole od_law_at an_law_at od_law_part_by an_law_part_by od_law_atom_by an_law_atom_by od_law_atoms_by an_law_atoms_by od_law_written an_law_written od_law_spoilt an_law_spoilt od_law_two_texts an_law_two_texts od_law_some_line an_law_some_line od_law_is_word an_law_is_word od_law_an_atom an_law_an_atom od_law_a_rule an_law_a_rule od_law_refuses an_law_refuses od_law an_law : Option Addr} {sl_read sl_read_atom sl_read_part sl_has_only sl_is_word sl_is_written_blank sl_is_written_number sl_law_whole sl_law_at sl_law_part_by sl_law_atom_by sl_law_atoms_by sl_law_written sl_law_spoilt sl_law_two_texts sl_law_some_line sl_law_is_word sl_law_an_atom sl_law_a_rule sl_law_refuses sl_law : Array (Option Value)} {oc_read kV_read dc_read pm_read cd_read ct_read oc_read_atom kV_read_atom dc_read_atom pm_read_atom cd_read_atom ct_read_atom oc_read_part kV_read_part dc_read_part pm_read_part cd_read_part ct_read_part oc_has_only kV_has_only dc_has_only pm_has_only cd_has_only ct_has_only oc_is_word kV_is_word dc_is_word pm_is_word cd_is_word ct_is_word oc_is_written_blank kV_is_written_blank dc_is_written_blank pm_is_written_blank cd_is_written_blank ct_is_written_blank oc_is_written_number kV_is_written_number dc_is_written_number pm_is_written_number cd_is_written_number ct_is_written_number oc_law_whole kV_law_whole dc_law_whole pm_law_whole cd_law_whole ct_law_whole oc_law_at kV_law_at dc_law_at pm_law_at cd_law_at ct_law_at oc_law_part_by kV_law_part_by dc_law_part_by pm_law_part_by cd_law_part_by ct_law_part_by oc_law_atom_by kV_law_atom_by dc_law_atom_by pm_law_atom_by cd_law_atom_by ct_law_atom_by oc_law_atoms_by kV_law_atoms_by dc_law_atoms_by pm_law_atoms_by cd_law_atoms_by ct_law_atoms_by oc_law_written kV_law_written dc_law_written pm_law_written cd_law_written ct_law_written oc_law_spoilt kV_law_spoilt dc_law_spoilt pm_law_spoilt cd_law_spoilt ct_law_spoilt oc_law_two_texts kV_law_two_texts dc_law_two_texts pm_law_two_texts cd_law_two_texts ct_law_two_texts oc_law_some_line kV_law_some_line dc_law_some_line pm_law_some_line cd_law_some_line ct_law_some_line oc_law_is_word kV_law_is_word dc_law_is_word pm_law_is_word cd_law_is_word ct_law_is_word oc_law_an_atom kV_law_an_atom dc_law_an_atom pm_law_an_atom cd_law_an_atom ct_law_an_atom oc_law_a_rule kV_law_a_rule dc_law_a_rule pm_law_a_rule cd_law_a_rule ct_law_a_rule oc_law_refuses kV_law_refuses dc_law_refuses pm_law_refuses cd_law_refuses ct_law_refuses oc_law kV_law dc_law pm_law cd_law ct_law : Value} {t_SMALL t_GREAT t_FIGURES : Tok} {A_BadHead A_BadGuard A_LooseBlank A_LoomError A_NotTold A_NoRule : Addr}
    (a_read : PySem.W.nsIn K mainGlobals "read" = some (some (.ref f_read))) (l_read : K.lookup f_read = some ⟨oc_read, od_read, .func (PySem.W.fnOf "read" "read" (defArgs s_read) (defBody s_read) (defScope s_read) .none kV_read dc_read pm_read an_read cd_read ct_read), sl_read⟩) (c_read : PySem.W.codeIn K cd_read "read" = true) (k_read : PySem.W.keepIn K (.ref f_read) = true)
    (a_read_atom : PySem.W.nsIn K mainGlobals "read_atom" = some (some (.ref f_read_atom))) (l_read_atom : K.lookup f_read_atom = some ⟨oc_read_atom, od_read_atom, .func (PySem.W.fnOf "read_atom" "read_atom" (defArgs s_read_atom) (defBody s_read_atom) (defScope s_read_atom) .none kV_read_atom dc_read_atom pm_read_atom an_read_atom cd_read_atom ct_read_atom), sl_read_atom⟩) (c_read_atom : PySem.W.codeIn K cd_read_atom "read_atom" = true) (k_read_atom : PySem.W.keepIn K (.ref f_read_atom) = true)
    (a_read_part : PySem.W.nsIn K mainGlobals "read_part" = some (some (.ref f_read_part))) (l_read_part : K.lookup f_read_part = some ⟨oc_read_part, od_read_part, .func (PySem.W.fnOf "read_part" "read_part" (defArgs s_read_part) (defBody s_read_part) (defScope s_read_part) .none kV_read_part dc_read_part pm_read_part an_read_part cd_read_part ct_read_part), sl_read_part⟩) (c_read_part : PySem.W.codeIn K cd_read_part "read_part" = true) (k_read_part : PySem.W.keepIn K (.ref f_read_part) = true)
    (a_has_only : PySem.W.nsIn K mainGlobals "has_only" = some (some (.ref f_has_only))) (l_has_only : K.lookup f_has_only = some ⟨oc_has_only, od_has_only, .func (PySem.W.fnOf "has_only" "has_only" (defArgs s_has_only) (defBody s_has_only) (defScope s_has_only) .none kV_has_only dc_has_only pm_has_only an_has_only cd_has_only ct_has_only), sl_has_only⟩) (c_has_only : PySem.W.codeIn K cd_has_only "has_only" = true) (k_has_only : PySem.W.keepIn K (.ref f_has_only) = true)
    (a_is_word : PySem.W.nsIn K mainGlobals "is_word" = some (some (.ref f_is_word))) (l_is_word : K.lookup f_is_word = some ⟨oc_is_word, od_is_word, .func (PySem.W.fnOf "is_word" "is_word" (defArgs s_is_word) (defBody s_is_word) (defScope s_is_word) .none kV_is_word dc_is_word pm_is_word an_is_word cd_is_word ct_is_word), sl_is_word⟩) (c_is_word : PySem.W.codeIn K cd_is_word "is_word" = true) (k_is_word : PySem.W.keepIn K (.ref f_is_word) = true)
    (a_is_written_blank : PySem.W.nsIn K mainGlobals "is_written_blank" = some (some (.ref f_is_written_blank))) (l_is_written_blank : K.lookup f_is_written_blank = some ⟨oc_is_written_blank, od_is_written_blank, .func (PySem.W.fnOf "is_written_blank" "is_written_blank" (defArgs s_is_written_blank) (defBody s_is_written_blank) (defScope s_is_written_blank) .none kV_is_written_blank dc_is_written_blank pm_is_written_blank an_is_written_blank cd_is_written_blank ct_is_written_blank), sl_is_written_blank⟩) (c_is_written_blank : PySem.W.codeIn K cd_is_written_blank "is_written_blank" = true) (k_is_written_blank : PySem.W.keepIn K (.ref f_is_written_blank) = true)
    (a_is_written_number : PySem.W.nsIn K mainGlobals "is_written_number" = some (some (.ref f_is_written_number))) (l_is_written_number : K.lookup f_is_written_number = some ⟨oc_is_written_number, od_is_written_number, .func (PySem.W.fnOf "is_written_number" "is_written_number" (defArgs s_is_written_number) (defBody s_is_written_number) (defScope s_is_written_number) .none kV_is_written_number dc_is_written_number pm_is_written_number an_is_written_number cd_is_written_number ct_is_written_number), sl_is_written_number⟩) (c_is_written_number : PySem.W.codeIn K cd_is_written_number "is_written_number" = true) (k_is_written_number : PySem.W.keepIn K (.ref f_is_written_number) = true)
    (a_law_whole : PySem.W.nsIn K mainGlobals "_law_whole" = some (some (.ref f_law_whole))) (l_law_whole : K.lookup f_law_whole = some ⟨oc_law_whole, od_law_whole, .func (PySem.W.fnOf "_law_whole" "_law_whole" (defArgs s_law_whole) (defBody s_law_whole) (defScope s_law_whole) .none kV_law_whole dc_law_whole pm_law_whole an_law_whole cd_law_whole ct_law_whole), sl_law_whole⟩) (c_law_whole : PySem.W.codeIn K cd_law_whole "_law_whole" = true) (k_law_whole : PySem.W.keepIn K (.ref f_law_whole) = true)
    (a_law_at : PySem.W.nsIn K mainGlobals "_law_at" = some (some (.ref f_law_at))) (l_law_at : K.lookup f_law_at = some ⟨oc_law_at, od_law_at, .func (PySem.W.fnOf "_law_at" "_law_at" (defArgs s_law_at) (defBody s_law_at) (defScope s_law_at) .none kV_law_at dc_law_at pm_law_at an_law_at cd_law_at ct_law_at), sl_law_at⟩) (c_law_at : PySem.W.codeIn K cd_law_at "_law_at" = true) (k_law_at : PySem.W.keepIn K (.ref f_law_at) = true)
    (a_law_part_by : PySem.W.nsIn K mainGlobals "_law_part_by" = some (some (.ref f_law_part_by))) (l_law_part_by : K.lookup f_law_part_by = some ⟨oc_law_part_by, od_law_part_by, .func (PySem.W.fnOf "_law_part_by" "_law_part_by" (defArgs s_law_part_by) (defBody s_law_part_by) (defScope s_law_part_by) .none kV_law_part_by dc_law_part_by pm_law_part_by an_law_part_by cd_law_part_by ct_law_part_by), sl_law_part_by⟩) (c_law_part_by : PySem.W.codeIn K cd_law_part_by "_law_part_by" = true) (k_law_part_by : PySem.W.keepIn K (.ref f_law_part_by) = true)
    (a_law_atom_by : PySem.W.nsIn K mainGlobals "_law_atom_by" = some (some (.ref f_law_atom_by))) (l_law_atom_by : K.lookup f_law_atom_by = some ⟨oc_law_atom_by, od_law_atom_by, .func (PySem.W.fnOf "_law_atom_by" "_law_atom_by" (defArgs s_law_atom_by) (defBody s_law_atom_by) (defScope s_law_atom_by) .none kV_law_atom_by dc_law_atom_by pm_law_atom_by an_law_atom_by cd_law_atom_by ct_law_atom_by), sl_law_atom_by⟩) (c_law_atom_by : PySem.W.codeIn K cd_law_atom_by "_law_atom_by" = true) (k_law_atom_by : PySem.W.keepIn K (.ref f_law_atom_by) = true)
    (a_law_atoms_by : PySem.W.nsIn K mainGlobals "_law_atoms_by" = some (some (.ref f_law_atoms_by))) (l_law_atoms_by : K.lookup f_law_atoms_by = some ⟨oc_law_atoms_by, od_law_atoms_by, .func (PySem.W.fnOf "_law_atoms_by" "_law_atoms_by" (defArgs s_law_atoms_by) (defBody s_law_atoms_by) (defScope s_law_atoms_by) .none kV_law_atoms_by dc_law_atoms_by pm_law_atoms_by an_law_atoms_by cd_law_atoms_by ct_law_atoms_by), sl_law_atoms_by⟩) (c_law_atoms_by : PySem.W.codeIn K cd_law_atoms_by "_law_atoms_by" = true) (k_law_atoms_by : PySem.W.keepIn K (.ref f_law_atoms_by) = true)
    (a_law_written : PySem.W.nsIn K mainGlobals "_law_written" = some (some (.ref f_law_written))) (l_law_written : K.lookup f_law_written = some ⟨oc_law_written, od_law_written, .func (PySem.W.fnOf "_law_written" "_law_written" (defArgs s_law_written) (defBody s_law_written) (defScope s_law_written) .none kV_law_written dc_law_written pm_law_written an_law_written cd_law_written ct_law_written), sl_law_written⟩) (c_law_written : PySem.W.codeIn K cd_law_written "_law_written" = true) (k_law_written : PySem.W.keepIn K (.ref f_law_written) = true)
    (a_law_spoilt : PySem.W.nsIn K mainGlobals "_law_spoilt" = some (some (.ref f_law_spoilt))) (l_law_spoilt : K.lookup f_law_spoilt = some ⟨oc_law_spoilt, od_law_spoilt, .func (PySem.W.fnOf "_law_spoilt" "_law_spoilt" (defArgs s_law_spoilt) (defBody s_law_spoilt) (defScope s_law_spoilt) .none kV_law_spoilt dc_law_spoilt pm_law_spoilt an_law_spoilt cd_law_spoilt ct_law_spoilt), sl_law_spoilt⟩) (c_law_spoilt : PySem.W.codeIn K cd_law_spoilt "_law_spoilt" = true) (k_law_spoilt : PySem.W.keepIn K (.ref f_law_spoilt) = true)
    (a_law_two_texts : PySem.W.nsIn K mainGlobals "_law_two_texts" = some (some (.ref f_law_two_texts))) (l_law_two_texts : K.lookup f_law_two_texts = some ⟨oc_law_two_texts, od_law_two_texts, .func (PySem.W.fnOf "_law_two_texts" "_law_two_texts" (defArgs s_law_two_texts) (defBody s_law_two_texts) (defScope s_law_two_texts) .none kV_law_two_texts dc_law_two_texts pm_law_two_texts an_law_two_texts cd_law_two_texts ct_law_two_texts), sl_law_two_texts⟩) (c_law_two_texts : PySem.W.codeIn K cd_law_two_texts "_law_two_texts" = true) (k_law_two_texts : PySem.W.keepIn K (.ref f_law_two_texts) = true)
    (a_law_some_line : PySem.W.nsIn K mainGlobals "_law_some_line" = some (some (.ref f_law_some_line))) (l_law_some_line : K.lookup f_law_some_line = some ⟨oc_law_some_line, od_law_some_line, .func (PySem.W.fnOf "_law_some_line" "_law_some_line" (defArgs s_law_some_line) (defBody s_law_some_line) (defScope s_law_some_line) .none kV_law_some_line dc_law_some_line pm_law_some_line an_law_some_line cd_law_some_line ct_law_some_line), sl_law_some_line⟩) (c_law_some_line : PySem.W.codeIn K cd_law_some_line "_law_some_line" = true) (k_law_some_line : PySem.W.keepIn K (.ref f_law_some_line) = true)
    (a_law_is_word : PySem.W.nsIn K mainGlobals "_law_is_word" = some (some (.ref f_law_is_word))) (l_law_is_word : K.lookup f_law_is_word = some ⟨oc_law_is_word, od_law_is_word, .func (PySem.W.fnOf "_law_is_word" "_law_is_word" (defArgs s_law_is_word) (defBody s_law_is_word) (defScope s_law_is_word) .none kV_law_is_word dc_law_is_word pm_law_is_word an_law_is_word cd_law_is_word ct_law_is_word), sl_law_is_word⟩) (c_law_is_word : PySem.W.codeIn K cd_law_is_word "_law_is_word" = true) (k_law_is_word : PySem.W.keepIn K (.ref f_law_is_word) = true)
    (a_law_an_atom : PySem.W.nsIn K mainGlobals "_law_an_atom" = some (some (.ref f_law_an_atom))) (l_law_an_atom : K.lookup f_law_an_atom = some ⟨oc_law_an_atom, od_law_an_atom, .func (PySem.W.fnOf "_law_an_atom" "_law_an_atom" (defArgs s_law_an_atom) (defBody s_law_an_atom) (defScope s_law_an_atom) .none kV_law_an_atom dc_law_an_atom pm_law_an_atom an_law_an_atom cd_law_an_atom ct_law_an_atom), sl_law_an_atom⟩) (c_law_an_atom : PySem.W.codeIn K cd_law_an_atom "_law_an_atom" = true) (k_law_an_atom : PySem.W.keepIn K (.ref f_law_an_atom) = true)
    (a_law_a_rule : PySem.W.nsIn K mainGlobals "_law_a_rule" = some (some (.ref f_law_a_rule))) (l_law_a_rule : K.lookup f_law_a_rule = some ⟨oc_law_a_rule, od_law_a_rule, .func (PySem.W.fnOf "_law_a_rule" "_law_a_rule" (defArgs s_law_a_rule) (defBody s_law_a_rule) (defScope s_law_a_rule) .none kV_law_a_rule dc_law_a_rule pm_law_a_rule an_law_a_rule cd_law_a_rule ct_law_a_rule), sl_law_a_rule⟩) (c_law_a_rule : PySem.W.codeIn K cd_law_a_rule "_law_a_rule" = true) (k_law_a_rule : PySem.W.keepIn K (.ref f_law_a_rule) = true)
    (a_law_refuses : PySem.W.nsIn K mainGlobals "_law_refuses" = some (some (.ref f_law_refuses))) (l_law_refuses : K.lookup f_law_refuses = some ⟨oc_law_refuses, od_law_refuses, .func (PySem.W.fnOf "_law_refuses" "_law_refuses" (defArgs s_law_refuses) (defBody s_law_refuses) (defScope s_law_refuses) .none kV_law_refuses dc_law_refuses pm_law_refuses an_law_refuses cd_law_refuses ct_law_refuses), sl_law_refuses⟩) (c_law_refuses : PySem.W.codeIn K cd_law_refuses "_law_refuses" = true) (k_law_refuses : PySem.W.keepIn K (.ref f_law_refuses) = true)
    (a_law : PySem.W.nsIn K mainGlobals "law" = some (some (.ref f_law))) (l_law : K.lookup f_law = some ⟨oc_law, od_law, .func (PySem.W.fnOf "law" "law" (defArgs s_law) (defBody s_law) (defScope s_law) .none kV_law dc_law pm_law an_law cd_law ct_law), sl_law⟩) (c_law : PySem.W.codeIn K cd_law "law" = true) (k_law : PySem.W.keepIn K (.ref f_law) = true)
    (u_SMALL : PySem.W.nsIn K mainGlobals "SMALL" = some (some (.str "abcdefghijklmnopqrstuvwxyz" t_SMALL)))
    (u_GREAT : PySem.W.nsIn K mainGlobals "GREAT" = some (some (.str "ABCDEFGHIJKLMNOPQRSTUVWXYZ" t_GREAT)))
    (u_FIGURES : PySem.W.nsIn K mainGlobals "FIGURES" = some (some (.str "0123456789" t_FIGURES)))
    (n_BadHead : PySem.W.nsIn K mainGlobals "BadHead" = some (some (.ref A_BadHead))) (e_BadHead : PySem.W.excIn K A_BadHead [.type "ValueError", .type "Exception", .type "BaseException", .type "object"] "ValueError.__new__" = true)
    (n_BadGuard : PySem.W.nsIn K mainGlobals "BadGuard" = some (some (.ref A_BadGuard))) (e_BadGuard : PySem.W.excIn K A_BadGuard [.type "ValueError", .type "Exception", .type "BaseException", .type "object"] "ValueError.__new__" = true)
    (n_LooseBlank : PySem.W.nsIn K mainGlobals "LooseBlank" = some (some (.ref A_LooseBlank))) (e_LooseBlank : PySem.W.excIn K A_LooseBlank [.type "ValueError", .type "Exception", .type "BaseException", .type "object"] "ValueError.__new__" = true)
    (n_LoomError : PySem.W.nsIn K mainGlobals "LoomError" = some (some (.ref A_LoomError))) (e_LoomError : PySem.W.excIn K A_LoomError [.type "ValueError", .type "Exception", .type "BaseException", .type "object"] "ValueError.__new__" = true)
    (n_NotTold : PySem.W.nsIn K mainGlobals "NotTold" = some (some (.ref A_NotTold))) (e_NotTold : PySem.W.excIn K A_NotTold [.type "ValueError", .type "Exception", .type "BaseException", .type "object"] "ValueError.__new__" = true)
    (n_NoRule : PySem.W.nsIn K mainGlobals "NoRule" = some (some (.ref A_NoRule))) (e_NoRule : PySem.W.excIn K A_NoRule [.type "ValueError", .type "Exception", .type "BaseException", .type "object"] "ValueError.__new__" = true)
    (t_h : PySem.W.typeIn K (.ref A_BadHead) = some (.type "type"))
    (x4_h : PySem.W.mroIn K A_BadHead (.type "BaseException") = some true)
    (t_g : PySem.W.typeIn K (.ref A_BadGuard) = some (.type "type"))
    (x4_g : PySem.W.mroIn K A_BadGuard (.type "BaseException") = some true)
    (t_b : PySem.W.typeIn K (.ref A_LooseBlank) = some (.type "type"))
    (x4_b : PySem.W.mroIn K A_LooseBlank (.type "BaseException") = some true)
    (t_l : PySem.W.typeIn K (.ref A_LoomError) = some (.type "type"))
    (x4_l : PySem.W.mroIn K A_LoomError (.type "BaseException") = some true)
    (t_n : PySem.W.typeIn K (.ref A_NotTold) = some (.type "type"))
    (x4_n : PySem.W.mroIn K A_NotTold (.type "BaseException") = some true)
    (t_r : PySem.W.typeIn K (.ref A_NoRule) = some (.type "type"))
    (x4_r : PySem.W.mroIn K A_NoRule (.type "BaseException") = some true)
    (x1_r : PySem.W.findIn K (.ref A_NoRule) "__getattribute__" = some (some (.builtin "BaseException.__getattribute__")))
    (x2_r : PySem.W.findIn K (.ref A_NoRule) "__class__" = some (some (.builtin "object.__class__")))
    (x3_r : PySem.W.findIn K (.ref A_NoRule) "__getattr__" = some none)
    (x5_r : PySem.W.mroIn K A_NoRule (.type "object") = some true)
    (m_rh : PySem.W.mroIn K A_NoRule (.ref A_BadHead) = some false)
    (m_rg : PySem.W.mroIn K A_NoRule (.ref A_BadGuard) = some false)
    (m_rb : PySem.W.mroIn K A_NoRule (.ref A_LooseBlank) = some false)
    (m_rn : PySem.W.mroIn K A_NoRule (.ref A_NotTold) = some false)
    (m_rr : PySem.W.mroIn K A_NoRule (.ref A_NoRule) = some true)
    (m_rl : PySem.W.mroIn K A_NoRule (.ref A_LoomError) = some true)
    (m_rv : PySem.W.mroIn K A_NoRule (.type "ValueError") = some true)
    (m_hh : PySem.W.mroIn K A_BadHead (.ref A_BadHead) = some true)
    (m_gg : PySem.W.mroIn K A_BadGuard (.ref A_BadGuard) = some true)
    (m_bb : PySem.W.mroIn K A_LooseBlank (.ref A_LooseBlank) = some true)
    (m_nn : PySem.W.mroIn K A_NotTold (.ref A_NotTold) = some true)
    (z_ValueError : PySem.W.nsIn K mainGlobals "ValueError" = some none)
    (z_len : PySem.W.nsIn K mainGlobals "len" = some none) (z_isinstance : PySem.W.nsIn K mainGlobals "isinstance" = some none) (z_range : PySem.W.nsIn K mainGlobals "range" = some none) (z_int : PySem.W.nsIn K mainGlobals "int" = some none) (z_str : PySem.W.nsIn K mainGlobals "str" = some none) (z_bool : PySem.W.nsIn K mainGlobals "bool" = some none) (z_list : PySem.W.nsIn K mainGlobals "list" = some none) (z_tuple : PySem.W.nsIn K mainGlobals "tuple" = some none) (z_dict : PySem.W.nsIn K mainGlobals "dict" = some none) (z_zip : PySem.W.nsIn K mainGlobals "zip" = some none) (z_enumerate : PySem.W.nsIn K mainGlobals "enumerate" = some none) (z_all : PySem.W.nsIn K mainGlobals "all" = some none) (z_reversed : PySem.W.nsIn K mainGlobals "reversed" = some none) :
    ∃ fd : FuncData, (∀ (s : Shared) (v : Value), BindsTo s fd ⟨[v], []⟩ [("_law_script", v)]) ∧ ∀ base : Heap, K.In base → base.Ns mainGlobals mg → FnOk l.prog w K mg base CX0 8 fa fd ["_law_script"] (spLaw K) := by
  have e := hfa.symm.trans (PySem.W.mg_of X G a_law)
  cases e
  have B : Bl mg := ⟨PySem.W.mg_none_of X G z_len, PySem.W.mg_none_of X G z_isinstance, PySem.W.mg_none_of X G z_range, PySem.W.mg_none_of X G z_int, PySem.W.mg_none_of X G z_str, PySem.W.mg_none_of X G z_bool, PySem.W.mg_none_of X G z_list, PySem.W.mg_none_of X G z_tuple, PySem.W.mg_none_of X G z_dict, PySem.W.mg_none_of X G z_zip, PySem.W.mg_none_of X G z_enumerate, PySem.W.mg_none_of X G z_all, PySem.W.mg_none_of X G z_reversed⟩
  have F_read := fun_mk (st := s_read) l_read c_read k_read
  have b_read := F_read.binds (ps := ["line"]) fun _ _ _ _ _ _ us hl => match us, hl with | [_], _ => rfl
  have m_read := PySem.W.mg_of X G a_read
  have F_read_atom := fun_mk (st := s_read_atom) l_read_atom c_read_atom k_read_atom
  have b_read_atom := F_read_atom.binds (ps := ["text"]) fun _ _ _ _ _ _ us hl => match us, hl with | [_], _ => rfl
  have m_read_atom := PySem.W.mg_of X G a_read_atom
  have F_read_part := fun_mk (st := s_read_part) l_read_part c_read_part k_read_part
  have b_read_part := F_read_part.binds (ps := ["text"]) fun _ _ _ _ _ _ us hl => match us, hl with | [_], _ => rfl
  have m_read_part := PySem.W.mg_of X G a_read_part
  have F_has_only := fun_mk (st := s_has_only) l_has_only c_has_only k_has_only
  have b_has_only := F_has_only.binds (ps := ["text", "signs"]) fun _ _ _ _ _ _ us hl => match us, hl with | [_, _], _ => rfl
  have m_has_only := PySem.W.mg_of X G a_has_only
  have F_is_word := fun_mk (st := s_is_word) l_is_word c_is_word k_is_word
  have b_is_word := F_is_word.binds (ps := ["text"]) fun _ _ _ _ _ _ us hl => match us, hl with | [_], _ => rfl
  have m_is_word := PySem.W.mg_of X G a_is_word
  have F_is_written_blank := fun_mk (st := s_is_written_blank) l_is_written_blank c_is_written_blank k_is_written_blank
  have b_is_written_blank := F_is_written_blank.binds (ps := ["text"]) fun _ _ _ _ _ _ us hl => match us, hl with | [_], _ => rfl
  have m_is_written_blank := PySem.W.mg_of X G a_is_written_blank
  have F_is_written_number := fun_mk (st := s_is_written_number) l_is_written_number c_is_written_number k_is_written_number
  have b_is_written_number := F_is_written_number.binds (ps := ["text"]) fun _ _ _ _ _ _ us hl => match us, hl with | [_], _ => rfl
  have m_is_written_number := PySem.W.mg_of X G a_is_written_number
  have F_law_whole := fun_mk (st := s_law_whole) l_law_whole c_law_whole k_law_whole
  have b_law_whole := F_law_whole.binds (ps := ["_law_found"]) fun _ _ _ _ _ _ us hl => match us, hl with | [_], _ => rfl
  have m_law_whole := PySem.W.mg_of X G a_law_whole
  have F_law_at := fun_mk (st := s_law_at) l_law_at c_law_at k_law_at
  have b_law_at := F_law_at.binds (ps := ["_law_script", "_law_k"]) fun _ _ _ _ _ _ us hl => match us, hl with | [_, _], _ => rfl
  have m_law_at := PySem.W.mg_of X G a_law_at
  have F_law_part_by := fun_mk (st := s_law_part_by) l_law_part_by c_law_part_by k_law_part_by
  have b_law_part_by := F_law_part_by.binds (ps := ["_law_cell"]) fun _ _ _ _ _ _ us hl => match us, hl with | [_], _ => rfl
  have m_law_part_by := PySem.W.mg_of X G a_law_part_by
  have F_law_atom_by := fun_mk (st := s_law_atom_by) l_law_atom_by c_law_atom_by k_law_atom_by
  have b_law_atom_by := F_law_atom_by.binds (ps := ["_law_cells"]) fun _ _ _ _ _ _ us hl => match us, hl with | [_], _ => rfl
  have m_law_atom_by := PySem.W.mg_of X G a_law_atom_by
  have F_law_atoms_by := fun_mk (st := s_law_atoms_by) l_law_atoms_by c_law_atoms_by k_law_atoms_by
  have b_law_atoms_by := F_law_atoms_by.binds (ps := ["_law_cells"]) fun _ _ _ _ _ _ us hl => match us, hl with | [_], _ => rfl
  have m_law_atoms_by := PySem.W.mg_of X G a_law_atoms_by
  have F_law_written := fun_mk (st := s_law_written) l_law_written c_law_written k_law_written
  have b_law_written := F_law_written.binds (ps := ["_law_atoms"]) fun _ _ _ _ _ _ us hl => match us, hl with | [_], _ => rfl
  have m_law_written := PySem.W.mg_of X G a_law_written
  have F_law_spoilt := fun_mk (st := s_law_spoilt) l_law_spoilt c_law_spoilt k_law_spoilt
  have b_law_spoilt := F_law_spoilt.binds (ps := ["_law_line", "_law_way", "_law_spot", "_law_sign"]) fun _ _ _ _ _ _ us hl => match us, hl with | [_, _, _, _], _ => rfl
  have m_law_spoilt := PySem.W.mg_of X G a_law_spoilt
  have F_law_two_texts := fun_mk (st := s_law_two_texts) l_law_two_texts c_law_two_texts k_law_two_texts
  have b_law_two_texts := F_law_two_texts.binds (ps := ["_law_script", "_law_way"]) fun _ _ _ _ _ _ us hl => match us, hl with | [_, _], _ => rfl
  have m_law_two_texts := PySem.W.mg_of X G a_law_two_texts
  have F_law_some_line := fun_mk (st := s_law_some_line) l_law_some_line c_law_some_line k_law_some_line
  have b_law_some_line := F_law_some_line.binds (ps := ["_law_script"]) fun _ _ _ _ _ _ us hl => match us, hl with | [_], _ => rfl
  have m_law_some_line := PySem.W.mg_of X G a_law_some_line
  have F_law_is_word := fun_mk (st := s_law_is_word) l_law_is_word c_law_is_word k_law_is_word
  have b_law_is_word := F_law_is_word.binds (ps := ["_law_one"]) fun _ _ _ _ _ _ us hl => match us, hl with | [_], _ => rfl
  have m_law_is_word := PySem.W.mg_of X G a_law_is_word
  have F_law_an_atom := fun_mk (st := s_law_an_atom) l_law_an_atom c_law_an_atom k_law_an_atom
  have b_law_an_atom := F_law_an_atom.binds (ps := ["_law_found"]) fun _ _ _ _ _ _ us hl => match us, hl with | [_], _ => rfl
  have m_law_an_atom := PySem.W.mg_of X G a_law_an_atom
  have F_law_a_rule := fun_mk (st := s_law_a_rule) l_law_a_rule c_law_a_rule k_law_a_rule
  have b_law_a_rule := F_law_a_rule.binds (ps := ["_law_found"]) fun _ _ _ _ _ _ us hl => match us, hl with | [_], _ => rfl
  have m_law_a_rule := PySem.W.mg_of X G a_law_a_rule
  have F_law_refuses := fun_mk (st := s_law_refuses) l_law_refuses c_law_refuses k_law_refuses
  have b_law_refuses := F_law_refuses.binds (ps := ["_law_line"]) fun _ _ _ _ _ _ us hl => match us, hl with | [_], _ => rfl
  have m_law_refuses := PySem.W.mg_of X G a_law_refuses
  have F_law := fun_mk (st := s_law) l_law c_law k_law
  have c_SMALL : mg "SMALL" = some (.str "abcdefghijklmnopqrstuvwxyz" t_SMALL) ∧ RelV (.str "abcdefghijklmnopqrstuvwxyz") (.str "abcdefghijklmnopqrstuvwxyz" t_SMALL) := ⟨PySem.W.mg_of X G u_SMALL, ⟨_, rfl⟩⟩
  have c_GREAT : mg "GREAT" = some (.str "ABCDEFGHIJKLMNOPQRSTUVWXYZ" t_GREAT) ∧ RelV (.str "ABCDEFGHIJKLMNOPQRSTUVWXYZ") (.str "ABCDEFGHIJKLMNOPQRSTUVWXYZ" t_GREAT) := ⟨PySem.W.mg_of X G u_GREAT, ⟨_, rfl⟩⟩
  have c_FIGURES : mg "FIGURES" = some (.str "0123456789" t_FIGURES) ∧ RelV (.str "0123456789") (.str "0123456789" t_FIGURES) := ⟨PySem.W.mg_of X G u_FIGURES, ⟨_, rfl⟩⟩
  have X_BadHead : XInfo K mg "BadHead" A_BadHead := ⟨PySem.W.mg_of X G n_BadHead, e_BadHead⟩
  have X_BadGuard : XInfo K mg "BadGuard" A_BadGuard := ⟨PySem.W.mg_of X G n_BadGuard, e_BadGuard⟩
  have X_LooseBlank : XInfo K mg "LooseBlank" A_LooseBlank := ⟨PySem.W.mg_of X G n_LooseBlank, e_LooseBlank⟩
  have X_LoomError : XInfo K mg "LoomError" A_LoomError := ⟨PySem.W.mg_of X G n_LoomError, e_LoomError⟩
  have X_NotTold : XInfo K mg "NotTold" A_NotTold := ⟨PySem.W.mg_of X G n_NotTold, e_NotTold⟩
  have X_NoRule : XInfo K mg "NoRule" A_NoRule := ⟨PySem.W.mg_of X G n_NoRule, e_NoRule⟩
  have B_ValueError : mg "ValueError" = none := PySem.W.mg_none_of X G z_ValueError
  refine ⟨PySem.W.fnOf "law" "law" (defArgs s_law) (defBody s_law) (defScope s_law) .none kV_law dc_law pm_law an_law cd_law ct_law, fun s v => .of_eq rfl, fun base _ _ => ?_⟩
  have KN : KitN K A_NoRule A_BadHead A_BadGuard A_LooseBlank A_NotTold A_LoomError := ⟨⟨x1_r, x2_r, x3_r, x4_r, x5_r⟩, kit_of t_h x4_h m_hh m_rh, kit_of t_g x4_g m_gg m_rg, kit_of t_b x4_b m_bb m_rb, kit_of t_n x4_n m_nn m_rn, kit_of t_r x4_r m_rr m_rr, kit_ve m_rv, exm_of t_l x4_l m_rl, exm_of t_r x4_r m_rr⟩
  have G_has_only : Has l.prog w K mg base 1 "has_only" ["text", "signs"] (spR RHasOnly) := ⟨f_has_only, _, ok_has_only F_has_only B , b_has_only, k_has_only, m_has_only⟩
  have G_is_word : Has l.prog w K mg base 2 "is_word" ["text"] (spR RIsWord) := ⟨f_is_word, _, ok_is_word F_is_word B c_SMALL G_has_only, b_is_word, k_is_word, m_is_word⟩
  have G_is_written_blank : Has l.prog w K mg base 2 "is_written_blank" ["text"] (spR RIsBlk) := ⟨f_is_written_blank, _, ok_is_written_blank F_is_written_blank B c_SMALL c_GREAT G_has_only, b_is_written_blank, k_is_written_blank, m_is_written_blank⟩
  have G_is_written_number : Has l.prog w K mg base 2 "is_written_number" ["text"] (spR RIsNum) := ⟨f_is_written_number, _, ok_is_written_number F_is_written_number B c_FIGURES G_has_only, b_is_written_number, k_is_written_number, m_is_written_number⟩
  have G_read_part : HasA l.prog w K mg base 3 "read_part" ["text"] (spO A_NoRule RReadPart) := ⟨f_read_part, _, ok_read_part F_read_part B X_NoRule G_is_word G_is_written_blank G_is_written_number, b_read_part, k_read_part, m_read_part⟩
  have G_read_atom : HasA l.prog w K mg base 4 "read_atom" ["text"] (spO A_NoRule RReadAtom) := ⟨f_read_atom, _, ok_read_atom F_read_atom B X_NoRule G_is_word G_read_part, b_read_atom, k_read_atom, m_read_atom⟩
  have G_read : HasA l.prog w K mg base 5 "read" ["line"] (spO A_NoRule RRead) := ⟨f_read, _, ok_read F_read B G_read_atom, b_read, k_read, m_read⟩
  have G_law_whole : Has l.prog w K mg base 1 "_law_whole" ["_law_found"] (spR RWhole) := ⟨f_law_whole, _, ok_law_whole F_law_whole B , b_law_whole, k_law_whole, m_law_whole⟩
  have G_law_at : Has l.prog w K mg base 1 "_law_at" ["_law_script", "_law_k"] (spR RAt) := ⟨f_law_at, _, ok_law_at F_law_at B , b_law_at, k_law_at, m_law_at⟩
  have G_law_part_by : Has l.prog w K mg base 1 "_law_part_by" ["_law_cell"] (spR RPartBy) := ⟨f_law_part_by, _, ok_law_part_by F_law_part_by B , b_law_part_by, k_law_part_by, m_law_part_by⟩
  have G_law_atom_by : Has l.prog w K mg base 2 "_law_atom_by" ["_law_cells"] (spR RAtomBy) := ⟨f_law_atom_by, _, ok_law_atom_by F_law_atom_by B G_law_part_by, b_law_atom_by, k_law_atom_by, m_law_atom_by⟩
  have G_law_atoms_by : Has l.prog w K mg base 3 "_law_atoms_by" ["_law_cells"] (spR RAtomsBy) := ⟨f_law_atoms_by, _, ok_law_atoms_by F_law_atoms_by B G_law_atom_by, b_law_atoms_by, k_law_atoms_by, m_law_atoms_by⟩
  have G_law_written : Has l.prog w K mg base 1 "_law_written" ["_law_atoms"] (spR RWritten) := ⟨f_law_written, _, ok_law_written F_law_written B , b_law_written, k_law_written, m_law_written⟩
  have G_law_spoilt : Has l.prog w K mg base 1 "_law_spoilt" ["_law_line", "_law_way", "_law_spot", "_law_sign"] (spR RSpoilt) := ⟨f_law_spoilt, _, ok_law_spoilt F_law_spoilt B , b_law_spoilt, k_law_spoilt, m_law_spoilt⟩
  have G_law_two_texts : Has l.prog w K mg base 2 "_law_two_texts" ["_law_script", "_law_way"] (spR RTwo) := ⟨f_law_two_texts, _, ok_law_two_texts F_law_two_texts B G_law_at, b_law_two_texts, k_law_two_texts, m_law_two_texts⟩
  have G_law_some_line : Has l.prog w K mg base 4 "_law_some_line" ["_law_script"] (spR RSome) := ⟨f_law_some_line, _, ok_law_some_line F_law_some_line B G_law_at G_law_two_texts G_law_atoms_by G_law_written G_law_spoilt, b_law_some_line, k_law_some_line, m_law_some_line⟩
  have G_law_is_word : Has l.prog w K mg base 1 "_law_is_word" ["_law_one"] (spR RIsW) := ⟨f_law_is_word, _, ok_law_is_word F_law_is_word B , b_law_is_word, k_law_is_word, m_law_is_word⟩
  have G_law_an_atom : Has l.prog w K mg base 2 "_law_an_atom" ["_law_found"] (spR RAnAtom) := ⟨f_law_an_atom, _, ok_law_an_atom F_law_an_atom B G_law_whole G_law_is_word, b_law_an_atom, k_law_an_atom, m_law_an_atom⟩
  have G_law_a_rule : Has l.prog w K mg base 3 "_law_a_rule" ["_law_found"] (spR RARule) := ⟨f_law_a_rule, _, ok_law_a_rule F_law_a_rule B G_law_an_atom, b_law_a_rule, k_law_a_rule, m_law_a_rule⟩
  have G_law_refuses : Has l.prog w K mg base 6 "_law_refuses" ["_law_line"] (spR RRefuses) := ⟨f_law_refuses, _, ok_law_refuses F_law_refuses B KN X_BadHead X_BadGuard X_LooseBlank X_LoomError X_NotTold X_NoRule B_ValueError G_read, b_law_refuses, k_law_refuses, m_law_refuses⟩
  exact ok_law F_law B KN X_NoRule G_law_at G_law_some_line G_read G_law_refuses G_law_a_rule G_law_written
theorem walk {l : PySem.W.OpenLaw} {q : Program} {loose : List Str} {XP : (Str → Option Value) → Heap → Prop} {YP : World → Heap → Prop} {d : DefRec} {K : Params → PySem.W.Frag} (hn : l.most = some 63) (hdf : d.params.defaults = [])
    (hY : ∀ (w : World) (h : Heap), YP w h → (K w.params).In h)
    (F : ∀ (w : World) (mg : Str → Option Value) (fa : Addr) (h : Heap), (K w.params).In h → h.Ns mainGlobals mg → mg d.name = some (.ref fa) →
      ∃ fd : FuncData, (∀ (s : Shared) (u : Value), BindsTo s fd ⟨[u], []⟩ [("_law_script", u)]) ∧ ∀ base : Heap, (K w.params).In base → base.Ns mainGlobals mg → FnOk l.prog w (K w.params) mg base CX0 8 fa fd ["_law_script"] (spLaw (K w.params))) :
    PySem.W.WalkO q loose XP YP l.row.toRowW d [] (fun f vs => PySem.call f vs) :=
  L2.walk_of (n := 63) (k := 8) (x := "_law_script") (CX := fun _ => CX0) (sp := fun w => spLaw (K w.params)) hn (by decide) hdf ⟨rfl, by decide, by decide⟩ hY F (fun _ _ a ns hl _ hS => ⟨a, ns, rfl, hS, hl, fun _ => rfl⟩) fun _ _ _ _ _ z => z
end K12
open PySem PySem.W PyProof.Rows
set_option maxRecDepth 100000 in
set_option maxHeartbeats 0 in
theorem PySem.Challenge.cw_factloom_k12_whole_read_and_shown_holds : PySem.Challenge.rw_factloom_k12_whole_read_and_shown.Holds := by
  w_on; o_law; k_head; (case hw => w_witness2)
  k_fill
  refine K12.walk (l := PySem.Challenge.rw_factloom_k12_whole_read_and_shown) rfl rfl (fun w h Y => PySem.W.kIn_of Y) ?F
  case F =>
    intro w mg fa h KX G hmg
    refine' K12.all_mk KX G hmg ?a_read ?l_read ?c_read ?k_read ?a_read_atom ?l_read_atom ?c_read_atom ?k_read_atom ?a_read_part ?l_read_part ?c_read_part ?k_read_part ?a_has_only ?l_has_only ?c_has_only ?k_has_only ?a_is_word ?l_is_word ?c_is_word ?k_is_word ?a_is_written_blank ?l_is_written_blank ?c_is_written_blank ?k_is_written_blank ?a_is_written_number ?l_is_written_number ?c_is_written_number ?k_is_written_number ?a_law_whole ?l_law_whole ?c_law_whole ?k_law_whole ?a_law_at ?l_law_at ?c_law_at ?k_law_at ?a_law_part_by ?l_law_part_by ?c_law_part_by ?k_law_part_by ?a_law_atom_by ?l_law_atom_by ?c_law_atom_by ?k_law_atom_by ?a_law_atoms_by ?l_law_atoms_by ?c_law_atoms_by ?k_law_atoms_by ?a_law_written ?l_law_written ?c_law_written ?k_law_written ?a_law_spoilt ?l_law_spoilt ?c_law_spoilt ?k_law_spoilt ?a_law_two_texts ?l_law_two_texts ?c_law_two_texts ?k_law_two_texts ?a_law_some_line ?l_law_some_line ?c_law_some_line ?k_law_some_line ?a_law_is_word ?l_law_is_word ?c_law_is_word ?k_law_is_word ?a_law_an_atom ?l_law_an_atom ?c_law_an_atom ?k_law_an_atom ?a_law_a_rule ?l_law_a_rule ?c_law_a_rule ?k_law_a_rule ?a_law_refuses ?l_law_refuses ?c_law_refuses ?k_law_refuses ?a_law ?l_law ?c_law ?k_law ?u_SMALL ?u_GREAT ?u_FIGURES ?n_BadHead ?e_BadHead ?n_BadGuard ?e_BadGuard ?n_LooseBlank ?e_LooseBlank ?n_LoomError ?e_LoomError ?n_NotTold ?e_NotTold ?n_NoRule ?e_NoRule ?t_h ?x4_h ?t_g ?x4_g ?t_b ?x4_b ?t_l ?x4_l ?t_n ?x4_n ?t_r ?x4_r ?x1_r ?x2_r ?x3_r ?x5_r ?m_rh ?m_rg ?m_rb ?m_rn ?m_rr ?m_rl ?m_rv ?m_hh ?m_gg ?m_bb ?m_nn ?z_ValueError ?z_len ?z_isinstance ?z_range ?z_int ?z_str ?z_bool ?z_list ?z_tuple ?z_dict ?z_zip ?z_enumerate ?z_all ?z_reversed
    (case a_read => k_is)
    (case l_read => k_is)
    (case c_read => k_is)
    (case k_read => k_is)
    (case a_read_atom => k_is)
    (case l_read_atom => k_is)
    (case c_read_atom => k_is)
    (case k_read_atom => k_is)
    (case a_read_part => k_is)
    (case l_read_part => k_is)
    (case c_read_part => k_is)
    (case k_read_part => k_is)
    (case a_has_only => k_is)
    (case l_has_only => k_is)
    (case c_has_only => k_is)
    (case k_has_only => k_is)
    (case a_is_word => k_is)
    (case l_is_word => k_is)
    (case c_is_word => k_is)
    (case k_is_word => k_is)
    (case a_is_written_blank => k_is)
    (case l_is_written_blank => k_is)
    (case c_is_written_blank => k_is)
    (case k_is_written_blank => k_is)
    (case a_is_written_number => k_is)
    (case l_is_written_number => k_is)
    (case c_is_written_number => k_is)
    (case k_is_written_number => k_is)
    (case a_law_whole => k_is)
    (case l_law_whole => k_is)
    (case c_law_whole => k_is)
    (case k_law_whole => k_is)
    (case a_law_at => k_is)
    (case l_law_at => k_is)
    (case c_law_at => k_is)
    (case k_law_at => k_is)
    (case a_law_part_by => k_is)
    (case l_law_part_by => k_is)
    (case c_law_part_by => k_is)
    (case k_law_part_by => k_is)
    (case a_law_atom_by => k_is)
    (case l_law_atom_by => k_is)
    (case c_law_atom_by => k_is)
    (case k_law_atom_by => k_is)
    (case a_law_atoms_by => k_is)
    (case l_law_atoms_by => k_is)
    (case c_law_atoms_by => k_is)
    (case k_law_atoms_by => k_is)
    (case a_law_written => k_is)
    (case l_law_written => k_is)
    (case c_law_written => k_is)
    (case k_law_written => k_is)
    (case a_law_spoilt => k_is)
    (case l_law_spoilt => k_is)
    (case c_law_spoilt => k_is)
    (case k_law_spoilt => k_is)
    (case a_law_two_texts => k_is)
    (case l_law_two_texts => k_is)
    (case c_law_two_texts => k_is)
    (case k_law_two_texts => k_is)
    (case a_law_some_line => k_is)
    (case l_law_some_line => k_is)
    (case c_law_some_line => k_is)
    (case k_law_some_line => k_is)
    (case a_law_is_word => k_is)
    (case l_law_is_word => k_is)
    (case c_law_is_word => k_is)
    (case k_law_is_word => k_is)
    (case a_law_an_atom => k_is)
    (case l_law_an_atom => k_is)
    (case c_law_an_atom => k_is)
    (case k_law_an_atom => k_is)
    (case a_law_a_rule => k_is)
    (case l_law_a_rule => k_is)
    (case c_law_a_rule => k_is)
    (case k_law_a_rule => k_is)
    (case a_law_refuses => k_is)
    (case l_law_refuses => k_is)
    (case c_law_refuses => k_is)
    (case k_law_refuses => k_is)
    (case a_law => k_is)
    (case l_law => k_is)
    (case c_law => k_is)
    (case k_law => k_is)
    (case u_SMALL => k_is)
    (case u_GREAT => k_is)
    (case u_FIGURES => k_is)
    (case n_BadHead => k_is)
    (case e_BadHead => k_exc)
    (case n_BadGuard => k_is)
    (case e_BadGuard => k_exc)
    (case n_LooseBlank => k_is)
    (case e_LooseBlank => k_exc)
    (case n_LoomError => k_is)
    (case e_LoomError => k_exc)
    (case n_NotTold => k_is)
    (case e_NotTold => k_exc)
    (case n_NoRule => k_is)
    (case e_NoRule => k_exc)
    (case t_h => k_is)
    (case x4_h => k_is)
    (case t_g => k_is)
    (case x4_g => k_is)
    (case t_b => k_is)
    (case x4_b => k_is)
    (case t_l => k_is)
    (case x4_l => k_is)
    (case t_n => k_is)
    (case x4_n => k_is)
    (case t_r => k_is)
    (case x4_r => k_is)
    (case x1_r => k_is)
    (case x2_r => k_is)
    (case x3_r => k_is)
    (case x5_r => k_is)
    (case m_rh => k_is)
    (case m_rg => k_is)
    (case m_rb => k_is)
    (case m_rn => k_is)
    (case m_rr => k_is)
    (case m_rl => k_is)
    (case m_rv => k_is)
    (case m_hh => k_is)
    (case m_gg => k_is)
    (case m_bb => k_is)
    (case m_nn => k_is)
    (case z_ValueError => k_is)
    (case z_len => k_is)
    (case z_isinstance => k_is)
    (case z_range => k_is)
    (case z_int => k_is)
    (case z_str => k_is)
    (case z_bool => k_is)
    (case z_list => k_is)
    (case z_tuple => k_is)
    (case z_dict => k_is)
    (case z_zip => k_is)
    (case z_enumerate => k_is)
    (case z_all => k_is)
    (case z_reversed => k_is)
