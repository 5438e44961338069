import PyProof.Rows.All
import Wide.All
import OpenK.AllK
import Wide.FinOn
import Lean
import PyProof.EqAt
import PyProof.EqKinds
import PyProof.TupleCall
import PyProof.Rows.StrJoin2
import PyProof.TupleOfGen
import PyProof.ListRange
import PyProof.Draws
import PyProof.Rows.StrClose3
import KE.KSortedM
import PyProof.Rows.SortWalk
import PyProof.WalkInts
import PyProof.Rows.Range3
import PyProof.ZipIter
import PyProof.ConsumeWalk
import PyProof.Rows.SeqMore
import KE.KRevIter
import KE.KRevSl
import KE.KUnpack
import PySem.Challenge.RW_bearfaults_k20_chains_of_nots
noncomputable section
set_option Elab.async false
set_option linter.all false
set_option maxRecDepth 100000
set_option maxHeartbeats 4000000

section
-- CHANGE: your row's module here, as the last of these rows
set_option maxRecDepth 100000
/-! THE HAND LAYER, for ints, bools, texts, own classes, DICTS (int and text keys), calls, loops. Paste it whole ahead of your own text; what your proof does not reach may be deleted. -/
namespace L2
open PySem PySem.Spec PyProof.Rows

/-- a key: an int or a str -/
abbrev Key := Sum Int Str
def keyIs : Key → Value → Bool
  | .inl k, v => Value.isInt k v
  | .inr x, v => Value.isStrOf x v
def keyH (w : World) : Key → Int
  | .inl k => hashInt k
  | .inr x => hashStr w x
theorem keyIs_shape : ∀ {k : Key} {v : Value}, keyIs k v = true → (∃ i t, k = Sum.inl i ∧ v = Value.int i t) ∨ (∃ x t, k = Sum.inr x ∧ v = Value.str x t)
  | .inl i, v, h => by
    obtain ⟨t, e⟩ := Value.isInt_shape (k := i) (v := v) h
    exact .inl ⟨i, t, rfl, e⟩
  | .inr x, v, h => by
    obtain ⟨t, e⟩ := Value.isStrOf_shape (x := x) (v := v) h
    exact .inr ⟨x, t, rfl, e⟩
theorem key_ll (a b : Int) : decide ((Sum.inl a : Key) = Sum.inl b) = (a == b) := by
  by_cases e : a = b
  · subst e; simp
  · have h : ¬ (Sum.inl a : Key) = Sum.inl b := fun q => e (Sum.inl.inj q)
    rw [decide_eq_false h]
    exact (beq_eq_false_iff_ne.mpr e).symm
theorem key_rr (a b : Str) : decide ((Sum.inr a : Key) = Sum.inr b) = decide (a = b) := by
  by_cases e : a = b
  · subst e; simp
  · have h : ¬ (Sum.inr a : Key) = Sum.inr b := fun q => e (Sum.inr.inj q)
    rw [decide_eq_false h, decide_eq_false e]
theorem key_lr (a : Int) (b : Str) : decide ((Sum.inl a : Key) = Sum.inr b) = false := decide_eq_false (fun q => nomatch q)
theorem key_rl (a : Str) (b : Int) : decide ((Sum.inr a : Key) = Sum.inl b) = false := decide_eq_false (fun q => nomatch q)

def mixKind (prog : Program) (w : World) : PySem.KeyKind prog w Key where
  is := keyIs
  hash := keyH w
  inj := fun v a b ha hb => by
    rcases keyIs_shape ha with ⟨i, t, rfl, rfl⟩ | ⟨x, t, rfl, rfl⟩
    · rcases keyIs_shape hb with ⟨j, u, rfl, e⟩ | ⟨y, u, rfl, e⟩
      · injection e with e1 _; rw [e1]
      · exact nomatch e
    · rcases keyIs_shape hb with ⟨j, u, rfl, e⟩ | ⟨y, u, rfl, e⟩
      · exact nomatch e
      · injection e with e1 _; rw [e1]
  byValue := fun k v h => by
    rcases keyIs_shape h with ⟨i, t, rfl, rfl⟩ | ⟨x, t, rfl, rfl⟩ <;> rfl
  pyHash := fun hv h => by
    rcases keyIs_shape hv with ⟨i, t, rfl, rfl⟩ | ⟨x, t, rfl, rfl⟩
    · exact wpAny_pyHash_int h
    · exact wpAny_pyHash_str h
  eqBool := fun hu hv h => by
    rcases keyIs_shape hu with ⟨i, t, rfl, rfl⟩ | ⟨x, t, rfl, rfl⟩
    · rcases keyIs_shape hv with ⟨j, u, rfl, rfl⟩ | ⟨y, u, rfl, rfl⟩
      · rw [key_ll] at h; exact wpAny_eqBool_int h
      · rw [key_lr] at h; exact SeqAt.EqAt.int_str i t y u _ _ _ _ h
    · rcases keyIs_shape hv with ⟨j, u, rfl, rfl⟩ | ⟨y, u, rfl, rfl⟩
      · rw [key_rl] at h; exact SeqAt.EqAt.str_int x t j u _ _ _ _ h
      · rw [key_rr] at h; exact wpAny_eqBool_str h
  «strs» := fun k x t v h => by
    rcases keyIs_shape h with ⟨i, u, rfl, e⟩ | ⟨y, u, rfl, e⟩
    · exact nomatch e
    · injection e with e1 _
      subst e1
      cases v <;> rfl

end L2

namespace L2
open PySem PySem.Spec PyProof.Rows

/-- a value, without the heap -/
inductive V where
  | non | bl (b : Bool) | int (i : Int) | str (x : Str) | byt (b : Array UInt8) | flt (b : UInt64) | ref (a : Addr) | ty (n : String)
  deriving DecidableEq

def RelV : V → Value → Prop
  | .non, u => u = Value.none
  | .bl b, u => u = Value.bool b
  | .int i, u => ∃ t, u = Value.int i t
  | .str x, u => ∃ t, u = Value.str x t
  | .byt b, u => ∃ t, u = Value.bytes b t
  | .flt b, u => ∃ t, u = Value.float b t
  | .ref a, u => u = Value.ref a
  | .ty n, u => u = Value.type n

abbrev Vals : List V → List Value → Prop := Paired RelV
theorem Vals.length {xs : List V} {us : List Value} (r : Vals xs us) : xs.length = us.length := Paired.length r
theorem Vals.get : ∀ {xs : List V} {us : List Value} {i : Nat} {x : V}, Vals xs us → xs[i]? = some x → ∃ u, us[i]? = some u ∧ RelV x u
  | _, _, _, _, .nil, e => by simp at e
  | _, _, 0, _, .cons r _, e => by simp at e; subst e; exact ⟨_, rfl, r⟩
  | _, _, i + 1, x, .cons _ t, e => by
    obtain ⟨u, h1, h2⟩ := Vals.get (i := i) (x := x) t (by simpa using e)
    exact ⟨u, by simpa using h1, h2⟩
theorem Vals.set {x : V} {u : Value} (r : RelV x u) : ∀ {xs : List V} {us : List Value} (i : Nat), Vals xs us → Vals (xs.set i x) (us.set i u)
  | _, _, _, .nil => .nil
  | _, _, 0, .cons _ t => .cons r t
  | _, _, i + 1, .cons q t => .cons q (Vals.set r i t)
theorem Vals.append : ∀ {xs ys : List V} {us ws : List Value}, Vals xs us → Vals ys ws → Vals (xs ++ ys) (us ++ ws)
  | _, _, _, _, .nil, s => s
  | _, _, _, _, .cons r t, s => .cons r (Vals.append t s)
theorem Vals.take : ∀ {xs : List V} {us : List Value} (n : Nat), Vals xs us → Vals (xs.take n) (us.take n)
  | _, _, 0, _ => .nil
  | _, _, _ + 1, .nil => .nil
  | _, _, n + 1, .cons r t => .cons r (Vals.take n t)
theorem Vals.drop : ∀ {xs : List V} {us : List Value} (n : Nat), Vals xs us → Vals (xs.drop n) (us.drop n)
  | _, _, 0, r => r
  | _, _, _ + 1, .nil => .nil
  | _, _, n + 1, .cons _ t => Vals.drop n t
def RelO : Option V → Option Value → Prop
  | some v, some u => RelV v u
  | none, none => True
  | _, _ => False
def KV {κ : Type} : List (κ × V) → List (κ × Value) → Prop := Paired fun (p : κ × V) (q : κ × Value) => p.1 = q.1 ∧ RelV p.2 q.2

/-- a key of a dict (00_mix): an int or a text -/
def kV : Key → V
  | .inl i => .int i
  | .inr x => .str x

/-- what stands at a tracked address -/
inductive HO where
  /-- a list -/
  | lst (xs : List V)
  /-- a tuple (never changes) -/
  | tup (xs : List V)
  /-- a dict whose keys are ints and texts; one whose keys are tuples of ints and texts (the empty one is both) -/
  | dK (kvs : List (Key × V)) | dT (kvs : List (List Key × V))
  /-- a set of ints: its members, its size -/
  | set (S : Int → Bool) (n : Nat)
  /-- an instance of the class at C, its dict at dx, its attributes -/
  | ins (C dx : Addr) (fs : List (Str × V))
  /-- the dict of the instance at x -/
  | own (x : Addr)
  /-- the dict of an exception -/
  | xd (fs : List (Str × V))
  /-- a bound method, f of x -/
  | met (f x : Addr)
  /-- a range object lo, lo + 1, .. below hi -/
  | rng (lo hi : Int)
  /-- a thing that is known to the object (the script; a dict while a loop walks it): read, never written while it is so -/
  | frz (o : Obj) (u : HO)
  /-- a code object's table -/
  | tbl (ps : Array Value)
  /-- any other thing, by what is true of its one object (a def of one's own: SetO a S n := HO.ext fun h => ..) -/
  | ext (φ : Heap → Prop)

abbrev Hp := Addr → Option HO
def upd (H : Hp) (a : Addr) (o : HO) : Hp := fun b => if b = a then some o else H b
theorem upd_same {H : Hp} {a : Addr} {o : HO} : upd H a o a = some o := by unfold upd; rw [if_pos rfl]
theorem upd_ne {H : Hp} {a b : Addr} {o : HO} (h : b ≠ a) : upd H a o b = H b := by unfold upd; rw [if_neg h]
theorem ne_of_none {H : Hp} {a b : Addr} {o : HO} (h : H a = some o) (h' : H b = none) : a ≠ b := by
  intro e; subst e; rw [h] at h'; cases h'

section
variable (P : Program) (w : World)
def ObjOk (H : Hp) (h : Heap) (a : Addr) : HO → Prop
  | .lst xs => xs.length ≤ sizeLine ∧ ∃ (its : List Value) (n : Nat), Vals xs its ∧ h.get? a = some { cls := .type "list", data := .seq its.toArray n }
  | .tup xs => xs.length ≤ sizeLine ∧ ∃ its : List Value, Vals xs its ∧ IsTup h a its.toArray
  | .dK kvs => kvs.length ≤ sizeLine ∧ (a == sysModules) = false ∧ ∃ vs, KV kvs vs ∧ h.DictOf (mixKind P w) a vs
  | .dT kvs => kvs.length ≤ sizeLine ∧ (a == sysModules) = false ∧ ∃ xs : List (List Key × Addr × Value),
      Paired (fun (p : List Key × V) (q : List Key × Addr × Value) => p.1 = q.1 ∧ H q.2.1 = some (.tup (p.1.map kV)) ∧ RelV p.2 q.2.2) kvs xs ∧
      ∃ o es ep, h.get? a = some o ∧ o.ExactDict ∧ o.data = .dict es ep ∧ es.toList = xs.map (entryOfKey (tupleKind (mixKind P w))) ∧ (xs.map (·.1)).Nodup
  | .set S n => h.SetOf (intKind P w) a S n
  | .ins C dx fs => H dx = some (.own a) ∧ fs.length ≤ 1000 ∧ dx ≠ a ∧ h.get? a = some (PySem.W.instObj C dx) ∧
      ∃ mA, h.Ns1 dx mA ∧ (∀ f, RelO (fs.lookup f) (mA f)) ∧ PySem.Within mA (fs.map (·.1))
  | .own _ => ∃ o, h.get? a = some o
  | .xd fs => ∃ mA, h.Ns1 a mA ∧ ∀ f, RelO (fs.lookup f) (mA f)
  | .rng lo hi => ∃ t u v, h.get? a = some { cls := .type "range", data := .fields #[.int lo t, .int hi u, .int 1 v] }
  | .frz o u => h.get? a = some o ∧ ObjOk H h a u
  | .tbl ps => h.get? a = some { cls := .none, data := .fields ps }
  | .met f x => h.get? a = some (PySem.W.methodObj (.ref f) (.ref x))
  | .ext φ => φ h ∧ (∃ o, h.get? a = some o) ∧ ∀ h1 h2 : Heap, φ h1 → (∀ o, h1.get? a = some o → h2.get? a = some o) → φ h2
/-- the abstract heap is held -/
def HOk (H : Hp) (h : Heap) : Prop := ∀ a o, H a = some o → ObjOk P w H h a o
end

section
variable {P : Program} {w : World} {H H' : Hp} {h h' : Heap} {a : Addr} {o : HO}
theorem ObjOk.lt (x : ObjOk P w H h a o) : a < h.objs.size := by
  cases o with
  | lst xs => obtain ⟨_, _, _, _, e⟩ := x; exact Heap.lt_size e
  | tup xs => obtain ⟨_, _, _, p⟩ := x; exact p.lt
  | dK kvs => obtain ⟨_, _, _, _, o, _, _, e, _⟩ := x; exact Heap.lt_size e
  | dT kvs => obtain ⟨_, _, _, _, o, _, _, e, _⟩ := x; exact Heap.lt_size e
  | set S n => obtain ⟨o, _, _, _, e, _⟩ := x; exact Heap.lt_size e
  | ins C dx fs => obtain ⟨_, _, _, e, _⟩ := x; exact Heap.lt_size e
  | own y => obtain ⟨_, e⟩ := x; exact Heap.lt_size e
  | xd fs => obtain ⟨_, ⟨_, _, _, e, _⟩, _⟩ := x; exact Heap.lt_size e
  | rng lo hi => obtain ⟨_, _, _, e⟩ := x; exact Heap.lt_size e
  | frz ob u => obtain ⟨e, _⟩ := x; exact Heap.lt_size e
  | tbl ps => exact Heap.lt_size (show h.get? a = some _ from x)
  | met f y => exact Heap.lt_size (show h.get? a = some _ from x)
  | ext φ => obtain ⟨_, ⟨_, e⟩, _⟩ := x; exact Heap.lt_size e
theorem Paired.mapP {α β : Type} {F G : α → β → Prop} : ∀ {l₁ : List α} {l₂ : List β}, Paired F l₁ l₂ → (∀ a b, F a b → G a b) → Paired G l₁ l₂
  | _, _, .nil, _ => .nil
  | _, _, .cons r t, f => .cons (f _ _ r) (Paired.mapP t f)
/-- what an object's description leans on: its own object, its own dict, the tuples -/
theorem ObjOk.stay (x : ObjOk P w H h a o) (k : ∀ b u, (b = a ∨ H b = some (.own a)) → h.get? b = some u → h'.get? b = some u)
    (ho : ∀ b, H b = some (.own a) → H' b = some (.own a)) (ht : ∀ b xs, H b = some (.tup xs) → H' b = some (.tup xs)) : ObjOk P w H' h' a o := by
  induction o with
  | lst xs => obtain ⟨z, its, n, r, e⟩ := x; exact ⟨z, its, n, r, k _ _ (.inl rfl) e⟩
  | tup xs => obtain ⟨z, its, r, ob, e, c⟩ := x; exact ⟨z, its, r, ob, k _ _ (.inl rfl) e, c⟩
  | dK kvs => obtain ⟨z, y, vs, r, ob, es, ep, e, c⟩ := x; exact ⟨z, y, vs, r, ob, es, ep, k _ _ (.inl rfl) e, c⟩
  | dT kvs =>
    obtain ⟨z, y, xs, r, ob, es, ep, e, c⟩ := x
    exact ⟨z, y, xs, Paired.mapP r fun p q z => ⟨z.1, ht _ _ z.2.1, z.2.2⟩, ob, es, ep, k _ _ (.inl rfl) e, c⟩
  | set S n => obtain ⟨ob, es, ep, t, e, c⟩ := x; exact ⟨ob, es, ep, t, k _ _ (.inl rfl) e, c⟩
  | ins C dx fs =>
    obtain ⟨d, z, ne, e, mA, ⟨od, es, ep, e2, c⟩, r⟩ := x
    exact ⟨ho _ d, z, ne, k _ _ (.inl rfl) e, mA, ⟨od, es, ep, k _ _ (.inr d) e2, c⟩, r⟩
  | own y => obtain ⟨ob, e⟩ := x; exact ⟨ob, k _ _ (.inl rfl) e⟩
  | xd fs => obtain ⟨mA, ⟨od, es, ep, e, c⟩, r⟩ := x; exact ⟨mA, ⟨od, es, ep, k _ _ (.inl rfl) e, c⟩, r⟩
  | rng lo hi => obtain ⟨t, u, v, e⟩ := x; exact ⟨t, u, v, k _ _ (.inl rfl) e⟩
  | frz ob u ih => obtain ⟨e, q⟩ := x; exact ⟨k _ _ (.inl rfl) e, ih q⟩
  | tbl ps =>
    have e : h.get? a = some { cls := .none, data := .fields ps } := x
    show h'.get? a = some { cls := .none, data := .fields ps }
    exact k a _ (.inl rfl) e
  | met f y =>
    have e : h.get? a = some (PySem.W.methodObj (.ref f) (.ref y)) := x
    show h'.get? a = some (PySem.W.methodObj (.ref f) (.ref y))
    exact k a _ (.inl rfl) e
  | ext φ => obtain ⟨p, ⟨o, e⟩, st⟩ := x; exact ⟨st _ _ p fun o q => k _ _ (.inl rfl) q, ⟨o, k _ _ (.inl rfl) e⟩, st⟩
theorem HOk.lt (x : HOk P w H h) (e : H a = some o) : a < h.objs.size := (x a o e).lt
theorem HOk.fresh (x : HOk P w H h) (e : h.objs.size ≤ a) : H a = none := by
  cases q : H a with
  | none => rfl
  | some u => exact absurd (Nat.lt_of_lt_of_le (x.lt q) e) (Nat.lt_irrefl _)
/-- every object of the heap is kept -/
theorem HOk.kept (x : HOk P w H h) (k : ∀ b u, h.get? b = some u → h'.get? b = some u) : HOk P w H h' := fun a o e =>
  (x a o e).stay (fun b u _ q => k b u q) (fun _ q => q) fun _ _ q => q
/-- a new object is laid and tracked -/
theorem HOk.laid (x : HOk P w H h) (k : ∀ b u, h.get? b = some u → h'.get? b = some u) (hp : h.objs.size ≤ a) (new : ObjOk P w (upd H a o) h' a o) : HOk P w (upd H a o) h' := fun b u e => by
  have hn := x.fresh hp
  by_cases hb : b = a
  · subst hb; rw [upd_same] at e; cases e; exact new
  · rw [upd_ne hb] at e
    exact (x b u e).stay (fun c v _ q => k c v q) (fun c q => by rw [upd_ne (ne_of_none q hn)]; exact q) fun c xs q => by rw [upd_ne (ne_of_none q hn)]; exact q
end

/-- what may be read as u: it is u, or a known u -/
def Rd (H : Hp) (a : Addr) (u : HO) : Prop := H a = some u ∨ ∃ o, H a = some (.frz o u)
theorem Rd.ok {P : Program} {w : World} {H : Hp} {h : Heap} {a : Addr} {u : HO} (r : Rd H a u) (x : HOk P w H h) : ObjOk P w H h a u := by
  rcases r with r | ⟨o, r⟩
  · exact x a u r
  · obtain ⟨_, q⟩ := x a _ r
    exact q
/-- what may be written -/
def Mut : Option HO → Prop
  | some (.lst _) => True
  | some (.dK _) => True
  | some (.dT _) => True
  | some (.set _ _) => True
  | some (.ins _ _ _) => True
  | some (.ext _) => True
  | _ => False
section
variable {P : Program} {w : World} {H : Hp} {h h' : Heap} {x e : Addr} {o' : HO}
/-- the object at e is changed: x itself, or the dict of the instance x -/
theorem HOk.write (ok : HOk P w H h) (mu : Mut (H x)) (he : e = x ∨ H e = some (.own x)) (k : ∀ b u, b ≠ e → h.get? b = some u → h'.get? b = some u) (heo : ∃ u, h'.get? e = some u)
    (new : ObjOk P w (upd H x o') h' x o') : HOk P w (upd H x o') h' := fun b u q => by
  have nown : ∀ c y, H c = some (.own y) → c ≠ x := fun c y r z => by subst z; rw [r] at mu; exact mu
  have ntup : ∀ c xs, H c = some (.tup xs) → c ≠ x := fun c xs r z => by subst z; rw [r] at mu; exact mu
  by_cases hb : b = x
  · subst hb; rw [upd_same] at q; cases q; exact new
  · rw [upd_ne hb] at q
    by_cases hbe : b = e
    · have q' : H b = some (.own x) := by
        rcases he with z | z
        · exact absurd (hbe.trans z) hb
        · rw [hbe]; exact z
      rw [q] at q'; cases q'
      obtain ⟨v, hv⟩ := heo
      exact ⟨v, by rw [hbe]; exact hv⟩
    · refine (ok b u q).stay (fun c v hc r => k c v ?_ r) (fun c r => by rw [upd_ne (nown c b r)]; exact r) fun c xs r => by rw [upd_ne (ntup c xs r)]; exact r
      rcases hc with rfl | hc
      · exact hbe
      · rintro rfl
        rcases he with z | z
        · exact nown c b hc z
        · rw [hc] at z; cases z; exact hb rfl
end

/-! ### kept unless tracked; of the frames at fs (the callers') the slots may change (an exception that passes writes there); of the records at ex (iterators) nothing is said -/
structure Un (fs ex : List Addr) (H H' : Hp) (h h' : Heap) : Prop where
  keep : ∀ b o, h.get? b = some o → H b = none → b ∉ fs → b ∉ ex → h'.get? b = some o
  slot : ∀ b o, h.get? b = some o → H b = none → b ∈ fs → b ∉ ex → ∃ sl, h'.get? b = some { o with slots := sl }
  free : ∀ b o, h.get? b = some o → H b = none → b ∉ ex → H' b = none
  there : ∀ b o, h.get? b = some o → b ∉ ex → ∃ o', h'.get? b = some o'
  tups : ∀ b xs, H b = some (.tup xs) → H' b = some (.tup xs)
  frzs : ∀ b o u, H b = some (.frz o u) → H' b = some (.frz o u)
  tbls : ∀ b ps, H b = some (.tbl ps) → ∃ more, H' b = some (.tbl (ps ++ more))
section
variable {fs fs' ex ex' : List Addr} {H H1 H2 : Hp} {h h1 h2 h' : Heap} {a x e : Addr} {o : HO}
theorem Un.any (u : Un fs ex H H1 h h1) {b : Addr} {ob : Obj} (q : h.get? b = some ob) (n : H b = none) (hx : b ∉ ex) : ∃ sl, h1.get? b = some { ob with slots := sl } := by
  by_cases hb : b ∈ fs
  · exact u.slot b ob q n hb hx
  · exact ⟨ob.slots, u.keep b ob q n hb hx⟩
theorem Un.kept (k : ∀ b u, h.get? b = some u → h'.get? b = some u) : Un fs ex H H h h' :=
  ⟨fun b ob q _ _ _ => k b ob q, fun b ob q _ _ _ => ⟨ob.slots, k b ob q⟩, fun _ _ _ n _ => n, fun b ob q _ => ⟨ob, k b ob q⟩, fun _ _ q => q, fun _ _ _ q => q, fun _ ps q => ⟨#[], by rw [q]; simp⟩⟩
theorem Un.refl : Un fs ex H H h h := Un.kept fun _ _ q => q
theorem Un.laid (k : ∀ b u, h.get? b = some u → h'.get? b = some u) (hp : h.objs.size ≤ a) (hn : H a = none) : Un fs ex H (upd H a o) h h' where
  keep := fun b u q _ _ _ => k b u q
  slot := fun b u q _ _ _ => ⟨u.slots, k b u q⟩
  free := fun b u q n _ => by rw [upd_ne (Nat.ne_of_lt (Nat.lt_of_lt_of_le (Heap.lt_size q) hp))]; exact n
  there := fun b u q _ => ⟨u, k b u q⟩
  tups := fun b xs q => by rw [upd_ne (ne_of_none q hn)]; exact q
  frzs := fun b u xs q => by rw [upd_ne (ne_of_none q hn)]; exact q
  tbls := fun b ps q => ⟨#[], by rw [upd_ne (ne_of_none q hn), q]; simp⟩
theorem Un.write (mu : Mut (H x)) (he : e = x ∨ H e = some (.own x)) (k : ∀ b u, b ≠ e → h.get? b = some u → h'.get? b = some u) (heo : ∃ u, h'.get? e = some u) : Un fs ex H (upd H x o) h h' := by
  have hx : ∀ b, H b = none → b ≠ x := fun b n z => by subst z; rw [n] at mu; exact mu
  have hb : ∀ b, H b = none → b ≠ e := fun b n z => by
    subst z
    rcases he with r | r
    · exact hx b n r
    · rw [n] at r; cases r
  have hm : ∀ b u, H b = some u → ¬ Mut (some u) → b ≠ x := fun b u q nm z => by subst z; rw [q] at mu; exact nm mu
  refine ⟨fun b u q n _ _ => k b u (hb b n) q, fun b u q n _ _ => ⟨u.slots, k b u (hb b n) q⟩, fun b u q n _ => by rw [upd_ne (hx b n)]; exact n, fun b u q _ => ?_,
    fun b xs q => by rw [upd_ne (hm b _ q fun z => z)]; exact q, fun b u xs q => by rw [upd_ne (hm b _ q fun z => z)]; exact q, fun b ps q => ⟨#[], by rw [upd_ne (hm b _ q fun z => z), q]; simp⟩⟩
  by_cases hbe : b = e
  · subst hbe; exact heo
  · exact ⟨u, k b u hbe q⟩
end

/-! ### the heap without what is tracked -/
def trk (h : Heap) (H : Hp) : List Addr := (List.range h.objs.size).filter fun a => (H a).isSome
def hidT (h : Heap) (H : Hp) : Heap := PySem.W.hideAll h (trk h H)
theorem hidT_size (h : Heap) (H : Hp) : (hidT h H).objs.size = h.objs.size := PySem.W.hideAll_size _ _
theorem hidT_get {h : Heap} {H : Hp} {b : Addr} {o : Obj} (e : h.get? b = some o) (n : H b = none) : (hidT h H).get? b = some o :=
  PySem.W.hideAll_get _ e fun hm => by
    have q : (H b).isSome = true := (List.mem_filter.mp hm).2
    rw [n] at q; simp at q
theorem of_hidT {h : Heap} {H : Hp} {b : Addr} {o : Obj} (e : (hidT h H).get? b = some o) : h.get? b = some o ∧ H b = none := by
  have e' : h.get? b = some o := PySem.W.of_hideAll (trk h H) e
  refine ⟨e', ?_⟩
  cases q : H b with
  | none => rfl
  | some x =>
    have hm : b ∈ trk h H := List.mem_filter.mpr ⟨List.mem_range.mpr (Heap.lt_size e'), by simp [q]⟩
    have z : (hidT h H).get? b = none := PySem.W.hideAll_none (trk h H) hm
    rw [z] at e; cases e

/-! ### OpenK's ledger, filled with every new object but one -/
def allNews (g h : Heap) (L : Addr) : List (Addr × Obj) := (List.range h.objs.size).filterMap fun a => if a = L ∨ (g.get? a).isSome = true then none else (h.get? a).map fun o => (a, o)
def rest (g h : Heap) (L d : Addr) : List (Addr × Obj) := (allNews g h L).filter fun p => decide (p.1 ≠ d)
end L2

namespace L2
open PySem PySem.Spec PyProof.Rows

/-- the module's facts, over the base: the heap at the law's entry without what is tracked there -/
structure Mod (K : PySem.W.Frag) (mg : Str → Option Value) (base : Heap) : Prop where
  kin : K.In base
  glob : base.Ns mainGlobals mg
  blt : ∃ mb, base.Ns builtinsNs mb ∧ ∀ x : Str, x ≠ "__name__" → mb x = bootBuiltins x
  nolimit : base.NoLimit

/-- the context: a def's body (or a comprehension's block) running. base: fixed through the whole law; s₀, H₀: the entry; outer: the frames whose slots others may change (a def's callers); stack: all frames that run;
   ex: iterators that were made ahead of the entry and are walked here (a comprehension's); fn: the names whose cells were made at the entry (a def: all; a comprehension's block: its own); calm: not within an except suite; pn: pins that every state bears; xe: what is wanted of an exception that leaves the code -/
structure Cx where
  prog : Program
  w : World
  K : PySem.W.Frag
  mg : Str → Option Value
  base : Heap
  A : Around
  N : List Str
  s₀ : Shared
  H₀ : Hp
  env : Env
  outer : List Env
  stack : List Env
  ex : List Addr
  fn : Str → Bool
  calm : Bool
  pn : List (Addr × Obj)
  xe : Value → Shared → Prop
/-- the callers' frames -/
def frs (l : List Env) : List Addr := l.filterMap (·.frame)
abbrev Cx.fs (X : Cx) : List Addr := frs X.outer

def Vis (sc : Scope) (x : Str) : Prop := sc.names.lookup x = some .local ∨ sc.names.lookup x = some .cell ∨ sc.names.lookup x = some .free
def Loc (sc : Scope) (x : Str) : Prop := sc.names.lookup x = some .local ∨ sc.names.lookup x = some .cell
def Look (env : Env) (h : Heap) (m : Str → Option Value) (x : Str) (u : Value) : Prop :=
  (env.kindOf x = some .local ∧ m x = some u) ∨ ((env.kindOf x = some .cell ∨ env.kindOf x = some .free) ∧ ∃ c, env.cells.lookup x = some c ∧ h.IsCell c (some u))

structure Cx.Ok (X : Cx) : Prop where
  mod : Mod X.K X.mg X.base
  kind : X.env.scope.kind = .function
  glob : X.env.globals = mainGlobals
  blt : X.env.builtins = builtinsNs
  above : X.s₀.heap.objs.size ≤ X.env.locals
  inj : ∀ x y c, X.env.cells.lookup x = some c → X.env.cells.lookup y = some c → x = y
  has : ∀ x, (X.env.kindOf x = some .cell ∨ X.env.kindOf x = some .free) → ∃ c, X.env.cells.lookup x = some c
  cab : ∀ x c, X.fn x = true → X.env.cells.lookup x = some c → X.s₀.heap.objs.size ≤ c
  hd : X.calm = true → X.A.handled = none
  frames : X.A.frames = some X.stack
  stk : X.stack = X.outer ∨ (X.stack = X.env :: X.outer ∧ X.env.frame = some X.env.locals)
  exf : ∀ b ∈ X.ex, b ≠ X.env.locals ∧ ∀ x c, X.env.cells.lookup x = some c → c ≠ b
  bs : ∀ b o, X.base.get? b = some o → X.s₀.heap.get? b = some o ∧ X.H₀ b = none
  bsz : X.base.objs.size ≤ X.s₀.heap.objs.size
  noex : ∀ b o, X.base.get? b = some o → b ∉ X.ex
  exfs : ∀ b ∈ X.ex, b ∉ X.fs
  funs : X.s₀.heap.FunFrames X.base X.outer
  frf : ∀ b ∈ X.fs, X.H₀ b = none

structure Inv (X : Cx) (pins : List (Addr × Obj)) (σ : List (Option V)) (H : Hp) (s : Shared) : Prop where
  ok : X.Ok
  os : s.os = X.s₀.os
  bare : AllBare s.gens
  base : Un X.fs X.ex X.H₀ H X.s₀.heap s.heap
  loc : ∃ m, s.heap.Ns X.env.locals m ∧ ∀ (i : Nat) (x : Str) (v : V), X.N[i]? = some x → σ[i]? = some (some v) → Vis X.env.scope x → ∃ u, RelV v u ∧ Look X.env s.heap m x u
  cell : ∀ x c, X.env.cells.lookup x = some c → ∃ v, s.heap.IsCell c v
  free : H X.env.locals = none
  freeC : ∀ x c, X.env.cells.lookup x = some c → H c = none
  pin : ∀ p ∈ X.pn ++ pins, s.heap.get? p.1 = some p.2 ∧ H p.1 = none ∧ p.1 ≠ X.env.locals ∧ p.1 ∉ X.fs ∧ ∀ v, p.2.data ≠ .cell v
  hok : HOk X.prog X.w H s.heap
  len : σ.length = X.N.length

section
variable {X : Cx} {pins : List (Addr × Obj)} {σ : List (Option V)} {H H' : Hp} {s : Shared} {h' : Heap}

theorem Cx.Ok.nofr (ok : X.Ok) {b : Addr} {o : Obj} (e : X.base.get? b = some o) : b ∉ X.fs := fun hb => by
  have := (ok.funs.mem hb).1
  rw [e] at this; cases this
theorem Inv.bs (I : Inv X pins σ H s) : ∀ b o, X.base.get? b = some o → s.heap.get? b = some o ∧ H b = none := fun b o e =>
  ⟨I.base.keep b o (I.ok.bs b o e).1 (I.ok.bs b o e).2 (I.ok.nofr e) (I.ok.noex b o e), I.base.free b o (I.ok.bs b o e).1 (I.ok.bs b o e).2 (I.ok.noex b o e)⟩
theorem Inv.bk (I : Inv X pins σ H s) : ∀ b o, X.base.get? b = some o → s.heap.get? b = some o := fun b o e => (I.bs b o e).1
theorem Inv.mod (I : Inv X pins σ H s) : Mod X.K X.mg X.base := I.ok.mod
theorem Inv.kIn (I : Inv X pins σ H s) : X.K.In s.heap := I.ok.mod.kin.keeps I.bk
theorem Inv.lt (I : Inv X pins σ H s) : X.env.locals < s.heap.objs.size := let ⟨_, hn, _⟩ := I.loc; hn.lt
theorem Inv.sz (I : Inv X pins σ H s) : X.s₀.heap.objs.size ≤ s.heap.objs.size := Nat.le_trans I.ok.above (Nat.le_of_lt I.lt)
theorem Inv.nofs (I : Inv X pins σ H s) {a : Addr} (h : s.heap.objs.size ≤ a) : a ∉ X.fs := fun hb => by
  obtain ⟨_, o, ho, _⟩ := I.ok.funs.mem hb
  exact absurd (Nat.lt_of_lt_of_le (Heap.lt_size ho) (Nat.le_trans I.sz h)) (Nat.lt_irrefl _)
theorem Inv.cne (I : Inv X pins σ H s) : ∀ x c, X.env.cells.lookup x = some c → c ≠ X.env.locals := fun x c e z => by
  obtain ⟨v, o, ho, hd⟩ := I.cell x c e
  obtain ⟨m, ⟨o', es, ep, ho', hd', _⟩, _⟩ := I.loc
  rw [z, ho'] at ho; cases ho; rw [hd'] at hd; cases hd
theorem Inv.funs (I : Inv X pins σ H s) : s.heap.FunFrames X.base X.outer := by
  have all : ∀ (l : List Env), (∀ b ∈ frs l, b ∈ X.fs) → X.s₀.heap.FunFrames X.base l → s.heap.FunFrames X.base l := by
    intro l
    induction l with
    | nil => intro _ _; trivial
    | cons env r ih =>
      intro hs hl
      obtain ⟨hk, ⟨L, o, hf, hn, ho, hd⟩, hr⟩ := hl
      have hL : L ∈ X.fs := hs L (by unfold frs; rw [List.filterMap_cons, hf]; exact List.mem_cons_self)
      obtain ⟨sl, e⟩ := I.base.slot L o ho (I.ok.frf L hL) hL fun z => I.ok.exfs L z hL
      exact ⟨hk, ⟨L, _, hf, hn, e, hd⟩, ih (fun b hb => hs b (by unfold frs; rw [List.filterMap_cons, hf]; exact List.mem_cons_of_mem _ hb)) hr⟩
  exact all X.outer (fun _ hb => hb) I.ok.funs

/-- the frames that run, for a call -/
theorem Inv.stack (I : Inv X pins σ H s) : s.heap.FunFrames X.base X.stack := by
  rcases I.ok.stk with e | ⟨e, hf⟩
  · rw [e]; exact I.funs
  · rw [e]
    obtain ⟨m, hn, _⟩ := I.loc
    refine .cons (by rw [I.ok.kind]; decide) hf hn ?_ I.funs
    exact Heap.get?_none_of_le (Nat.le_trans I.ok.bsz I.ok.above)
theorem Inv.stkSub (I : Inv X pins σ H s) : ∀ b ∈ frs X.stack, b ∈ X.env.locals :: X.fs := fun b hb => by
  rcases I.ok.stk with e | ⟨e, hf⟩
  · rw [e] at hb; exact List.mem_cons_of_mem _ hb
  · rw [e] at hb
    unfold frs at hb
    rw [List.filterMap_cons, hf] at hb
    exact hb
theorem Inv.stkFree (I : Inv X pins σ H s) : ∀ b ∈ frs X.stack, H b = none := fun b hb => by
  rcases List.mem_cons.mp (I.stkSub b hb) with e | hb
  · rw [e]; exact I.free
  · obtain ⟨_, o, ho, _⟩ := I.ok.funs.mem hb
    exact I.base.free b o ho (I.ok.frf b hb) fun z => I.ok.exfs b z hb

/-- THE STEP: the untracked objects but the frame and the records at ch are kept (the callers' frames up to slots), the frame's map is kept, the new abstract heap is held -/
theorem Inv.step {g' : Array GenState} {t' : Nat} {d' : Drawn} {ch : List Addr} (I : Inv X pins σ H s)
    (hch : ∀ b ∈ ch, (b ∈ X.ex ∨ X.s₀.heap.objs.size ≤ b) ∧ b ≠ X.env.locals ∧ (∀ x c, X.env.cells.lookup x = some c → c ≠ b) ∧ ∀ p ∈ X.pn ++ pins, p.1 ≠ b)
    (keep : ∀ b o, b ≠ X.env.locals → b ∉ X.fs → b ∉ ch → s.heap.get? b = some o → H b = none → h'.get? b = some o)
    (slot : ∀ b o, b ≠ X.env.locals → b ∈ X.fs → b ∉ ch → s.heap.get? b = some o → H b = none → ∃ sl, h'.get? b = some { o with slots := sl }) (free : ∀ b o, b ∉ ch → s.heap.get? b = some o → H b = none → H' b = none)
    (there : ∀ b o, b ∉ ch → s.heap.get? b = some o → ∃ o', h'.get? b = some o')
    (tups : ∀ b xs, H b = some (.tup xs) → H' b = some (.tup xs)) (frzs : ∀ b o u, H b = some (.frz o u) → H' b = some (.frz o u)) (tbls : ∀ b ps, H b = some (.tbl ps) → ∃ more, H' b = some (.tbl (ps ++ more)))
    (ns : ∀ m, s.heap.Ns X.env.locals m → h'.Ns X.env.locals m) (hok : HOk X.prog X.w H' h') (hg : AllBare g') :
    Inv X pins σ H' { s with heap := h', gens := g', drawn := d', toks := t' } := by
  have neL : ∀ b o, X.s₀.heap.get? b = some o → b ≠ X.env.locals := fun b o e => Nat.ne_of_lt (Nat.lt_of_lt_of_le (Heap.lt_size e) I.ok.above)
  have neC : ∀ b o, X.s₀.heap.get? b = some o → b ∉ X.ex → b ∉ ch := fun b o e hx hb => by
    rcases (hch b hb).1 with z | z
    · exact hx z
    · exact absurd (Nat.lt_of_lt_of_le (Heap.lt_size e) z) (Nat.lt_irrefl _)
  have cellK : ∀ x c, X.env.cells.lookup x = some c → ∀ v, s.heap.IsCell c v → h'.IsCell c v := fun x c e v ⟨o, ho, hd⟩ => by
    have nch : c ∉ ch := fun z => (hch c z).2.2.1 x c e rfl
    by_cases hc : c ∈ X.fs
    · obtain ⟨sl, q⟩ := slot c o (I.cne x c e) hc nch ho (I.freeC x c e)
      exact ⟨_, q, hd⟩
    · exact ⟨o, keep c o (I.cne x c e) hc nch ho (I.freeC x c e), hd⟩
  refine ⟨I.ok, I.os, hg, ⟨fun b o e n hb hx => ?_, fun b o e n hb hx => ?_, fun b o e n hx => ?_, fun b o e hx => ?_, fun b xs e => tups b xs (I.base.tups b xs e), fun b o xs e => frzs b o xs (I.base.frzs b o xs e), fun b ps e => ?_⟩, ?_, fun x c e => ?_, ?_, fun x c e => ?_, fun p hp => ?_, hok, I.len⟩
  · exact keep b o (neL b o e) hb (neC b o e hx) (I.base.keep b o e n hb hx) (I.base.free b o e n hx)
  · obtain ⟨sl, e1⟩ := I.base.slot b o e n hb hx
    obtain ⟨sl', e2⟩ := slot b _ (neL b o e) hb (neC b o e hx) e1 (I.base.free b o e n hx)
    exact ⟨sl', e2⟩
  · obtain ⟨o', e1⟩ := I.base.there b o e hx
    exact free b o' (neC b o e hx) e1 (I.base.free b o e n hx)
  · obtain ⟨o', e1⟩ := I.base.there b o e hx
    exact there b o' (neC b o e hx) e1
  · obtain ⟨m1, e1⟩ := I.base.tbls b ps e
    obtain ⟨m2, e2⟩ := tbls b _ e1
    exact ⟨m1 ++ m2, by rw [e2, Array.append_assoc]⟩
  · obtain ⟨m, hn, hl⟩ := I.loc
    refine ⟨m, ns m hn, fun i x v e1 e2 e3 => ?_⟩
    obtain ⟨u, r, l⟩ := hl i x v e1 e2 e3
    refine ⟨u, r, ?_⟩
    rcases l with l | ⟨k, c, e, z⟩
    · exact .inl l
    · exact .inr ⟨k, c, e, cellK x c e _ z⟩
  · obtain ⟨v, z⟩ := I.cell x c e
    exact ⟨v, cellK x c e v z⟩
  · obtain ⟨m, ⟨o, _, _, ho, _⟩, _⟩ := I.loc
    exact free _ o (fun z => (hch _ z).2.1 rfl) ho I.free
  · obtain ⟨v, o, ho, hd⟩ := I.cell x c e
    exact free c o (fun z => (hch c z).2.2.1 x c e rfl) ho (I.freeC x c e)
  · obtain ⟨e, n, ne, nf, d⟩ := I.pin p hp
    have nch : p.1 ∉ ch := fun z => (hch p.1 z).2.2.2 p hp rfl
    exact ⟨keep p.1 p.2 ne nf nch e n, free p.1 p.2 nch e n, ne, nf, d⟩
/-- .. where the frame's own object is kept too -/
theorem Inv.un {t' : Nat} (I : Inv X pins σ H s) (u : Un X.fs [] H H' s.heap h') (hok : HOk X.prog X.w H' h') : Inv X pins σ H' { s with heap := h', toks := t' } := by
  obtain ⟨m, ⟨o, es, ep, ho, r⟩, _⟩ := id I.loc
  obtain ⟨sl, hL⟩ := u.any ho I.free (by simp)
  exact I.step (g' := s.gens) (d' := s.drawn) (ch := []) (fun _ z => nomatch z) (fun b o _ hb _ e n => u.keep b o e n hb (by simp)) (fun b o _ hb _ e n => u.slot b o e n hb (by simp)) (fun b o _ e n => u.free b o e n (by simp)) (fun b o _ e => u.there b o e (by simp)) u.tups u.frzs u.tbls (fun m' hm => by
    obtain ⟨o', es', ep', ho', r'⟩ := hm
    rw [ho] at ho'; cases ho'
    exact ⟨_, es', ep', hL, r'⟩) hok I.bare
/-- behind a call (or a comprehension's block): the slots of this frame may have changed too, the records at ch may have turned -/
theorem Inv.call {g' : Array GenState} {t' : Nat} {d' : Drawn} {ch : List Addr} (I : Inv X pins σ H s) (u : Un (frs X.stack) ch H H' s.heap h') (hok : HOk X.prog X.w H' h') (hg : AllBare g')
    (hch : ∀ b ∈ ch, (b ∈ X.ex ∨ X.s₀.heap.objs.size ≤ b) ∧ b ≠ X.env.locals ∧ (∀ x c, X.env.cells.lookup x = some c → c ≠ b) ∧ ∀ p ∈ X.pn ++ pins, p.1 ≠ b) :
    Inv X pins σ H' { s with heap := h', gens := g', drawn := d', toks := t' } := by
  obtain ⟨m, ⟨o, es, ep, ho, r⟩, _⟩ := id I.loc
  obtain ⟨sl, hL⟩ := u.any ho I.free fun z => (hch _ z).2.1 rfl
  exact I.step (ch := ch) hch (fun b o hL hb hc e n => u.keep b o e n (fun z => (List.mem_cons.mp (I.stkSub b z)).elim hL hb) hc) (fun b o _ _ hc e n => u.any e n hc) (fun b o hc e n => u.free b o e n hc) (fun b o hc e => u.there b o e hc) u.tups u.frzs u.tbls (fun m' hm => by
    obtain ⟨o', es', ep', ho', r'⟩ := hm
    rw [ho] at ho'; cases ho'
    exact ⟨_, es', ep', hL, r'⟩) hok hg
/-- an untracked record of ours (an iterator) has turned -/
theorem Inv.turned {t' : Nat} {it : Addr} (I : Inv X pins σ H s) (k : ∀ b o, b ≠ it → s.heap.get? b = some o → h'.get? b = some o) (hn : H it = none) (hL : it ≠ X.env.locals)
    (h1 : it ∈ X.ex ∨ X.s₀.heap.objs.size ≤ it) (h2 : ∀ x c, X.env.cells.lookup x = some c → c ≠ it) (h3 : ∀ p ∈ X.pn ++ pins, p.1 ≠ it) : Inv X pins σ H { s with heap := h', toks := t' } := by
  have nit : ∀ b u, H b = some u → b ≠ it := fun b u e z => by rw [z, hn] at e; cases e
  refine I.step (g' := s.gens) (d' := s.drawn) (ch := [it]) (fun b hb => ?_) (fun b o _ _ hc e _ => k b o (fun z => hc (by simp [z])) e) (fun b o _ _ hc e _ => ⟨o.slots, k b o (fun z => hc (by simp [z])) e⟩) (fun _ _ _ _ n => n)
    (fun b o hc e => ⟨o, k b o (fun z => hc (by simp [z])) e⟩) (fun _ _ e => e) (fun _ _ _ e => e) (fun b ps e => ⟨#[], by rw [e]; simp⟩) (fun m hm => ?_) (fun b u e => ?_) I.bare
  · have e : b = it := by simpa using hb
    subst e
    exact ⟨h1, hL, h2, h3⟩
  · obtain ⟨o, es, ep, ho, r⟩ := hm
    exact ⟨o, es, ep, k _ o (Ne.symm hL) ho, r⟩
  · refine (I.hok b u e).stay (fun c v hc q => k c v ?_ q) (fun _ q => q) fun _ _ q => q
    rcases hc with z | z
    · rw [z]; exact nit b u e
    · exact nit c _ z
theorem Inv.tok (I : Inv X pins σ H s) (t : Nat) : Inv X pins σ H { s with toks := t } := I.un (h' := s.heap) (t' := t) Un.refl I.hok
/-- all objects kept -/
theorem Inv.kept {t' : Nat} (I : Inv X pins σ H s) (k : ∀ b u, s.heap.get? b = some u → h'.get? b = some u) : Inv X pins σ H { s with heap := h', toks := t' } := I.un (Un.kept k) (I.hok.kept k)
/-- a new object laid and tracked -/
theorem Inv.laid {a : Addr} {o : HO} {t' : Nat} (I : Inv X pins σ H s) (k : ∀ b u, s.heap.get? b = some u → h'.get? b = some u) (hp : s.heap.objs.size ≤ a) (new : ObjOk X.prog X.w (upd H a o) h' a o) :
    Inv X pins σ (upd H a o) { s with heap := h', toks := t' } := I.un (Un.laid k hp (I.hok.fresh hp)) (I.hok.laid k hp new)
/-- an object written -/
theorem Inv.write {x e : Addr} {o : HO} {t' : Nat} (I : Inv X pins σ H s) (mu : Mut (H x)) (he : e = x ∨ H e = some (.own x)) (k : ∀ b u, b ≠ e → s.heap.get? b = some u → h'.get? b = some u) (heo : ∃ u, h'.get? e = some u)
    (new : ObjOk X.prog X.w (upd H x o) h' x o) : Inv X pins σ (upd H x o) { s with heap := h', toks := t' } := I.un (Un.write mu he k heo) (I.hok.write mu he k heo new)
theorem Inv.pins_of {pins' : List (Addr × Obj)} (I : Inv X pins σ H s) (h : ∀ p ∈ pins', s.heap.get? p.1 = some p.2 ∧ H p.1 = none ∧ p.1 ≠ X.env.locals ∧ p.1 ∉ X.fs ∧ ∀ v, p.2.data ≠ .cell v) : Inv X pins' σ H s :=
  ⟨I.ok, I.os, I.bare, I.base, I.loc, I.cell, I.free, I.freeC, fun p hp => (List.mem_append.mp hp).elim (fun z => I.pin p (List.mem_append_left _ z)) (h p), I.hok, I.len⟩

theorem nodup_ix {N : List Str} (hN : N.Nodup) {i j : Nat} {x : Str} (a : N[i]? = some x) (b : N[j]? = some x) : i = j := by
  obtain ⟨h1, e1⟩ := List.getElem?_eq_some_iff.mp a
  obtain ⟨h2, e2⟩ := List.getElem?_eq_some_iff.mp b
  exact (List.getElem_inj hN).mp (e1.trans e2.symm)

/-- a name is stored; what changed -/
theorem store_ok2 {M : Model} {A : Around} {E : Value → Shared → Prop} {i : Nat} {x : Str} {v : V} {u : Value} {Q : Unit → Shared → Prop} (I : Inv X pins σ H s) (hN : X.N.Nodup) (hi : X.N[i]? = some x) (hx : Loc X.env.scope x) (r : RelV v u)
    (h : ∀ s', Inv X pins (σ.set i (some v)) H s' → (∃ a, Heap.SameBut a s.heap s'.heap ∧ (a = X.env.locals ∨ X.env.cells.lookup x = some a)) → Q () s') (hf : X.fn x = true ∨ X.env.scope.names.lookup x = some .local := by first | exact .inl rfl | exact .inr rfl | assumption) : wpAny M A (storeName X.env x u) Q E s := by
  obtain ⟨m, hn, hl⟩ := id I.loc
  have hcls : (X.env.scope.kind == .class || (X.env.scope.kind == .module && X.env.locals != X.env.globals)) = false := by rw [I.ok.kind]; rfl
  have hiσ : i < σ.length := by rw [I.len]; exact (List.getElem?_eq_some_iff.mp hi).1
  have cne := I.cne
  have tracked : ∀ {a : Addr} {h' : Heap}, (∃ o, s.heap.get? a = some o ∧ H a = none) → Heap.SameBut a s.heap h' → HOk X.prog X.w H h' := fun {a h'} ha hs b ob e => by
    obtain ⟨_, _, hfree⟩ := ha
    refine (I.hok b ob e).stay (fun c w' hc q => (hs.2 c ?_).trans q) (fun _ q => q) fun _ _ q => q
    rintro rfl
    rcases hc with rfl | hc
    · rw [hfree] at e; cases e
    · rw [hfree] at hc; cases hc
  rcases hx with hk | hk
  · refine wpAny_storeName_local hk hn (fun h' hn' hs => ?_) hcls
    obtain ⟨oL, _, _, hoL, _⟩ := id hn
    refine h _ ⟨I.ok, I.os, I.bare, ⟨fun b o e n hb hx => ?_, fun b o e n hb hx => ?_, I.base.free, fun b o e hx => ?_, I.base.tups, I.base.frzs, I.base.tbls⟩, ⟨_, hn', fun j y v' e1 e2 e3 => ?_⟩, fun y c e => ?_, I.free, I.freeC, fun p hp => ?_, tracked ⟨oL, hoL, I.free⟩ hs, by simpa using I.len⟩ ⟨_, hs, .inl rfl⟩
    · exact (hs.2 b (Nat.ne_of_lt (Nat.lt_of_lt_of_le (Heap.lt_size e) I.ok.above))).trans (I.base.keep b o e n hb hx)
    · obtain ⟨sl, e1⟩ := I.base.slot b o e n hb hx
      exact ⟨sl, (hs.2 b (Nat.ne_of_lt (Nat.lt_of_lt_of_le (Heap.lt_size e) I.ok.above))).trans e1⟩
    · obtain ⟨o', e1⟩ := I.base.there b o e hx
      exact ⟨o', (hs.2 b (Nat.ne_of_lt (Nat.lt_of_lt_of_le (Heap.lt_size e) I.ok.above))).trans e1⟩
    · by_cases hj : j = i
      · subst hj
        rw [hi] at e1; cases e1
        rw [List.getElem?_set_self hiσ] at e2
        cases e2
        exact ⟨u, r, .inl ⟨hk, by simp⟩⟩
      · rw [List.getElem?_set_ne (Ne.symm hj)] at e2
        obtain ⟨u', r', q⟩ := hl j y v' e1 e2 e3
        refine ⟨u', r', ?_⟩
        rcases q with ⟨k, e⟩ | ⟨k, c, e, z⟩
        · refine .inl ⟨k, ?_⟩
          have : y ≠ x := fun e => hj (nodup_ix hN e1 (e ▸ hi))
          simp [this, e]
        · exact .inr ⟨k, c, e, z.sameBut hs (cne y c e)⟩
    · obtain ⟨w', z⟩ := I.cell y c e
      exact ⟨w', z.sameBut hs (cne y c e)⟩
    · obtain ⟨e, n, ne, nf, d⟩ := I.pin p hp
      exact ⟨(hs.2 p.1 ne).trans e, n, ne, nf, d⟩
  · have hfn : X.fn x = true := by
      rcases hf with z | z
      · exact z
      · rw [z] at hk; cases hk
    obtain ⟨c, hc⟩ := I.ok.has x (.inl hk)
    obtain ⟨w', z⟩ := I.cell x c hc
    refine wpAny_storeName_cell I.ok.kind hk hc z (fun h' hc' hs => ?_)
    obtain ⟨oc, hoc, hocd⟩ := id z
    refine h { s with heap := h' } ⟨I.ok, I.os, I.bare, ⟨fun b o e n hb hx => ?_, fun b o e n hb hx => ?_, I.base.free, fun b o e hx => ?_, I.base.tups, I.base.frzs, I.base.tbls⟩, ⟨m, hn.sameBut hs (Ne.symm (cne x c hc)), fun j y v' e1 e2 e3 => ?_⟩, fun y c' e => ?_, I.free, I.freeC, fun p hp => ?_, tracked ⟨oc, hoc, I.freeC x c hc⟩ hs, by simpa using I.len⟩ ⟨c, hs, .inr hc⟩
    · exact (hs.2 b (Nat.ne_of_lt (Nat.lt_of_lt_of_le (Heap.lt_size e) (I.ok.cab x c hfn hc)))).trans (I.base.keep b o e n hb hx)
    · obtain ⟨sl, e1⟩ := I.base.slot b o e n hb hx
      exact ⟨sl, (hs.2 b (Nat.ne_of_lt (Nat.lt_of_lt_of_le (Heap.lt_size e) (I.ok.cab x c hfn hc)))).trans e1⟩
    · obtain ⟨o', e1⟩ := I.base.there b o e hx
      exact ⟨o', (hs.2 b (Nat.ne_of_lt (Nat.lt_of_lt_of_le (Heap.lt_size e) (I.ok.cab x c hfn hc)))).trans e1⟩
    · by_cases hj : j = i
      · subst hj
        rw [hi] at e1; cases e1
        rw [List.getElem?_set_self hiσ] at e2
        cases e2
        exact ⟨u, r, .inr ⟨.inl hk, c, hc, hc'⟩⟩
      · rw [List.getElem?_set_ne (Ne.symm hj)] at e2
        obtain ⟨u', r', q⟩ := hl j y v' e1 e2 e3
        refine ⟨u', r', ?_⟩
        rcases q with q | ⟨k, c', e, z'⟩
        · exact .inl q
        · refine .inr ⟨k, c', e, z'.sameBut hs ?_⟩
          rintro rfl
          exact hj (nodup_ix hN e1 (I.ok.inj _ _ _ e hc ▸ hi))
    · by_cases hcc : c' = c
      · subst hcc; exact ⟨_, hc'⟩
      · obtain ⟨w2, z2⟩ := I.cell y c' e
        exact ⟨w2, z2.sameBut hs hcc⟩
    · obtain ⟨e, n, ne, nf, d⟩ := I.pin p hp
      refine ⟨(hs.2 p.1 ?_).trans e, n, ne, nf, d⟩
      intro q
      rw [q, hoc] at e
      have q' : oc = p.2 := Option.some.inj e
      exact d w' (by rw [← q']; exact hocd)
theorem store_ok {M : Model} {A : Around} {E : Value → Shared → Prop} {i : Nat} {x : Str} {v : V} {u : Value} {Q : Unit → Shared → Prop} (I : Inv X pins σ H s) (hN : X.N.Nodup) (hi : X.N[i]? = some x) (hx : Loc X.env.scope x) (r : RelV v u)
    (h : ∀ s', Inv X pins (σ.set i (some v)) H s' → Q () s') (hf : X.fn x = true ∨ X.env.scope.names.lookup x = some .local := by first | exact .inl rfl | exact .inr rfl | assumption) : wpAny M A (storeName X.env x u) Q E s :=
  store_ok2 I hN hi hx r (fun s' I' _ => h s' I') hf
/-- behind a call or a block, the state as it is -/
theorem Inv.call' {s' : Shared} {ch : List Addr} (I : Inv X pins σ H s) (ho : s'.os = s.os) (u : Un (frs X.stack) ch H H' s.heap s'.heap) (hok : HOk X.prog X.w H' s'.heap) (hg : AllBare s'.gens)
    (hch : ∀ b ∈ ch, (b ∈ X.ex ∨ X.s₀.heap.objs.size ≤ b) ∧ b ≠ X.env.locals ∧ (∀ x c, X.env.cells.lookup x = some c → c ≠ b) ∧ ∀ p ∈ X.pn ++ pins, p.1 ≠ b) : Inv X pins σ H' s' := by
  obtain ⟨h', g', d', t', o'⟩ := s'
  have e : o' = s.os := ho
  subst e
  exact I.call (g' := g') (t' := t') (d' := d') u hok hg hch
end

/-! ### the judgements -/
/-- an exception: its class, its own dict's address (where it has one), the abstract heap behind it -/
abbrev XK := Value → Option Addr → Hp → Prop
abbrev St := List (Option V)
abbrev VK := V → Hp → Prop
/-- an expression's reading; a test's; an argument list's -/
abbrev TE := St → Hp → VK → Prop
abbrev TT := St → Hp → (Bool → Hp → Prop) → Prop
abbrev TA := St → Hp → (List V → Hp → Prop) → Prop
/-- what is wanted behind a statement -/
structure Ends where
  nx : St → Hp → Prop
  rt : VK
  bk : St → Hp → Prop := fun _ _ => False
  ct : St → Hp → Prop := fun _ _ => False
abbrev TS := Ends → St → Hp → Prop

def EP (X : Cx) (pins : List (Addr × Obj)) (σ : St) (Q : VK) (u : Value) (s' : Shared) : Prop := ∃ v H', Inv X pins σ H' s' ∧ RelV v u ∧ Q v H'
def TP (X : Cx) (pins : List (Addr × Obj)) (σ : St) (Q : Bool → Hp → Prop) (b : Bool) (s' : Shared) : Prop := ∃ H', Inv X pins σ H' s' ∧ Q b H'
def AP (X : Cx) (pins : List (Addr × Obj)) (σ : St) (Q : List V → Hp → Prop) (us : List Value) (s' : Shared) : Prop := ∃ vs H', Inv X pins σ H' s' ∧ Vals vs us ∧ Q vs H'
def SP (X : Cx) (pins : List (Addr × Obj)) (D : Ends) (f : Flow) (s' : Shared) : Prop :=
  match f with
  | .next => ∃ σ' H', Inv X pins σ' H' s' ∧ D.nx σ' H'
  | .brk => ∃ σ' H', Inv X pins σ' H' s' ∧ D.bk σ' H'
  | .cont => ∃ σ' H', Inv X pins σ' H' s' ∧ D.ct σ' H'
  | .ret u => ∃ v σ' H', Inv X pins σ' H' s' ∧ RelV v u ∧ D.rt v H'

def PE (X : Cx) (e : Expr) (t : TE) : Prop :=
  ∀ (pins : List (Addr × Obj)) (s : Shared) (σ : St) (H : Hp) (Q : VK), Inv X pins σ H s → t σ H Q → wpAny (model X.prog X.w) X.A (eval e X.env) (EP X pins σ Q) X.xe s
def PT (X : Cx) (e : Expr) (t : TT) : Prop :=
  ∀ (pins : List (Addr × Obj)) (s : Shared) (σ : St) (H : Hp) (Q : Bool → Hp → Prop), Inv X pins σ H s → t σ H Q → wpAny (model X.prog X.w) X.A (isTrue e X.env (eval e X.env)) (TP X pins σ Q) X.xe s
/-- a test whatever its 'whole' is (and, or) -/
def PW (X : Cx) (e : Expr) (t : TT) : Prop :=
  ∀ (whole : Sem Value) (pins : List (Addr × Obj)) (s : Shared) (σ : St) (H : Hp) (Q : Bool → Hp → Prop), Inv X pins σ H s → t σ H Q → wpAny (model X.prog X.w) X.A (isTrue e X.env whole) (TP X pins σ Q) X.xe s
theorem PW.pt {X : Cx} {e : Expr} {t : TT} (h : PW X e t) : PT X e t := h _
/-- an argument list (no star), from the left -/
def PA (X : Cx) (es : List Expr) (t : TA) : Prop :=
  ∀ (pos : Pos) (pins : List (Addr × Obj)) (s : Shared) (σ : St) (H : Hp) (Q : List V → Hp → Prop), Inv X pins σ H s → t σ H Q → wpAny (model X.prog X.w) X.A (spliced (backTo pos (starEach es X.env))) (AP X pins σ Q) X.xe s
def PS (X : Cx) (st : Stmt) (t : TS) : Prop :=
  ∀ (pins : List (Addr × Obj)) (s : Shared) (σ : St) (H : Hp) (D : Ends), Inv X pins σ H s → t D σ H → wpAny (model X.prog X.w) X.A (exec st X.env) (SP X pins D) X.xe s
def PSs (X : Cx) (st : List Stmt) (t : TS) : Prop :=
  ∀ (pins : List (Addr × Obj)) (s : Shared) (σ : St) (H : Hp) (D : Ends), Inv X pins σ H s → t D σ H → wpAny (model X.prog X.w) X.A (execs st X.env) (SP X pins D) X.xe s
/-- weaken the end -/
theorem thn {α : Type} {t : Sem α} {Q Q' : α → Shared → Prop} {M : Model} {A : Around} {E : Value → Shared → Prop} {s : Shared} (h : wpAny M A t Q E s) (hQ : ∀ a s, Q a s → Q' a s) : wpAny M A t Q' E s := wpAny_mono h hQ fun _ _ x => x
end L2

namespace L2
open PySem PySem.Spec PyProof.Rows
section
variable {X : Cx}

/-! ### names and constants -/
def tVar (i : Nat) : TE := fun σ H Q => ∃ v, σ[i]? = some (some v) ∧ Q v H
def tC (v : V) : TE := fun _ H Q => Q v H
theorem pe_var {i : Nat} {x : Str} {pos : Pos} (hN : X.N[i]? = some x) (hv : Vis X.env.scope x) (hd : (x == ("__debug__" : Str)) = false := by decide) (hcd : (x == ("__classdict__" : Str)) = false := by decide) : PE X (.Name x pos) (tVar i) := by
  intro pins s σ H Q I h
  obtain ⟨v, e, h⟩ := h
  obtain ⟨m, hn, hl⟩ := I.loc
  obtain ⟨u, r, l⟩ := hl i x v hN e hv
  have fin : EP X pins σ Q u s := ⟨v, H, I, r, h⟩
  rcases l with ⟨hk, hm⟩ | ⟨hk, c, hc, hcell⟩
  · exact wpAny_Name (wpAny_loadName_local I.ok.kind hk hn hm fin) hd
  · rcases hk with hk | hk
    · exact wpAny_Name (wpAny_loadName_cell I.ok.kind hk hc hcell fin) hd
    · exact wpAny_Name (wpAny_loadName_free I.ok.kind hk hc hcell fin hcd) hd
theorem pe_int {i j pos} : PE X (.Constant (.int i) j pos) (tC (.int i)) := fun _ _ _ H _ I h => wpAny_Constant_int ⟨.int i, H, I.tok _, ⟨_, rfl⟩, h⟩
theorem pe_bl {b j pos} : PE X (.Constant (.bool b) j pos) (tC (.bl b)) := fun _ _ _ H _ I h => Constant_bool ⟨.bl b, H, I, rfl, h⟩
theorem pe_non {j pos} : PE X (.Constant .none j pos) (tC .non) := fun _ _ _ H _ I h => Constant_none ⟨.non, H, I, rfl, h⟩
theorem pe_str {x j pos} : PE X (.Constant (.str x) j pos) (tC (.str x)) := fun _ _ _ H _ I h => Calls.Constant_str ⟨.str x, H, I.tok _, ⟨_, rfl⟩, h⟩

/-- a global name of the def -/
def Gl (X : Cx) (x : Str) : Prop := X.env.kindOf x = some .globalImplicit
theorem ld_glob {E : Value → Shared → Prop} {pins : List (Addr × Obj)} {s : Shared} {σ : St} {H : Hp} {x : Str} {u : Value} {pos : Pos} {Q : Value → Shared → Prop} (I : Inv X pins σ H s) (hg : Gl X x) (hm : X.mg x = some u) (h : Q u s)
    (hd : (x == ("__debug__" : Str)) = false := by decide) : wpAny (model X.prog X.w) X.A (eval (.Name x pos) X.env) Q E s :=
  Calls.Name_function_global I.ok.kind hg (Calls.loadGlobal_global (by rw [I.ok.glob]; exact I.mod.glob.keeps I.bk) hm h) hd
theorem ld_blt {E : Value → Shared → Prop} {pins : List (Addr × Obj)} {s : Shared} {σ : St} {H : Hp} {x : Str} {u : Value} {pos : Pos} {Q : Value → Shared → Prop} (I : Inv X pins σ H s) (hg : Gl X x) (hm : X.mg x = none) (hv : bootBuiltins x = some u) (h : Q u s)
    (hn : x ≠ "__name__" := by decide) (hd : (x == ("__debug__" : Str)) = false := by decide) : wpAny (model X.prog X.w) X.A (eval (.Name x pos) X.env) Q E s := by
  obtain ⟨mb, h1, h2⟩ := I.mod.blt
  exact Calls.Name_function_global I.ok.kind hg (Calls.loadGlobal_builtin (by rw [I.ok.glob]; exact I.mod.glob.keeps I.bk) hm (by rw [I.ok.blt]; exact h1.keeps I.bk) ((h2 x hn).trans hv) h) hd
theorem pe_bltn {x : Str} {v : V} {u : Value} {pos : Pos} (hg : Gl X x) (hm : X.mg x = none) (hv : bootBuiltins x = some u) (r : RelV v u) (hn : x ≠ "__name__" := by decide) (hd : (x == ("__debug__" : Str)) = false := by decide) : PE X (.Name x pos) (tC v) :=
  fun _ _ _ H _ I h => ld_blt I hg hm hv ⟨v, H, I, r, h⟩ hn hd

/-! ### arithmetic -/
/-- two ints -/
def t2I (ta tb : TE) (k : Int → Int → Hp → Prop) : St → Hp → Prop := fun σ H => ta σ H fun x H1 => tb σ H1 fun y H2 => ∃ i j, x = .int i ∧ y = .int j ∧ k i j H2
def tAdd (ta tb : TE) : TE := fun σ H Q => t2I ta tb (fun i j H2 => Q (.int (i + j)) H2) σ H
def tSub (ta tb : TE) : TE := fun σ H Q => t2I ta tb (fun i j H2 => Q (.int (i - j)) H2) σ H
/-- the left factor below 2^64 -/
def tMul (ta tb : TE) : TE := fun σ H Q => t2I ta tb (fun i j H2 => (-(2 ^ 64) < i ∧ i < 2 ^ 64) ∧ Q (.int (i * j)) H2) σ H
variable {a b : Expr} {ta tb : TE} {pos : Pos}
/-! ### comparisons -/
def PC (X : Cx) (op : CmpOp) (a b : Expr) (t : TE) : Prop :=
  ∀ (pins : List (Addr × Obj)) (s : Shared) (σ : St) (H : Hp) (Q : VK), Inv X pins σ H s → t σ H Q →
    wpAny (model X.prog X.w) X.A (eval a X.env) (fun v s₁ => wpAny (model X.prog X.w) X.A (eval b X.env) (fun u s₂ => wpAny (model X.prog X.w) X.A (compareOp op v u) (EP X pins σ Q) X.xe s₂) X.xe s₁) X.xe s
def tCmp (p : Int → Int → Bool) (ta tb : TE) : TE := fun σ H Q => t2I ta tb (fun i j H2 => Q (.bl (p i j)) H2) σ H
abbrev tLt : TE → TE → TE := tCmp fun i j => decide (i < j)
abbrev tLe : TE → TE → TE := tCmp fun i j => decide (i ≤ j)
abbrev tGt : TE → TE → TE := tCmp fun i j => decide (j < i)
abbrev tGe : TE → TE → TE := tCmp fun i j => decide (j ≤ i)
abbrev tEqI : TE → TE → TE := tCmp fun i j => decide (i = j)
abbrev tNeI : TE → TE → TE := tCmp fun i j => !decide (i = j)
/-- is None -/
def tIsN (ta : TE) : TE := fun σ H Q => ta σ H fun x H1 => Q (.bl (decide (x = .non))) H1
def tNotN (ta : TE) : TE := fun σ H Q => ta σ H fun x H1 => Q (.bl (!decide (x = .non))) H1
/-- a comparison as a value, as a test -/
def tB (t : TE) : TT := fun σ H Q => t σ H fun x H1 => ∃ c, x = .bl c ∧ Q c H1
/-! ### and, or, not -/
variable {tA tB' : TT} {rest : List Expr}
def tAnd (t u : TT) : TT := fun σ H Q => t σ H fun c H1 => if c = true then u σ H1 Q else Q false H1
def tOr (t u : TT) : TT := fun σ H Q => t σ H fun c H1 => if c = true then Q true H1 else u σ H1 Q
def tNot (t : TT) : TT := fun σ H Q => t σ H fun c H1 => Q (!c) H1
theorem pw_and1 (ha : PT X a tA) : PW X (.BoolOp .And [a] pos) tA := by
  intro wh pins s σ H Q I h
  refine isTrue_and (thn (ha pins s σ H Q I h) fun c s1 e => ?_)
  cases c with
  | true => exact isTrue_and_nil e
  | false => exact e
theorem pw_or1 (ha : PT X a tA) : PW X (.BoolOp .Or [a] pos) tA := by
  intro wh pins s σ H Q I h
  refine isTrue_or (thn (ha pins s σ H Q I h) fun c s1 e => ?_)
  cases c with
  | false => exact isTrue_or_nil e
  | true => exact e
theorem pw_and (ha : PT X a tA) (hb : PW X (.BoolOp .And (b :: rest) pos) tB') : PW X (.BoolOp .And (a :: b :: rest) pos) (tAnd tA tB') := by
  intro wh pins s σ H Q I h
  refine isTrue_and (thn (ha pins s σ H _ I h) fun c s1 ⟨H1, I1, q1⟩ => ?_)
  cases c with
  | true => exact hb wh pins s1 σ H1 Q I1 q1
  | false => exact ⟨H1, I1, q1⟩
theorem pw_or (ha : PT X a tA) (hb : PW X (.BoolOp .Or (b :: rest) pos) tB') : PW X (.BoolOp .Or (a :: b :: rest) pos) (tOr tA tB') := by
  intro wh pins s σ H Q I h
  refine isTrue_or (thn (ha pins s σ H _ I h) fun c s1 ⟨H1, I1, q1⟩ => ?_)
  cases c with
  | true => exact ⟨H1, I1, q1⟩
  | false => exact hb wh pins s1 σ H1 Q I1 q1
theorem pt_not (ha : PT X a tA) : PT X (.UnaryOp .Not a pos) (tNot tA) := by
  intro pins s σ H Q I h
  exact isTrue_not (ha pins s σ H (fun c H1 => Q (!c) H1) I h)
/-- .. as values (bools) -/
def tAndV (ta tb : TE) : TE := fun σ H Q => ta σ H fun x H1 => ∃ c, x = .bl c ∧ if c = true then tb σ H1 Q else Q (.bl false) H1
def tOrV (ta tb : TE) : TE := fun σ H Q => ta σ H fun x H1 => ∃ c, x = .bl c ∧ if c = true then Q (.bl true) H1 else tb σ H1 Q
def tNotV (ta : TE) : TE := fun σ H Q => ta σ H fun x H1 => ∃ c, x = .bl c ∧ Q (.bl (!c)) H1
theorem pe_one {op} {t : TE} (h : PE X a t) : PE X (.BoolOp op [a] pos) t := fun pins s σ H Q I hw => BoolOp_one (h pins s σ H Q I hw)
theorem pe_and (ha : PE X a ta) (hb : PE X (.BoolOp .And (b :: rest) pos) tb) : PE X (.BoolOp .And (a :: b :: rest) pos) (tAndV ta tb) := by
  intro pins s σ H Q I h
  refine BoolOp_and (thn (ha pins s σ H _ I h) fun v s1 ⟨x, H1, I1, r1, q1⟩ => ?_)
  obtain ⟨c, rfl, q1⟩ := q1
  cases r1
  refine wpAny_truthy_bool ?_
  cases c with
  | true => exact hb pins s1 σ H1 Q I1 q1
  | false => exact ⟨.bl false, H1, I1, rfl, q1⟩
theorem pe_not (ha : PE X a ta) : PE X (.UnaryOp .Not a pos) (tNotV ta) := by
  intro pins s σ H Q I h
  refine UnaryOp_ (thn (ha pins s σ H _ I h) fun v s1 ⟨x, H1, I1, r1, q1⟩ => ?_)
  obtain ⟨c, rfl, q1⟩ := q1
  cases r1
  exact not_of (wpAny_truthy_bool ⟨.bl (!c), H1, I1, rfl, q1⟩)
/-- a if t else b -/
def tIf (t : TT) (ta tb : TE) : TE := fun σ H Q => t σ H fun c H1 => if c = true then ta σ H1 Q else tb σ H1 Q
theorem pe_ifExp {c : Expr} (hc : PT X c tA) (ha : PE X a ta) (hb : PE X b tb) : PE X (.IfExp c a b pos) (tIf tA ta tb) := by
  intro pins s σ H Q I h
  refine wpAny_IfExp (thn (hc pins s σ H _ I h) fun d s1 ⟨H1, I1, q1⟩ => ?_)
  cases d with
  | true => exact ha pins s1 σ H1 Q I1 q1
  | false => exact hb pins s1 σ H1 Q I1 q1
end
end L2

namespace L2
open PySem PySem.Spec PyProof.Rows

/-! ### a list, a tuple that is read: tracked, frozen, or an object of the module -/
def SqL (K : PySem.W.Frag) (H : Hp) (a : Addr) (xs : List V) : Prop :=
  Rd H a (.lst xs) ∨
    ∃ (o : Obj) (its : Array Value) (n : Nat), K.lookup a = some o ∧ o.cls = .type "list" ∧ o.dict = none ∧ o.data = .seq its n ∧ its.size ≤ sizeLine ∧ Vals xs its.toList
def SqT (K : PySem.W.Frag) (H : Hp) (a : Addr) (xs : List V) : Prop :=
  Rd H a (.tup xs) ∨
    ∃ (o : Obj) (its : Array Value) (n : Nat), K.lookup a = some o ∧ o.cls = .type "tuple" ∧ o.data = .seq its n ∧ its.size ≤ sizeLine ∧ Vals xs its.toList
def absV : Value → Option V
  | .none => some .non
  | .bool b => some (.bl b)
  | .int i _ => some (.int i)
  | .str x _ => some (.str x)
  | .bytes b _ => some (.byt b)
  | .float b _ => some (.flt b)
  | .ref a => some (.ref a)
  | .type n => some (.ty n)
  | _ => none
theorem RelV.abs {x : V} {u : Value} (r : RelV x u) : absV u = some x := by
  cases x with
  | non => cases r; rfl
  | bl _ => cases r; rfl
  | int _ => obtain ⟨t, rfl⟩ := r; rfl
  | str _ => obtain ⟨t, rfl⟩ := r; rfl
  | byt _ => obtain ⟨t, rfl⟩ := r; rfl
  | flt _ => obtain ⟨t, rfl⟩ := r; rfl
  | ref _ => cases r; rfl
  | ty _ => cases r; rfl
theorem RelV.inj {x y : V} {u : Value} (r : RelV x u) (q : RelV y u) : x = y := Option.some.inj (r.abs.symm.trans q.abs)
theorem Vals.inj : ∀ {xs ys : List V} {us : List Value}, Vals xs us → Vals ys us → xs = ys
  | _, _, _, .nil, .nil => rfl
  | _, _, _, .cons r t, .cons r' t' => by rw [r.inj r', Vals.inj t t']
section
variable {X : Cx} {pins : List (Addr × Obj)} {σ : St} {H : Hp} {s : Shared} {a : Addr} {xs ys : List V}
theorem SqL.of {K : PySem.W.Frag} (h : H a = some (.lst xs)) : SqL K H a xs := .inl (.inl h)
theorem Inv.list (I : Inv X pins σ H s) (h : SqL X.K H a xs) : ∃ its : List Value, Vals xs its ∧ PlainL s.heap a its.toArray ∧ xs.length ≤ sizeLine := by
  rcases h with h | ⟨o, its, n, hk, hc, hd, hs, hz, r⟩
  · obtain ⟨z, its, n, r, e⟩ := h.ok I.hok
    exact ⟨its, r, ⟨_, n, e, rfl, rfl, rfl⟩, z⟩
  · refine ⟨its.toList, r, ⟨o, n, I.kIn a o hk, hc, hd, by simpa using hs⟩, ?_⟩
    have e := r.length
    simp only [Array.length_toList] at e
    omega
theorem Inv.tuple (I : Inv X pins σ H s) (h : SqT X.K H a xs) : ∃ its : List Value, Vals xs its ∧ IsTup s.heap a its.toArray ∧ xs.length ≤ sizeLine := by
  rcases h with h | ⟨o, its, n, hk, hc, hs, hz, r⟩
  · obtain ⟨z, its, r, p⟩ := h.ok I.hok
    exact ⟨its, r, p, z⟩
  · refine ⟨its.toList, r, ⟨o, I.kIn a o hk, hc, n, by simpa using hs⟩, ?_⟩
    have e := r.length
    simp only [Array.length_toList] at e
    omega
theorem Inv.list_inj (I : Inv X pins σ H s) (h : SqL X.K H a xs) (h' : SqL X.K H a ys) : xs = ys := by
  obtain ⟨its, r, ⟨o, n, e, _, _, d⟩, _⟩ := I.list h
  obtain ⟨its', r', ⟨o', n', e', _, _, d'⟩, _⟩ := I.list h'
  rw [e] at e'; cases e'
  rw [d] at d'
  injection d' with d1 _
  have : its = its' := by simpa using congrArg Array.toList d1
  subst this
  exact r.inj r'
theorem Inv.tuple_inj (I : Inv X pins σ H s) (h : SqT X.K H a xs) (h' : SqT X.K H a ys) : xs = ys := by
  obtain ⟨its, r, ⟨o, e, _, n, d⟩, _⟩ := I.tuple h
  obtain ⟨its', r', ⟨o', e', _, n', d'⟩, _⟩ := I.tuple h'
  rw [e] at e'; cases e'
  rw [d] at d'
  injection d' with d1 _
  have : its = its' := by simpa using congrArg Array.toList d1
  subst this
  exact r.inj r'
end

/-! ### another wish about exceptions -/
abbrev Cx.wish (X : Cx) (E : Value → Shared → Prop) : Cx := { X with xe := E }
/-- no exception leaves -/
abbrev Cx.nox (X : Cx) : Cx := X.wish fun _ _ => False
theorem Cx.Ok.wish {X : Cx} (ok : X.Ok) (E : Value → Shared → Prop) : (X.wish E).Ok :=
  ⟨ok.mod, ok.kind, ok.glob, ok.blt, ok.above, ok.inj, ok.has, ok.cab, ok.hd, ok.frames, ok.stk, ok.exf, ok.bs, ok.bsz, ok.noex, ok.exfs, ok.funs, ok.frf⟩
theorem Cx.Ok.unwish {X : Cx} {E : Value → Shared → Prop} (ok : (X.wish E).Ok) : X.Ok :=
  ⟨ok.mod, ok.kind, ok.glob, ok.blt, ok.above, ok.inj, ok.has, ok.cab, ok.hd, ok.frames, ok.stk, ok.exf, ok.bs, ok.bsz, ok.noex, ok.exfs, ok.funs, ok.frf⟩
section
variable {X : Cx} {pins : List (Addr × Obj)} {σ : St} {H : Hp} {s : Shared} {E : Value → Shared → Prop}
theorem Inv.wish (I : Inv X pins σ H s) (E : Value → Shared → Prop) : Inv (X.wish E) pins σ H s := ⟨I.ok.wish E, I.os, I.bare, I.base, I.loc, I.cell, I.free, I.freeC, I.pin, I.hok, I.len⟩
theorem Inv.unwish (I : Inv (X.wish E) pins σ H s) : Inv X pins σ H s := ⟨I.ok.unwish, I.os, I.bare, I.base, I.loc, I.cell, I.free, I.freeC, I.pin, I.hok, I.len⟩
theorem SP.unwish {D : Ends} {f : Flow} {s' : Shared} (h : SP (X.wish E) pins D f s') : SP X pins D f s' := by
  cases f with
  | next => obtain ⟨σ', H', I, q⟩ := h; exact ⟨σ', H', I.unwish, q⟩
  | brk => obtain ⟨σ', H', I, q⟩ := h; exact ⟨σ', H', I.unwish, q⟩
  | cont => obtain ⟨σ', H', I, q⟩ := h; exact ⟨σ', H', I.unwish, q⟩
  | ret u => obtain ⟨v, σ', H', I, r, q⟩ := h; exact ⟨v, σ', H', I.unwish, r, q⟩
theorem PSs.nox {st : List Stmt} {t : TS} (h : PSs X.nox st t) : PSs X st t := fun pins s σ H D I hw =>
  wpAny_mono (h pins s σ H D (I.wish _) hw) (fun _ _ q => q.unwish) fun _ _ z => False.elim z
end

/-! ### blocks and small statements -/
section
variable {X : Cx} {st : Stmt} {rest : List Stmt} {t u : TS} {e : Expr} {te : TE} {pos : Pos}
def tNext : TS := fun D σ H => D.nx σ H
def tSeq (t u : TS) : TS := fun D σ H => t { D with nx := u D } σ H
theorem pss_nil : PSs X [] tNext := fun _ _ σ H _ I h => wpAny_execs_nil ⟨σ, H, I, h⟩
theorem pss_cons (h1 : PS X st t) (h2 : PSs X rest u) : PSs X (st :: rest) (tSeq t u) := by
  intro pins s σ H D I h
  refine wpAny_execs_cons (thn (h1 pins s σ H { D with nx := u D } I h) fun f s1 q => ?_)
  cases f with
  | next =>
    obtain ⟨σ', H', I', q⟩ := q
    exact h2 pins s1 σ' H' D I' q
  | ret v => exact q
  | brk => exact q
  | cont => exact q
theorem pss_one (h1 : PS X st t) : PSs X [st] t := by
  intro pins s σ H D I h
  refine wpAny_execs_cons (thn (h1 pins s σ H D I h) fun f s1 q => ?_)
  cases f with
  | next => exact wpAny_execs_nil q
  | ret v => exact q
  | brk => exact q
  | cont => exact q
def tBreak : TS := fun D σ H => D.bk σ H
def tCont : TS := fun D σ H => D.ct σ H
/-- in a def's body nothing is shown -/
theorem Inv.quiet {pins : List (Addr × Obj)} {σ : St} {H : Hp} {s : Shared} (I : Inv X pins σ H s) : interactive X.env = false := by simp [interactive, I.ok.kind]
/-- an expression whose value is dropped -/
def tDrop (te : TE) : TS := fun D σ H => te σ H fun _ H1 => D.nx σ H1
theorem ps_expr (he : PE X e te) (hs : swapsWith e none pos.line X.env = pure false := by rfl) : PS X (.Expr e pos) (tDrop te) := by
  intro pins s σ H D I h
  exact wpAny_Expr_any (thn (he pins s σ H _ I h) fun v s1 ⟨x, H1, I1, r1, q1⟩ => ⟨σ, H1, I1, q1⟩) I.quiet hs
def tRet (te : TE) : TS := fun D σ H => te σ H D.rt
theorem ps_ret (he : PE X e te) : PS X (.Return (some e) pos) (tRet te) := by
  intro pins s σ H D I h
  exact wpAny_Return_some (thn (he pins s σ H _ I h) fun v s1 ⟨x, H1, I1, r1, q1⟩ => ⟨x, σ, H1, I1, r1, q1⟩)
def tRetN : TS := fun D _ H => D.rt .non H
def tIfS (c : TT) (t u : TS) : TS := fun D σ H => c σ H fun b H1 => if b = true then t D σ H1 else u D σ H1
theorem ps_if {c : Expr} {a b : List Stmt} {tc : TT} (hc : PT X c tc) (ha : PSs X a t) (hb : PSs X b u) : PS X (.If c a b pos) (tIfS tc t u) := by
  intro pins s σ H D I h
  refine wpAny_If (thn (hc pins s σ H _ I h) fun d s1 ⟨H1, I1, q1⟩ => ?_)
  cases d with
  | true => exact ha pins s1 σ H1 D I1 q1
  | false => exact hb pins s1 σ H1 D I1 q1
/-- code that the proof never comes to -/
def tNever : TS := fun _ _ _ => False
end

/-! ### targets -/
abbrev TG := V → St → Hp → (St → Hp → Prop) → Prop
abbrev TGs := List V → St → Hp → (St → Hp → Prop) → Prop
def PG (X : Cx) (target : Expr) (t : TG) : Prop :=
  ∀ (pins : List (Addr × Obj)) (s : Shared) (σ : St) (H : Hp) (v : V) (u : Value) (Q : St → Hp → Prop), Inv X pins σ H s → RelV v u → t v σ H Q →
    wpAny (model X.prog X.w) X.A (assign target X.env u) (fun _ s' => ∃ σ' H', Inv X pins σ' H' s' ∧ Q σ' H') X.xe s
/-- several targets, one after another -/
def PGs (X : Cx) (ts : List Expr) (t : TGs) : Prop :=
  ∀ (pins : List (Addr × Obj)) (s : Shared) (σ : St) (H : Hp) (vs : List V) (us : List Value) (Q : St → Hp → Prop), Inv X pins σ H s → Vals vs us → t vs σ H Q →
    wpAny (model X.prog X.w) X.A (assignInOrder ((assignEach ts X.env).map (·.2)) us) (fun _ s' => ∃ σ' H', Inv X pins σ' H' s' ∧ Q σ' H') X.xe s
/-- o[i] = v, by values -/
abbrev TSet := V → V → V → Hp → (Hp → Prop) → Prop
def PSet (X : Cx) (t : TSet) : Prop :=
  ∀ (pins : List (Addr × Obj)) (s : Shared) (σ : St) (H : Hp) (o i v : V) (ov iv u : Value) (Q : Hp → Prop), Inv X pins σ H s → RelV o ov → RelV i iv → RelV v u → t o i v H Q →
    wpAny (model X.prog X.w) X.A (setItem ov iv u) (fun _ s' => ∃ H', Inv X pins σ H' s' ∧ Q H') X.xe s
/-- a op= b, by values -/
abbrev TIp := V → V → Hp → VK → Prop
def PIp (X : Cx) (op : Operator) (t : TIp) : Prop :=
  ∀ (pins : List (Addr × Obj)) (s : Shared) (σ : St) (H : Hp) (x y : V) (v u : Value) (Q : VK), Inv X pins σ H s → RelV x v → RelV y u → t x y H Q →
    wpAny (model X.prog X.w) X.A (inplaceOp op v u) (EP X pins σ Q) X.xe s
section
variable {X : Cx} {pos : Pos}
def gName (i : Nat) : TG := fun v σ H Q => Q (σ.set i (some v)) H
theorem pg_name {i : Nat} {x : Str} (hN : X.N.Nodup) (hi : X.N[i]? = some x) (hx : Loc X.env.scope x) (hf : X.fn x = true ∨ X.env.scope.names.lookup x = some .local := by first | exact .inl rfl | exact .inr rfl | assumption) : PG X (.Name x pos) (gName i) := by
  intro pins s σ H v u Q I r h
  exact wpAny_assign_Name (store_ok I hN hi hx r (fun s' I' => ⟨_, H, I', h⟩) hf)
def gNil : TGs := fun vs σ H Q => vs = [] ∧ Q σ H
def gCons (t : TG) (u : TGs) : TGs := fun vs σ H Q => ∃ v r, vs = v :: r ∧ t v σ H fun σ' H' => u r σ' H' Q
theorem pgs_nil : PGs X [] gNil := by
  intro pins s σ H vs us Q I r h
  obtain ⟨e, h⟩ := h
  subst e
  cases r
  exact assignInOrder_nil ⟨σ, H, I, h⟩
theorem pgs_cons {e : Expr} {es : List Expr} {t : TG} {u : TGs} (h1 : PG X e t) (h2 : PGs X es u)
    (hs : (assignEach (e :: es) X.env).map (·.2) = assign e X.env :: (assignEach es X.env).map (·.2) := by rfl) : PGs X (e :: es) (gCons t u) := by
  intro pins s σ H vs us Q I r h
  obtain ⟨v, vr, e1, h⟩ := h
  subst e1
  cases r with
  | cons r rr =>
    rw [hs]
    refine assignInOrder_cons (thn (h1 pins s σ H _ _ _ I r h) fun _ s1 ⟨σ1, H1, I1, q1⟩ => ?_)
    exact h2 pins s1 σ1 H1 _ _ Q I1 rr q1
/-- (a, b, ..) = a tuple of that length -/
def gTup (K : PySem.W.Frag) (n : Nat) (t : TGs) : TG := fun v σ H Q => ∃ a xs, v = .ref a ∧ SqT K H a xs ∧ xs.length = n ∧ t xs σ H Q
theorem pg_tup {es : List Expr} {k : Nat} {t : TGs} {n : Nat} (hc : X.calm = true) (h : PGs X es t)
    (hn : (assignEach es X.env).length = n := by rfl) (hst : (assignEach es X.env).findIdx? (·.1) = none := by rfl) : PG X (.Tuple es k pos) (gTup X.K n t) := by
  intro pins s σ H v u Q I r hw
  obtain ⟨a, xs, e1, hq, hl, hw⟩ := hw
  subst e1
  cases r
  obtain ⟨its, rv, ht, hz⟩ := I.tuple hq
  refine assign_Tuple_tuple (I.ok.hd hc) ht (by simp [hn, ← hl, rv.length]) hst fun h' hx => ?_
  have I1 : Inv X pins σ H { s with heap := h' } := I.kept (t' := s.toks) fun b o e => hx b o (Nat.ne_of_lt (Heap.lt_size e)) e
  exact h pins _ σ H xs _ Q I1 (by simpa using rv) hw
/-- o[i] = .. -/
def gSub (to ti : TE) (t : TSet) : TG := fun v σ H Q => to σ H fun o H1 => ti σ H1 fun i H2 => t o i v H2 fun H3 => Q σ H3
theorem pg_sub {o i : Expr} {to ti : TE} {t : TSet} (ho : PE X o to) (hi : PE X i ti) (hs : PSet X t)
    (ha : ∀ v, assign (.Subscript o i pos) X.env v = (do
      let ov ← holding [v] (eval o X.env)
      let iv ← holding [v, ov] (eval i X.env)
      standAt pos
      holding [v, ov, iv] (setItem ov iv v)
      release [v, ov, iv] []) := by intro _; rfl) : PG X (.Subscript o i pos) (gSub to ti t) := by
  intro pins s σ H v u Q I r h
  rw [ha]
  refine wpAny_bind (wpAny_holding (thn (ho pins s σ H _ I h) fun ov s1 ⟨x, H1, I1, r1, q1⟩ => ?_))
  refine wpAny_bind (wpAny_holding (thn (hi pins s1 σ H1 _ I1 q1) fun iv s2 ⟨y, H2, I2, r2, q2⟩ => ?_))
  refine wpAny_bind (wpAny_standAt (wpAny_bind (wpAny_holding (thn (hs pins s2 σ H2 x y v ov iv u _ I2 r1 r2 r q2) fun _ s3 ⟨H3, I3, q3⟩ => ?_))))
  exact wpAny_release ⟨σ, H3, I3, q3⟩
/-- target = value -/
def tAsg (te : TE) (g : TG) : TS := fun D σ H => te σ H fun x H1 => g x σ H1 D.nx
theorem ps_asg {tg e : Expr} {te : TE} {g : TG} (he : PE X e te) (hg : PG X tg g) (hs : swapsWithSole [tg] e pos.line X.env = pure false := by rfl) (hw : swappedStores [tg] e X.env = pure none := by rfl)
    (h1 : (assignEach [tg] X.env).map (·.2) = [assign tg X.env] := by rfl) : PS X (.Assign [tg] e pos) (tAsg te g) := by
  intro pins s σ H D I h
  refine wpAny_Assign_stores (thn (he pins s σ H _ I h) fun v s1 ⟨x, H1, I1, r1, q1⟩ => ?_) hs hw
  rw [h1]
  exact thn (hg pins s1 σ H1 x v _ I1 r1 q1) fun _ s2 q => q
/-- name = value -/
theorem ps_set {i : Nat} {x : Str} {e : Expr} {te : TE} {pos' : Pos} (hN : X.N.Nodup) (hi : X.N[i]? = some x) (hx : Loc X.env.scope x) (he : PE X e te) (hs : swapsWith e (some (.Name x pos')) pos.line X.env = pure false := by rfl) (hf : X.fn x = true ∨ X.env.scope.names.lookup x = some .local := by first | exact .inl rfl | exact .inr rfl | assumption) :
    PS X (.Assign [.Name x pos'] e pos) (tAsg te (gName i)) := by
  intro pins s σ H D I h
  refine wpAny_Assign_Name (thn (he pins s σ H _ I h) fun v s1 ⟨y, H1, I1, r1, q1⟩ => ?_) hs
  exact store_ok I1 hN hi hx r1 (fun s2 I2 => ⟨_, H1, I2, q1⟩) hf
/-- a, b = x, y with plain local names: stored from the right; the pair itself is not tracked (the opening rows as in PyProof/Rows/TupAssign.lean:23) -/
def tPar (i j : Nat) (ta : TA) : TS := fun D σ H => ta σ H fun vs H1 => ∃ v w, vs = [v, w] ∧ D.nx ((σ.set i (some v)).set j (some w)) H1
/-- name op= e -/
def tAug (i : Nat) (te : TE) (ti : TIp) : TS := fun D σ H => ∃ x, σ[i]? = some (some x) ∧ te σ H fun y H1 => ti x y H1 fun z H2 => D.nx (σ.set i (some z)) H2
/-- o[i] op= e -/
def tAugS (to ti te : TE) (tget : V → V → Hp → VK → Prop) (tip : TIp) (tset : TSet) : TS := fun D σ H => to σ H fun o H1 => ti σ H1 fun i H2 => tget o i H2 fun x H3 => te σ H3 fun y H4 => tip x y H4 fun z H5 => tset o i z H5 fun H6 => D.nx σ H6
/-- o[i], by values -/
def PGet (X : Cx) (t : V → V → Hp → VK → Prop) : Prop :=
  ∀ (pins : List (Addr × Obj)) (s : Shared) (σ : St) (H : Hp) (o i : V) (ov iv : Value) (Q : VK), Inv X pins σ H s → RelV o ov → RelV i iv → t o i H Q →
    wpAny (model X.prog X.w) X.A (getItem ov iv) (EP X pins σ Q) X.xe s
/-- ints -/
def ipI (f : Int → Int → Int) : TIp := fun x y H Q => ∃ i j, x = .int i ∧ y = .int j ∧ Q (.int (f i j)) H
end

/-! ### while -/
section
variable {X : Cx} {pos : Pos}
/-- the invariant W with its measure -/
def tWhile (c : TT) (tb : TS) : TS := fun D σ H => ∃ W : Nat → St → Hp → Prop, (∃ m, W m σ H) ∧ ∀ m σ H, W m σ H →
  c σ H fun b H1 => if b = true then ∃ N : St → Hp → Prop, (∀ σ' H', N σ' H' → ∃ m', m' < m ∧ W m' σ' H') ∧ tb { D with nx := N, ct := N, bk := D.nx } σ H1 else D.nx σ H1
end

/-! ### what a loop or a comprehension walks -/
/-- at turn i: it yields x (the heap may grow), or it stops -/
structure It where
  go : Nat → Hp → Prop
  yld : Nat → Hp → V → Hp → Prop
  stop : Nat → Hp → Prop
/-- the iterator's own objects may turn: they are not the frame's, not pinned, younger than the entry (or a comprehension's own) -/
def FpOk (X : Cx) (pins : List (Addr × Obj)) (H : Hp) (b : Addr) : Prop :=
  H b = none ∧ b ≠ X.env.locals ∧ b ∉ X.fs ∧ (b ∈ X.ex ∨ X.s₀.heap.objs.size ≤ b) ∧ (∀ x c, X.env.cells.lookup x = some c → c ≠ b) ∧ ∀ p ∈ X.pn ++ pins, p.1 ≠ b
theorem Inv.fpOk {X : Cx} {pins : List (Addr × Obj)} {σ : St} {H H' : Hp} {s : Shared} {b : Addr} (I : Inv X pins σ H s) (hb : s.heap.objs.size ≤ b) (hn : H' b = none) : FpOk X pins H' b := by
  refine ⟨hn, Nat.ne_of_gt (Nat.lt_of_lt_of_le I.lt hb), I.nofs hb, .inr (Nat.le_trans I.sz hb), fun x c e z => ?_, fun p hp z => ?_⟩
  · obtain ⟨v, q⟩ := I.cell x c e
    exact absurd (Nat.lt_of_lt_of_le q.lt (by rw [z]; exact hb)) (Nat.lt_irrefl _)
  · exact absurd (Nat.lt_of_lt_of_le (Heap.lt_size (I.pin p hp).1) (by rw [z]; exact hb)) (Nat.lt_irrefl _)
structure Turn (P : Program) (w : World) (K : PySem.W.Frag) (tg : Expr) (J : It) (fp : List Addr) (it : Addr) (tn : Nat → Heap → Prop) : Prop where
  mem : it ∈ fp
  obj : ∀ i h, tn i h → ∀ b ∈ fp, ∃ o, h.get? b = some o ∧ ∀ v, o.data ≠ .cell v
  keep : ∀ i h h', tn i h → (∀ b ∈ fp, ∀ o, h.get? b = some o → h'.get? b = some o) → tn i h'
  item : ∀ (X : Cx), X.prog = P → X.w = w → X.K = K → X.calm = true → ∀ (i : Nat) (pins : List (Addr × Obj)) (s : Shared) (σ : St) (H : Hp) (E : Value → Shared → Prop), Inv X pins σ H s → (∀ b ∈ fp, FpOk X pins H b) → tn i s.heap → J.go i H →
    wpAny (model P w) X.A (pyNext (.ref it)) (fun r s1 => ∃ u, r = some u ∧
      wpAny (model P w) X.A (letOwnedTupleGo tg (.ref it) u) (fun _ s2 => ∃ x H', Inv X pins σ H' s2 ∧ RelV x u ∧ J.yld i H x H' ∧ tn (i + 1) s2.heap ∧ ∀ b ∈ fp, H' b = none) E s1) E s
  done : ∀ (X : Cx), X.prog = P → X.w = w → X.K = K → X.calm = true → ∀ (i : Nat) (pins : List (Addr × Obj)) (s : Shared) (σ : St) (H : Hp) (E : Value → Shared → Prop), Inv X pins σ H s → (∀ b ∈ fp, FpOk X pins H b) → tn i s.heap → J.stop i H →
    wpAny (model P w) X.A (pyNext (.ref it)) (fun r s1 => r = none ∧ Inv X pins σ H s1) E s
  self : ∀ (A : Around) (i : Nat) (s : Shared) (Q : Value → Shared → Prop) (E : Value → Shared → Prop), tn i s.heap → Q (.ref it) s → wpAny (model P w) A (pyIter (.ref it)) Q E s
abbrev TI := St → Hp → (It → Hp → Prop) → Prop
/-- an iterator has come -/
def PIE (X : Cx) (pins : List (Addr × Obj)) (σ : St) (tg : Expr) (R : It → Hp → Prop) (itv : Value) (s2 : Shared) : Prop :=
  ∃ (it : Addr) (fp : List Addr) (tn : Nat → Heap → Prop) (J : It) (H' : Hp), itv = .ref it ∧ Inv X pins σ H' s2 ∧ Turn X.prog X.w X.K tg J fp it tn ∧ tn 0 s2.heap ∧ (∀ b ∈ fp, FpOk X pins H' b) ∧ R J H'
def PI (X : Cx) (tg iter : Expr) (wi : TI) : Prop :=
  ∀ (pins : List (Addr × Obj)) (s : Shared) (σ : St) (H : Hp) (R : It → Hp → Prop), Inv X pins σ H s → wi σ H R →
    wpAny (model X.prog X.w) X.A (eval iter X.env) (fun v s1 => wpAny (model X.prog X.w) X.A (pyIter v) (PIE X pins σ tg R) X.xe s1) X.xe s

/-- the step ahead of the store is nothing for an iterator that keeps no tuple -/
theorem go_of {M : Model} {A : Around} {E : Value → Shared → Prop} {s : Shared} {tg : Expr} {it : Addr} {u : Value} {o : Obj} {n : String} {vs : Array Value} {Q : Unit → Shared → Prop} (ho : s.heap.get? it = some o) (hc : o.cls = .type n) (hd : o.data = .fields vs)
    (hn : ["enumerate", "zip", "dict_itemiterator", "dict_reverseitemiterator", "odict_iterator", "itertools.zip_longest", "itertools.pairwise"].contains n = false) (hQ : Q () s) : wpAny M A (letOwnedTupleGo tg (.ref it) u) Q E s := by
  unfold letOwnedTupleGo
  cases tg <;> first
    | exact wpAny_pure hQ
    | (cases u <;> first
        | exact wpAny_pure hQ
        | (refine wpAny_bind (wpAny_load ho ?_)
           rw [hc, hd]
           show wpAny M A (if (["enumerate", "zip", "dict_itemiterator", "dict_reverseitemiterator", "odict_iterator", "itertools.zip_longest", "itertools.pairwise"].contains n && vs[0]? == some (rawInt _)) = true then _ else _) Q E s
           rw [if_neg (by intro h; rw [hn, Bool.false_and] at h; cases h)]
           exact wpAny_pure hQ))

/-- the list at a, as it stands at each turn (a loop may append to it) -/
def Itl (K : PySem.W.Frag) (a : Addr) : It :=
  ⟨fun i H => ∃ xs x, SqL K H a xs ∧ xs[i]? = some x, fun i H x H' => H' = H ∧ ∀ xs, SqL K H a xs → xs[i]? = some x, fun i H => ∃ xs, SqL K H a xs ∧ xs.length ≤ i⟩
def Itt (K : PySem.W.Frag) (a : Addr) : It :=
  ⟨fun i H => ∃ xs x, SqT K H a xs ∧ xs[i]? = some x, fun i H x H' => H' = H ∧ ∀ xs, SqT K H a xs → xs[i]? = some x, fun i H => ∃ xs, SqT K H a xs ∧ xs.length ≤ i⟩
/-- lo, lo + 1, .. (n of them) -/
def Itr (lo : Int) (n : Nat) : It := ⟨fun i _ => i < n, fun i H x H' => H' = H ∧ x = .int (lo + i), fun i _ => n ≤ i⟩
theorem turn_list {P : Program} {w : World} {K : PySem.W.Frag} {tg : Expr} (a it : Addr) : Turn P w K tg (Itl K a) [it] it (fun i h => h.IsListIter it a i) where
  mem := by simp
  obj := fun i h st b hb => by
    have e : b = it := by simpa using hb
    subst e
    obtain ⟨o, e, c, d⟩ := st
    exact ⟨o, e, fun v z => by rw [d] at z; cases z⟩
  keep := fun i h h' st k => st.at fun o e => k it (by simp) o e
  item := by
    intro X hP hw hK hc i pins s σ H E I hf st hg
    subst hP hw hK
    obtain ⟨xs, x, hq, hx⟩ := hg
    obtain ⟨its, rv, p, hz⟩ := I.list hq
    obtain ⟨u, hu, ru⟩ := rv.get hx
    obtain ⟨f0, f1, f2, f3, f4, f5⟩ := hf it (by simp)
    refine wpAny_pyNext_list_item st p.isList (x := u) (by simpa using hu) fun h' st' sb => ?_
    have I1 : Inv X pins σ H { s with heap := h' } := I.turned (t' := s.toks) (fun b o hb e => (sb.2 b hb).trans e) f0 f1 f3 f4 f5
    obtain ⟨o, e, c, d⟩ := id st'
    exact ⟨u, rfl, go_of (s := { s with heap := h' }) e c d (by decide) ⟨x, H, I1, ru, ⟨rfl, fun ys hy => by rw [I.list_inj hy hq]; exact hx⟩, st', fun b hb => (hf b hb).1⟩⟩
  done := by
    intro X hP hw hK hc i pins s σ H E I hf st hg
    subst hP hw hK
    obtain ⟨xs, hq, hx⟩ := hg
    obtain ⟨its, rv, p, hz⟩ := I.list hq
    obtain ⟨f0, f1, f2, f3, f4, f5⟩ := hf it (by simp)
    have hl := rv.length
    exact wpAny_pyNext_list_end (I.ok.hd hc) st p.isList (by simp; omega) fun h' eb => ⟨rfl, I.turned (t' := s.toks) (fun b o hb e => eb b o hb e) f0 f1 f3 f4 f5⟩
  self := fun _ _ _ _ _ st h => wpAny_pyIter_listiter st h
theorem turn_tuple {P : Program} {w : World} {K : PySem.W.Frag} {tg : Expr} (a it : Addr) : Turn P w K tg (Itt K a) [it] it (fun i h => h.IsTupleIter it a i) where
  mem := by simp
  obj := fun i h st b hb => by
    have e : b = it := by simpa using hb
    subst e
    obtain ⟨o, e, c, d⟩ := st
    exact ⟨o, e, fun v z => by rw [d] at z; cases z⟩
  keep := fun i h h' st k => st.at fun o e => k it (by simp) o e
  item := by
    intro X hP hw hK hc i pins s σ H E I hf st hg
    subst hP hw hK
    obtain ⟨xs, x, hq, hx⟩ := hg
    obtain ⟨its, rv, p, hz⟩ := I.tuple hq
    obtain ⟨u, hu, ru⟩ := rv.get hx
    obtain ⟨f0, f1, f2, f3, f4, f5⟩ := hf it (by simp)
    refine wpAny_pyNext_tuple_item st (show s.heap.IsTuple a its.toArray from p) (x := u) (by simpa using hu) fun h' st' sb => ?_
    have I1 : Inv X pins σ H { s with heap := h' } := I.turned (t' := s.toks) (fun b o hb e => (sb.2 b hb).trans e) f0 f1 f3 f4 f5
    obtain ⟨o, e, c, d⟩ := id st'
    exact ⟨u, rfl, go_of (s := { s with heap := h' }) e c d (by decide) ⟨x, H, I1, ru, ⟨rfl, fun ys hy => by rw [I.tuple_inj hy hq]; exact hx⟩, st', fun b hb => (hf b hb).1⟩⟩
  done := by
    intro X hP hw hK hc i pins s σ H E I hf st hg
    subst hP hw hK
    obtain ⟨xs, hq, hx⟩ := hg
    obtain ⟨its, rv, p, hz⟩ := I.tuple hq
    obtain ⟨f0, f1, f2, f3, f4, f5⟩ := hf it (by simp)
    have hl := rv.length
    exact wpAny_pyNext_tuple_end (I.ok.hd hc) st (show s.heap.IsTuple a its.toArray from p) (by simp; omega) fun h' eb => ⟨rfl, I.turned (t' := s.toks) (fun b o hb e => eb b o hb e) f0 f1 f3 f4 f5⟩
  self := fun _ _ _ _ _ st h => wpAny_pyIter_tupleiter st h
theorem turn_range {P : Program} {w : World} {K : PySem.W.Frag} {tg : Expr} (it : Addr) (lo : Int) (n : Nat) : Turn P w K tg (Itr lo n) [it] it (fun i h => IsRangeIter h it (lo + (i : Nat) * 1) ((n : Int) - (i : Nat)) 1) where
  mem := by simp
  obj := fun i h st b hb => by
    have e : b = it := by simpa using hb
    subst e
    exact ⟨_, st, fun v z => by
      have z' : Data.fields _ = Data.cell v := z
      cases z'⟩
  keep := fun i h h' st k => k it (by simp) _ st
  item := by
    intro X hP hw hK hc i pins s σ H E I hf st hg
    subst hP hw hK
    obtain ⟨f0, f1, f2, f3, f4, f5⟩ := hf it (by simp)
    have W := Walks.range (prog := X.prog) (w := X.w) (I.ok.hd hc) it lo 1 n
    refine W.item i s _ _ hg st fun v h' tk hv st' kk => ?_
    obtain ⟨t, rfl⟩ := hv
    have I1 : Inv X pins σ H { s with heap := h', toks := tk } := I.turned (fun b o hb e => kk b o (by simpa using hb) e) f0 f1 f3 f4 f5
    refine ⟨_, rfl, go_of (s := { s with heap := h', toks := tk }) (n := "range_iterator") st' rfl rfl (by decide) ⟨.int (lo + i), H, I1, ⟨t, ?_⟩, ⟨rfl, rfl⟩, st', fun b hb => (hf b hb).1⟩⟩
    rw [Int.mul_one]
  done := by
    intro X hP hw hK hc i pins s σ H E I hf st hg
    subst hP hw hK
    obtain ⟨f0, f1, f2, f3, f4, f5⟩ := hf it (by simp)
    exact wpAny_pyNext_range_end (I.ok.hd hc) st (by have : n ≤ i := hg; omega) fun h' eb => ⟨rfl, I.turned (t' := s.toks) (fun b o hb e => eb b o hb e) f0 f1 f3 f4 f5⟩
  self := fun _ _ _ _ _ st h => wpAny_pyIter_rangeiter st h
end L2

namespace L2
open PySem PySem.Spec PyProof.Rows
section
variable {X : Cx} {tg : Expr}
def iList (K : PySem.W.Frag) (tl : TE) : TI := fun σ H R => tl σ H fun x H1 => ∃ a, x = .ref a ∧ (∃ xs, SqL K H1 a xs) ∧ R (Itl K a) H1
def iTup (K : PySem.W.Frag) (tl : TE) : TI := fun σ H R => tl σ H fun x H1 => ∃ a, x = .ref a ∧ (∃ xs, SqT K H1 a xs) ∧ R (Itt K a) H1
/-- a range object just made, walked -/
theorem range_it {pins : List (Addr × Obj)} {σ : St} {H : Hp} {s : Shared} {R : It → Hp → Prop} {E : Value → Shared → Prop} {lo hi : Int} {t u v : Tok} {tk : Nat} (I : Inv X pins σ H s) (h1 : -(2 ^ 62) ≤ lo) (h2 : lo < 2 ^ 62) (h3 : -(2 ^ 62) ≤ hi) (h4 : hi < 2 ^ 62)
    (q : R (Itr lo (hi - lo).toNat) H) : wpAny (model X.prog X.w) X.A (pyIter (.ref s.heap.objs.size)) (PIE X pins σ tg R) E { s with heap := s.heap.push { cls := .type "range", data := .fields #[.int lo t, .int hi u, .int 1 v] }, toks := tk } := by
  refine wpAny_pyIter_range (IsRange.new ..) (small_one h1 h2 h3 h4) ?_
  have I1 : Inv X pins σ H { s with heap := s.heap.push { cls := .type "range", data := .fields #[.int lo t, .int hi u, .int 1 v] }, toks := tk } := I.kept fun b o e => Heap.get?_push_of_some _ e
  refine ⟨(s.heap.push { cls := .type "range", data := .fields #[.int lo t, .int hi u, .int 1 v] }).objs.size, [(s.heap.push { cls := .type "range", data := .fields #[.int lo t, .int hi u, .int 1 v] }).objs.size], _, _, H, rfl,
    I1.kept (t' := tk) fun b o e => Heap.get?_push_of_some _ e, turn_range _ lo (hi - lo).toNat, ?_, fun b hb => ?_, q⟩
  · have e1 : lo + ((0 : Nat) : Int) * 1 = lo := by simp
    have e2 : (((hi - lo).toNat : Nat) : Int) - ((0 : Nat) : Int) = Builtin.Range.rangeSize lo hi 1 := by rw [rangeSize_one]; split <;> omega
    show IsRangeIter _ _ (lo + ((0 : Nat) : Int) * 1) ((((hi - lo).toNat : Nat) : Int) - ((0 : Nat) : Int)) 1
    rw [e1, e2]
    exact Heap.get?_push_size _ rfl
  · have e : b = (s.heap.push { cls := .type "range", data := .fields #[.int lo t, .int hi u, .int 1 v] }).objs.size := by simpa using hb
    subst e
    exact I1.fpOk (Nat.le_refl _) (I1.hok.fresh (Nat.le_refl _))
def iRng1 (ta : TA) : TI := fun σ H R => ta σ H fun vs H1 => ∃ j : Int, vs = [.int j] ∧ -(2 ^ 62) ≤ j ∧ j < 2 ^ 62 ∧ R (Itr 0 j.toNat) H1
def iRng2 (ta : TA) : TI := fun σ H R => ta σ H fun vs H1 => ∃ i j : Int, vs = [.int i, .int j] ∧ (-(2 ^ 62) ≤ i ∧ i < 2 ^ 62 ∧ -(2 ^ 62) ≤ j ∧ j < 2 ^ 62) ∧ R (Itr i (j - i).toNat) H1
theorem pi_range1 {a : Expr} {ta : TA} {p pos : Pos} (hg : Gl X "range") (hm : X.mg "range" = none) (ha : PA X [a] ta) (hs : starEach [a] X.env = [(false, eval a X.env)] := by rfl) : PI X tg (.Call (.Name "range" p) [a] [] pos) (iRng1 ta) := by
  intro pins s σ H R I h
  refine Call_ (ld_blt I hg hm boot_range (PyProof.Rows.callWith_type1 (thn (ha pos pins s σ H _ I h) fun us s1 ⟨vs, H1, I1, r1, q1⟩ => ?_) hs rfl))
  obtain ⟨j, e, q1, q2, q⟩ := q1
  subst e
  cases r1 with
  | cons r rr =>
    cases rr
    obtain ⟨t, rfl⟩ := r
    exact call_range_1 (range_it I1 (by omega) (by omega) q1 q2 (by simpa using q))
/-! ### for -/
/-- W: the invariant by the turn and a measure; N: what the body is to reach -/
def tFor (wi : TI) (g : TG) (tb : TS) : TS := fun D σ H => wi σ H fun J H1 => ∃ W : Nat → Nat → St → Hp → Prop, (∃ m, W 0 m σ H1) ∧ ∀ i m σ H, W i m σ H →
  (J.stop i H ∧ D.nx σ H) ∨ (J.go i H ∧ ∃ N : St → Hp → Prop, (∀ σ' H', N σ' H' → ∃ m', m' < m ∧ W (i + 1) m' σ' H') ∧ ∀ x H', J.yld i H x H' → g x σ H' fun σ2 H2 => tb { D with nx := N, ct := N, bk := D.nx } σ2 H2)
/-- the records at fp as they stand -/
def pinsAt (fp : List Addr) (h : Heap) : List (Addr × Obj) := fp.filterMap fun b => (h.get? b).map fun o => (b, o)
theorem mem_pinsAt {fp : List Addr} {h : Heap} {b : Addr} {o : Obj} (hb : b ∈ fp) (e : h.get? b = some o) : (b, o) ∈ pinsAt fp h := List.mem_filterMap.mpr ⟨b, hb, by rw [e]; rfl⟩
theorem of_pinsAt {fp : List Addr} {h : Heap} {p : Addr × Obj} (hp : p ∈ pinsAt fp h) : p.1 ∈ fp ∧ h.get? p.1 = some p.2 := by
  obtain ⟨b, hb, e⟩ := List.mem_filterMap.mp hp
  cases q : h.get? b with
  | none => rw [q] at e; cases e
  | some o =>
    rw [q] at e
    have e' : (b, o) = p := Option.some.inj e
    subst e'
    exact ⟨hb, q⟩
theorem Inv.pinned {pins : List (Addr × Obj)} {σ : St} {H : Hp} {s : Shared} {fp : List Addr} (I : Inv X pins σ H s) (hf : ∀ b ∈ fp, FpOk X pins H b) (ho : ∀ b ∈ fp, ∃ o, s.heap.get? b = some o ∧ ∀ v, o.data ≠ .cell v) : Inv X (pins ++ pinsAt fp s.heap) σ H s :=
  I.pins_of fun p hp => (List.mem_append.mp hp).elim (fun z => I.pin p (List.mem_append_right _ z)) fun z => by
    obtain ⟨hb, e⟩ := of_pinsAt z
    obtain ⟨f0, f1, f2, _⟩ := hf p.1 hb
    obtain ⟨o, e', d⟩ := ho p.1 hb
    rw [e] at e'; cases e'
    exact ⟨e, f0, f1, f2, d⟩
theorem Inv.unpinned {pins pl : List (Addr × Obj)} {σ : St} {H : Hp} {s : Shared} (I : Inv X (pins ++ pl) σ H s) : Inv X pins σ H s := I.pins_of fun p hp => I.pin p (List.mem_append_right _ (List.mem_append_left _ hp))
theorem ps_for {iter : Expr} {body : List Stmt} {wi : TI} {g : TG} {tb : TS} {pos : Pos} (hp : PassesOwn (model X.prog X.w) X.A X.env X.xe) (hc : X.calm = true) (hi : PI X tg iter wi) (hg : PG X tg g) (hb : PSs X body tb)
    (hs : ∀ x, foldedSetIterable iter X.env x = pure x := by intro _; rfl) : PS X (.For tg iter body [] pos) (tFor wi g tb) := by
  intro pins s σ H D I h
  refine wpAny_For (thn (hi pins s σ H _ I h) fun v s1 h1 => thn h1 fun itv s2 h2 => ?_) hs
  obtain ⟨it, fp, tn, J, H2, e, I2, T, st2, f2, W, ⟨m0, w0⟩, turn⟩ := h2
  subst e
  -- what stays true of the iterator's objects through the loop
  have stat : ∀ {H' : Hp}, (∀ b ∈ fp, H' b = none) → ∀ b ∈ fp, FpOk X pins H' b := fun hn b hb => ⟨hn b hb, (f2 b hb).2⟩
  refine codeAny_forLoop_any (fun n s' => ∃ i σ' H', Inv X pins σ' H' s' ∧ tn i s'.heap ∧ (∀ b ∈ fp, H' b = none) ∧ W i n σ' H') ?_ m0 ⟨0, σ, H2, I2, st2, fun b hb => (f2 b hb).1, w0⟩
  rintro n s3 ⟨i, σ3, H3, I3, st3, fr3, w3⟩
  rcases turn i n σ3 H3 w3 with ⟨stop, qn⟩ | ⟨go, N, hN, step⟩
  · refine wpAny_passesOwn hp (thn (T.done X rfl rfl rfl hc i pins s3 σ3 H3 X.xe I3 (stat fr3) st3 stop) fun r s4 ⟨hr, I4⟩ => ?_)
    subst hr
    exact wpAny_execs_nil ⟨σ3, H3, I4, qn⟩
  · refine wpAny_passesOwn hp (thn (T.item X rfl rfl rfl hc i pins s3 σ3 H3 X.xe I3 (stat fr3) st3 go) fun r s4 ⟨u, hr, h4⟩ => ?_)
    subst hr
    refine wpAny_passesOwn hp (thn h4 fun _ s5 ⟨x, H5, I5, r5, y5, st5, fr5⟩ => ?_)
    have I5' := I5.pinned (stat fr5) (T.obj _ _ st5)
    refine wpAny_passesOwn hp (thn (hg _ s5 σ3 H5 x u _ I5' r5 (step x H5 y5)) fun _ s6 ⟨σ6, H6, I6, q6⟩ => ?_)
    refine wpAny_passesOwn hp (thn (hb _ s6 σ6 H6 _ I6 q6) fun f s7 q7 => ?_)
    have again : ∀ {σ7 : St} {H7 : Hp}, Inv X (pins ++ pinsAt fp s5.heap) σ7 H7 s7 → N σ7 H7 → ∃ m, m < n ∧ ∃ i σ' H', Inv X pins σ' H' s7 ∧ tn i s7.heap ∧ (∀ b ∈ fp, H' b = none) ∧ W i m σ' H' := fun {σ7 H7} I7 n7 => by
      obtain ⟨m', hm, w7⟩ := hN σ7 H7 n7
      refine ⟨m', hm, i + 1, σ7, H7, I7.unpinned, T.keep _ _ _ st5 fun b hb o e => (I7.pin (b, o) (List.mem_append_right _ (List.mem_append_right _ (mem_pinsAt hb e)))).1, fun b hb => ?_, w7⟩
      obtain ⟨o, e, d⟩ := T.obj _ _ st5 b hb
      exact (I7.pin (b, o) (List.mem_append_right _ (List.mem_append_right _ (mem_pinsAt hb e)))).2.1
    cases f with
    | next => obtain ⟨σ7, H7, I7, n7⟩ := q7; exact again I7 n7
    | cont => obtain ⟨σ7, H7, I7, n7⟩ := q7; exact again I7 n7
    | brk => obtain ⟨σ7, H7, I7, q7⟩ := q7; exact ⟨σ7, H7, I7.unpinned, q7⟩
    | ret v => obtain ⟨x7, σ7, H7, I7, r7, q7⟩ := q7; exact ⟨x7, σ7, H7, I7.unpinned, r7, q7⟩
end

/-! ### the forms one uses -/
end L2

namespace L2
open PySem PySem.Spec PyProof.Rows

abbrev R2 := V → V → Hp → VK → Prop
/-- a two-place operation on values: f is binaryOp op, inplaceOp op or compareOp op -/
def OpR (X : Cx) (f : Value → Value → Sem Value) (r : R2) : Prop :=
  ∀ (pins : List (Addr × Obj)) (s : Shared) (σ : St) (H : Hp) (x y : V) (v u : Value) (Q : VK), Inv X pins σ H s → RelV x v → RelV y u → r x y H Q →
    wpAny (model X.prog X.w) X.A (f v u) (EP X pins σ Q) X.xe s
/-- a one-place operation -/
def UnR (X : Cx) (f : Value → Sem Value) (r : V → Hp → VK → Prop) : Prop :=
  ∀ (pins : List (Addr × Obj)) (s : Shared) (σ : St) (H : Hp) (x : V) (v : Value) (Q : VK), Inv X pins σ H s → RelV x v → r x H Q →
    wpAny (model X.prog X.w) X.A (f v) (EP X pins σ Q) X.xe s
/-- a call of a value that is known (a builtin, a type) with values -/
def CallR (X : Cx) (f : Value) (r : List V → Hp → VK → Prop) : Prop :=
  ∀ (pins : List (Addr × Obj)) (s : Shared) (σ : St) (H : Hp) (xs : List V) (us : List Value) (Q : VK), Inv X pins σ H s → Vals xs us → r xs H Q →
    wpAny (model X.prog X.w) X.A (call f us) (EP X pins σ Q) X.xe s
/-- a value's truth -/
def TruR (X : Cx) (r : V → Hp → (Bool → Hp → Prop) → Prop) : Prop :=
  ∀ (pins : List (Addr × Obj)) (s : Shared) (σ : St) (H : Hp) (x : V) (v : Value) (Q : Bool → Hp → Prop), Inv X pins σ H s → RelV x v → r x H Q →
    wpAny (model X.prog X.w) X.A (truthy v) (TP X pins σ Q) X.xe s

def tOp (r : R2) (ta tb : TE) : TE := fun σ H Q => ta σ H fun x H1 => tb σ H1 fun y H2 => r x y H2 Q
def tUn (r : V → Hp → VK → Prop) (ta : TE) : TE := fun σ H Q => ta σ H fun x H1 => r x H1 Q
/-- ints in, under C, and a value out -/
def rI (C : Int → Int → Prop) (g : Int → Int → V) : R2 := fun x y H Q => ∃ i j, x = .int i ∧ y = .int j ∧ C i j ∧ Q (g i j) H
def rI0 (g : Int → Int → V) : R2 := fun x y H Q => ∃ i j, x = .int i ∧ y = .int j ∧ Q (g i j) H
def rU (g : Int → V) : V → Hp → VK → Prop := fun x H Q => ∃ i, x = .int i ∧ Q (g i) H

section
variable {X : Cx} {a b c : Expr} {ta tb tc : TE} {pos : Pos}

theorem binT (ha : PE X a ta) (hb : PE X b tb) {pins : List (Addr × Obj)} {s : Shared} {σ : St} {H : Hp} {R : V → V → Hp → Prop} (I : Inv X pins σ H s)
    (h : ta σ H fun x H1 => tb σ H1 fun y H2 => R x y H2) {Q : Value → Shared → Prop} {f : Value → Value → Sem Value}
    (hf : ∀ v u s2 x y H2, Inv X pins σ H2 s2 → RelV x v → RelV y u → R x y H2 → wpAny (model X.prog X.w) X.A (f v u) Q X.xe s2) :
    wpAny (model X.prog X.w) X.A (eval a X.env) (fun v s₁ => wpAny (model X.prog X.w) X.A (eval b X.env) (fun u s₂ => wpAny (model X.prog X.w) X.A (f v u) Q X.xe s₂) X.xe s₁) X.xe s := by
  refine thn (ha pins s σ H _ I h) fun v s1 ⟨x, H1, I1, r1, q1⟩ => ?_
  refine thn (hb pins s1 σ H1 _ I1 q1) fun u s2 ⟨y, H2, I2, r2, q2⟩ => ?_
  exact hf v u s2 x y H2 I2 r1 r2 q2

theorem pe_op {op : Operator} {r : R2} (ho : OpR X (binaryOp op) r) (ha : PE X a ta) (hb : PE X b tb) : PE X (.BinOp a op b pos) (tOp r ta tb) := by
  intro pins s σ H Q I h
  exact wpAny_BinOp (binT ha hb I h fun v u s2 x y H2 I2 rx ry q => ho pins s2 σ H2 x y v u Q I2 rx ry q)
/-! ### ints -/
theorem opI {f : Value → Value → Sem Value} {C : Int → Int → Prop} {g : Int → Int → Int}
    (rule : ∀ (i j : Int) (t u : Tok) (s : Shared) (Q : Value → Shared → Prop) (E : Value → Shared → Prop), C i j → Q (.int (g i j) s.toks) { s with toks := s.toks + 1 } → wpAny (model X.prog X.w) X.A (f (.int i t) (.int j u)) Q E s) :
    OpR X f (rI C fun i j => .int (g i j)) := by
  intro pins s σ H x y v u Q I rx ry h
  obtain ⟨i, j, rfl, rfl, hc, q⟩ := h
  obtain ⟨t, rfl⟩ := rx
  obtain ⟨t', rfl⟩ := ry
  exact rule i j t t' s _ _ hc ⟨.int (g i j), H, I.tok _, ⟨_, rfl⟩, q⟩
theorem opI0 {f : Value → Value → Sem Value} {g : Int → Int → Int}
    (rule : ∀ (i j : Int) (t u : Tok) (s : Shared) (Q : Value → Shared → Prop) (E : Value → Shared → Prop), Q (.int (g i j) s.toks) { s with toks := s.toks + 1 } → wpAny (model X.prog X.w) X.A (f (.int i t) (.int j u)) Q E s) :
    OpR X f (rI0 fun i j => .int (g i j)) := by
  intro pins s σ H x y v u Q I rx ry h
  obtain ⟨i, j, rfl, rfl, q⟩ := h
  obtain ⟨t, rfl⟩ := rx
  obtain ⟨t', rfl⟩ := ry
  exact rule i j t t' s _ _ ⟨.int (g i j), H, I.tok _, ⟨_, rfl⟩, q⟩
theorem opB0 {f : Value → Value → Sem Value} {g : Int → Int → Bool}
    (rule : ∀ (i j : Int) (t u : Tok) (s : Shared) (Q : Value → Shared → Prop) (E : Value → Shared → Prop), Q (.bool (g i j)) s → wpAny (model X.prog X.w) X.A (f (.int i t) (.int j u)) Q E s) :
    OpR X f (rI0 fun i j => .bl (g i j)) := by
  intro pins s σ H x y v u Q I rx ry h
  obtain ⟨i, j, rfl, rfl, q⟩ := h
  obtain ⟨t, rfl⟩ := rx
  obtain ⟨t', rfl⟩ := ry
  exact rule i j t t' s _ _ ⟨.bl (g i j), H, I, rfl, q⟩

def CDiv (i j : Int) : Prop := 0 < j ∧ j < 1073741824
def CDivN (i j : Int) : Prop := j ≠ 0 ∧ j.natAbs < 1073741824
def CPow (i j : Int) : Prop := 0 ≤ j ∧ j ≤ 1000000 ∧ i.natAbs < 2 ^ 64
def CMul (i j : Int) : Prop := (-(2 ^ 64) < i ∧ i < 2 ^ 64) ∨ (-(2 ^ 64) < j ∧ j < 2 ^ 64)
theorem CMul.ok {i j : Int} (h : CMul i j) : IntMulOk i j := by
  rcases h with ⟨h1, h2⟩ | ⟨h1, h2⟩
  · exact .of_left (intBits_le_64 h1 h2)
  · exact .of_right (intBits_le_64 h1 h2)
theorem two_pow_nn (k : Nat) : (0 : Int) ≤ 2 ^ k := by
  rw [two_pow_cast]
  exact Int.natCast_nonneg _

theorem op_add : OpR X (binaryOp .Add) (rI0 fun i j => .int (i + j)) := opI0 fun _ _ _ _ _ _ _ q => add_int q
theorem op_sub : OpR X (binaryOp .Sub) (rI0 fun i j => .int (i - j)) := opI0 fun _ _ _ _ _ _ _ q => sub_int q
theorem op_mul : OpR X (binaryOp .Mult) (rI CMul fun i j => .int (i * j)) := opI fun _ _ _ _ _ _ _ hc q => mul_int q hc.ok
/-- % by a positive divisor of any size -/
theorem op_mod : OpR X (binaryOp .Mod) (rI (fun _ j => 0 < j) fun i j => .int (i % j)) := opI fun i j _ _ _ _ _ hc q => by
  have h1 : (0 : Int) < j := hc
  exact mod_int' (by omega) (by rw [Int.fmod_eq_emod_of_nonneg i (by omega)]; exact q)
theorem op_pow : OpR X (binaryOp .Pow) (rI CPow fun i j => .int (i ^ j.toNat)) := opI fun _ _ _ _ _ _ _ hc q => pow_int_small hc.1 hc.2.1 hc.2.2 q
theorem op_shr : OpR X (binaryOp .RShift) (rI (fun _ j => 0 ≤ j) fun i j => .int (i / 2 ^ j.toNat)) := opI fun i j _ _ _ _ _ hc q =>
  rshift_int hc (by rw [Int.fdiv_eq_ediv_of_nonneg i (two_pow_nn _)]; exact q)
theorem op_and : OpR X (binaryOp .BitAnd) (rI0 fun i j => .int (Builtin.bitAnd i j)) := opI0 fun _ _ _ _ _ _ _ q => and_int q
theorem op_or : OpR X (binaryOp .BitOr) (rI0 fun i j => .int (Builtin.bitOr i j)) := opI0 fun _ _ _ _ _ _ _ q => or_int q
theorem op_xor : OpR X (binaryOp .BitXor) (rI0 fun i j => .int (Builtin.bitXor i j)) := opI0 fun _ _ _ _ _ _ _ q => xor_int q

/-! ### bools among ints: n += (a < b) -/
end

/-! ### comparisons -/
/-- the scalars that == tells apart as data does -/
def scal : V → V → Bool
  | .non, .non => true | .non, .int _ => true | .int _, .non => true | .non, .bl _ => true | .bl _, .non => true | .non, .str _ => true | .str _, .non => true
  | .int _, .int _ => true | .bl _, .bl _ => true | .str _, .str _ => true | .byt _, .byt _ => true
  | .int _, .str _ => true | .str _, .int _ => true | .bl _, .str _ => true | .str _, .bl _ => true
  | _, _ => false
def rEq : R2 := fun x y H Q => scal x y = true ∧ Q (.bl (decide (x = y))) H
def rNe : R2 := fun x y H Q => scal x y = true ∧ Q (.bl (!decide (x = y))) H

theorem dec_int {i j : Int} : decide (V.int i = V.int j) = (i == j) := by
  rw [Bool.eq_iff_iff]
  simp
theorem dec_bl {i j : Bool} : decide (V.bl i = V.bl j) = (i == j) := by
  rw [Bool.eq_iff_iff]
  simp
theorem dec_str {i j : Str} : decide (V.str i = V.str j) = (i == j) := by
  rw [Bool.eq_iff_iff]
  simp
theorem dec_byt {i j : Array UInt8} : decide (V.byt i = V.byt j) = (i.toList == j.toList) := by
  rw [Bool.eq_iff_iff]
  cases i
  cases j
  simp

section
variable {X : Cx} {a b c : Expr} {ta tb tc : TE} {pos : Pos}
theorem fin_bl {pins : List (Addr × Obj)} {σ : St} {H : Hp} {s : Shared} {Q : VK} {k k' : Bool} (I : Inv X pins σ H s) (q : Q (.bl k) H) (e : k = k') : EP X pins σ Q (.bool k') s := by
  subst e
  exact ⟨.bl k, H, I, rfl, q⟩
theorem op_eq : OpR X (compareOp .Eq) rEq := by
  intro pins s σ H x y v u Q I rx ry h
  obtain ⟨hs, q⟩ := h
  cases x with
  | non =>
    cases rx
    cases y with
    | non => cases ry; exact PySem.EqNone.eq_none_none (fin_bl I q (by simp))
    | bl j => cases ry; exact PySem.EqNone.eq_none_bool (fin_bl I q (by simp))
    | int j => obtain ⟨t', rfl⟩ := ry; exact PySem.EqNone.eq_none_int (fin_bl I q (by simp))
    | str j => obtain ⟨t', rfl⟩ := ry; exact PySem.EqNone.eq_none_str (fin_bl I q (by simp))
    | _ => exact absurd (show false = true from hs) Bool.false_ne_true
  | bl i =>
    cases rx
    cases y with
    | non => cases ry; exact PySem.EqNone.eq_bool_none (fin_bl I q (by simp))
    | bl j => cases ry; exact eq_bool (fin_bl I q dec_bl)
    | str j => obtain ⟨t', rfl⟩ := ry; exact PySem.EqMixed.eq_bool_str (fin_bl I q (by simp))
    | _ => exact absurd (show false = true from hs) Bool.false_ne_true
  | int i =>
    obtain ⟨t, rfl⟩ := rx
    cases y with
    | non => cases ry; exact PySem.EqNone.eq_int_none (fin_bl I q (by simp))
    | int j => obtain ⟨t', rfl⟩ := ry; exact eq_int (fin_bl I q dec_int)
    | str j => obtain ⟨t', rfl⟩ := ry; exact PySem.EqMixed.eq_int_str (fin_bl I q (by simp))
    | _ => exact absurd (show false = true from hs) Bool.false_ne_true
  | str i =>
    obtain ⟨t, rfl⟩ := rx
    cases y with
    | non => cases ry; exact PySem.EqNone.eq_str_none (fin_bl I q (by simp))
    | bl j => cases ry; exact PySem.EqMixed.eq_str_bool (fin_bl I q (by simp))
    | int j => obtain ⟨t', rfl⟩ := ry; exact PySem.EqMixed.eq_str_int (fin_bl I q (by simp))
    | str j => obtain ⟨t', rfl⟩ := ry; exact eq_str (fin_bl I q dec_str)
    | _ => exact absurd (show false = true from hs) Bool.false_ne_true
  | byt i =>
    obtain ⟨t, rfl⟩ := rx
    cases y with
    | byt j => obtain ⟨t', rfl⟩ := ry; exact PySem.W.eq_bytes (fin_bl I q dec_byt)
    | _ => exact absurd (show false = true from hs) Bool.false_ne_true
  | _ => cases y <;> exact absurd (show false = true from hs) Bool.false_ne_true
theorem op_ne : OpR X (compareOp .NotEq) rNe := by
  intro pins s σ H x y v u Q I rx ry h
  obtain ⟨hs, q⟩ := h
  cases x with
  | non =>
    cases rx
    cases y with
    | non => cases ry; exact PySem.EqNone.ne_none_none (fin_bl I q (by simp))
    | bl j => cases ry; exact PySem.EqNone.ne_none_bool (fin_bl I q (by simp))
    | int j => obtain ⟨t', rfl⟩ := ry; exact PySem.EqNone.ne_none_int (fin_bl I q (by simp))
    | str j => obtain ⟨t', rfl⟩ := ry; exact PySem.EqNone.ne_none_str (fin_bl I q (by simp))
    | _ => exact absurd (show false = true from hs) Bool.false_ne_true
  | bl i =>
    cases rx
    cases y with
    | non => cases ry; exact PySem.EqNone.ne_bool_none (fin_bl I q (by simp))
    | bl j => cases ry; exact ne_bool (fin_bl I q (congrArg not dec_bl))
    | str j => obtain ⟨t', rfl⟩ := ry; exact PySem.EqMixed.ne_bool_str (fin_bl I q (by simp))
    | _ => exact absurd (show false = true from hs) Bool.false_ne_true
  | int i =>
    obtain ⟨t, rfl⟩ := rx
    cases y with
    | non => cases ry; exact PySem.EqNone.ne_int_none (fin_bl I q (by simp))
    | int j => obtain ⟨t', rfl⟩ := ry; exact ne_int (fin_bl I q (congrArg not dec_int))
    | str j => obtain ⟨t', rfl⟩ := ry; exact PySem.EqMixed.ne_int_str (fin_bl I q (by simp))
    | _ => exact absurd (show false = true from hs) Bool.false_ne_true
  | str i =>
    obtain ⟨t, rfl⟩ := rx
    cases y with
    | non => cases ry; exact PySem.EqNone.ne_str_none (fin_bl I q (by simp))
    | bl j => cases ry; exact PySem.EqMixed.ne_str_bool (fin_bl I q (by simp))
    | int j => obtain ⟨t', rfl⟩ := ry; exact PySem.EqMixed.ne_str_int (fin_bl I q (by simp))
    | str j => obtain ⟨t', rfl⟩ := ry; exact ne_str (fin_bl I q (congrArg not dec_str))
    | _ => exact absurd (show false = true from hs) Bool.false_ne_true
  | byt i =>
    obtain ⟨t, rfl⟩ := rx
    cases y with
    | byt j => obtain ⟨t', rfl⟩ := ry; exact PySem.W.ne_bytes (fin_bl I q (congrArg not dec_byt))
    | _ => exact absurd (show false = true from hs) Bool.false_ne_true
  | _ => cases y <;> exact absurd (show false = true from hs) Bool.false_ne_true

theorem op_lt : OpR X (compareOp .Lt) (rI0 fun i j => .bl (decide (i < j))) := opB0 fun _ _ _ _ _ _ _ q => lt_int q
theorem op_gt : OpR X (compareOp .Gt) (rI0 fun i j => .bl (decide (j < i))) := opB0 fun _ _ _ _ _ _ _ q => gt_int q
theorem op_ge : OpR X (compareOp .GtE) (rI0 fun i j => .bl (decide (j ≤ i))) := opB0 fun _ _ _ _ _ _ _ q => ge_int q
/-- the one string within the other -/
theorem op_in_str : OpR X (compareOp .In) (fun x y H Q => ∃ i j, x = .str i ∧ y = .str j ∧ Q (.bl (!(Builtin.Str.occurrences j i 0 j.length 1).isEmpty)) H) := by
  intro pins s σ H x y v u Q I rx ry h
  obtain ⟨i, j, rfl, rfl, q⟩ := h
  obtain ⟨t, rfl⟩ := rx
  obtain ⟨t', rfl⟩ := ry
  exact in_str (fin_bl I q rfl)

/-- is None, is not None: the right side a value none -/
theorem op_isN : OpR X (compareOp .Is) (fun x y H Q => y = .non ∧ Q (.bl (decide (x = .non))) H) := by
  intro pins s σ H x y v u Q I rx ry h
  obtain ⟨rfl, q⟩ := h
  cases ry
  refine is_none_gen (fin_bl I q ?_)
  cases x <;> first
    | (cases rx; rfl)
    | (obtain ⟨t, rfl⟩ := rx; rfl)
/-- is, is not of two objects that are tracked lists or instances -/
def isObj : HO → Bool
  | .lst _ => true
  | .ins _ _ _ => true
  | _ => false
theorem nomark (b : Expr) {op : CmpOp} (h : op ≠ .In := by decide) (h2 : op ≠ .NotIn := by decide) : behindInMarks op b = false := by
  have e1 : (op == CmpOp.In) = false := by cases op <;> first | rfl | exact absurd rfl h
  have e2 : (op == CmpOp.NotIn) = false := by cases op <;> first | rfl | exact absurd rfl h2
  cases b <;> simp [behindInMarks, e1, e2]
/-- a comparison as a value; hm: nomark b, or (for in, not in) by with_unfolding_all rfl -/
theorem pe_cmpR {op : CmpOp} {r : R2} (ho : OpR X (compareOp op) r) (ha : PE X a ta) (hb : PE X b tb) (hm : behindInMarks op b = false) : PE X (.Compare a [op] [b] pos) (tOp r ta tb) := by
  intro pins s σ H Q I h
  exact wpAny_Compare1 (binT ha hb I h fun v u s2 x y H2 I2 rx ry q => ho pins s2 σ H2 x y v u Q I2 rx ry q) hm
/-- a reading of a value as a test -/
def tTest (t : TE) : TT := fun σ H Q => t σ H fun x H' => ∃ k, x = .bl k ∧ Q k H'
theorem pt_cmpR {op : CmpOp} {r : R2} (ho : OpR X (compareOp op) r) (ha : PE X a ta) (hb : PE X b tb) (hm : behindInMarks op b = false) : PT X (.Compare a [op] [b] pos) (tTest (tOp r ta tb)) := by
  intro pins s σ H Q I h
  refine wpAny_isTrue_Compare1 (thn (ha pins s σ H _ I h) fun v s1 ⟨x, H1, I1, r1, q1⟩ => thn (hb pins s1 σ H1 _ I1 q1) fun u s2 ⟨y, H2, I2, r2, q2⟩ =>
    thn (ho pins s2 σ H2 x y v u _ I2 r1 r2 q2) fun c s3 ⟨z, H3, I3, r3, k, e, q3⟩ => ?_) hm
  subst e
  cases r3
  exact wpAny_truthy_bool ⟨H3, I3, q3⟩
/-- a op1 b op2 c -/
def tChain (r r' : R2) (ta tb tc : TE) : TE := fun σ H Q => ta σ H fun x H1 => tb σ H1 fun y H2 => r x y H2 fun z H3 => ∃ k, z = .bl k ∧
  (if k = true then tc σ H3 fun w' H4 => r' y w' H4 Q else Q (.bl false) H3)
/-! ### truth -/
/-- a value's truth by the abstract heap -/
def TruV (K : PySem.W.Frag) (x : V) (H : Hp) (k : Bool) : Prop :=
  match x with
  | .non => k = false
  | .bl b => k = b
  | .int i => k = (i != 0)
  | .str y => y.length ≤ sizeLine ∧ k = ((y.length : Int) != 0)
  | .byt y => y.size ≤ sizeLine ∧ k = ((y.size : Int) != 0)
  | .ref p => (∃ xs, SqL K H p xs ∧ k = !xs.isEmpty) ∨ (∃ xs, SqT K H p xs ∧ k = !xs.isEmpty) ∨ ∃ kvs, H p = some (.dK kvs) ∧ k = !kvs.isEmpty
  | _ => False
theorem isEmpty_kv {κ : Type} {kvs : List (κ × V)} {vs : List (κ × Value)} (r : KV kvs vs) : (!vs.isEmpty) = !kvs.isEmpty := by
  cases r <;> rfl
theorem isEmpty_of {xs : List V} {its : List Value} (r : Vals xs its) : (!its.toArray.isEmpty) = !xs.isEmpty := by
  cases r <;> simp
theorem line63 : (sizeLine : Nat) < 2 ^ 63 := by rw [sizeLine_eq]; decide
theorem tru_ok : TruR X (fun x H Q => ∃ k, TruV X.K x H k ∧ Q k H) := by
  intro pins s σ H x v Q I rx h
  obtain ⟨k, e, q⟩ := h
  have hl := line63
  have hs : sizeLine = 16777216 := sizeLine_eq
  cases x with
  | non =>
    cases rx
    have e' : k = false := e
    subst e'
    exact truthy_none ⟨H, I, q⟩
  | bl b =>
    cases rx
    have e' : k = b := e
    subst e'
    exact wpAny_truthy_bool ⟨H, I, q⟩
  | int i =>
    obtain ⟨t, rfl⟩ := rx
    have e' : k = (i != 0) := e
    subst e'
    exact PySem.P.truthy_int ⟨H, I, q⟩
  | str y =>
    obtain ⟨t, rfl⟩ := rx
    obtain ⟨hy, e'⟩ : y.length ≤ sizeLine ∧ k = ((y.length : Int) != 0) := e
    subst e'
    exact PySem.P.truthy_str (by omega) ⟨H, I.tok _, q⟩
  | byt y =>
    obtain ⟨t, rfl⟩ := rx
    obtain ⟨hy, e'⟩ : y.size ≤ sizeLine ∧ k = ((y.size : Int) != 0) := e
    subst e'
    exact PySem.W.truthy_bytes (by omega) ⟨H, I.tok _, q⟩
  | ref p =>
    cases rx
    have e' : (∃ xs, SqL X.K H p xs ∧ k = !xs.isEmpty) ∨ (∃ xs, SqT X.K H p xs ∧ k = !xs.isEmpty) ∨ ∃ kvs, H p = some (.dK kvs) ∧ k = !kvs.isEmpty := e
    rcases e' with ⟨xs, hx, e'⟩ | ⟨xs, hx, e'⟩ | ⟨kvs, hx, e'⟩
    · subst e'
      obtain ⟨its, r, pl, hz⟩ := I.list hx
      have hlen := r.length
      exact wpAny_truthy_list pl.isList (by simp only [List.size_toArray]; omega) ⟨H, I.tok _, by rw [isEmpty_of r]; exact q⟩
    · subst e'
      obtain ⟨its, r, pl, hz⟩ := I.tuple hx
      have hlen := r.length
      exact truthy_tuple pl (by simp only [List.size_toArray]; omega) ⟨H, I.tok _, by rw [isEmpty_of r]; exact q⟩
    · subst e'
      obtain ⟨hz, hS, vs, r, m⟩ : kvs.length ≤ sizeLine ∧ (p == sysModules) = false ∧ ∃ vs, KV kvs vs ∧ s.heap.DictOf (mixKind X.prog X.w) p vs := I.hok p _ hx
      have hlen : kvs.length = vs.length := Paired.length r
      exact wpAny_truthy_dict hS m (by omega) ⟨H, I.tok _, by rw [isEmpty_kv r]; exact q⟩
  | _ => exact (show False from e).elim
/-- any expression whose test is its value's truth (a name, a call, a subscript, a field ..: he by fun _ => rfl) -/
theorem pt_truth (ha : PE X a ta) (he : ∀ whole, isTrue a X.env whole = (do let v ← whole; standAt a.pos; holding [v] (truthy v))) :
    PT X a (fun σ H Q => ta σ H fun x H' => ∃ k, TruV X.K x H' k ∧ Q k H') := by
  intro pins s σ H Q I h
  exact isTrue_plain (thn (ha pins s σ H _ I h) fun v s1 ⟨x, H1, I1, r1, q1⟩ => tru_ok pins s1 σ H1 x v Q I1 r1 q1) (he _)

/-! ### strs and bytes -/
theorem op_add_str : OpR X (binaryOp .Add) (fun x y H Q => ∃ i j, x = .str i ∧ y = .str j ∧ i.length + j.length ≤ sizeLine ∧ Q (.str (i ++ j)) H) := by
  intro pins s σ H x y v u Q I rx ry h
  obtain ⟨i, j, rfl, rfl, hz, q⟩ := h
  obtain ⟨t, rfl⟩ := rx
  obtain ⟨t', rfl⟩ := ry
  exact add_str (fun t' tk => ⟨.str (i ++ j), H, I.tok _, ⟨_, rfl⟩, q⟩) hz
def PlainIxT (b : Expr) : Prop := ∀ o i, subscripted b false o i = operate [o, i] (getItem o i)
/-! ### scalar builtins, by CallR -/
theorem vals1 {x : V} {us : List Value} (r : Vals [x] us) : ∃ u, us = [u] ∧ RelV x u := by
  cases r with
  | cons r1 r2 => cases r2; exact ⟨_, rfl, r1⟩
theorem vals2 {x y : V} {us : List Value} (r : Vals [x, y] us) : ∃ u w', us = [u, w'] ∧ RelV x u ∧ RelV y w' := by
  cases r with
  | cons r1 r2 =>
    cases r2 with
    | cons r3 r4 => cases r4; exact ⟨_, _, rfl, r1, r3⟩
theorem call_abs : CallR X (.builtin "abs") (fun xs H Q => ∃ i, xs = [.int i] ∧ Q (.int (if i < 0 then -i else i)) H) := by
  intro pins s σ H xs us Q I r h
  obtain ⟨i, rfl, q⟩ := h
  obtain ⟨u, rfl, t, rfl⟩ := vals1 r
  exact call_abs_int fun u tk => ⟨.int (if i < 0 then -i else i), H, I.tok _, ⟨_, rfl⟩, q⟩
/-- len of a str, a bytes, a list, a tuple -/
def LenV (K : PySem.W.Frag) (x : V) (H : Hp) (n : Nat) : Prop :=
  match x with
  | .str y => y.length ≤ sizeLine ∧ n = y.length
  | .byt y => y.size ≤ sizeLine ∧ n = y.size
  | .ref p => (∃ xs, SqL K H p xs ∧ n = xs.length) ∨ ∃ xs, SqT K H p xs ∧ n = xs.length
  | _ => False
theorem call_len : CallR X (.builtin "len") (fun xs H Q => ∃ x n, xs = [x] ∧ LenV X.K x H n ∧ Q (.int n) H) := by
  intro pins s σ H xs us Q I r h
  obtain ⟨x, n, rfl, e, q⟩ := h
  obtain ⟨u, rfl, rx⟩ := vals1 r
  have hl := line63
  have hs : sizeLine = 16777216 := sizeLine_eq
  cases x with
  | str y =>
    obtain ⟨t, rfl⟩ := rx
    obtain ⟨hy, e'⟩ : y.length ≤ sizeLine ∧ n = y.length := e
    subst e'
    exact len_str (by omega) ⟨.int _, H, I.tok _, ⟨_, rfl⟩, q⟩
  | byt y =>
    obtain ⟨t, rfl⟩ := rx
    obtain ⟨hy, e'⟩ : y.size ≤ sizeLine ∧ n = y.size := e
    subst e'
    exact PySem.W.len_bytes (by omega) ⟨.int _, H, I.tok _, ⟨_, rfl⟩, q⟩
  | ref p =>
    cases rx
    have e' : (∃ xs, SqL X.K H p xs ∧ n = xs.length) ∨ ∃ xs, SqT X.K H p xs ∧ n = xs.length := e
    rcases e' with ⟨xs, hx, e'⟩ | ⟨xs, hx, e'⟩
    · subst e'
      obtain ⟨its, r', pl, hz⟩ := I.list hx
      have hlen := r'.length
      exact Calls.call_len_list pl.isList (by simp only [List.size_toArray]; omega) ⟨.int xs.length, H, I.tok _, ⟨_, by simp only [List.size_toArray]; rw [hlen]⟩, q⟩
    · subst e'
      obtain ⟨its, r', pl, hz⟩ := I.tuple hx
      have hlen := r'.length
      exact len_tuple pl (by simp only [List.size_toArray]; omega) ⟨.int xs.length, H, I.tok _, ⟨_, by simp only [List.size_toArray]; rw [hlen]⟩, q⟩
  | _ => exact (show False from e).elim
end
end L2

namespace L2
open PySem PySem.Spec PyProof.Rows

/-! ### an instance, its attributes a map -/
structure ObjM (h : Heap) (x dx C : Addr) (mA : Str → Option Value) : Prop where
  obj : h.get? x = some (PySem.W.instObj C dx)
  ns : h.Ns1 dx mA
  ne : dx ≠ x

theorem lookIn_ns {h : Heap} {dx : Addr} {mA : Str → Option Value} (n : h.Ns1 dx mA) : ∃ od, h.get? dx = some od ∧ ∀ name, PySem.W.lookIn name od = some (mA name) := by
  obtain ⟨o, es, ep, ho, hd, hk, _, hm⟩ := n
  refine ⟨o, ho, fun name => ?_⟩
  have e := hm name
  unfold nsFind findBy at e
  rw [← Array.find?_toList] at e
  unfold PySem.W.lookIn
  rw [hd]
  dsimp only
  split
  · rename_i y q
    rw [q] at e
    exact congrArg some e
  · rename_i q
    rw [q] at e
    have a : es.toList.any (·.refKey) = false := by
      rw [List.any_eq_false]
      intro y hy
      obtain ⟨z, t, hkey⟩ := hk y (Array.mem_toList_iff.mp hy)
      simp [DictEntry.refKey, hkey]
    have a' : ¬ es.toList.any (·.refKey) = true := by rw [a]; exact Bool.false_ne_true
    rw [if_neg a']
    exact congrArg some e

theorem ObjM.look {h : Heap} {x dx C : Addr} {mA : Str → Option Value} (I : ObjM h x dx C mA) : ∃ od, PySem.W.InstAt h x (PySem.W.instObj C dx) C (some od) ∧ ∀ name, PySem.W.lookIn name od = some (mA name) :=
  let ⟨od, ho, hl⟩ := lookIn_ns I.ns
  ⟨od, ⟨I.obj, rfl, rfl, ho⟩, hl⟩

section
variable {prog : Program} {w : World} {A : Around} {E : Value → Shared → Prop} {s : Shared} {K : PySem.W.Frag} {x dx C f : Addr} {mA : Str → Option Value} {name : Str} {v : Value}

theorem get_map {expr : Bool} {Q : Value → Shared → Prop} (X : K.In s.heap) (I : ObjM s.heap x dx C mA) (hg : PySem.W.plainGet K C name = true) (hh : PySem.W.hasDictIn K C = true)
    (ha : PySem.W.findIn K (.ref C) name = some none) (hv : mA name = some v) (hv' : PySem.W.handedIn v = true) (h : Q v { s with toks := s.toks + 1 }) :
    wpAny (model prog w) A (getAttr (.ref x) name expr) Q E s := by
  obtain ⟨od, J, hl⟩ := I.look
  exact PySem.W.get_value X J (PySem.W.plainGet_of hg).1 (PySem.W.findObj_own hh ha rfl (by rw [hl, hv])) hv' h

theorem get_meth {pl : Sem Bool} {Q : Value × List Value → Shared → Prop} (X : K.In s.heap) (I : ObjM s.heap x dx C mA) (hg : PySem.W.plainGet K C name = true)
    (hf : PySem.W.findIn K (.ref C) name = some (some (.ref f))) (ht : PySem.W.isFn K (.ref f) = true) (hv : mA name = none) (h : Q (.ref f, [.ref x]) s) :
    wpAny (model prog w) A (getMethod (.ref x) name pl) Q E s := by
  obtain ⟨od, J, hl⟩ := I.look
  exact PySem.W.method_fn X J (PySem.W.plainGet_of hg).1 (PySem.W.plainGet_of hg).2 hf (beq_iff_eq.mp ht) (by show (PySem.W.lookIn name od).map (·.isSome) = some false; rw [hl, hv]; rfl) h

theorem set_map {ns : List Str} {Q : Unit → Shared → Prop} (X : K.In s.heap) (I : ObjM s.heap x dx C mA)
    (hs : PySem.W.findIn K (.ref C) "__setattr__" = some (some (.builtin "object.__setattr__"))) (hp : PySem.W.plainOver K C = true) (ht : PySem.W.takerIn K C name = some none) (hh : PySem.W.hasDictIn K C = true)
    (hw : PySem.Within mA ns) (hsz : ns.length ≤ sizeLine)
    (h : ∀ h', ObjM h' x dx C (fun y => if y = name then some v else mA y) → Heap.SameBut dx s.heap h' → Q () { s with heap := h', toks := s.toks + 2 }) :
    wpAny (model prog w) A (setAttr (.ref x) name v) Q E s := by
  obtain ⟨od, J, hl⟩ := I.look
  refine PySem.W.set_plain X J hs (PySem.W.osa_open (s := { s with toks := s.toks + 1 }) (r := none) X J hp ht fun b => ?_)
  obtain ⟨cd, hc, hd'⟩ := PySem.W.any_some hh
  have hx : s.heap.get? x = some ⟨.ref C, some dx, .plain, #[]⟩ := I.obj
  refine wpAny_bind (wpAny_pure (wpAny_bind (wpAny_bind (wpAny_loadPart hx (wpAny_bind (PySem.W.Looks.here (s := { s with toks := s.toks + 1 }) (PySem.W.looks_clsIn X hc) ?_))))))
  rw [hd']
  refine wpAny_pure (a := some dx) (wpAny_bind (wpAny_pure (wpAny_bind ?_)))
  refine wpAny_nsSet1 (s := { s with toks := s.toks + 1 }) I.ns fun h' hn2 hs2 => ?_
  obtain ⟨oD, esD, epD, hoD, hdD, hcD⟩ := hn2.count (PySem.Within.cons name v hw)
  refine wpAny_bind (wpAny_lookBehind hoD (by rw [hdD]; exact pastItsLine_dict (Nat.le_trans hcD (by rw [List.length_cons]; omega))) ?_)
  exact wpAny_pure (h _ ⟨(hs2.2 _ (Ne.symm I.ne)).trans I.obj, hn2, I.ne⟩ hs2)

/-- C(..): the dict at the heap's end, the instance behind it; then its __init__ -/
theorem make_map {R : Result → Shared → Prop} {vs : List Value} {kw : List (Str × Value)} (X : K.In s.heap) (hm : PySem.W.makesIn K C = true)
    (hi : PySem.W.findIn K (.ref C) "__init__" = some (some (.ref f))) (hf : PySem.W.typeIn K (.ref f) = some (.type "function"))
    (h : codeAny (model prog w) (A.under (.builtin "type.__call__" ⟨.ref C :: vs, kw⟩)) (.call (.ref f) ⟨.ref (s.heap.objs.size + 1) :: vs, kw⟩) (PySem.W.InitBack (s.heap.objs.size + 1) R)
      { s with heap := (s.heap.push PySem.W.emptyDict).push (PySem.W.instObj C s.heap.objs.size) }) :
    codeAny (model prog w) A (.call (.ref C) ⟨vs, kw⟩) R s := by
  obtain ⟨hh, g, d, t, os⟩ := s
  exact PySem.W.make_core (PySem.W.makes_of X hm) (PySem.W.looks_findIn X hi) (fun self => PySem.W.bind_fn X self hf) (.inl rfl) h
end

/-! ### the attributes as a list of pairs -/
def putF (f : Str) (v : V) : List (Str × V) → List (Str × V)
  | [] => [(f, v)]
  | (g, x) :: r => if g = f then (g, v) :: r else (g, x) :: putF f v r
theorem lookup_putF (f g : Str) (v : V) : ∀ fs : List (Str × V), (putF f v fs).lookup g = if g = f then some v else fs.lookup g
  | [] => by
    show List.lookup g [(f, v)] = _
    by_cases h : g = f
    · have hb : (g == f) = true := beq_iff_eq.mpr h
      simp only [List.lookup, hb, if_pos h]
    · have hb : (g == f) = false := beq_eq_false_iff_ne.mpr h
      simp only [List.lookup, hb, if_neg h]
  | (k, x) :: r => by
    have ih := lookup_putF f g v r
    rw [show putF f v ((k, x) :: r) = (if k = f then (k, v) :: r else (k, x) :: putF f v r) from rfl]
    by_cases hk : k = f
    · rw [if_pos hk]
      by_cases h : g = k
      · have hb : (g == k) = true := beq_iff_eq.mpr h
        simp only [List.lookup, hb, if_pos (h.trans hk)]
      · have hb : (g == k) = false := beq_eq_false_iff_ne.mpr h
        simp only [List.lookup, hb, if_neg (fun e : g = f => h (e.trans hk.symm))]
    · rw [if_neg hk]
      by_cases h : g = k
      · have hb : (g == k) = true := beq_iff_eq.mpr h
        simp only [List.lookup, hb, if_neg (fun e : g = f => hk (h.symm.trans e))]
      · have hb : (g == k) = false := beq_eq_false_iff_ne.mpr h
        simp only [List.lookup, hb]
        exact ih
theorem keys_putF (f : Str) (v : V) : ∀ fs : List (Str × V), f ∈ (putF f v fs).map (·.1) ∧ ∀ g, g ∈ fs.map (·.1) → g ∈ (putF f v fs).map (·.1)
  | [] => ⟨by simp [putF], fun g h => by simp at h⟩
  | (k, x) :: r => by
    obtain ⟨i1, i2⟩ := keys_putF f v r
    rw [show putF f v ((k, x) :: r) = (if k = f then (k, v) :: r else (k, x) :: putF f v r) from rfl]
    by_cases hk : k = f
    · rw [if_pos hk]
      subst hk
      exact ⟨by simp, fun g h => by simpa using h⟩
    · rw [if_neg hk]
      refine ⟨?_, fun g h => ?_⟩
      · rw [List.map_cons]
        exact List.mem_cons_of_mem _ i1
      · rw [List.map_cons] at h ⊢
        rcases List.mem_cons.mp h with e | e
        · exact List.mem_cons.mpr (.inl e)
        · exact List.mem_cons_of_mem _ (i2 g e)
theorem length_putF (f : Str) (v : V) : ∀ fs : List (Str × V), (putF f v fs).length ≤ fs.length + 1
  | [] => by simp [putF]
  | (k, x) :: r => by
    have ih := length_putF f v r
    rw [show putF f v ((k, x) :: r) = (if k = f then (k, v) :: r else (k, x) :: putF f v r) from rfl]
    by_cases hk : k = f
    · rw [if_pos hk, List.length_cons, List.length_cons]; omega
    · rw [if_neg hk, List.length_cons, List.length_cons]; omega

theorem RelO.some_of {v : V} {o : Option Value} (r : RelO (some v) o) : ∃ u, o = some u ∧ RelV v u := by
  cases o with
  | none => exact (show False from r).elim
  | some u => exact ⟨u, rfl, r⟩
theorem RelO.none_of {o : Option Value} (r : RelO none o) : o = none := by
  cases o with
  | none => rfl
  | some u => exact (show False from r).elim
theorem handed_of {v : V} {u : Value} (r : RelV v u) : PySem.W.handedIn u = true := by
  cases v with
  | non => cases (show u = Value.none from r); rfl
  | bl b => cases (show u = Value.bool b from r); rfl
  | int i => obtain ⟨t, e⟩ := (show ∃ t, u = Value.int i t from r); cases e; rfl
  | str x => obtain ⟨t, e⟩ := (show ∃ t, u = Value.str x t from r); cases e; rfl
  | byt b => obtain ⟨t, e⟩ := (show ∃ t, u = Value.bytes b t from r); cases e; rfl
  | flt b => obtain ⟨t, e⟩ := (show ∃ t, u = Value.float b t from r); cases e; rfl
  | ref a => cases (show u = Value.ref a from r); rfl
  | ty n => cases (show u = Value.type n from r); rfl

section
variable {P : Program} {w : World} {H H' : Hp} {h h' : Heap} {a C dx : Addr} {fs fs' : List (Str × V)}
theorem ins_get (hok : HOk P w H h) (e : H a = some (.ins C dx fs)) : ∃ mA, ObjM h a dx C mA ∧ (∀ f, RelO (fs.lookup f) (mA f)) ∧ PySem.Within mA (fs.map (·.1)) ∧ fs.length ≤ 1000 ∧ H dx = some (.own a) := by
  obtain ⟨d, z, ne, ob, mA, n, r, q⟩ := (show ObjOk P w H h a (.ins C dx fs) from hok a _ e)
  exact ⟨mA, ⟨ob, n, ne⟩, r, q, z, d⟩
end

/-! ### what of the text a class must have -/
structure Cls (K : PySem.W.Frag) (C : Addr) : Prop where
  pg : PySem.W.plainGet K C Str.empty = true
  hd : PySem.W.hasDictIn K C = true
  po : PySem.W.plainOver K C = true
  sa : PySem.W.findIn K (.ref C) "__setattr__" = some (some (.builtin "object.__setattr__"))
theorem Cls.get {K : PySem.W.Frag} {C : Addr} (c : Cls K C) (f : Str) : PySem.W.plainGet K C f = true := c.pg
/-- no class of it has the name -/
def NoAttr (K : PySem.W.Frag) (C : Addr) (f : Str) : Prop := PySem.W.findIn K (.ref C) f = some none
theorem NoAttr.taker {K : PySem.W.Frag} {C : Addr} {f : Str} (n : NoAttr K C f) : PySem.W.takerIn K C f = some none := by
  unfold PySem.W.takerIn
  rw [show PySem.W.findIn K (.ref C) f = some none from n]
  rfl
/-- a constant of the class -/
structure Con (K : PySem.W.Frag) (C : Addr) (f : Str) (v : V) (u : Value) : Prop where
  at_ : PySem.W.findIn K (.ref C) f = some (some u)
  rel : RelV v u
  get : PySem.W.specialIn K u "__get__" = some none
  cp : PySem.W.copiedNames.contains f = false
/-- a method: a plain def of the class or of one above it -/
structure Meth (K : PySem.W.Frag) (C : Addr) (m : Str) (f : Addr) : Prop where
  at_ : PySem.W.findIn K (.ref C) m = some (some (.ref f))
  fn : PySem.W.isFn K (.ref f) = true
  kp : PySem.W.keepIn K (.ref f) = true

section
variable {X : Cx} {pins : List (Addr × Obj)} {σ : St} {H : Hp} {s : Shared} {a C dx : Addr} {fs : List (Str × V)} {f : Str} {v : V} {A : Around} {E : Value → Shared → Prop}

theorem getattr_ok {b : Bool} {Q : Value → Shared → Prop} (I : Inv X pins σ H s) (e : H a = some (.ins C dx fs)) (c : Cls X.K C) (n : NoAttr X.K C f) (l : fs.lookup f = some v)
    (h : ∀ u s', Inv X pins σ H s' → RelV v u → Q u s') : wpAny (model X.prog X.w) A (getAttr (.ref a) f b) Q E s := by
  obtain ⟨mA, O, r, _, _, _⟩ := ins_get I.hok e
  obtain ⟨u, hu, ru⟩ := RelO.some_of (v := v) (o := mA f) (by rw [← l]; exact r f)
  exact get_map I.kIn O (c.get f) c.hd n hu (handed_of ru) (h u _ (I.tok _) ru)

theorem getmeth_ok {m : Str} {g : Addr} {pl : Sem Bool} {Q : Value × List Value → Shared → Prop} (I : Inv X pins σ H s) (e : H a = some (.ins C dx fs)) (c : Cls X.K C) (k : Meth X.K C m g) (l : fs.lookup m = none)
    (h : Q (.ref g, [.ref a]) s) : wpAny (model X.prog X.w) A (getMethod (.ref a) m pl) Q E s := by
  obtain ⟨mA, O, r, _, _, _⟩ := ins_get I.hok e
  have hn : mA m = none := RelO.none_of (by rw [← l]; exact r m)
  exact get_meth I.kIn O (c.get m) k.at_ k.fn hn h

theorem setattr_ok {y : V} {u : Value} {Q : Unit → Shared → Prop} (I : Inv X pins σ H s) (e : H a = some (.ins C dx fs)) (c : Cls X.K C) (n : NoAttr X.K C f) (hl : fs.length < 1000) (ry : RelV y u)
    (h : ∀ s', Inv X pins σ (upd H a (.ins C dx (putF f y fs))) s' → Q () s') : wpAny (model X.prog X.w) A (setAttr (.ref a) f u) Q E s := by
  obtain ⟨mA, O, r, wi, _, ho⟩ := ins_get I.hok e
  have hz : (fs.map (·.1)).length ≤ sizeLine := by rw [List.length_map, sizeLine_eq]; omega
  refine set_map I.kIn O c.sa c.po n.taker c.hd wi hz fun h' O' sb => h _ ?_
  have hd : ∃ o, h'.get? dx = some o := let ⟨o, _, _, e', _⟩ := O'.ns; ⟨o, e'⟩
  refine I.write (x := a) (e := dx) (by rw [e]; exact True.intro) (.inr ho) (fun b q hb z => (sb.2 b hb).trans z) hd ?_
  refine ⟨by rw [upd_ne O.ne]; exact ho, ?_, O.ne, O'.obj, _, O'.ns, fun g => ?_, fun g hg => ?_⟩
  · have := length_putF f y fs; omega
  · show RelO ((putF f y fs).lookup g) (if g = f then some u else mA g)
    rw [lookup_putF]
    by_cases q : g = f
    · rw [if_pos q, if_pos q]; exact ry
    · rw [if_neg q, if_neg q]; exact r g
  · by_cases q : g = f
    · rw [q]; exact (keys_putF f y fs).1
    · refine (keys_putF f y fs).2 g (wi g fun z => hg ?_)
      show (if g = f then some u else mA g) = none
      rw [if_neg q]; exact z

/-- a new instance, tracked, without attributes -/
theorem Inv.made (I : Inv X pins σ H s) : Inv X pins σ (upd (upd H s.heap.objs.size (.own (s.heap.objs.size + 1))) (s.heap.objs.size + 1) (.ins C s.heap.objs.size []))
    { s with heap := (s.heap.push PySem.W.emptyDict).push (PySem.W.instObj C s.heap.objs.size) } := by
  have e1 : (s.heap.push PySem.W.emptyDict).get? s.heap.objs.size = some PySem.W.emptyDict := Heap.get?_push_size s.heap rfl
  have e2 : ((s.heap.push PySem.W.emptyDict).push (PySem.W.instObj C s.heap.objs.size)).get? (s.heap.objs.size + 1) = some (PySem.W.instObj C s.heap.objs.size) := by
    have := Heap.get?_push_size (s.heap.push PySem.W.emptyDict) (o := PySem.W.instObj C s.heap.objs.size) rfl
    rwa [Heap.size_push] at this
  have e3 : (s.heap.push PySem.W.emptyDict).Ns s.heap.objs.size (fun _ => none) := ⟨PySem.W.emptyDict, #[], _, e1, rfl, (fun e he => absurd he (by simp)), fun _ => rfl⟩
  have I1 := I.laid (a := s.heap.objs.size) (o := .own (s.heap.objs.size + 1)) (h' := s.heap.push PySem.W.emptyDict) (t' := s.toks) (fun b u q => Heap.get?_push_of_some _ q) (Nat.le_refl _) ⟨_, e1⟩
  refine I1.laid (a := s.heap.objs.size + 1) (o := .ins C s.heap.objs.size []) (t' := s.toks) (fun b u q => Heap.get?_push_of_some _ q) (Nat.le_of_eq (Heap.size_push _ _)) ?_
  have ne : s.heap.objs.size ≠ s.heap.objs.size + 1 := Nat.ne_of_lt (Nat.lt_succ_self _)
  refine ⟨by rw [upd_ne ne, upd_same], Nat.zero_le _, ne, e2, fun _ => none, (Heap.Ns1.of_empty e3).at fun o q => Heap.get?_push_of_some _ q, fun _ => True.intro, fun y hy => absurd rfl hy⟩

/-- e.f where nothing but the object is asked: through attributeBase (super) and the last hold -/
theorem attr_of {prog : Program} {w : World} {env : Env} {e : Expr} {f : Str} {pos : Pos} {s : Shared} {Q : Value → Shared → Prop} (hb : attributeBase e f env (eval e env) = eval e env)
    (h : wpAny (model prog w) A (eval e env) (fun o s₁ => wpAny (model prog w) A (getAttr o f true) Q E s₁) E s) : wpAny (model prog w) A (eval (.Attribute e f pos) env) Q E s :=
  Attribute_any_ h (by rw [arm_eval_Attribute, hb])
end

/-! ### readings and rules -/
/-- e.f, an attribute of the instance -/
def tFld (K : PySem.W.Frag) (ta : TE) (f : Str) : TE := fun σ H Q => ta σ H fun x H1 => ∃ a C dx fs v, x = .ref a ∧ H1 a = some (.ins C dx fs) ∧ Cls K C ∧ NoAttr K C f ∧ fs.lookup f = some v ∧ Q v H1
/-- e.f, a constant of the class -/
def tCon (K : PySem.W.Frag) (ta : TE) (f : Str) : TE := fun σ H Q => ta σ H fun x H1 => ∃ a C dx fs v u, x = .ref a ∧ H1 a = some (.ins C dx fs) ∧ Cls K C ∧ Con K C f v u ∧ fs.lookup f = none ∧ Q v H1
/-- e.f = value -/
def sFld (K : PySem.W.Frag) (ta tv : TE) (f : Str) : TS := fun D σ H => tv σ H fun y H1 => ta σ H1 fun x H2 => ∃ a C dx fs, x = .ref a ∧ H2 a = some (.ins C dx fs) ∧ Cls K C ∧ NoAttr K C f ∧ fs.length < 1000 ∧
  D.nx σ (upd H2 a (.ins C dx (putF f y fs)))
/-- an augmented operator on two values -/
def InOp (X : Cx) (op : Operator) (rd : V → V → Hp → VK → Prop) : Prop :=
  ∀ (pins : List (Addr × Obj)) (s : Shared) (σ : St) (H : Hp) (x y : V) (u v : Value) (Q : VK), Inv X pins σ H s → RelV x u → RelV y v → rd x y H Q → wpAny (model X.prog X.w) X.A (inplaceOp op u v) (EP X pins σ Q) X.xe s
/-- e.f op= value -/
def sFldAug (K : PySem.W.Frag) (ta tv : TE) (rd : V → V → Hp → VK → Prop) (f : Str) : TS := fun D σ H => ta σ H fun x H1 => ∃ a C dx fs v, x = .ref a ∧ H1 a = some (.ins C dx fs) ∧ Cls K C ∧ NoAttr K C f ∧ fs.lookup f = some v ∧
  tv σ H1 fun y H2 => rd v y H2 fun z H3 => ∃ dx' fs', H3 a = some (.ins C dx' fs') ∧ fs'.length < 1000 ∧ D.nx σ (upd H3 a (.ins C dx' (putF f z fs')))

section
variable {X : Cx} {o e value : Expr} {f : Str} {pos pos' tpos : Pos} {ta tv : TE}
theorem pe_fld (he : PE X e ta) (hb : attributeBase e f X.env (eval e X.env) = eval e X.env) : PE X (.Attribute e f pos) (tFld X.K ta f) := by
  intro pins s σ H Q I h
  refine attr_of hb (thn (he pins s σ H _ I h) fun u s1 ⟨x, H1, I1, rx, a, C, dx, fs, v, ex, ea, c, n, l, q⟩ => ?_)
  subst ex
  obtain rfl : u = Value.ref a := rx
  exact getattr_ok I1 ea c n l fun u' s2 I2 ru => ⟨v, H1, I2, ru, q⟩
theorem ps_fld (ha : PE X o ta) (hv : PE X value tv) (hs : swapsWith value (some (.Attribute o f pos')) pos.line X.env = pure false) : PS X (.Assign [.Attribute o f pos'] value pos) (sFld X.K ta tv f) := by
  intro pins s σ H D I h
  refine plainObj_wpAny_Assign_Attribute (thn (hv pins s σ H _ I h) fun u s1 ⟨y, H1, I1, ry, q⟩ => thn (ha pins s1 σ H1 _ I1 q) fun ov s2 ⟨x, H2, I2, rx, a, C, dx, fs, ex, ea, c, n, l, q2⟩ => ?_) hs
  subst ex
  obtain rfl : ov = Value.ref a := rx
  exact setattr_ok I2 ea c n l ry fun s3 I3 => ⟨σ, _, I3, q2⟩
def rAdd : V → V → Hp → VK → Prop := fun x y H Q => ∃ i j, x = .int i ∧ y = .int j ∧ Q (.int (i + j)) H
def rSub : V → V → Hp → VK → Prop := fun x y H Q => ∃ i j, x = .int i ∧ y = .int j ∧ Q (.int (i - j)) H
end

/-! ### isinstance -/
section
variable {X : Cx} {pins : List (Addr × Obj)} {σ : St} {H : Hp} {s : Shared} {A : Around} {E : Value → Shared → Prop} {Q : Value → Shared → Prop} {c : Value} {b : Bool}
/-- the type of a value, as the fragment's deciders take it; for an instance its class -/
inductive TyOf (K : PySem.W.Frag) (H : Hp) : V → Value → Prop where
  | non : TyOf K H .non (.type "NoneType")
  | bl (x : Bool) : TyOf K H (.bl x) (.type "bool")
  | int (i : Int) : TyOf K H (.int i) (.type "int")
  | str (x : Str) : TyOf K H (.str x) (.type "str")
  | flt (x : UInt64) : TyOf K H (.flt x) (.type "float")
  | lst {a : Addr} {xs : List V} (e : H a = some (.lst xs)) : TyOf K H (.ref a) (.type "list")
  | frz {a : Addr} {o : Obj} {xs : List V} (e : H a = some (.frz o (.lst xs))) : TyOf K H (.ref a) (.type "list")
  | tup {a : Addr} {xs : List V} (e : H a = some (.tup xs)) : TyOf K H (.ref a) (.type "tuple")
  | dK {a : Addr} {kvs : List (Key × V)} (e : H a = some (.dK kvs)) : TyOf K H (.ref a) (.type "dict")
  | dT {a : Addr} {kvs : List (List Key × V)} (e : H a = some (.dT kvs)) : TyOf K H (.ref a) (.type "dict")
  | ins {a C dx : Addr} {fs : List (Str × V)} (e : H a = some (.ins C dx fs)) (cl : Cls K C) (ha : PySem.W.findIn K (.ref C) "__class__" = some (some (.builtin "object.__class__")))
      (hn : PySem.W.specialIn K (.builtin "object.__class__") "__get__" = some (some (.builtin "getset_descriptor.__get__"))) (htk : PySem.W.takesIn K (.builtin "object.__class__") = some true)
      (hm : PySem.W.mroIn K C (.type "object") = some true) : TyOf K H (.ref a) (.ref C)
/-- isinstance(x, c) for one class c, a built-in or an own one: kitOne's answer -/
theorem isinst_ok {x : V} {u t : Value} (I : Inv X pins σ H s) (rx : RelV x u) (ty : TyOf X.K H x t) (e : PySem.W.kitOne X.K t c = some b) (h : ∀ tk, Q (.bool b) { s with toks := tk }) :
    wpAny (model X.prog X.w) A (call (.builtin "isinstance") [u, c]) Q E s := by
  cases ty with
  | non => cases (show u = Value.none from rx); exact PySem.W.kia_one PySem.W.kitx_none I.kIn True.intro e (fun z => nomatch z) h
  | bl y => cases (show u = Value.bool y from rx); exact PySem.W.kia_one PySem.W.kitx_bool I.kIn True.intro e (fun z => nomatch z) h
  | int i => obtain ⟨t, q⟩ := (show ∃ t, u = Value.int i t from rx); cases q; exact PySem.W.kia_one PySem.W.kitx_int I.kIn True.intro e (fun z => nomatch z) h
  | str y => obtain ⟨t, q⟩ := (show ∃ t, u = Value.str y t from rx); cases q; exact PySem.W.kia_one PySem.W.kitx_str I.kIn True.intro e (fun z => nomatch z) h
  | flt y => obtain ⟨t, q⟩ := (show ∃ t, u = Value.float y t from rx); cases q; exact PySem.W.kia_one PySem.W.kitx_float I.kIn True.intro e (fun z => nomatch z) h
  | @lst a xs ea =>
    cases (show u = Value.ref a from rx)
    obtain ⟨_, _, n, _, h1⟩ := (show ObjOk X.prog X.w H s.heap a (.lst xs) from I.hok a _ ea)
    exact PySem.W.kia_one PySem.W.kitx_list I.kIn ⟨_, h1, rfl⟩ e (fun z => nomatch z) h
  | @frz a ob xs ea =>
    cases (show u = Value.ref a from rx)
    obtain ⟨_, _, _, n, _, h1⟩ := (show ObjOk X.prog X.w H s.heap a (.frz ob (.lst xs)) from I.hok a _ ea)
    exact PySem.W.kia_one PySem.W.kitx_list I.kIn ⟨_, h1, rfl⟩ e (fun z => nomatch z) h
  | @tup a xs ea =>
    cases (show u = Value.ref a from rx)
    obtain ⟨_, _, _, p⟩ := (show ObjOk X.prog X.w H s.heap a (.tup xs) from I.hok a _ ea)
    obtain ⟨o, h1, h2, _⟩ := p
    exact PySem.W.kia_one PySem.W.kitx_tuple I.kIn ⟨o, h1, h2⟩ e (fun z => nomatch z) h
  | @dK a kvs ea =>
    cases (show u = Value.ref a from rx)
    obtain ⟨_, _, vs, _, p⟩ := (show ObjOk X.prog X.w H s.heap a (.dK kvs) from I.hok a _ ea)
    obtain ⟨o, es, ep, h1, h2, _⟩ := p
    exact PySem.W.kia_one PySem.W.kitx_dict I.kIn ⟨o, h1, h2.1⟩ e (fun z => nomatch z) h
  | @dT a kvs ea =>
    cases (show u = Value.ref a from rx)
    obtain ⟨_, _, xs, _, o, es, ep, h1, h2, _⟩ := (show ObjOk X.prog X.w H s.heap a (.dT kvs) from I.hok a _ ea)
    exact PySem.W.kia_one PySem.W.kitx_dict I.kIn ⟨o, h1, h2.1⟩ e (fun z => nomatch z) h
  | @ins a C dx fs ea cl ha hn htk hm =>
    cases (show u = Value.ref a from rx)
    obtain ⟨mA, O, _⟩ := ins_get I.hok ea
    obtain ⟨od, J, _⟩ := O.look
    exact PySem.W.kia_one (PySem.W.kitx_own (cl.get _) cl.hd ha hn htk hm) I.kIn J e (fun z => nomatch z) h
end
end L2

namespace L2
open PySem PySem.Spec PyProof.Rows

/-! ### room -/
structure Room (k : Nat) (A : Around) : Prop where
  hd : A.handled = none
  dp : A.depth + 3 * k + 5 < recursionLimit
  un : A.units + 16 * k + 200 < cLine
theorem Room.mono {j k : Nat} {A : Around} (r : Room k A) (h : j ≤ k) : Room j A := ⟨r.hd, by have := r.dp; omega, by have := r.un; omega⟩
theorem Room.deeper {k : Nat} {A : Around} (r : Room (k + 1) A) (env : Env) : Room k (A.deeper env) :=
  ⟨r.hd, by have := r.dp; show A.depth + 1 + 3 * k + 5 < _; omega, by have := r.un; show A.units + 3 + 16 * k + 200 < _; omega⟩
theorem make_depth {A : Around} {C : Addr} {us : List Value} {kw : List (Str × Value)} : (A.under (.builtin "type.__call__" ⟨.ref C :: us, kw⟩)).depth = A.depth + 1 := by
  first | rfl | simp [Around.under, Code.weight, Code.isCreation, Code.isGuard, Code.isCaller, Code.frames, Code.isFrame, guardIds]
theorem make_units {A : Around} {C : Addr} {us : List Value} {kw : List (Str × Value)} : (A.under (.builtin "type.__call__" ⟨.ref C :: us, kw⟩)).units = A.units + 1 := by
  first | rfl | simp [Around.under, Code.cUnits, Code.frames, Code.isFrame]
theorem Room.make {k : Nat} {A : Around} (r : Room (k + 1) A) (C : Addr) (us : List Value) (kw : List (Str × Value)) : Room k (A.under (.builtin "type.__call__" ⟨.ref C :: us, kw⟩)) :=
  ⟨r.hd, by have := r.dp; rw [make_depth]; omega, by have := r.un; rw [make_units]; omega⟩
theorem Room.depth {k : Nat} {A : Around} (r : Room k A) : A.depth < recursionLimit := by have := r.dp; omega
theorem Room.units {k : Nat} {A : Around} (r : Room k A) : A.units + 64 < cLine := by have := r.un; omega
/-! ### argument lists and displays -/
def tNil : TA := fun _ H Q => Q [] H
def tCons (ta : TE) (tr : TA) : TA := fun σ H Q => ta σ H fun x H1 => tr σ H1 fun xs H2 => Q (x :: xs) H2
section
variable {X : Cx} {e : Expr} {es : List Expr} {te : TE} {t : TA} {pos : Pos}
theorem pa_nil : PA X [] tNil := fun _ _ _ _ H Q I h => Calls.spliced_nil ⟨[], H, I, .nil, h⟩
theorem pa_cons (ha : PE X e te) (hr : PA X es t) (hs : starEach (e :: es) X.env = (false, eval e X.env) :: starEach es X.env := by rfl) : PA X (e :: es) (tCons te t) := by
  intro pos pins s σ H Q I h
  rw [hs]
  show wpAny _ _ (spliced ((false, eval e X.env) :: backTo pos (starEach es X.env))) _ _ s
  refine Calls.spliced_cons (thn (ha pins s σ H _ I h) fun u s1 ⟨x, H1, I1, r1, q1⟩ => ?_)
  exact thn (hr pos pins s1 σ H1 _ I1 q1) fun us s2 ⟨xs, H2, I2, r2, q2⟩ => ⟨x :: xs, H2, I2, .cons r1 r2, q2⟩

/-- a tuple, a list of written items -/
def tTup (t : TA) : TE := fun σ H Q => t σ H fun xs H1 => xs.length ≤ sizeLine ∧ ∀ p, H1 p = none → Q (.ref p) (upd H1 p (.tup xs))
def tLst (t : TA) : TE := fun σ H Q => t σ H fun xs H1 => xs.length ≤ sizeLine ∧ ∀ p, H1 p = none → Q (.ref p) (upd H1 p (.lst xs))
theorem pe_tup {x1} (h : PA X es t) : PE X (.Tuple es x1 pos) (tTup t) := by
  intro pins s σ H Q I hq
  refine wpAny_Tuple_spliced (thn (h pos pins s σ H _ I hq) fun us s1 ⟨xs, H1, I1, r, z, q⟩ => ⟨by rw [← r.length]; exact z, ?_⟩)
  have hf : H1 s1.heap.objs.size = none := I1.hok.fresh (Nat.le_refl _)
  refine ⟨.ref s1.heap.objs.size, upd H1 s1.heap.objs.size (.tup xs), I1.laid (t' := s1.toks) (fun b u e => Heap.get?_push_of_some _ e) (Nat.le_refl _) ?_, rfl, q _ hf⟩
  exact ⟨z, us, r, ⟨_, Heap.get?_push_size _ rfl, rfl, _, rfl⟩⟩
theorem pe_lst (h : PA X es t) : PE X (.List es pos) (tLst t) := by
  intro pins s σ H Q I hq
  refine wpAny_List_spliced (thn (h pos pins s σ H _ I hq) fun us s1 ⟨xs, H1, I1, r, z, q⟩ => ⟨by rw [← r.length]; exact z, ?_⟩)
  have hf : H1 s1.heap.objs.size = none := I1.hok.fresh (Nat.le_refl _)
  refine ⟨.ref s1.heap.objs.size, upd H1 s1.heap.objs.size (.lst xs), I1.laid (t' := s1.toks) (fun b u e => Heap.get?_push_of_some _ e) (Nat.le_refl _) ?_, rfl, q _ hf⟩
  exact ⟨z, us, 0, r, Heap.get?_push_size _ rfl⟩
end

/-! ### what a def promises -/
/-- a def's promise: the bound arguments in the parameters' order, the heap, the wanted end, the wanted exception -/
abbrev Sp := List V → Hp → VK → XK → Prop
/-- how an exception lies behind a call (file 08 gives it): the callers' frames, abstract heap and state ahead of the call, the wish, the exception, the state -/
abbrev CXT := List Env → Hp → Shared → XK → Value → Shared → Prop

/-- the state at a call -/
structure Env0 (P : Program) (w : World) (K : PySem.W.Frag) (mg : Str → Option Value) (base : Heap) (A : Around) (outer : List Env) (s : Shared) (H : Hp) : Prop where
  frames : A.frames = some outer
  mod : Mod K mg base
  bs : ∀ b o, base.get? b = some o → s.heap.get? b = some o ∧ H b = none
  bsz : base.objs.size ≤ s.heap.objs.size
  funs : s.heap.FunFrames base outer
  frf : ∀ b ∈ frs outer, H b = none
  hok : HOk P w H s.heap
  bare : AllBare s.gens
/-- a call's end -/
def CE (outer : List Env) (P : Program) (w : World) (H : Hp) (s : Shared) (Q : VK) (u : Value) (s' : Shared) : Prop :=
  ∃ v H', s'.os = s.os ∧ AllBare s'.gens ∧ Un (frs outer) [] H H' s.heap s'.heap ∧ HOk P w H' s'.heap ∧ RelV v u ∧ Q v H'
def CR (CX : CXT) (outer : List Env) (P : Program) (w : World) (H : Hp) (s : Shared) (Q : VK) (E : XK) (r : Result) (s' : Shared) : Prop :=
  match r with
  | .ok (.ret u) => CE outer P w H s Q u s'
  | .ok _ => False
  | .error e => CX outer H s E e s'
structure FnOk (P : Program) (w : World) (K : PySem.W.Frag) (mg : Str → Option Value) (base : Heap) (CX : CXT) (k : Nat) (f : Addr) (fd : FuncData) (ps : List Str) (sp : Sp) : Prop where
  len : ∀ vs H Q E, sp vs H Q E → vs.length = ps.length
  run : ∀ (A : Around) (outer : List Env) (s : Shared) (H : Hp) (args : Args) (us : List Value) (vs : List V) (Q : VK) (E : XK), Room k A → Env0 P w K mg base A outer s H → BindsTo s fd args (ps.zip us) → Vals vs us → sp vs H Q E →
    codeAny (model P w) A (.call (.ref f) args) (CR CX outer P w H s Q E) s
/-- a weaker promise -/
theorem FnOk.imp {P : Program} {w : World} {K : PySem.W.Frag} {mg : Str → Option Value} {base : Heap} {CX : CXT} {k : Nat} {f : Addr} {fd : FuncData} {ps : List Str} {sp sp' : Sp} (F : FnOk P w K mg base CX k f fd ps sp)
    (h : ∀ vs H Q E, sp' vs H Q E → sp vs H Q E) : FnOk P w K mg base CX k f fd ps sp' :=
  ⟨fun vs H Q E q => F.len vs H Q E (h _ _ _ _ q), fun A outer s H args us vs Q E hr he hb hv hs => F.run A outer s H args us vs Q E hr he hb hv (h _ _ _ _ hs)⟩

theorem Env0.make {P : Program} {w : World} {K : PySem.W.Frag} {mg : Str → Option Value} {base : Heap} {A : Around} {outer : List Env} {s : Shared} {H : Hp} (e : Env0 P w K mg base A outer s H) (C : Addr) (us : List Value) (kw : List (Str × Value)) :
    Env0 P w K mg base (A.under (.builtin "type.__call__" ⟨.ref C :: us, kw⟩)) outer s H := ⟨by first | exact e.frames | (simpa [Around.under, Code.envs, Code.isFrame, pushEnvs] using e.frames), e.mod, e.bs, e.bsz, e.funs, e.frf, e.hok, e.bare⟩
section
variable {X : Cx} {pins : List (Addr × Obj)} {σ : St} {H : Hp} {s s' : Shared}
/-- from a body: what a callee wants -/
theorem Inv.env0 (I : Inv X pins σ H s) : Env0 X.prog X.w X.K X.mg X.base X.A X.stack s H :=
  ⟨I.ok.frames, I.ok.mod, I.bs, Nat.le_trans I.ok.bsz I.sz, I.stack, I.stkFree, I.hok, I.bare⟩
/-- behind a call -/
theorem Inv.after {Q : VK} {u : Value} (I : Inv X pins σ H s) (h : CE X.stack X.prog X.w H s Q u s') : EP X pins σ Q u s' := by
  obtain ⟨v, H', os, bare, un, hok, r, q⟩ := h
  obtain ⟨hh, g, d, t, os'⟩ := s'
  obtain rfl : os' = s.os := os
  exact ⟨v, H', I.call (h' := hh) (g' := g) (d' := d) (t' := t) (ch := []) un hok bare (fun b z => absurd z (by simp)), r, q⟩
end

/-! ### calls -/
/-- f(..): the written arguments, then the defaults dvs; E: what is wanted of an exception -/
def tCall (sp : Sp) (dvs : List V) (E : XK) (t : TA) : TE := fun σ H Q => t σ H fun vs H1 => sp (vs ++ dvs) H1 Q E
/-- o.m(..) of an instance of the class at C -/
def tMeth (C : Addr) (m : Str) (sp : Sp) (dvs : List V) (E : XK) (ta : TE) (t : TA) : TE := fun σ H Q => ta σ H fun x H1 => ∃ a dx fs, x = .ref a ∧ H1 a = some (.ins C dx fs) ∧ fs.lookup m = none ∧
  t σ H1 fun vs H2 => sp (x :: (vs ++ dvs)) H2 Q E
/-- C(..): a new instance and its dict, then __init__ -/
def tMake (C : Addr) (sp : Sp) (dvs : List V) (E : XK) (t : TA) : TE := fun σ H Q => t σ H fun vs H1 => ∀ x dx, H1 x = none → H1 dx = none → dx ≠ x →
  sp (.ref x :: (vs ++ dvs)) (upd (upd H1 dx (.own x)) x (.ins C dx [])) (fun v H2 => v = .non ∧ Q (.ref x) H2) E

/-- how the parameters are bound: us the positional arguments, kw the keywords' values by name, ds the defaults that fill up -/
def Binds (K : PySem.W.Frag) (fd : FuncData) (ps : List Str) (ds : List Value) : Prop :=
  ∀ (s : Shared) (us : List Value), K.In s.heap → (us ++ ds).length = ps.length → BindsTo s fd ⟨us, []⟩ (ps.zip (us ++ ds))
/-- every parameter is given -/
theorem Binds.all {K : PySem.W.Frag} {fd : FuncData} {ps : List Str} (h : ∀ us : List Value, us.length = ps.length → bindArgs fd ⟨us, []⟩ = pure (ps.zip us)) : Binds K fd ps [] := fun s us _ hl => by
  rw [List.append_nil] at hl ⊢
  exact .of_eq (h us hl)

/-- an exception of a callee reaches what this body wants of exceptions -/
def Passes (CX : CXT) (X : Cx) (E : XK) : Prop := ∀ (pins : List (Addr × Obj)) (σ : St) (H : Hp) (s : Shared) (e : Value) (s' : Shared), Inv X pins σ H s → CX X.stack H s E e s' → X.xe e s'

section
variable {X : Cx} {CX : CXT} {k : Nat} {f C : Addr} {fd : FuncData} {ps : List Str} {sp : Sp} {dvs : List V} {ds : List Value} {E : XK} {x m : Str} {p pos apos : Pos} {e o : Expr} {es : List Expr} {ta : TE} {t : TA}

/-- the callee runs -/
theorem run_fn {pins : List (Addr × Obj)} {σ : St} {H : Hp} {s : Shared} {Q : VK} {us : List Value} {vs : List V} (F : FnOk X.prog X.w X.K X.mg X.base CX k f fd ps sp) (hr : Room k X.A) (hb : Binds X.K fd ps ds) (hd : Vals dvs ds) (hx : Passes CX X E)
    (I : Inv X pins σ H s) (r : Vals vs us) (h : sp (vs ++ dvs) H Q E) : wpAny (model X.prog X.w) X.A (call (.ref f) us) (EP X pins σ Q) X.xe s := by
  have r2 : Vals (vs ++ dvs) (us ++ ds) := r.append hd
  have hl : (us ++ ds).length = ps.length := by rw [← r2.length]; exact F.len _ _ _ _ h
  refine wpAny_call (codeAny_mono (F.run X.A X.stack s H ⟨us, []⟩ (us ++ ds) (vs ++ dvs) Q E hr I.env0 (hb s us I.kIn hl) r2 h) fun r s' hq => ?_)
  cases r with
  | error e => exact hx pins σ H s e s' I hq
  | ok fl =>
    cases fl with
    | ret u => exact I.after hq
    | next => exact False.elim hq
    | brk => exact False.elim hq
    | cont => exact False.elim hq

theorem pe_call (F : FnOk X.prog X.w X.K X.mg X.base CX k f fd ps sp) (hr : Room k X.A) (hg : Gl X x) (hm : X.mg x = some (.ref f)) (hk : PySem.W.keepIn X.K (.ref f) = true) (hb : Binds X.K fd ps ds) (hd : Vals dvs ds) (hx : Passes CX X E)
    (ha : PA X (e :: es) t) (hdb : (x == ("__debug__" : Str)) = false := by decide) (he : starEach (e :: es) X.env = (false, eval e X.env) :: starEach es X.env := by rfl) (hpl : (backTo pos (starEach es X.env)).any (·.1) = false := by rfl) :
    PE X (.Call (.Name x p) (e :: es) [] pos) (tCall sp dvs E t) := by
  intro pins s σ H Q I h
  refine wpAny_Call_Name_kw (ld_glob I hg hm ?_ hdb)
  refine PySem.W.callWith_K (h₀ := X.base) I.ok.mod.kin hk (thn (ha pos pins s σ H _ I h) fun us s1 ⟨vs, H1, I1, r, q⟩ => ⟨I1.kIn, ?_⟩) he hpl
  exact run_fn F hr hb hd hx I1 r q
/-- o.m(e, ..) -/
theorem pe_meth {pl : Sem Bool} (he : PE X o ta) (c : Cls X.K C) (hm : Meth X.K C m f) (F : FnOk X.prog X.w X.K X.mg X.base CX k f fd ps sp) (hr : Room k X.A) (hb : Binds X.K fd ps ds) (hd : Vals dvs ds) (hx : Passes CX X E) (ha : PA X (e :: es) t)
    (hst : starEach (e :: es) X.env = (false, eval e X.env) :: starEach es X.env := by rfl) (hpl : (backTo pos (starEach es X.env)).any (·.1) = false := by rfl)
    (ht : eval (.Call (.Attribute o m apos) (e :: es) [] pos) X.env = (do
      let ov ← eval o X.env
      standAt apos.atName
      let (f, first) ← holding [ov] (getMethod ov m pl)
      callWith pos f first (backTo pos (starEach (e :: es) X.env)) (backToKw pos (keywordEach [] X.env))) := by rfl) :
    PE X (.Call (.Attribute o m apos) (e :: es) [] pos) (tMeth C m sp dvs E ta t) := by
  intro pins s σ H Q I h
  refine PySem.W.methodCall_KW (pl := pl) (thn (he pins s σ H _ I h) fun u s1 ⟨x, H1, I1, rx, a, dx, fs, ex, ea, l, q⟩ => ?_) ht
  subst ex
  obtain rfl : u = Value.ref a := rx
  refine getmeth_ok I1 ea c hm l ?_
  refine PySem.W.callWith_K (first := [.ref a]) (h₀ := X.base) I.ok.mod.kin hm.kp (thn (ha pos pins s1 σ H1 _ I1 q) fun us s2 ⟨vs, H2, I2, r, q2⟩ => ⟨I2.kIn, ?_⟩) hst hpl
  exact run_fn (us := .ref a :: us) (vs := .ref a :: vs) F hr hb hd hx I2 (.cons rfl r) q2
/-- what a class must have to be made -/
structure Mk (K : PySem.W.Frag) (C f : Addr) : Prop where
  makes : PySem.W.makesIn K C = true
  init : PySem.W.findIn K (.ref C) "__init__" = some (some (.ref f))
  fn : PySem.W.isFn K (.ref f) = true
  kp : PySem.W.keepIn K (.ref C) = true

theorem run_make {pins : List (Addr × Obj)} {σ : St} {H : Hp} {s : Shared} {Q : VK} {us : List Value} {vs : List V} (M : Mk X.K C f) (F : FnOk X.prog X.w X.K X.mg X.base CX k f fd ps sp) (hr : Room (k + 1) X.A) (hb : Binds X.K fd ps ds) (hd : Vals dvs ds)
    (hx : Passes CX X E) (I : Inv X pins σ H s) (r : Vals vs us)
    (h : ∀ x dx, H x = none → H dx = none → dx ≠ x → sp (.ref x :: (vs ++ dvs)) (upd (upd H dx (.own x)) x (.ins C dx [])) (fun v H2 => v = .non ∧ Q (.ref x) H2) E) :
    wpAny (model X.prog X.w) X.A (call (.ref C) us) (EP X pins σ Q) X.xe s := by
  have hq := h (s.heap.objs.size + 1) s.heap.objs.size (I.hok.fresh (Nat.le_succ _)) (I.hok.fresh (Nat.le_refl _)) (Nat.ne_of_lt (Nat.lt_succ_self _))
  have I2 := Inv.made (C := C) I
  have r2 : Vals (V.ref (s.heap.objs.size + 1) :: (vs ++ dvs)) (Value.ref (s.heap.objs.size + 1) :: (us ++ ds)) := .cons rfl (r.append hd)
  have hl : (Value.ref (s.heap.objs.size + 1) :: us ++ ds).length = ps.length := by
    have e := r2.length
    rw [F.len _ _ _ _ hq] at e
    exact e.symm
  refine wpAny_call (make_map (f := f) I.kIn M.makes M.init (beq_iff_eq.mp M.fn) (codeAny_mono (F.run _ X.stack _ _ ⟨Value.ref (s.heap.objs.size + 1) :: us, []⟩ (Value.ref (s.heap.objs.size + 1) :: (us ++ ds)) _ _ E (hr.make C us [])
    (I2.env0.make C us []) (hb _ (Value.ref (s.heap.objs.size + 1) :: us) I2.kIn hl) r2 hq) fun r s' hq' => ?_))
  cases r with
  | error e => exact hx pins σ _ _ e s' I2 hq'
  | ok fl =>
    cases fl with
    | ret u =>
      obtain ⟨v, H', I3, rv, ev, q3⟩ := I2.after hq'
      subst ev
      exact ⟨rv, ⟨V.ref (s.heap.objs.size + 1), H', I3, rfl, q3⟩⟩
    | next => exact False.elim hq'
    | brk => exact False.elim hq'
    | cont => exact False.elim hq'
theorem pe_make (M : Mk X.K C f) (F : FnOk X.prog X.w X.K X.mg X.base CX k f fd ps sp) (hr : Room (k + 1) X.A) (hg : Gl X x) (hm : X.mg x = some (.ref C)) (hb : Binds X.K fd ps ds) (hd : Vals dvs ds) (hx : Passes CX X E)
    (ha : PA X (e :: es) t) (hdb : (x == ("__debug__" : Str)) = false := by decide) (he : starEach (e :: es) X.env = (false, eval e X.env) :: starEach es X.env := by rfl) (hpl : (backTo pos (starEach es X.env)).any (·.1) = false := by rfl) :
    PE X (.Call (.Name x p) (e :: es) [] pos) (tMake C sp dvs E t) := by
  intro pins s σ H Q I h
  refine wpAny_Call_Name_kw (ld_glob I hg hm ?_ hdb)
  refine PySem.W.callWith_K (h₀ := X.base) I.ok.mod.kin M.kp (thn (ha pos pins s σ H _ I h) fun us s1 ⟨vs, H1, I1, r, q⟩ => ⟨I1.kIn, ?_⟩) he hpl
  exact run_make M F hr hb hd hx I1 r q
end

/-! ### keywords -/
/-- the values of the keywords, from the left -/
def PK (X : Cx) (kws : List Keyword) (t : TA) : Prop :=
  ∀ (pos : Pos) (pins : List (Addr × Obj)) (s : Shared) (σ : St) (H : Hp) (Q : List V → Hp → Prop), Inv X pins σ H s → t σ H Q → wpAny (model X.prog X.w) X.A (evalAll ((backToKw pos (keywordEach kws X.env)).map (·.2))) (AP X pins σ Q) X.xe s
section
variable {X : Cx} {CX : CXT} {k : Nat} {f C : Addr} {fd : FuncData} {ps ks : List Str} {sp : Sp} {E : XK} {x m : Str} {p pos apos kpos : Pos} {e o : Expr} {es : List Expr} {kws : List Keyword} {te ta : TE} {t tk : TA} {nm : Option Str}
/-- how a call with keywords binds: g puts the positional values us and the keywords' values ws (names ks) in the parameters' order, defaults among them -/
structure KBinds (K : PySem.W.Frag) (fd : FuncData) (ps ks : List Str) (g : List Value → List Value → List Value) (gV : List V → List V → List V) : Prop where
  to : ∀ (s : Shared) (us ws : List Value), K.In s.heap → (g us ws).length = ps.length → BindsTo s fd ⟨us, ks.zip ws⟩ (ps.zip (g us ws))
  rel : ∀ {vs : List V} {us : List Value} {zs : List V} {ws : List Value}, Vals vs us → Vals zs ws → Vals (gV vs zs) (g us ws)
def tCallK (sp : Sp) (gV : List V → List V → List V) (E : XK) (t tk : TA) : TE := fun σ H Q => t σ H fun vs H1 => tk σ H1 fun zs H2 => sp (gV vs zs) H2 Q E
variable {g : List Value → List Value → List Value} {gV : List V → List V → List V}
end

/-! ### a def's body keeps its promise -/
/-- names: the parameters first -/
structure FnScope (N P : List Str) (sc : Scope) : Prop where
  kind : sc.kind = .function
  co : sc.isCoroutine = false
  gen : sc.isGenerator = false
  nd : N.Nodup
  pre : N.take P.length = P
  par : ∀ x ∈ P, sc.names.lookup x = some .local ∨ sc.names.lookup x = some .cell
  nofree : ∀ y ∈ sc.names, y.2 ≠ .free

theorem bindL_out {kindOf : Str → Option NameKind} {x : Str} : ∀ {binds : List (Str × Value)} {m : Str → Option Value}, (∀ v, (x, v) ∉ binds) → bindL kindOf binds m x = m x
  | [], _, _ => rfl
  | (n, v) :: r, m, h => by
    unfold bindL
    rw [bindL_out fun w hw => h w (List.mem_cons_of_mem _ hw)]
    split
    · have : x ≠ n := by rintro rfl; exact h v List.mem_cons_self
      simp [this]
    · rfl
theorem bindC_out {kindOf : Str → Option NameKind} {x : Str} : ∀ {binds : List (Str × Value)} {m : Str → Option Value}, (∀ v, (x, v) ∉ binds) → bindC kindOf binds m x = m x
  | [], _, _ => rfl
  | (n, v) :: r, m, h => by
    unfold bindC
    rw [bindC_out fun w hw => h w (List.mem_cons_of_mem _ hw)]
    split
    · rfl
    · have : x ≠ n := by rintro rfl; exact h v List.mem_cons_self
      simp [this]
theorem bindL_get {kindOf : Str → Option NameKind} {x : Str} {v : Value} : ∀ {P : List Str} {vs : List Value} {i : Nat} {m : Str → Option Value}, P.Nodup → P[i]? = some x → vs[i]? = some v → kindOf x = some .local →
    bindL kindOf (P.zip vs) m x = some v
  | [], _, _, _, _, h, _, _ => by simp at h
  | _ :: _, [], _, _, _, _, h, _ => by simp at h
  | p :: P, w :: vs, 0, m, nd, h1, h2, hk => by
    simp at h1 h2; subst h1; subst h2
    show bindL kindOf ((p, w) :: P.zip vs) m p = _
    unfold bindL
    rw [bindL_out fun v hv => (List.nodup_cons.mp nd).1 (List.of_mem_zip hv).1, if_pos hk]
    simp
  | p :: P, w :: vs, i + 1, m, nd, h1, h2, hk => by
    show bindL kindOf ((p, w) :: P.zip vs) m x = _
    unfold bindL
    exact bindL_get (i := i) (List.nodup_cons.mp nd).2 (by simpa using h1) (by simpa using h2) hk
theorem bindC_get {kindOf : Str → Option NameKind} {x : Str} {v : Value} : ∀ {P : List Str} {vs : List Value} {i : Nat} {m : Str → Option Value}, P.Nodup → P[i]? = some x → vs[i]? = some v → kindOf x ≠ some .local →
    bindC kindOf (P.zip vs) m x = some v
  | [], _, _, _, _, h, _, _ => by simp at h
  | _ :: _, [], _, _, _, _, h, _ => by simp at h
  | p :: P, w :: vs, 0, m, nd, h1, h2, hk => by
    simp at h1 h2; subst h1; subst h2
    show bindC kindOf ((p, w) :: P.zip vs) m p = _
    unfold bindC
    rw [bindC_out fun v hv => (List.nodup_cons.mp nd).1 (List.of_mem_zip hv).1, if_neg hk]
    simp
  | p :: P, w :: vs, i + 1, m, nd, h1, h2, hk => by
    show bindC kindOf ((p, w) :: P.zip vs) m x = _
    unfold bindC
    exact bindC_get (i := i) (List.nodup_cons.mp nd).2 (by simpa using h1) (by simpa using h2) hk

/-- the names' values at the entry -/
def start (N : List Str) (vs : List V) : St := vs.map some ++ List.replicate (N.length - vs.length) none

/-- the context of a def's body, at its entry; an exception leaves the frame, then lies as CX says -/
def cxOf (CX : CXT) (P : Program) (w : World) (K : PySem.W.Frag) (mg : Str → Option Value) (base : Heap) (N : List Str) (qual : Str) (scope : Scope) (f : Addr) (cd : Value) (A : Around) (outer : List Env) (s : Shared) (H : Hp) (E : XK) : Cx where
  prog := P
  w := w
  K := K
  mg := mg
  base := base
  A := A.deeper (envOfC qual scope s.heap.objs.size f cd)
  N := N
  s₀ := s
  H₀ := H
  env := envOfC qual scope s.heap.objs.size f cd
  outer := outer
  stack := envOfC qual scope s.heap.objs.size f cd :: outer
  ex := []
  calm := true
  fn := fun _ => true
  pn := []
  xe := fun e s' => wpAny (model P w) (A.deeper (envOfC qual scope s.heap.objs.size f cd)) (leaving (envOfC qual scope s.heap.objs.size f cd) e) (fun _ s'' => CX outer H s E e s'') (fun e' s'' => CX outer H s E e' s'') s'

theorem cell_has {sc : Scope} {n : Nat} {x : Str} (h : sc.names.lookup x = some .cell) : ∃ c, (cellsFrom n sc.names []).lookup x = some c := by
  have q := PySem.W.cellsFrom_some sc.names n [] (.inl h)
  exact Option.isSome_iff_exists.mp q

theorem inv_start {CX : CXT} {P : Program} {w : World} {K : PySem.W.Frag} {mg : Str → Option Value} {base : Heap} {N ps : List Str} {qual : Str} {scope : Scope} {f : Addr} {cd : Value} {A : Around} {outer : List Env} {s s1 : Shared} {H : Hp} {E : XK} {us : List Value} {vs : List V}
    (S : FnScope N ps scope) (hd : A.handled = none) (e0 : Env0 P w K mg base A outer s H) (hl : vs.length = ps.length) (r : Vals vs us)
    (x : InCallC s s.heap.objs.size (bindL (envOfC qual scope s.heap.objs.size f cd).kindOf (ps.zip us) fun _ => none) (cellsFrom (s.heap.objs.size + 1) scope.names []) (bindC (envOfC qual scope s.heap.objs.size f cd).kindOf (ps.zip us) fun _ => none) s1) :
    Inv (cxOf CX P w K mg base N qual scope f cd A outer s H E) [] (start N vs) H s1 := by
  have hpl : ps.length ≤ N.length := by have := congrArg List.length S.pre; rw [List.length_take] at this; omega
  obtain ⟨h1, tk, rfl, hk⟩ := x.done
  have noA : ∀ b : Addr, b ∉ (cxOf CX P w K mg base N qual scope f cd A outer s H E).ex := fun b z => absurd (show b ∈ ([] : List Addr) from z) (by simp)
  refine ⟨⟨e0.mod, S.kind, rfl, rfl, Nat.le_refl _, fun y z c h1 h2 => ?_, fun y hy => ?_, fun y c _ h => ?_, fun _ => hd, Around.frames_deeper e0.frames, .inr ⟨rfl, rfl⟩, fun b z => absurd z (noA b), e0.bs, e0.bsz, fun b _ _ => noA b, fun b z => absurd z (noA b), e0.funs, e0.frf⟩,
    rfl, e0.bare, Un.kept hk, ⟨_, x.toInCall.ns, fun i y v h1 h2 h3 => ?_⟩, fun y c h => ⟨_, x.cell y c h⟩, e0.hok.fresh (Nat.le_refl _), fun y c h => ?_, fun p hp => absurd (show p ∈ ([] : List (Addr × Obj)) from hp) (by simp), e0.hok.kept hk, ?_⟩
  · exact name_of_addr x.apart (PySem.mem_of_lookup h1) (PySem.mem_of_lookup h2)
  · have hy : scope.names.lookup y = some .cell ∨ scope.names.lookup y = some .free := hy
    rcases hy with hy | hy
    · exact cell_has hy
    · exact absurd rfl (S.nofree _ (PySem.mem_of_lookup hy))
  · exact Nat.le_of_lt (x.above y c (PySem.mem_of_lookup h))
  · have hi : i < vs.length := by
      unfold start at h2
      by_cases hi : i < vs.length
      · exact hi
      · rw [List.getElem?_append_right (by simpa using hi)] at h2
        rw [List.getElem?_replicate] at h2
        split at h2 <;> cases h2
    have ha : vs[i]? = some v := by
      unfold start at h2
      rw [List.getElem?_append_left (by simpa using hi), List.getElem?_map] at h2
      cases e : vs[i]? with
      | none => rw [e] at h2; cases h2
      | some a => rw [e] at h2; cases h2; rfl
    obtain ⟨u, hu, rv⟩ := r.get ha
    have hp : ps[i]? = some y := by
      rw [← S.pre, List.getElem?_take_of_lt (by omega)]; exact h1
    have ndP : ps.Nodup := by rw [← S.pre]; exact S.nd.sublist (List.take_sublist _ _)
    refine ⟨u, rv, ?_⟩
    rcases S.par y (List.mem_of_getElem? hp) with k | k
    · exact .inl ⟨k, bindL_get ndP hp hu k⟩
    · obtain ⟨c, e⟩ := cell_has (n := s.heap.objs.size + 1) k
      refine .inr ⟨.inl k, c, e, ?_⟩
      have q := x.cell y c e
      rw [bindC_get ndP hp hu (by show scope.names.lookup y ≠ _; rw [k]; decide)] at q
      exact q
  · exact e0.hok.fresh (Nat.le_of_lt (x.above y c (PySem.mem_of_lookup h)))
  · unfold start
    show _ = N.length
    rw [List.length_append, List.length_map, List.length_replicate]
    omega

/-- THE RULE: a def (or a method) of the text, by its body. The body's reading t is chosen for each entry; it is run at the parameters' values -/
theorem fn_of {CX : CXT} {P : Program} {w : World} {K : PySem.W.Frag} {mg : Str → Option Value} {base : Heap} {k : Nat} {f : Addr} {name qual : Str} {params : Arguments} {body : List Stmt} {scope : Scope} {dV kV doc pm cdv ct oc : Value} {an od : Option Addr}
    {osl : Array (Option Value)} {N ps : List Str} {sp : Sp} (lk : K.lookup f = some ⟨oc, od, .func (PySem.W.fnOf name qual params body scope dV kV doc pm an cdv ct), osl⟩) (hcd : PySem.W.codeIn K cdv qual = true) (S : FnScope N ps scope)
    (len : ∀ vs H Q E, sp vs H Q E → vs.length = ps.length)
    (hbody : ∀ (A : Around) (outer : List Env) (s : Shared) (H : Hp) (vs : List V) (Q : VK) (E : XK), Room k (A.deeper (envOfC qual scope s.heap.objs.size f cdv)) → sp vs H Q E →
      ∃ t, PSs (cxOf CX P w K mg base N qual scope f cdv A outer s H E) body t ∧ t { nx := fun _ H' => Q .non H', rt := Q } (start N vs) H) :
    FnOk P w K mg base CX (k + 1) f (PySem.W.fnOf name qual params body scope dV kV doc pm an cdv ct) ps sp := by
  refine ⟨len, fun A outer s H args us vs Q E hr e0 hb r hsp => ?_⟩
  have hl := len _ _ _ _ hsp
  have KX : K.In s.heap := e0.mod.kin.keeps fun b o e => (e0.bs b o e).1
  have lim : s.heap.NoLimit := e0.mod.nolimit.keeps fun b o e => (e0.bs b o e).1
  have hkind : ∀ y ∈ ps.zip us, scope.names.lookup y.1 = some .local ∨ (scope.names.lookup y.1 = some .cell ∧ ((cellsFrom (s.heap.objs.size + 1) scope.names []).lookup y.1).isSome = true) := fun ⟨n, v⟩ hy => by
    rcases S.par n (List.of_mem_zip hy).1 with q | q
    · exact .inl q
    · exact .inr ⟨q, PySem.W.cellsFrom_some _ _ _ (.inl q)⟩
  refine codeAny_call_function hr.depth (KX _ _ lk) rfl S.co S.gen rfl (PySem.W.codeRec_of KX hcd) (hb _ _ _ _ ?_)
  refine wpAny_newFunctionEnv_cells S.kind hkind fun env he s1 x => ?_
  subst he
  refine ⟨lim.keeps x.toInCall.keep, codeAny_func ?_⟩
  obtain ⟨t, ht, hq⟩ := hbody A outer s H vs Q E (hr.deeper _) hsp
  have I : Inv (cxOf CX P w K mg base N qual scope f cdv A outer s H E) [] (start N vs) H s1 := inv_start S hr.hd e0 hl r x
  refine wpAny_mono (ht [] s1 (start N vs) H _ I hq) (fun fl s' hs => ?_) fun e s' hs => hs
  have fin : ∀ {σ' : St} {H' : Hp} {v : V} {u : Value}, Inv (cxOf CX P w K mg base N qual scope f cdv A outer s H E) [] σ' H' s' → RelV v u → Q v H' → CE outer P w H s Q u s' :=
    fun {σ' H' v u} J rv q => ⟨v, H', J.os, J.bare, J.base, J.hok, rv, q⟩
  cases fl with
  | ret u =>
    obtain ⟨v, σ', H', J, rv, q⟩ := hs
    exact fin J rv q
  | next =>
    obtain ⟨σ', H', J, q⟩ := hs
    exact fin (v := V.non) (u := Value.none) J rfl q
  | brk =>
    obtain ⟨_, _, _, q⟩ := hs
    exact False.elim q
  | cont =>
    obtain ⟨_, _, _, q⟩ := hs
    exact False.elim q
end L2

namespace L2
open PySem PySem.Spec PyProof.Rows
section
variable {X : Cx} {x : Str} {p pos : Pos} {e : Expr} {es : List Expr} {t : TA} {id T : String} {r : List V → Hp → VK → Prop}

def tCB (r : List V → Hp → VK → Prop) (t : TA) : TE := fun σ H Q => t σ H fun vs H1 => r vs H1 Q
/-- f(e, ..), f a built-in function -/
theorem pe_callB (hc : CallR X (.builtin id) r) (hg : Gl X x) (hm : X.mg x = none) (hv : bootBuiltins x = some (.builtin id)) (ha : PA X (e :: es) t) (hn : x ≠ "__name__" := by decide) (hdb : (x == ("__debug__" : Str)) = false := by decide)
    (he : starEach (e :: es) X.env = (false, eval e X.env) :: starEach es X.env := by rfl) (hpl : (backTo pos (starEach es X.env)).any (·.1) = false := by rfl) : PE X (.Call (.Name x p) (e :: es) [] pos) (tCB r t) := by
  intro pins s σ H Q I h
  refine wpAny_Call_Name_kw (ld_blt I hg hm hv ?_ hn hdb)
  exact PyProof.Rows.callWith_builtin1 (thn (ha pos pins s σ H _ I h) fun us s1 ⟨vs, H1, I1, r1, q1⟩ => hc pins s1 σ H1 vs us Q I1 r1 q1) he hpl
/-- T(e, ..), T a built-in type -/
theorem pe_callTy (hc : CallR X (.type T) r) (hg : Gl X x) (hm : X.mg x = none) (hv : bootBuiltins x = some (.type T)) (ha : PA X (e :: es) t) (hn : x ≠ "__name__" := by decide) (hdb : (x == ("__debug__" : Str)) = false := by decide)
    (he : starEach (e :: es) X.env = (false, eval e X.env) :: starEach es X.env := by rfl) (hpl : (backTo pos (starEach es X.env)).any (·.1) = false := by rfl) : PE X (.Call (.Name x p) (e :: es) [] pos) (tCB r t) := by
  intro pins s σ H Q I h
  refine wpAny_Call_Name_kw (ld_blt I hg hm hv ?_ hn hdb)
  exact PyProof.Rows.callWith_type1 (thn (ha pos pins s σ H _ I h) fun us s1 ⟨vs, H1, I1, r1, q1⟩ => hc pins s1 σ H1 vs us Q I1 r1 q1) he hpl
end
end L2

namespace L2
open PySem PySem.Spec PyProof.Rows

/-! ### lists of pairs as tables -/
section
variable {κ : Type} [DecidableEq κ]
def valV (kvs : List (κ × V)) (k : κ) : Option V := (kvs.find? fun kv => decide (kv.1 = k)).map (·.2)
/-- in its place, or at the end -/
def putK (kvs : List (κ × V)) (k : κ) (v : V) : List (κ × V) :=
  if (kvs.any fun kv => decide (kv.1 = k)) = true then kvs.map (fun kv => if kv.1 = k then (kv.1, v) else kv) else kvs ++ [(k, v)]
def dropK (kvs : List (κ × V)) (k : κ) : List (κ × V) := kvs.filter fun kv => decide (kv.1 ≠ k)

end


/-! ### a tracked dict, its keys ints and texts or tuples of these -/
/-- raw entries of a dict with tuple keys -/
abbrev KT (H : Hp) : List (List Key × V) → List (List Key × Addr × Value) → Prop := Paired fun p q => p.1 = q.1 ∧ H q.2.1 = some (.tup (p.1.map kV)) ∧ RelV p.2 q.2.2
section
variable {P : Program} {w : World} {H : Hp} {h : Heap} {a : Addr}
end

/-- what the dict at a holds at the key y -/
def DGet (H : Hp) (a : Addr) (y : V) (r : Option V) : Prop :=
  (∃ kvs k, Rd H a (.dK kvs) ∧ y = kV k ∧ r = valV kvs k) ∨ ∃ kvs k b, Rd H a (.dT kvs) ∧ y = .ref b ∧ H b = some (.tup (k.map kV)) ∧ r = valV kvs k
/-- the heap behind a[y] = v -/
def DPut (H : Hp) (a : Addr) (y v : V) (H' : Hp) : Prop :=
  (∃ kvs k, H a = some (.dK kvs) ∧ y = kV k ∧ kvs.length < sizeLine ∧ H' = upd H a (.dK (putK kvs k v))) ∨
  ∃ kvs k b, H a = some (.dT kvs) ∧ y = .ref b ∧ H b = some (.tup (k.map kV)) ∧ kvs.length < sizeLine ∧ H' = upd H a (.dT (putK kvs k v))
section
variable {X : Cx} {pins : List (Addr × Obj)} {σ : St} {H : Hp} {s : Shared} {a : Addr} {y v : V} {u r : Value} {o : Option V} {A : Around} {E : Value → Shared → Prop}

end

section
variable {X : Cx} {pins : List (Addr × Obj)} {σ : St} {H : Hp} {s : Shared} {a : Addr} {kvs : List (Key × V)} {k : Key} {u : Value} {A : Around} {E : Value → Shared → Prop}
end


/-! ### readings and rules -/
/-- the element of a subscription, not a slice -/
def NoSl (i : Expr) : Prop := ∀ ov iv, subscripted i false ov iv = operate [ov, iv] (getItem ov iv)
/-- d[y] -/
def tDGet (td ty : TE) : TE := fun σ H Q => td σ H fun x H1 => ty σ H1 fun y H2 => ∃ a v, x = .ref a ∧ DGet H2 a y (some v) ∧ Q v H2
/-- y in d, y not in d -/
def tDIn (ty td : TE) : TE := fun σ H Q => ty σ H fun y H1 => td σ H1 fun x H2 => ∃ a o, x = .ref a ∧ DGet H2 a y o ∧ Q (.bl o.isSome) H2
def tDNotIn (ty td : TE) : TE := fun σ H Q => ty σ H fun y H1 => td σ H1 fun x H2 => ∃ a o, x = .ref a ∧ DGet H2 a y o ∧ Q (.bl (!o.isSome)) H2
/-- d[y] = v -/
def sDPut (td ty tv : TE) : TS := fun D σ H => tv σ H fun v H1 => td σ H1 fun x H2 => ty σ H2 fun y H3 => ∃ a H4, x = .ref a ∧ DPut H3 a y v H4 ∧ D.nx σ H4
/-- d[y] op= v -/
def sDAug (td ty tv : TE) (rd : V → V → Hp → VK → Prop) : TS := fun D σ H => td σ H fun x H1 => ty σ H1 fun y H2 => ∃ a v, x = .ref a ∧ DGet H2 a y (some v) ∧
  tv σ H2 fun y2 H3 => rd v y2 H3 fun z H4 => ∃ H5, DPut H4 a y z H5 ∧ D.nx σ H5
/-- del d[y] -/
def sDDel (td ty : TE) : TS := fun D σ H => td σ H fun x H1 => ty σ H1 fun y H2 => ∃ a kvs k, x = .ref a ∧ H2 a = some (.dK kvs) ∧ y = kV k ∧ (valV kvs k).isSome = true ∧ D.nx σ (upd H2 a (.dK (dropK kvs k)))

section
variable {X : Cx} {o i e value : Expr} {pos pos' tpos : Pos} {td ty tv : TE}
end


/-! ### displays -/
/-- {}, to be a dict of the kind that is wanted -/
def tDNewK : TE := fun _ H Q => ∀ p, H p = none → Q (.ref p) (upd H p (.dK []))
def tDNewT : TE := fun _ H Q => ∀ p, H p = none → Q (.ref p) (upd H p (.dT []))
section
variable {X : Cx} {pos : Pos}
end

/-- the pairs of a display, from the left -/
def tPairs : List (TE × TE) → St → Hp → (List (V × V) → Hp → Prop) → Prop
  | [], _, H, Q => Q [] H
  | (tk, tv) :: r, σ, H, Q => tk σ H fun x H1 => tv σ H1 fun y H2 => tPairs r σ H2 fun ps H3 => Q ((x, y) :: ps) H3
abbrev VV : List (V × V) → List (Value × Value) → Prop := Paired fun p q => RelV p.1 q.1 ∧ RelV p.2 q.2
def PPs (X : Cx) (pos : Pos) (keys : List (Option Expr)) (values : List Expr) (trs : List (TE × TE)) : Prop :=
  ∀ (pins : List (Addr × Obj)) (s : Shared) (σ : St) (H : Hp) (Q : List (V × V) → Hp → Prop), Inv X pins σ H s → tPairs trs σ H Q →
    wpAny (model X.prog X.w) X.A (evalPairs (pairTrees keys values X.env pos)) (fun vs s' => ∃ ps H', Inv X pins σ H' s' ∧ VV ps vs ∧ Q ps H') X.xe s
def mergeK (kvs more : List (Key × V)) : List (Key × V) := more.foldl (fun acc kv => putK acc kv.1 kv.2) kvs
/-- {k: v, ..} with keys ints and texts; the new dict stands empty while the pairs are made -/
def tDisp (trs : List (TE × TE)) : TE := fun σ H Q => ∀ p, H p = none → tPairs trs σ (upd H p (.dK [])) fun ps H2 => H2 p = some (.dK []) ∧ ∃ kvs : List (Key × V), ps = kvs.map (fun kv => (kV kv.1, kv.2)) ∧ kvs.length ≤ 15 ∧ Q (.ref p) (upd H2 p (.dK (mergeK [] kvs)))
/-! ### methods -/
/-- a method call o.m(e) of a built-in, with one argument: what must be seen of the text -/
structure M1 (X : Cx) (o : Expr) (m : Str) (apos : Pos) (e : Expr) (cpos : Pos) : Prop where
  base : attributeBase o m X.env (eval o X.env) = eval o X.env
  few : ((backTo cpos (starEach [e] X.env)).all (fun x => !x.1) && (backToKw cpos (keywordEach [] X.env)).all (fun x => x.1.isSome)
    && decide (([e] : List Expr).length + ([] : List Keyword).length + (if ([] : List Keyword).isEmpty then 0 else 1) < 30)) = true
  line : (apos.endLine == cpos.line) = true
  trees : backTo cpos (starEach [e] X.env) = [(false, eval e X.env)]
structure M2 (X : Cx) (o : Expr) (m : Str) (apos : Pos) (e f : Expr) (cpos : Pos) : Prop where
  base : attributeBase o m X.env (eval o X.env) = eval o X.env
  few : ((backTo cpos (starEach [e, f] X.env)).all (fun x => !x.1) && (backToKw cpos (keywordEach [] X.env)).all (fun x => x.1.isSome)
    && decide (([e, f] : List Expr).length + ([] : List Keyword).length + (if ([] : List Keyword).isEmpty then 0 else 1) < 30)) = true
  line : (apos.endLine == cpos.line) = true
  trees : backTo cpos (starEach [e, f] X.env) = [(false, eval e X.env), (false, eval f X.env)]

/-- a is a dict, whatever its keys -/
def IsD (H : Hp) (a : Addr) : Prop := (∃ kvs, Rd H a (.dK kvs)) ∨ ∃ kvs, Rd H a (.dT kvs)
section
variable {X : Cx} {pins : List (Addr × Obj)} {σ : St} {H : Hp} {s : Shared} {a : Addr} {y d : V} {u r : Value} {o : Option V} {A : Around} {E : Value → Shared → Prop}
end

def tDGet1 (td ty : TE) : TE := fun σ H Q => td σ H fun x H1 => ∃ a, x = .ref a ∧ IsD H1 a ∧ ty σ H1 fun y H2 => ∃ o, DGet H2 a y o ∧ Q (o.getD .non) H2
def tDGet2 (td ty tx : TE) : TE := fun σ H Q => td σ H fun x H1 => ∃ a, x = .ref a ∧ IsD H1 a ∧ ty σ H1 fun y H2 => tx σ H2 fun z H3 => ∃ o, DGet H3 a y o ∧ Q (o.getD z) H3
/-- d.pop(k): there; d.pop(k, x): there or not -/
def tDPop1 (td ty : TE) : TE := fun σ H Q => td σ H fun x H1 => ∃ a, x = .ref a ∧ IsD H1 a ∧ ty σ H1 fun y H2 => ∃ kvs k v, H2 a = some (.dK kvs) ∧ y = kV k ∧ valV kvs k = some v ∧ Q v (upd H2 a (.dK (dropK kvs k)))
def tDPop2 (td ty tx : TE) : TE := fun σ H Q => td σ H fun x H1 => ∃ a, x = .ref a ∧ IsD H1 a ∧ ty σ H1 fun y H2 => tx σ H2 fun z H3 => ∃ kvs k, H3 a = some (.dK kvs) ∧ y = kV k ∧
  (∀ v, valV kvs k = some v → Q v (upd H3 a (.dK (dropK kvs k)))) ∧ (valV kvs k = none → Q z H3)
section
variable {X : Cx} {o e f : Expr} {apos cpos : Pos} {td ty tx : TE}
end

/-! ### dict(d): a copy -/
section
variable {X : Cx} {pins : List (Addr × Obj)} {σ : St} {H : Hp} {s : Shared} {a : Addr} {kvs : List (Key × V)} {A : Around} {E : Value → Shared → Prop}
end


section
variable {X : Cx} {pins : List (Addr × Obj)} {σ : St} {H : Hp} {s : Shared} {a : Addr} {y : V} {u : Value} {A : Around} {E : Value → Shared → Prop}
end
end L2

namespace HT
open PySem PyProof.Rows

/-- t < u of tuples of ints -/
def lexLt : List Int → List Int → Bool
  | [], [] => false
  | [], _ :: _ => true
  | _ :: _, [] => false
  | x :: xs, y :: ys => if x = y then lexLt xs ys else decide (x < y)
section
open PySem.SeqAt
open PySem.AutoSeq1 (wpAny_loadPart')
open PySem.MeetsSeq PySem.MeetsSeq2 PySem.MeetsSeq3

end

section
variable {prog : Program} {w : World} {A : Around} {E : Value → Shared → Prop} {s : Shared}

/-- t + u, t not empty -/
theorem cat_tup {t b : Addr} {vs ws : List Value} {Q : Value → Shared → Prop} (ht : IsTup s.heap t vs.toArray) (hb : IsTup s.heap b ws.toArray) (hv : vs ≠ [])
    (h1 : ws = [] → Q (.ref t) s) (h2 : ws ≠ [] → Q (.ref s.heap.objs.size) { s with heap := s.heap.push { cls := .type "tuple", data := .seq (vs ++ ws).toArray } })
    (hsz : vs.length + ws.length ≤ sizeLine) : wpAny (model prog w) A (binaryOp .Add (.ref t) (.ref b)) Q E s := by
  obtain ⟨⟨cls, dd, data, sl⟩, ho, hc, n, hd⟩ := id ht
  obtain ⟨⟨cls2, dd2, data2, sl2⟩, ho2, hc2, n2, hd2⟩ := id hb
  simp only at hc hd hc2 hd2
  subst hc hd hc2 hd2
  have e : vs.toArray ++ ws.toArray = (vs ++ ws).toArray := by simp
  by_cases hw : ws = []
  · exact concat_meets ⟨_, ho, rfl⟩ ⟨_, ho2, rfl⟩ noFill_tuple_add seq_tuple_add PySem.F.slot_tuple_add PySem.F.entry_tuple_add (PySem.F.args_tuple_add_2 _ _)
      (tuple_addW1 t b vs.toArray ws.toArray n n2 dd dd2 sl sl2 (by simpa using hv) (by simp [hw])) ⟨ho, ho2, h1 hw⟩
  · refine concat_meets ⟨_, ho, rfl⟩ ⟨_, ho2, rfl⟩ noFill_tuple_add seq_tuple_add PySem.F.slot_tuple_add PySem.F.entry_tuple_add (PySem.F.args_tuple_add_2 _ _)
      (tuple_addW2 t b vs.toArray ws.toArray n n2 dd dd2 sl sl2 (by simpa using hv) (by simpa using hw) (by rw [List.size_toArray, List.size_toArray]; exact hsz)) ⟨ho, ho2, ?_⟩
    rw [e]
    exact h2 hw

/-! ### t[a:b], not the whole -/
/-- a slice's bound as a place among n (d where it is left out) -/
def sIx (n d : Nat) : Option Int → Nat
  | none => d
  | some v => if v < 0 then (v + (n : Int)).toNat else min v.toNat n
theorem sIx_none (n d : Nat) : sIx n d none = d := rfl
theorem sIx_nat (n d k : Nat) : sIx n d (some (k : Int)) = min k n := by
  show (if (k : Int) < 0 then ((k : Int) + (n : Int)).toNat else min (k : Int).toNat n) = min k n
  rw [if_neg (by omega), Int.toNat_natCast]
end
end HT

namespace L2
open PySem PySem.Spec PyProof.Rows

/-! ### the parts of a slice -/
abbrev TO := St → Hp → (Option Int → Hp → Prop) → Prop
/-- a slice's part (left out, or an int) -/
def PO (X : Cx) (e : Option Expr) (t : TO) : Prop :=
  ∀ (pins : List (Addr × Obj)) (s : Shared) (σ : St) (H : Hp) (Q : Option Int → Hp → Prop), Inv X pins σ H s → t σ H Q →
    wpAny (model X.prog X.w) X.A (evalPart e X.env) (fun u s' => ∃ o H', Inv X pins σ H' s' ∧ IsPart u o ∧ Q o H') X.xe s
def tNoPart : TO := fun _ H Q => Q none H
def tPart (t : TE) : TO := fun σ H Q => t σ H fun x H1 => ∃ i, x = .int i ∧ Q (some i) H1

section
variable {X : Cx} {e : Expr} {te : TE} {lo hi : Option Expr} {tl th : TO} {pos p2 : Pos}

theorem po_none : PO X none tNoPart := by
  intro pins s σ H Q I h
  rw [evalPart_none]
  exact wpAny_pure ⟨none, H, I, .none, h⟩
theorem po_some (h : PE X e te) : PO X (some e) (tPart te) := by
  intro pins s σ H Q I hw
  rw [evalPart_some]
  refine thn (h pins s σ H _ I hw) fun u s1 ⟨x, H1, I1, r1, q1⟩ => ?_
  obtain ⟨i, rfl, q⟩ := q1
  obtain ⟨t, rfl⟩ := r1
  exact ⟨some i, H1, I1, .int i t, q⟩

/-- what a slice of a value is, by values: the slice object stands at sl -/
def SlR (X : Cx) (r : V → Option Int → Option Int → Hp → VK → Prop) : Prop :=
  ∀ (pins : List (Addr × Obj)) (s : Shared) (σ : St) (H : Hp) (x : V) (v vl vu : Value) (lo hi : Option Int) (sl : Addr) (Q : VK), Inv X pins σ H s → RelV x v → s.heap.IsSliceOf sl vl vu .none → IsPart vl lo → IsPart vu hi → r x lo hi H Q →
    ∃ T id, typeLookup (.type T) "__getitem__" = pure (some (.builtin id)) ∧ s.TypeIs v T ∧ wpAny (model X.prog X.w) X.A (getItem v (.ref sl)) (EP X pins σ Q) X.xe s
theorem SlR.or {r r' : V → Option Int → Option Int → Hp → VK → Prop} (h : SlR X r) (h' : SlR X r') : SlR X (fun x lo hi H Q => r x lo hi H Q ∨ r' x lo hi H Q) := by
  intro pins s σ H x v vl vu lo hi sl Q I rx hs pl pu q
  rcases q with q | q
  · exact h pins s σ H x v vl vu lo hi sl Q I rx hs pl pu q
  · exact h' pins s σ H x v vl vu lo hi sl Q I rx hs pl pu q
def tSl (r : V → Option Int → Option Int → Hp → VK → Prop) (te : TE) (tl th : TO) : TE := fun σ H Q => te σ H fun x H1 => tl σ H1 fun l H2 => th σ H2 fun u H3 => r x l u H3 Q
/-- a[lo:hi], any a -/
theorem pe_slice {r : V → Option Int → Option Int → Hp → VK → Prop} (hr : SlR X r) (he : PE X e te) (hl : PO X lo tl) (hu : PO X hi th) : PE X (.Subscript e (.Slice lo hi none p2) pos) (tSl r te tl th) := by
  intro pins s σ H Q I h
  refine Subscript_ (thn (he pins s σ H _ I h) fun v s1 ⟨x, H1, I1, r1, q1⟩ => ?_)
  refine wpAny_Slice (thn (hl pins s1 σ H1 _ I1 q1) fun vl s2 ⟨l, H2, I2, pl, q2⟩ => thn (hu pins s2 σ H2 _ I2 q2) fun vu s3 ⟨u, H3, I3, pu, q3⟩ => ?_)
  rw [evalPart_none]
  refine wpAny_pure ?_
  have I4 : Inv X pins σ H3 { s3 with heap := s3.heap.push { cls := .type "slice", data := .fields #[vl, vu, .none] } } := I3.kept (t' := s3.toks) fun b ob q => Heap.get?_push_of_some _ q
  obtain ⟨T, id, hT, ht, hg⟩ := hr pins { s3 with heap := s3.heap.push { cls := .type "slice", data := .fields #[vl, vu, .none] } } σ H3 x v vl vu l u s3.heap.objs.size Q I4 r1 (Heap.IsSliceOf.new ..) pl pu q3
  show wpAny (model X.prog X.w) X.A (subscriptTail e (.Slice lo hi none p2) v (.ref s3.heap.objs.size)) (EP X pins σ Q) X.xe { s3 with heap := s3.heap.push { cls := .type "slice", data := .fields #[vl, vu, .none] } }
  exact tail_any (ops := [.ref s3.heap.objs.size, v]) ht hT hg (by with_unfolding_all rfl)

/-- the items of xs[lo:hi] -/
def cutV (xs : List V) (lo hi : Option Int) : List V := (xs.drop (HT.sIx xs.length 0 lo)).take (HT.sIx xs.length xs.length hi - HT.sIx xs.length 0 lo)
theorem cutV_length (xs : List V) (lo hi : Option Int) : (cutV xs lo hi).length ≤ xs.length := by
  unfold cutV
  rw [List.length_take, List.length_drop]
  omega
/-- t[lo:hi], not the whole of it (the whole would be t itself) -/
def rSlT (K : PySem.W.Frag) : V → Option Int → Option Int → Hp → VK → Prop := fun x lo hi H Q => ∃ a xs, x = .ref a ∧ SqT K H a xs ∧
  ¬ (HT.sIx xs.length 0 lo = 0 ∧ HT.sIx xs.length xs.length hi = xs.length) ∧ ∀ p, H p = none → Q (.ref p) (upd H p (.tup (cutV xs lo hi)))
/-! ### t < u, t + u -/
def rLtT (K : PySem.W.Frag) : R2 := fun x y H Q => ∃ a b ns ms, x = .ref a ∧ y = .ref b ∧ SqT K H a (ns.map V.int) ∧ SqT K H b (ms.map V.int) ∧ Q (.bl (HT.lexLt ns ms)) H
/-- t + u, t not empty: u empty gives t itself -/
def rCatT (K : PySem.W.Frag) : R2 := fun x y H Q => ∃ a b xs ys, x = .ref a ∧ y = .ref b ∧ SqT K H a xs ∧ SqT K H b ys ∧ xs ≠ [] ∧ xs.length + ys.length ≤ sizeLine ∧
  (ys = [] → Q (.ref a) H) ∧ (ys ≠ [] → ∀ p, H p = none → Q (.ref p) (upd H p (.tup (xs ++ ys))))
end
end L2

namespace L2
open PySem PySem.Spec PyProof.Rows

/-! ### places -/
/-- the place that an index of any sign means -/
def ixN (n : Nat) (i : Int) : Option Nat := if 0 ≤ i then (if i < n then some i.toNat else none) else if -(n : Int) ≤ i then some (i + n).toNat else none
def atI {α : Type} (xs : List α) (i : Int) : Option α := (ixN xs.length i).bind fun j => xs[j]?
theorem ixN_seq {n : Nat} {i : Int} {j : Nat} (h : ixN n i = some j) : seqIndex? i n = some j ∧ j < n ∧ -(n : Int) ≤ i ∧ i < n := by
  unfold ixN at h
  by_cases h0 : 0 ≤ i
  · rw [if_pos h0] at h
    by_cases h1 : i < n
    · rw [if_pos h1] at h
      have e : i.toNat = j := Option.some.inj h
      exact ⟨by rw [seqIndex_of h0 h1, e], by omega, by omega, h1⟩
    · rw [if_neg h1] at h; cases h
  · rw [if_neg h0] at h
    by_cases h1 : -(n : Int) ≤ i
    · rw [if_pos h1] at h
      have e : (i + n).toNat = j := Option.some.inj h
      exact ⟨by rw [seqIndex_neg (by omega) h1, e], by omega, h1, by omega⟩
    · rw [if_neg h1] at h; cases h
theorem atI_get {α : Type} {xs : List α} {i : Int} {v : α} (h : atI xs i = some v) : ∃ j, seqIndex? i xs.length = some j ∧ xs[j]? = some v ∧ j < xs.length ∧ -(xs.length : Int) ≤ i ∧ i < xs.length := by
  unfold atI at h
  cases e : ixN xs.length i with
  | none => rw [e] at h; cases h
  | some j =>
    rw [e] at h
    obtain ⟨h1, h2, h3, h4⟩ := ixN_seq e
    exact ⟨j, h1, h, h2, h3, h4⟩
/-! ### what may be subscripted -/
/-- what stands as an index of a plain subscript -/
def PlainIx (b : Expr) : Prop := ∀ o i, subscripted b false o i = operate [o, i] (getItem o i)
/-- a subscript by values -/
def IxR (X : Cx) (r : R2) : Prop :=
  ∀ (value slice : Expr) (pins : List (Addr × Obj)) (s : Shared) (σ : St) (H : Hp) (x y : V) (v u : Value) (Q : VK), Inv X pins σ H s → RelV x v → RelV y u → r x y H Q →
    subscripted slice false v u = operate [v, u] (getItem v u) → wpAny (model X.prog X.w) X.A (subscriptTail value slice v u) (EP X pins σ Q) X.xe s
/-- a call of a builtin's method by values: the receiver, the arguments -/
def MtR (X : Cx) (id : String) (r : V → List V → Hp → VK → Prop) : Prop :=
  ∀ (pins : List (Addr × Obj)) (s : Shared) (σ : St) (H : Hp) (x : V) (xs : List V) (v : Value) (us : List Value) (Q : VK), Inv X pins σ H s → RelV x v → Vals xs us → r x xs H Q →
    wpAny (model X.prog X.w) X.A (call (.builtin id) (v :: us)) (EP X pins σ Q) X.xe s
section
variable {X : Cx} {a b : Expr} {ta tb : TE} {pos : Pos}
theorem IxR.or {r r' : R2} (h : IxR X r) (h' : IxR X r') : IxR X (fun x y H Q => r x y H Q ∨ r' x y H Q) := by
  intro value slice pins s σ H x y v u Q I rx ry q hs
  rcases q with q | q
  · exact h value slice pins s σ H x y v u Q I rx ry q hs
  · exact h' value slice pins s σ H x y v u Q I rx ry q hs
/-- a[b] -/
theorem pe_ix {r : R2} (hr : IxR X r) (ha : PE X a ta) (hb : PE X b tb) (hs : PlainIx b) : PE X (.Subscript a b pos) (tOp r ta tb) := by
  intro pins s σ H Q I h
  exact Subscript_ (binT ha hb I h fun v u s2 x y H2 I2 rx ry q => hr a b pins s2 σ H2 x y v u Q I2 rx ry q (hs _ _))

def rIxL (K : PySem.W.Frag) : R2 := fun x y H Q => ∃ p xs i v, x = .ref p ∧ y = .int i ∧ SqL K H p xs ∧ atI xs i = some v ∧ Q v H
def rIxT (K : PySem.W.Frag) : R2 := fun x y H Q => ∃ p xs i v, x = .ref p ∧ y = .int i ∧ SqT K H p xs ∧ atI xs i = some v ∧ Q v H
def rIxS : R2 := fun x y H Q => ∃ z i c, x = .str z ∧ y = .int i ∧ z.length ≤ sizeLine ∧ atI z.cps.toList i = some c ∧ Q (.str ⟨#[c]⟩) H
theorem ix_list : IxR X (rIxL X.K) := by
  intro value slice pins s σ H x y v u Q I rx ry h hs
  obtain ⟨p, xs, i, z, rfl, rfl, hq, he, q⟩ := h
  cases rx
  obtain ⟨t, rfl⟩ := ry
  obtain ⟨its, r, pl, hz⟩ := I.list hq
  obtain ⟨j, h1, h2, h3, h4, h5⟩ := atI_get he
  obtain ⟨w, ew, rw'⟩ := r.get h2
  have hl := r.length
  have hn := line63
  have fin : EP X pins σ Q w s := ⟨z, H, I, rw', q⟩
  by_cases h0 : 0 ≤ i
  · have hj : i.toNat = j := by
      rw [seqIndex_of h0 h5] at h1
      exact Option.some.inj h1
    exact item_listR pl.isList h0 (by omega) (by rw [hj]; simpa using ew) fin hs
  · have hj : (i + (its.toArray.size : Int)).toNat = j := by
      rw [seqIndex_neg (by omega) h4] at h1
      rw [List.size_toArray, ← hl]
      exact Option.some.inj h1
    exact subscriptTail_builtinR (x := w) pl.isList.typeIs slot_list_getitem.lookup
      (wpAny_getItem_list_neg (Q := fun r s' => r = w ∧ EP X pins σ Q r s') pl.isList (by omega) (by rw [List.size_toArray] <;> omega) (by omega) (by rw [hj]; simpa using ew) ⟨rfl, fin⟩) hs
theorem ix_tup : IxR X (rIxT X.K) := by
  intro value slice pins s σ H x y v u Q I rx ry h hs
  obtain ⟨p, xs, i, z, rfl, rfl, hq, he, q⟩ := h
  cases rx
  obtain ⟨t, rfl⟩ := ry
  obtain ⟨its, r, pl, hz⟩ := I.tuple hq
  obtain ⟨j, h1, h2, h3, h4, h5⟩ := atI_get he
  obtain ⟨w, ew, rw'⟩ := r.get h2
  have hl := r.length
  have hn := line63
  have fin : EP X pins σ Q w s := ⟨z, H, I, rw', q⟩
  exact subscriptTail_builtinR (x := w) pl.typeIs slot_tuple_getitem.lookup
    (getItem_tuple (j := j) (Q := fun r s' => r = w ∧ EP X pins σ Q r s') pl (by omega) (by omega) (by rw [List.size_toArray, ← hl]; exact h1) (by simpa using ew) ⟨rfl, fin⟩) hs
theorem ix_str : IxR X rIxS := by
  intro value slice pins s σ H x y v u Q I rx ry h hs
  obtain ⟨z, i, c, rfl, rfl, hz, he, q⟩ := h
  obtain ⟨t, rfl⟩ := rx
  obtain ⟨t', rfl⟩ := ry
  obtain ⟨j, h1, h2, h3, h4, h5⟩ := atI_get he
  have hl : z.cps.toList.length = z.length := by simp [Str.length]
  rw [hl] at h1 h4 h5
  have hn := line63
  exact tail_any (typeIs_str s z t) slot_str_getitem.lookup (getItem_str (c := c) (by
    have e1 : decide (i < -(2 ^ 63 : Int)) = false := decide_eq_false (by omega)
    have e2 : decide (i ≥ 2 ^ 63) = false := decide_eq_false (by omega)
    rw [e1, e2, Bool.or_false]) (by rw [h1]; simpa using h2) ⟨.str ⟨#[c]⟩, H, I.tok _, ⟨_, rfl⟩, q⟩) hs
/-- list, tuple or str -/
def rIx (K : PySem.W.Frag) : R2 := fun x y H Q => rIxL K x y H Q ∨ rIxT K x y H Q ∨ rIxS x y H Q
theorem ix_seq : IxR X (rIx X.K) := ix_list.or (ix_tup.or ix_str)

/-! ### xs[i] = v, any sign -/
/-- the list's object behind a store -/
theorem mapSeq_set (its : List Value) (n j : Nat) (u : Value) : Obj.mapSeq (·.setIfInBounds j u) { cls := .type "list", data := .seq its.toArray n } = { cls := .type "list", data := .seq (its.set j u).toArray n } := by
  simp [Obj.mapSeq]
theorem Inv.lst {pins : List (Addr × Obj)} {σ : St} {H : Hp} {s : Shared} {p : Addr} {xs : List V} (I : Inv X pins σ H s) (h : H p = some (.lst xs)) :
    ∃ (its : List Value) (n : Nat), Vals xs its ∧ s.heap.get? p = some { cls := .type "list", data := .seq its.toArray n } ∧ xs.length ≤ sizeLine := by
  obtain ⟨z, its, n, r, e⟩ := I.hok p _ h
  exact ⟨its, n, r, e, z⟩
/-- the list at p is written by an update of its object -/
theorem Inv.lstUpd {pins : List (Addr × Obj)} {σ : St} {H : Hp} {s : Shared} {p : Addr} {xs ys : List V} {its its' : List Value} {n n' : Nat} {f : Obj → Obj} (I : Inv X pins σ H s) (h : H p = some (.lst xs))
    (ho : s.heap.get? p = some { cls := .type "list", data := .seq its.toArray n }) (hf : f { cls := .type "list", data := .seq its.toArray n } = { cls := .type "list", data := .seq its'.toArray n' }) (r : Vals ys its') (hz : ys.length ≤ sizeLine) (t : Nat) :
    Inv X pins σ (upd H p (.lst ys)) { s with heap := s.heap.update p f, toks := t } := by
  have e : (s.heap.update p f).get? p = some { cls := .type "list", data := .seq its'.toArray n' } := by
    rw [Heap.get?_update_self f ho (by rw [hf] <;> rfl), hf]
  refine I.write (x := p) (e := p) (by rw [h]; trivial) (.inl rfl) (fun b u hb q => (Heap.get?_update_other _ _ (Ne.symm hb)).trans q) ⟨_, e⟩ ?_
  exact ⟨hz, its', n', r, e⟩
def rSetL : V → V → V → Hp → (Hp → Prop) → Prop := fun o i v H Q => ∃ p xs k j, o = .ref p ∧ i = .int k ∧ H p = some (.lst xs) ∧ ixN xs.length k = some j ∧ Q (upd H p (.lst (xs.set j v)))
theorem set_list : PSet X rSetL := by
  intro pins s σ H o i v ov iv u Q I ro ri rv h
  obtain ⟨p, xs, k, j, rfl, rfl, hp, hj, q⟩ := h
  cases ro
  obtain ⟨t, rfl⟩ := ri
  obtain ⟨its, n, r, ho, hz⟩ := I.lst hp
  obtain ⟨h1, h2, h3, h4⟩ := ixN_seq hj
  have hl := r.length
  have hn := line63
  have I' : Inv X pins σ (upd H p (.lst (xs.set j v))) { s with heap := s.heap.update p (Obj.mapSeq (·.setIfInBounds j u)) } :=
    I.lstUpd hp ho (mapSeq_set its n j u) (r.set rv j) (by rw [List.length_set]; exact hz) s.toks
  by_cases h0 : 0 ≤ k
  · have hk : k.toNat = j := by
      rw [seqIndex_of h0 h4] at h1
      exact Option.some.inj h1
    exact PySem.W.ki_setAt ho h0 (by omega) (by rw [List.size_toArray, ← hl]; exact h4) (by rw [hk]; exact ⟨_, I', q⟩)
  · have hk : (k + (its.toArray.size : Int)).toNat = j := by
      rw [seqIndex_neg (by omega) h3] at h1
      rw [List.size_toArray, ← hl]
      exact Option.some.inj h1
    exact PySem.W.ki_setBack ho (by omega) (by rw [List.size_toArray, ← hl]; exact h3) (by omega) (by rw [hk]; exact ⟨_, I', q⟩)

/-! ### slices -/
theorem slice_bounds (lo hi : Option Int) (n : Nat) : (sliceBounds lo hi none n).1 = ((HT.sIx n 0 lo : Nat) : Int) ∧ (sliceBounds lo hi none n).2.1 = ((HT.sIx n n hi : Nat) : Int) ∧ (sliceBounds lo hi none n).2.2 = 1 := by
  refine ⟨?_, ?_, rfl⟩
  · cases lo with
    | none => simp [sliceBounds, HT.sIx]
    | some i =>
      simp only [sliceBounds, HT.sIx, Option.getD_none, show (1 : Int) > 0 by decide, if_true]
      by_cases h : i < 0
      · simp only [h, if_true] <;> omega
      · simp only [h, if_false] <;> omega
  · cases hi with
    | none => simp [sliceBounds, HT.sIx]
    | some i =>
      simp only [sliceBounds, HT.sIx, Option.getD_none, show (1 : Int) > 0 by decide, if_true]
      by_cases h : i < 0
      · simp only [h, if_true] <;> omega
      · simp only [h, if_false] <;> omega
theorem slicePick_cut (its : List Value) (lo hi : Option Int) : slicePick its.toArray lo hi none = ((its.drop (HT.sIx its.length 0 lo)).take (HT.sIx its.length its.length hi - HT.sIx its.length 0 lo)).toArray := by
  obtain ⟨h1, h2, h3⟩ := slice_bounds lo hi its.toArray.size
  unfold slicePick
  rw [h1, h2, h3]
  simp only [sliceRange_one, pick_run, List.size_toArray] <;> rfl
/-- xs[lo:hi] of a list: a new list -/
def rSlL (K : PySem.W.Frag) : V → Option Int → Option Int → Hp → VK → Prop := fun x lo hi H Q => ∃ a xs, x = .ref a ∧ SqL K H a xs ∧ ∀ p, H p = none → Q (.ref p) (upd H p (.lst (cutV xs lo hi)))
theorem sl_list : SlR X (rSlL X.K) := by
  intro pins s σ H x v vl vu lo hi sl Q I rx hs pl pu h
  obtain ⟨a, xs, rfl, hx, q⟩ := h
  cases rx
  obtain ⟨its, r, ht, hz⟩ := I.list hx
  have hlen := r.length
  refine ⟨"list", _, slot_list_getitem.lookup, ht.isList.typeIs, ?_⟩
  refine wpAny_getItem_list_slice ht.isList hs pl pu .none (by simp) ?_ (by rw [List.size_toArray] <;> omega)
  rw [slicePick_cut, ← hlen]
  refine ⟨.ref s.heap.objs.size, _, I.laid (t' := s.toks) (o := .lst (cutV xs lo hi)) (fun b ob q => Heap.get?_push_of_some _ q) (Nat.le_refl _) ?_, rfl, q _ (I.hok.fresh (Nat.le_refl _))⟩
  exact ⟨Nat.le_trans (cutV_length xs lo hi) hz, _, 0, (r.drop (HT.sIx xs.length 0 lo)).take (HT.sIx xs.length xs.length hi - HT.sIx xs.length 0 lo), Heap.get?_push_size _ rfl⟩

/-! ### in, not in: flat items -/
def flatV : V → Bool
  | .non => true
  | .bl _ => true
  | .int _ => true
  | .str _ => true
  | _ => false
/-- == of flat values -/
def eqV : V → V → Bool
  | .non, .non => true
  | .bl a, .bl b => a == b
  | .bl a, .int b => (if a then 1 else 0) == b
  | .int a, .bl b => a == (if b then 1 else 0)
  | .int a, .int b => a == b
  | .str a, .str b => a == b
  | _, _ => false
theorem eqAt_V {A : Around} {s : Shared} {y x : V} {u v : Value} (ry : RelV y u) (rx : RelV x v) (fy : flatV y = true) (fx : flatV x = true) : SeqAt.EqAt A s u v (eqV y x) := by
  cases y with
  | non =>
    cases ry
    cases x with
    | non => cases rx; exact SeqAt.EqAt.same _
    | bl b => cases rx; exact SeqAt.EqAt.none_bool b
    | int b => obtain ⟨t, rfl⟩ := rx; exact SeqAt.EqAt.none_int b t
    | str b => obtain ⟨t, rfl⟩ := rx; exact SeqAt.EqAt.none_str b t
    | _ => exact absurd (show false = true from fx) Bool.false_ne_true
  | bl a =>
    cases ry
    cases x with
    | non => cases rx; exact SeqAt.EqAt.bool_none a
    | bl b => cases rx; exact SeqAt.EqAt.bool_bool a b
    | int b => obtain ⟨t, rfl⟩ := rx; exact SeqAt.EqAt.bool_int a b t
    | str b => obtain ⟨t, rfl⟩ := rx; exact SeqAt.EqAt.bool_str a b t
    | _ => exact absurd (show false = true from fx) Bool.false_ne_true
  | int a =>
    obtain ⟨t', rfl⟩ := ry
    cases x with
    | non => cases rx; exact SeqAt.EqAt.int_none a t'
    | bl b => cases rx; exact SeqAt.EqAt.int_bool a t' b
    | int b => obtain ⟨t, rfl⟩ := rx; exact SeqAt.EqAt.int_int a t' b t
    | str b => obtain ⟨t, rfl⟩ := rx; exact SeqAt.EqAt.int_str a t' b t
    | _ => exact absurd (show false = true from fx) Bool.false_ne_true
  | str a =>
    obtain ⟨t', rfl⟩ := ry
    cases x with
    | non => cases rx; exact SeqAt.EqAt.str_none a t'
    | bl b => cases rx; exact SeqAt.EqAt.str_bool a t' b
    | int b => obtain ⟨t, rfl⟩ := rx; exact SeqAt.EqAt.str_int a t' b t
    | str b => obtain ⟨t, rfl⟩ := rx; exact SeqAt.EqAt.str_str a t' b t
    | _ => exact absurd (show false = true from fx) Bool.false_ne_true
  | _ => exact absurd (show false = true from fy) Bool.false_ne_true
/-- the items' answers, read off the values (a value's own answer does not lean on its token) -/
def eqU (x : V) (u : Value) : Bool := match u with
  | .none => eqV .non x
  | .bool b => eqV (.bl b) x
  | .int i _ => eqV (.int i) x
  | .str z _ => eqV (.str z) x
  | _ => false
theorem eqU_of {x y : V} {u : Value} (r : RelV y u) (f : flatV y = true) : eqU x u = eqV y x := by
  cases y with
  | non => cases r; rfl
  | bl b => cases r; rfl
  | int i => obtain ⟨t, rfl⟩ := r; rfl
  | str z => obtain ⟨t, rfl⟩ := r; rfl
  | _ => exact absurd (show false = true from f) Bool.false_ne_true
theorem any_eqU {x : V} : ∀ {xs : List V} {us : List Value}, Vals xs us → xs.all flatV = true → us.any (eqU x) = xs.any fun y => eqV y x
  | _, _, .nil, _ => rfl
  | y :: xs, u :: us, .cons r t, f => by
    rw [List.all_cons, Bool.and_eq_true] at f
    rw [List.any_cons, List.any_cons, eqU_of r f.1, any_eqU t f.2]
theorem mem_eqAt {A : Around} {s : Shared} {x : V} {v : Value} (rx : RelV x v) (fx : flatV x = true) : ∀ {xs : List V} {us : List Value}, Vals xs us → xs.all flatV = true → ∀ u ∈ us, SeqAt.EqAt A s u v (eqU x u)
  | _, _, .nil, _ => fun u hu => by cases hu
  | y :: xs, u :: us, .cons r t, f => fun u' hu => by
    rw [List.all_cons, Bool.and_eq_true] at f
    rcases List.mem_cons.mp hu with rfl | hu
    · rw [eqU_of r f.1]; exact eqAt_V r rx f.1 fx
    · exact mem_eqAt rx fx t f.2 u' hu
def inV (x : V) (xs : List V) : Bool := xs.any fun y => eqV y x
/-- x in a list or tuple of flat items -/
def rIn (K : PySem.W.Frag) (neg : Bool) : R2 := fun x y H Q => ∃ p xs, y = .ref p ∧ (SqL K H p xs ∨ SqT K H p xs) ∧ flatV x = true ∧ xs.all flatV = true ∧ Q (.bl (if neg then !inV x xs else inV x xs)) H
theorem op_in_seq : OpR X (compareOp .In) (rIn X.K false) := by
  intro pins s σ H x y v u Q I rx ry h
  obtain ⟨p, xs, rfl, hq, fx, fs, q⟩ := h
  cases ry
  rcases hq with hq | hq
  · obtain ⟨its, r, pl, hz⟩ := I.list hq
    refine SeqAt.in_listAt (eqU x) pl.isList (fun w hw => mem_eqAt rx fx r fs w (by simpa using hw)) ⟨.bl _, H, I, rfl, ?_⟩
    rw [show its.toArray.any (eqU x) = its.any (eqU x) by simp, any_eqU r fs]
    exact q
  · obtain ⟨its, r, pl, hz⟩ := I.tuple hq
    refine SeqAt.in_tupleAt (eqU x) pl (fun w hw => mem_eqAt rx fx r fs w (by simpa using hw)) ⟨.bl _, H, I, rfl, ?_⟩
    rw [show its.toArray.any (eqU x) = its.any (eqU x) by simp, any_eqU r fs]
    exact q
/-! ### len, list(x), tuple(x) of any list or tuple that is read -/
theorem call_tuple_of : CallR X (.type "tuple") (fun xs H Q => ∃ p ys, xs = [.ref p] ∧ ((SqL X.K H p ys ∧ ∀ l, H l = none → Q (.ref l) (upd H l (.tup ys))) ∨ (SqT X.K H p ys ∧ Q (.ref p) H))) := by
  intro pins s σ H xs us Q I r h
  obtain ⟨p, ys, rfl, h⟩ := h
  obtain ⟨u, rfl, rx⟩ := vals1 r
  cases rx
  rcases h with ⟨hq, q⟩ | ⟨hq, q⟩
  · obtain ⟨its, r', pl, hz⟩ := I.list hq
    have hlen := r'.length
    refine call_tuple_list pl.isList (fun h' kp => ?_) (by simp only [List.size_toArray] <;> omega)
    have I1 : Inv X pins σ H { s with heap := h' } := I.kept (t' := s.toks) kp
    have I2 : Inv X pins σ (upd H h'.objs.size (.tup ys)) { s with heap := h'.push { cls := .type "tuple", data := .seq its.toArray } } :=
      I1.laid (t' := s.toks) (fun b o e => Heap.get?_push_of_some _ e) (Nat.le_refl _) (show ObjOk X.prog X.w _ _ _ (.tup ys) from ⟨hz, its, r', IsTup.new _ _⟩)
    exact ⟨.ref h'.objs.size, _, I2, rfl, q _ (I1.hok.fresh (Nat.le_refl _))⟩
  · obtain ⟨its, r', pl, hz⟩ := I.tuple hq
    exact call_tuple_same pl ⟨.ref p, H, I, rfl, q⟩

/-! ### the call of a builtin's method: o.m(..) -/
/-- the value is of that builtin type -/
def tyV (K : PySem.W.Frag) (T : String) (x : V) (H : Hp) : Prop := match x with
  | .str _ => T = "str"
  | .int _ => T = "int"
  | .ref p => (T = "list" ∧ ∃ xs, SqL K H p xs) ∨ (T = "tuple" ∧ ∃ o, K.lookup p = some o ∧ o.cls = .type "tuple" ∧ o.dict = none) ∨
      (T = "dict" ∧ ((∃ kvs, H p = some (.dK kvs)) ∨ ∃ kvs, H p = some (.dT kvs))) ∨ (T = "set" ∧ ∃ S n, H p = some (.set S n))
  | _ => False
theorem tyV_is {pins : List (Addr × Obj)} {σ : St} {H : Hp} {s : Shared} {T : String} {x : V} {v : Value} (I : Inv X pins σ H s) (r : RelV x v) (ty : tyV X.K T x H) :
    s.TypeIs v T ∧ ∀ a, v = .ref a → ∃ ob, s.heap.get? a = some ob ∧ ob.dict = none := by
  cases x with
  | str z =>
    obtain ⟨t, rfl⟩ := r
    cases (show T = "str" from ty)
    exact ⟨typeIs_str s z t, fun _ e => nomatch e⟩
  | int i =>
    obtain ⟨t, rfl⟩ := r
    cases (show T = "int" from ty)
    exact ⟨typeIs_int s i t, fun _ e => nomatch e⟩
  | ref p =>
    cases r
    rcases ty with ⟨rfl, xs, hq⟩ | ⟨rfl, o, hk, hc, hd⟩ | ⟨rfl, hk⟩ | ⟨rfl, S, n, hk⟩
    · obtain ⟨its, _, pl, _⟩ := I.list hq
      refine ⟨pl.isList.typeIs, fun a e => ?_⟩
      cases e
      obtain ⟨o, n, e, c, hd, _⟩ := pl
      exact ⟨o, e, hd⟩
    · refine ⟨⟨o, I.kIn p o hk, hc⟩, fun a e => ?_⟩
      cases e
      exact ⟨o, I.kIn _ o hk, hd⟩
    · have z : ∃ o, s.heap.get? p = some o ∧ o.ExactDict := by
        rcases hk with ⟨kvs, hk⟩ | ⟨kvs, hk⟩
        · obtain ⟨_, _, _, _, o, _, _, e, ex, _⟩ := I.hok p _ hk
          exact ⟨o, e, ex⟩
        · obtain ⟨_, _, _, _, o, _, _, e, ex, _⟩ := I.hok p _ hk
          exact ⟨o, e, ex⟩
      obtain ⟨o, e, ex⟩ := z
      refine ⟨⟨o, e, ex.1⟩, fun a e2 => ?_⟩
      cases e2
      exact ⟨o, e, ex.2.1⟩
    · obtain ⟨o, _, _, _, e, ex, _⟩ := I.hok p _ hk
      refine ⟨⟨o, e, ex.1⟩, fun a e2 => ?_⟩
      cases e2
      exact ⟨o, e, ex.2.1⟩
  | _ => exact False.elim ty
def tBM0 (K : PySem.W.Frag) (T : String) (r : V → List V → Hp → VK → Prop) (to : TE) : TE := fun σ H Q => to σ H fun x H1 => tyV K T x H1 ∧ r x [] H1 Q
def tBM (K : PySem.W.Frag) (T : String) (r : V → List V → Hp → VK → Prop) (to : TE) (t : TA) : TE := fun σ H Q => to σ H fun x H1 => tyV K T x H1 ∧ t σ H1 fun xs H2 => r x xs H2 Q
variable {o e : Expr} {es : List Expr} {to : TE} {t : TA} {name : Str} {apos cpos : Pos} {T id : String} {r : V → List V → Hp → VK → Prop}
theorem pe_bm (pa : PlainAttrs T) (slot : Slot T name id) (hty : typeOf (.builtin id) = pure (.type "method_descriptor")) (hm : MtR X id r) (ho : PE X o to) (ha : PA X (e :: es) t)
    (hbase : attributeBase o name X.env (eval o X.env) = eval o X.env := by rfl)
    (hfew : ((backTo cpos (starEach (e :: es) X.env)).all (fun x => !x.1) && (backToKw cpos (keywordEach [] X.env)).all (fun x => x.1.isSome)
      && decide ((e :: es).length + ([] : List Keyword).length + (if ([] : List Keyword).isEmpty then 0 else 1) < 30)) = true := by rfl)
    (hline : (apos.endLine == cpos.line) = true := by rfl) (hs : starEach (e :: es) X.env = (false, eval e X.env) :: starEach es X.env := by rfl) (hplain : (backTo cpos (starEach es X.env)).any (·.1) = false := by rfl) :
    PE X (.Call (.Attribute o name apos) (e :: es) [] cpos) (tBM X.K T r to t) := by
  intro pins s σ H Q I h
  refine wpAny_Call_method_late hbase hfew hline rfl (thn (ho pins s σ H _ I h) fun v s1 ⟨x, H1, I1, r1, ty, q1⟩ => ?_)
  obtain ⟨h1, h2⟩ := tyV_is I1 r1 ty
  refine ⟨T, id, pa, slot, hty, h1, h2, ?_⟩
  have hA := ha cpos pins s1 σ H1 _ I1 q1
  rw [hs] at hA ⊢
  refine Calls.callWith_builtin (by show (false || (backTo cpos (starEach es X.env)).any (·.1)) = false; rw [hplain] <;> rfl) (Calls.evalArgs_plain ?_)
  exact thn hA fun us s2 ⟨vs, H2, I2, r2, q2⟩ => hm pins s2 σ H2 x vs v us Q I2 r1 r2 q2
/- xs.append(e), list.index on a module's tuple .. are MtR facts of 06m -/
end
end L2

namespace L2
open PySem PySem.Spec PyProof.Rows

def MtM (X : Cx) (id : String) (r : V → List V → Hp → VK → Prop) : Prop :=
  ∀ (pins : List (Addr × Obj)) (s : Shared) (σ : St) (H : Hp) (x : V) (xs : List V) (v : Value) (us : List Value) (Q : VK), Inv X pins σ H s → RelV x v → Vals xs us → r x xs H Q →
    wpAny (model X.prog X.w) X.A (call (.builtin id) (v :: us)) (EP X pins σ Q) X.xe s

/-! ### lists of values -/
theorem Vals.one : ∀ {x : V} {us : List Value}, Vals [x] us → ∃ u, us = [u] ∧ RelV x u
  | _, _, .cons r .nil => ⟨_, rfl, r⟩
section
variable {X : Cx} {pins : List (Addr × Obj)} {σ : St} {H : Hp} {s : Shared} {l b : Addr} {xs ys zs : List V}

/-! ### the two steps: a tracked list is rewritten, a new list is laid -/
theorem Inv.lset {its its' : List Value} {n : Nat} {f : Array Value → Array Value} {t' : Nat} (I : Inv X pins σ H s) (hH : H l = some (.lst xs))
    (e : s.heap.get? l = some { cls := .type "list", data := .seq its.toArray n }) (hf : f its.toArray = its'.toArray) (hv : Vals ys its') (hz : ys.length ≤ sizeLine) :
    Inv X pins σ (upd H l (.lst ys)) { s with heap := s.heap.update l (Obj.mapSeq f), toks := t' } := by
  have q := PySem.IsL.update e f
  rw [hf] at q
  refine I.write (x := l) (e := l) (by rw [hH]; exact trivial) (.inl rfl) (fun b' u hb hu => (Heap.get?_update_other s.heap (Obj.mapSeq f) (Ne.symm hb)).trans hu) ⟨_, q⟩ ?_
  exact ⟨hz, its', _, hv, q⟩
theorem Inv.lnew {its : List Value} {t' : Nat} (I : Inv X pins σ H s) (hv : Vals ys its) (hz : ys.length ≤ sizeLine) :
    Inv X pins σ (upd H s.heap.objs.size (.lst ys)) { s with heap := s.heap.push { cls := .type "list", data := .seq its.toArray }, toks := t' } :=
  I.laid (fun _ _ q => Heap.get?_push_of_some _ q) (Nat.le_refl _) ⟨hz, its, 0, hv, Heap.get?_push_size _ rfl⟩
theorem Inv.fresh (I : Inv X pins σ H s) : H s.heap.objs.size = none := I.hok.fresh (Nat.le_refl _)
theorem Inv.lstM (I : Inv X pins σ H s) (hH : H l = some (.lst xs)) : xs.length ≤ sizeLine ∧ ∃ (its : List Value) (n : Nat), Vals xs its ∧ xs.length = its.length ∧ s.heap.get? l = some { cls := .type "list", data := .seq its.toArray n } := by
  obtain ⟨z, its, n, r, e⟩ := I.hok l _ hH
  exact ⟨z, its, n, r, r.length, e⟩

end

section
variable {X : Cx}

/-! ### methods -/
def rAppend : V → List V → Hp → VK → Prop := fun x vs H Q => ∃ l xs y, x = .ref l ∧ vs = [y] ∧ H l = some (.lst xs) ∧ xs.length < sizeLine ∧ Q .non (upd H l (.lst (xs ++ [y])))
theorem mt_append : MtM X "list.append" rAppend := by
  intro pins s σ H x vs v us Q I rx rv h
  obtain ⟨l, xs, y, rfl, rfl, hH, hz, q⟩ := h
  cases rx
  obtain ⟨u, rfl, ru⟩ := rv.one
  obtain ⟨z, its, n, r, hl, e⟩ := I.lstM hH
  refine call_meets F.slot_list_append ⟨_, e, rfl⟩ F.entry_list_append (F.args_list_append_2 _ _) (PySem.list_append l its.toArray n u (by rw [List.size_toArray]; omega)) ⟨e, ?_⟩
  refine ⟨.non, _, I.lset (its' := its ++ [u]) hH e (by simp) (r.append (.cons ru .nil)) ?_, rfl, q⟩
  rw [List.length_append, List.length_singleton]
  omega

def rExtend : V → List V → Hp → VK → Prop := fun x vs H Q => ∃ l b xs zs, x = .ref l ∧ vs = [.ref b] ∧ H l = some (.lst xs) ∧ H b = some (.lst zs) ∧ xs.length + zs.length ≤ sizeLine ∧ Q .non (upd H l (.lst (xs ++ zs)))
def rPop : V → List V → Hp → VK → Prop := fun x vs H Q => ∃ l xs y, x = .ref l ∧ vs = [] ∧ H l = some (.lst xs) ∧ xs[xs.length - 1]? = some y ∧ Q y (upd H l (.lst xs.dropLast))
def rPopAt : V → List V → Hp → VK → Prop := fun x vs H Q => ∃ l xs i k y, x = .ref l ∧ vs = [.int i] ∧ H l = some (.lst xs) ∧ -(2 ^ 63) ≤ i ∧ i < 2 ^ 63 ∧ seqIndex? i xs.length = some k ∧ xs[k]? = some y ∧ Q y (upd H l (.lst (xs.eraseIdx k)))
def rReverse : V → List V → Hp → VK → Prop := fun x vs H Q => ∃ l xs, x = .ref l ∧ vs = [] ∧ H l = some (.lst xs) ∧ Q .non (upd H l (.lst xs.reverse))
def rClear : V → List V → Hp → VK → Prop := fun x vs H Q => ∃ l xs, x = .ref l ∧ vs = [] ∧ H l = some (.lst xs) ∧ Q .non (upd H l (.lst []))
/-! ### list + list, list += list, list * int -/
def rCat : R2 := fun x y H Q => ∃ l b xs zs, x = .ref l ∧ y = .ref b ∧ H l = some (.lst xs) ∧ H b = some (.lst zs) ∧ xs.length + zs.length ≤ sizeLine ∧ ∀ p, H p = none → Q (.ref p) (upd H p (.lst (xs ++ zs)))
/-- a list times an int (a negative one is nothing) -/
def rRep : R2 := fun x y H Q => ∃ l k xs, x = .ref l ∧ y = .int k ∧ H l = some (.lst xs) ∧ -(2 ^ 63) ≤ k ∧ k < 2 ^ 63 ∧ xs.length * k.toNat ≤ sizeLine ∧
  ∀ p, H p = none → Q (.ref p) (upd H p (.lst (List.replicate k.toNat xs).flatten))
/-! ### del xs[i] -/
end

/-! ### xs[a:b] = ys -/
section
variable {prog : Program} {w : World} {A : Around} {E : Value → Shared → Prop} {s : Shared}
set_option maxRecDepth 100000 in
end

section
variable {X : Cx}
end
end L2

namespace Att
open PySem PySem.W PySem.Calls PyProof.Rows

/-! ### the script -/
theorem ints_of_wellAll {P : Params} {h : Heap} : ∀ (ns : List Int) (vs : List Value), WellAll P h vs (ns.map WData.int) → IntsAre vs ns := by
  intro ns
  induction ns with
  | nil =>
    intro vs w
    rw [List.map_nil] at w
    cases w
    exact .nil
  | cons n ns ih =>
    intro vs w
    rw [List.map_cons] at w
    cases w with
    | cons a b =>
      cases a
      exact .cons _ _ (ih _ b)

theorem script_of {l : OpenLaw} {n : Nat} (hn : l.most = some n) {P : Params} {h : Heap} {args : List WData} {vals : List Value}
    (hpre : l.row.toRowW.claim.pre args = true) (hwl : WellAll P h vals args) :
    ∃ a vs ns, vals = [Value.ref a] ∧ args = [WData.list (ns.map WData.int)] ∧ h.get? a = some { cls := .type "list", data := .seq vs.toArray } ∧ IntsAre vs ns ∧ ns.length ≤ n := by
  have hsh : WShape.hasAll [] args [.list .int] = true := (pre_splitW hpre).1
  have hc : l.pre.holds [] { args := args } = true := (pre_splitW hpre).2
  obtain ⟨d, r, rfl, h1, h2⟩ := hasAllW_cons hsh
  obtain rfl := hasAllW_nil h2
  obtain ⟨xs, rfl, h3⟩ := hasW_list h1
  obtain ⟨ns, rfl⟩ := items_int h3
  have hlen : ns.length ≤ n := by
    unfold OpenLaw.pre at hc
    have h4 : (WTm.not (.lt (.lit (.int (n : Int))) (.len (.arg 0)))).holds [] { args := [.list (ns.map .int)] } = true := by
      have h4 := (holds_andW hc).1
      rw [hn] at h4
      exact h4
    have h5 := condW_of h4 (w_not (w_lt w_lit (w_len_list (w_arg rfl))))
    rw [List.length_map] at h5
    refine Nat.le_of_not_lt fun q => ?_
    have q' : (n : Int) < ((ns.length : Nat) : Int) := by omega
    first
      | (rw [decide_eq_true q'] at h5; exact absurd h5 (by decide))
      | (simp at h5; omega)
  cases hwl with
  | cons w1 w2 =>
    cases w2
    cases w1 with
    | list ho hall => exact ⟨_, _, ns, rfl, rfl, ho, ints_of_wellAll ns _ hall, hlen⟩

theorem post_true (l : OpenLaw) (args : List WData) : l.row.toRowW.claim.post args (.bool true) args = true :=
  postW_of (r := l.row.toRowW) (X := (true == true))
    (show WShape.has [] (.bool true) .bool = true by first | rfl | decide | simp [WShape.has, WShape.arms, WShape.armsAll])
    (show (WTm.eq .res (.lit (.bool true))).value [] { args := args, res := some (.bool true), after := args } = some (.bool (true == true)) from w_eq_bool (w_res rfl) w_lit) rfl

/-! ### the attachment: holds_open's last premise (the goal 'hc' behind k_head) from a wpAny of the law's body -/
/-- the same from a codeAny of the CALL (for a layer whose function contracts speak of calls) -/
theorem attach_call {l : OpenLaw} {n : Nat} {q : Program} {loose : List Str} {XP : (Str → Option Value) → Heap → Prop} {YP : World → Heap → Prop} {d : DefRec}
    (hn : l.most = some n) (hdf : d.params.defaults = [])
    (call : ∀ (w : World) (s₀ s₁ : Shared) (mg mb : Str → Option Value) (fa : Addr) (o : Obj) (pm cd doc : Value) (a : Addr) (vs : List Value) (ns : List Int),
      Ground q loose [] XP w s₀ mg mb s₁.heap → YP w s₁.heap →
      s₁.heap.get? fa = some o → o.data = .func (docDef d.name d.params d.body d.scope pm cd doc) → s₁.heap.CodeRec cd d.name → mg d.name = some (.ref fa) →
      s₁.heap.get? a = some { cls := .type "list", data := .seq vs.toArray } → IntsAre vs ns → ns.length ≤ n → s₁.gens = #[] →
      codeAny (model l.prog w) callerA (.call (.ref fa) ⟨[.ref a], []⟩) (fun r s' => r = .ok (.ret (.bool true)) ∧ OldK s₁.heap s'.heap ∧ s'.os = s₁.os ∧ AllBare s'.gens) s₁) :
    WalkO q loose XP YP l.row.toRowW d [] (fun f vs => PySem.call f vs) := by
  intro w s₀ s₁ mg mb G Y fa o pm cd doc dV kV ho hd hcd hD hmg hg args vals as hpre hlay hrd hwl hlo
  obtain rfl : dV = .none := Dflts.none hD hdf
  obtain rfl : kV = .none := Dflts.noKw hD
  obtain ⟨a, vs, ns, rfl, rfl, hobj, hints, hlen⟩ := script_of hn hpre hwl
  refine enter_call (codeAny_mono (call w s₀ s₁ mg mb fa o pm cd doc a vs ns G Y ho (fd_plain hd) hcd hmg hobj hints hlen hg) fun r s' hq => ?_)
  obtain ⟨rfl, h2, h3, h4⟩ := hq
  exact ⟨.inl ⟨.bool true, .bool true, [], rfl, fun _ => rfl, .bool true, post_true l _, fun _ => ⟨List.Pairwise.nil, fun _ hm => (nomatch hm)⟩⟩, h2, h3, h4⟩

/-! ### rules over ANY heap (no ledger) from facts about the written part K: the library's own take a ledger (News) for what they write -/
section
variable {prog : Program} {w : World} {A : Around} {E : Value → Shared → Prop} {s : Shared} {K : Frag}

/-! the whole heap as the ledger: makes every rule that writes through a ledger a rule over any heap -/
def noObjs (h : Heap) : Heap := { h with objs := #[] }
def ledger (h : Heap) (L d : Addr) : List (Addr × Obj) := (List.range h.objs.size).filterMap fun a => if a = L ∨ a = d then none else (h.get? a).map fun o => (a, o)
end
end Att

namespace L2
open PySem PySem.Spec PyProof.Rows

theorem vals_ints : ∀ {vs : List Value} {ns : List Int}, IntsAre vs ns → Vals (ns.map V.int) vs
  | _, _, .nil => .nil
  | _, _, .cons n t h => .cons ⟨t, rfl⟩ (vals_ints h)

/-- nothing is tracked but the script, known to the object (or it is an object of the module) -/
def Only (H : Hp) : Prop := ∀ b, H b = none ∨ ∃ o xs, H b = some (.frz o (.lst xs))

end L2

namespace L2
open PySem PySem.Spec PyProof.Rows

abbrev KOf {K : PySem.W.Frag} {h : Heap} (_ : K.In h) : PySem.W.Frag := K

end L2

/- THE LAST THEOREM (shape; LID, My.* are yours):
   My.Adr: a structure of the addresses that your layer names (classes, functions); My.Txt K t: a structure (Prop) of the equations over K;
   My.txt_mk : {K} {implicit addresses ..} (e1 : nsIn K mainGlobals "law" = some (some (.ref f))) (e2 : K.lookup f = some ⟨oc, od, .func (fnOf "law" "law" params body scope dV kV doc pm an cdv ct), sl⟩) (e3 : codeIn K cdv "law" = true) .. : ∃ t, My.Txt K t

set_option maxRecDepth 100000 in
set_option maxHeartbeats 0 in
theorem PySem.Challenge.cw_LID_holds : PySem.Challenge.rw_LID.Holds := by
  w_on; o_law; k_head; (case hw => w_witness2)
  k_fill
  refine L2.walk_of (l := PySem.Challenge.rw_LID) (n := 63) (k := 40) (x := "script") (CX := fun w => ..) (sp := fun _ => My.sp_law) rfl (by decide) rfl ⟨rfl, by decide, by decide⟩ (fun w h Y => PySem.W.kIn_of Y) ?F ?S ?C
  case F =>
    intro w mg fa h KX G hmg
    have T : ∃ t, My.Txt (L2.KOf KX) t := by
      dsimp only [L2.KOf]                          -- K must stand as «<heap const> w.params» for k_is
      refine' My.txt_mk ?e1 ?e2 ?e3 ..
      (case e1 => PySem.W.k_is)                    -- in the order: a name -> its address -> its object -> its parts
      (case e2 => PySem.W.k_is)
      ..
    obtain ⟨t, T⟩ := T
    have e0 := hmg.symm.trans (PySem.W.mg_of KX G T.law)
    cases e0                                       -- fa is the law's own address
    exact ⟨_, fun s u => .of_eq rfl, fun base kb nb => My.law_fn T kb nb⟩     -- if «.of_eq rfl» comes too early: refine' ⟨_, ?b, fun base kb nb => My.law_fn T kb nb⟩; exact fun s u => .of_eq rfl
  case S => exact fun w H a ns hl hO hS => ..
  case C => exact ..
(the tactic k_is has no namespace: write k_is) -/

/-! SHORT WORDS over the layer: a def of the text, its body, what a loop and a test want. -/
namespace L2
open PySem PySem.Spec PyProof.Rows

/-! ### the text by places -/
/-- the j-th statement of a class's body -/
def inClass (s : Stmt) (j : Nat) : Stmt := match s with
  | .ClassDef _ _ _ body _ _ _ _ _ _ _ => body.getD j (.Pass ⟨0, 0, 0, 0⟩)
  | _ => .Pass ⟨0, 0, 0, 0⟩
def defArgs (s : Stmt) : Arguments := match s with
  | .FunctionDef _ a _ _ _ _ _ _ _ _ => a
  | _ => { posonlyargs := [], args := [], vararg := none, kwonlyargs := [], kw_defaults := [], kwarg := none, defaults := [] }
def defBody (s : Stmt) : List Stmt := match s with
  | .FunctionDef _ _ b _ _ _ _ _ _ _ => b
  | _ => []
def defScope (s : Stmt) : Scope := match s with
  | .FunctionDef _ _ _ _ _ _ sc _ _ _ => sc
  | _ => { kind := .function, names := [], isGenerator := false, isCoroutine := false }

/-! ### no exception leaves a def -/
abbrev CX0 : CXT := fun _ _ _ _ _ _ => False
abbrev E0 : XK := fun _ _ _ => False
theorem pass0 {X : Cx} : Passes CX0 X E0 := fun _ _ _ _ _ _ _ h => h.elim

/-! ### a def (or method) of the text as it stands behind the top -/
structure Fun (K : PySem.W.Frag) (x qual : Str) (st : Stmt) (f : Addr) (fd : FuncData) : Prop where
  ex : ∃ (oc : Value) (od : Option Addr) (kV doc pm : Value) (an : Option Addr) (cdv ct : Value) (osl : Array (Option Value)),
    fd = PySem.W.fnOf x qual (defArgs st) (defBody st) (defScope st) .none kV doc pm an cdv ct ∧ K.lookup f = some ⟨oc, od, .func fd, osl⟩ ∧ PySem.W.codeIn K cdv qual = true
  kp : PySem.W.keepIn K (.ref f) = true
section
variable {P : Program} {w : World} {K : PySem.W.Frag} {mg : Str → Option Value} {base : Heap}
/-- THE RULE for a def: its body as a term of rules, and the reading of that term -/
theorem Fun.ok {x qual : Str} {st : Stmt} {f : Addr} {fd : FuncData} {N ps : List Str} {k : Nat} {sp : Sp} (F : Fun K x qual st f fd) (S : FnScope N ps (defScope st)) (len : ∀ vs H Q E, sp vs H Q E → vs.length = ps.length)
    (hbody : ∀ (cdv : Value) (A : Around) (outer : List Env) (s : Shared) (H : Hp) (vs : List V) (Q : VK) (E : XK), Room k (A.deeper (envOfC qual (defScope st) s.heap.objs.size f cdv)) → sp vs H Q E →
      ∃ t, PSs (cxOf CX0 P w K mg base N qual (defScope st) f cdv A outer s H E).nox (defBody st) t ∧ t { nx := fun _ H' => Q .non H', rt := Q } (start N vs) H) : FnOk P w K mg base CX0 (k + 1) f fd ps sp := by
  obtain ⟨oc, od, kV, doc, pm, an, cdv, ct, osl, rfl, lk, hcd⟩ := F.ex
  refine fn_of lk hcd S len fun A outer s H vs Q E hr hsp => ?_
  obtain ⟨t, h, q⟩ := hbody cdv A outer s H vs Q E hr hsp
  exact ⟨t, h.nox, q⟩
/-- how its arguments bind (no defaults): h is «fun _ _ _ _ _ _ us hl => match us, hl with | [_, _], _ => rfl», one _ a parameter -/
theorem Fun.binds {x qual : Str} {st : Stmt} {f : Addr} {fd : FuncData} {ps : List Str} (F : Fun K x qual st f fd)
    (h : ∀ (kV doc pm : Value) (an : Option Addr) (cdv ct : Value) (us : List Value), us.length = ps.length → bindArgs (PySem.W.fnOf x qual (defArgs st) (defBody st) (defScope st) .none kV doc pm an cdv ct) ⟨us, []⟩ = pure (ps.zip us)) : Binds K fd ps [] := by
  obtain ⟨oc, od, kV, doc, pm, an, cdv, ct, osl, rfl, lk, hcd⟩ := F.ex
  exact .all (h kV doc pm an cdv ct)
theorem fun_mk {x qual : Str} {st : Stmt} {f : Addr} {oc : Value} {od an : Option Addr} {osl : Array (Option Value)} {kV doc pm cdv ct : Value} (l : K.lookup f = some ⟨oc, od, .func (PySem.W.fnOf x qual (defArgs st) (defBody st) (defScope st) .none kV doc pm an cdv ct), osl⟩)
    (c : PySem.W.codeIn K cdv qual = true) (k : PySem.W.keepIn K (.ref f) = true) : Fun K x qual st f (PySem.W.fnOf x qual (defArgs st) (defBody st) (defScope st) .none kV doc pm an cdv ct) := ⟨⟨oc, od, kV, doc, pm, an, cdv, ct, osl, rfl, l, c⟩, k⟩
end
/-! ### expressions in short: the name that stands in the i-th slot -/
section
variable {X : Cx}
end

/-! ### tests -/
theorem iteF {A B : Prop} (h : B) : if false = true then A else B := by
  rw [if_neg Bool.false_ne_true]
  exact h
theorem iteT {A B : Prop} (h : A) : if true = true then A else B := by
  rw [if_pos rfl]
  exact h
/-! ### heaps -/
/-- all that was tracked is as it was -/
def Same (H H' : Hp) : Prop := ∀ b o, H b = some o → H' b = some o
theorem Same.refl (H : Hp) : Same H H := fun _ _ h => h
theorem Same.trans {H H1 H2 : Hp} (a : Same H H1) (b : Same H1 H2) : Same H H2 := fun c o h => b c o (a c o h)
theorem Same.free {H H' : Hp} (e : Same H H') {l : Addr} (h : H' l = Option.none) : H l = Option.none := by
  cases q : H l with
  | none => rfl
  | some o =>
    rw [e l o q] at h
    cases h
/-! ### a dict's pairs: keys that differ -/
section
variable {κ : Type} [DecidableEq κ]
end
end L2

end
section
set_option maxRecDepth 100000
set_option maxHeartbeats 4000000
/-! ## COMPREHENSIONS (own) -/
namespace L2
open PySem PySem.Spec PyProof.Rows

/-- the cells that a block closes over -/
def clOf (cells : List (Str × Addr)) : List (Str × NameKind) → List (Str × Addr) → List (Str × Addr)
  | [], acc => acc
  | (n, k) :: r, acc => clOf cells r (if k == NameKind.free then (n, (cells.lookup n).getD 0) :: acc else acc)

theorem closure_clOf {env : Env} : ∀ (names : List (Str × NameKind)) (acc : List (Str × Addr)), (∀ y ∈ names, y.2 = .free → ∃ c, env.cells.lookup y.1 = some c) →
    (forIn names acc fun (x : Str × NameKind) (cs : List (Str × Addr)) => (match x with
      | (name, kind) => if kind == .free then do let a ← cellOf env name; pure (ForInStep.yield ((name, a) :: cs)) else pure (ForInStep.yield cs) : Sem (ForInStep (List (Str × Addr))))) = pure (clOf env.cells names acc)
  | [], acc, _ => by simp [clOf]
  | (n, k) :: r, acc, h => by
    rw [List.forIn_cons]
    by_cases hk : k = NameKind.free
    · subst hk
      obtain ⟨c, hc⟩ := h (n, .free) List.mem_cons_self rfl
      have e : cellOf env n = pure c := by unfold cellOf; rw [hc]
      simp only [beq_self_eq_true, if_true, e, pure_bind, clOf, hc, Option.getD_some]
      exact closure_clOf r _ fun y hy => h y (List.mem_cons_of_mem _ hy)
    · have hb : (k == NameKind.free) = false := by simpa using hk
      simp only [hb, Bool.false_eq_true, if_false, pure_bind, clOf]
      exact closure_clOf r _ fun y hy => h y (List.mem_cons_of_mem _ hy)

theorem closureFor_clOf {env : Env} {scope : Scope} (h : ∀ y ∈ scope.names, y.2 = .free → ∃ c, env.cells.lookup y.1 = some c) : closureFor scope env = pure (clOf env.cells scope.names []) := by
  unfold closureFor
  have := closure_clOf (env := env) scope.names [] h
  simp only [bind_pure]
  exact this

theorem clOf_lookup {cells : List (Str × Addr)} : ∀ (names : List (Str × NameKind)) (acc : List (Str × Addr)) {x : Str} {c : Addr}, (clOf cells names acc).lookup x = some c →
    acc.lookup x = some c ∨ ((x, NameKind.free) ∈ names ∧ c = (cells.lookup x).getD 0)
  | [], acc, x, c, h => .inl h
  | (n, k) :: r, acc, x, c, h => by
    rcases clOf_lookup r _ h with q | ⟨q1, q2⟩
    · by_cases hk : k = NameKind.free
      · subst hk
        simp only [beq_self_eq_true, if_true] at q
        cases hx : x == n with
        | true =>
          have e : x = n := by simpa using hx
          subst e
          rw [List.lookup_cons, hx] at q
          exact .inr ⟨List.mem_cons_self, (Option.some.inj q).symm⟩
        | false =>
          rw [List.lookup_cons, hx] at q
          exact .inl q
      · have hb : (k == NameKind.free) = false := by simpa using hk
        simp only [hb, Bool.false_eq_true, if_false] at q
        exact .inl q
    · exact .inr ⟨List.mem_cons_of_mem _ q1, q2⟩

theorem clOf_has {cells : List (Str × Addr)} : ∀ (names : List (Str × NameKind)) (acc : List (Str × Addr)) {x : Str}, ((x, NameKind.free) ∈ names ∨ ∃ c, acc.lookup x = some c) → ∃ c, (clOf cells names acc).lookup x = some c
  | [], acc, x, h => by
    rcases h with h | h
    · simp at h
    · exact h
  | (n, k) :: r, acc, x, h => by
    refine clOf_has r _ ?_
    rcases h with h | ⟨c, h⟩
    · rcases List.mem_cons.mp h with e | e
      · cases e
        exact .inr ⟨(cells.lookup n).getD 0, by simp [List.lookup_cons]⟩
      · exact .inl e
    · by_cases hk : k = NameKind.free
      · subst hk
        simp only [beq_self_eq_true, if_true]
        cases hx : x == n with
        | true => exact .inr ⟨(cells.lookup n).getD 0, by rw [List.lookup_cons, hx]⟩
        | false => exact .inr ⟨c, by rw [List.lookup_cons, hx]; exact h⟩
      · have hb : (k == NameKind.free) = false := by simpa using hk
        simp only [hb, Bool.false_eq_true, if_false]
        exact .inr ⟨c, h⟩

/-- the context of a comprehension's block: s, H at its entry (the new list laid) -/
def cxComp (X : Cx) (scope : Scope) (N' : List Str) (fp : List Addr) (s : Shared) (H : Hp) : Cx where
  prog := X.prog
  w := X.w
  K := X.K
  mg := X.mg
  base := X.base
  A := X.A
  N := N'
  s₀ := s
  H₀ := H
  env := compEnvC scope (clOf X.env.cells scope.names []) s.heap.objs.size X.env
  outer := X.stack
  stack := X.stack
  ex := fp
  fn := fun _ => false
  calm := X.calm
  pn := []
  xe := fun _ _ => False

/-- what the scope of a block must be: own names first, then those of the body's that it reads -/
structure CScope (X : Cx) (scope : Scope) (own : List Str) (kp : List Nat) (kn : List Str) : Prop where
  kind : scope.kind = .function
  nocell : ∀ y ∈ scope.names, y.2 ≠ .cell
  nd : ∀ y ∈ scope.names, y.2 = .local → scope.names.lookup y.1 = some .local
  free : ∀ y ∈ scope.names, y.2 = .free → X.env.kindOf y.1 = some .cell ∨ X.env.kindOf y.1 = some .free
  names : kn.length = kp.length
  at_ : ∀ (j i : Nat) (x : Str), kp[j]? = some i → kn[j]? = some x → X.N[i]? = some x
  isfree : ∀ x ∈ kn, scope.names.lookup x = some .free

/-- the slots at a turn's start -/
def cStart (own : List Str) (kp : List Nat) (σ : St) : St := List.replicate own.length none ++ kp.map fun i => (σ[i]?).getD none

section
variable {X : Cx} {scope : Scope} {own : List Str} {kp : List Nat} {kn : List Str}

theorem lookup_relabel {env : Env} : ∀ {names : List (Str × NameKind)} {x : Str} {k : NameKind},
    (names.map fun (n, k) => if (k == NameKind.free && env.scope.kind == .function && env.kindOf n == some .cell) then (n, NameKind.cell) else (n, k)).lookup x = some k →
    names.lookup x = some k ∨ (k = .cell ∧ names.lookup x = some .free)
  | [], _, _, h => by simp at h
  | (n, k) :: r, x, k', h => by
    have ih := @lookup_relabel env r x k'
    have h : List.lookup x ((if (k == NameKind.free && env.scope.kind == .function && env.kindOf n == some .cell) = true then (n, NameKind.cell) else (n, k)) :: _) = some k' := h
    by_cases hc : (k == NameKind.free && env.scope.kind == .function && env.kindOf n == some .cell) = true
    · rw [if_pos hc] at h
      have hkf : k = .free := by
        simp only [Bool.and_eq_true, beq_iff_eq] at hc
        exact hc.1.1
      cases hx : x == n with
      | true =>
        rw [List.lookup_cons, hx] at h
        cases h
        exact .inr ⟨rfl, by rw [List.lookup_cons, hx, hkf]⟩
      | false =>
        rw [List.lookup_cons, hx] at h
        rw [List.lookup_cons, hx]
        exact ih h
    · rw [if_neg hc] at h
      cases hx : x == n with
      | true =>
        rw [List.lookup_cons, hx] at h
        rw [List.lookup_cons, hx]
        exact .inl h
      | false =>
        rw [List.lookup_cons, hx] at h
        rw [List.lookup_cons, hx]
        exact ih h

theorem cells_have {pins : List (Addr × Obj)} {σ : St} {H : Hp} {s : Shared} (C : CScope X scope own kp kn) (I : Inv X pins σ H s) : ∀ y ∈ scope.names, y.2 = .free → ∃ c, X.env.cells.lookup y.1 = some c := fun y hy hf =>
  I.ok.has y.1 (C.free y hy hf)

/-- the block's start -/
theorem inv_comp {pins : List (Addr × Obj)} {σ : St} {H : Hp} {s : Shared} {fp : List Addr} {h₁ : Heap} {tk : Nat} (C : CScope X scope own kp kn) (I : Inv X pins σ H s) (hf : ∀ b ∈ fp, FpOk X pins H b) (hb : ∀ b ∈ fp, b < s.heap.objs.size)
    (hn : h₁.Ns s.heap.objs.size (fun _ => none)) (hk : ∀ b o, s.heap.get? b = some o → h₁.get? b = some o) : Inv (cxComp X scope (own ++ kn) fp s H) [] (cStart own kp σ) H { s with heap := h₁, toks := tk } := by
  have cl : ∀ x c, (clOf X.env.cells scope.names []).lookup x = some c → X.env.cells.lookup x = some c := fun x c e => by
    rcases clOf_lookup scope.names [] e with q | ⟨q1, q2⟩
    · simp at q
    · obtain ⟨c', hc'⟩ := cells_have C I (x, .free) q1 rfl
      have hc' : X.env.cells.lookup x = some c' := hc'
      rw [hc'] at q2
      rw [hc', q2]
      rfl
  have clh : ∀ x, scope.names.lookup x = some .free → ∃ c, (clOf X.env.cells scope.names []).lookup x = some c := fun x hx => clOf_has scope.names [] (.inl (PySem.mem_of_lookup hx))
  refine ⟨⟨I.ok.mod, C.kind, I.ok.glob, I.ok.blt, Nat.le_refl _, fun x y c h1 h2 => I.ok.inj x y c (cl x c h1) (cl y c h2), fun x hx => ?_, fun x c h => (by cases h), I.ok.hd, I.ok.frames, .inl rfl, fun b hb' => ⟨Nat.ne_of_lt (hb b hb'), fun x c e z => (hf b hb').2.2.2.2.1 x c (cl x c e) z⟩,
      fun b o e => I.bs b o e, Nat.le_trans I.ok.bsz I.sz, fun b o e hb' => ?_, fun b hb' hs => ?_, I.stack, I.stkFree⟩,
    rfl, I.bare, Un.kept hk, ⟨_, hn, fun i x v h1 h2 h3 => ?_⟩, fun x c e => ?_, I.hok.fresh (Nat.le_refl _), fun x c e => I.freeC x c (cl x c e), fun p hp => (by cases hp), I.hok.kept hk, ?_⟩
  · have hx : (relabel scope X.env).names.lookup x = some .cell ∨ (relabel scope X.env).names.lookup x = some .free := hx
    rcases hx with hx | hx
    · rcases lookup_relabel hx with q | ⟨_, q⟩
      · exact absurd rfl (C.nocell _ (PySem.mem_of_lookup q))
      · exact clh x q
    · rcases lookup_relabel hx with q | ⟨q, _⟩
      · exact clh x q
      · cases q
  · rcases (hf b hb').2.2.2.1 with z | z
    · exact I.ok.noex b o e z
    · exact absurd (Nat.lt_of_lt_of_le (Heap.lt_size (I.ok.bs b o e).1) z) (Nat.lt_irrefl _)
  · rcases List.mem_cons.mp (I.stkSub b hs) with z | z
    · exact (hf b hb').2.1 z
    · exact (hf b hb').2.2.1 z
  · -- a kept name
    have h1 : (own ++ kn)[i]? = some x := h1
    have h2 : (cStart own kp σ)[i]? = some (some v) := h2
    unfold cStart at h2
    by_cases hi : i < own.length
    · rw [List.getElem?_append_left (by simpa using hi), List.getElem?_replicate] at h2
      split at h2 <;> cases h2
    · rw [List.getElem?_append_right (by simpa using hi), List.length_replicate, List.getElem?_map] at h2
      rw [List.getElem?_append_right (by simpa using hi)] at h1
      cases e : kp[i - own.length]? with
      | none => rw [e] at h2; cases h2
      | some j =>
        rw [e] at h2
        have h2 : (σ[j]?).getD none = some v := Option.some.inj h2
        have hj : X.N[j]? = some x := C.at_ _ j x e h1
        have hσ : σ[j]? = some (some v) := by
          cases q : σ[j]? with
          | none => rw [q] at h2; cases h2
          | some y => rw [q] at h2; exact congrArg some h2
        have hfree : scope.names.lookup x = some .free := C.isfree x (List.mem_of_getElem? h1)
        have hkind := C.free (x, .free) (PySem.mem_of_lookup hfree) rfl
        obtain ⟨m, hm, hl⟩ := I.loc
        obtain ⟨u, r, l⟩ := hl j x v hj hσ (hkind.elim (fun q => Or.inr (Or.inl q)) fun q => Or.inr (Or.inr q))
        refine ⟨u, r, .inr ⟨?_, ?_⟩⟩
        · have h3 : (relabel scope X.env).names.lookup x = some .local ∨ (relabel scope X.env).names.lookup x = some .cell ∨ (relabel scope X.env).names.lookup x = some .free := h3
          rcases h3 with q | q | q
          · rcases lookup_relabel q with z | ⟨z, _⟩
            · rw [hfree] at z; cases z
            · cases z
          · exact .inl q
          · exact .inr q
        · rcases l with ⟨k, _⟩ | ⟨_, c, hc, hcell⟩
          · rcases hkind with q | q
            · rw [show X.env.kindOf x = some .cell from q] at k; cases k
            · rw [show X.env.kindOf x = some .free from q] at k; cases k
          · obtain ⟨c', hc'⟩ := clh x hfree
            have := cl x c' hc'
            rw [hc] at this
            cases this
            obtain ⟨o, ho, hd⟩ := hcell
            exact ⟨c, hc', o, hk c o ho, hd⟩
  · obtain ⟨v, o, ho, hd⟩ := I.cell x c (cl x c e)
    exact ⟨v, o, hk c o ho, hd⟩
  · show (cStart own kp σ).length = (own ++ kn).length
    unfold cStart
    rw [List.length_append, List.length_replicate, List.length_map, List.length_append, C.names]

/-- behind the block: back in the body -/
theorem inv_back {pins : List (Addr × Obj)} {σ σ' : St} {H H' : Hp} {s s' : Shared} {fp : List Addr} {N' : List Str} (I : Inv X pins σ H s) (hf : ∀ b ∈ fp, FpOk X pins H b) (J : Inv (cxComp X scope N' fp s H) [] σ' H' s') : Inv X pins σ H' s' :=
  I.call' (ch := fp) J.os J.base J.hok J.bare fun b hb => ⟨(hf b hb).2.2.2.1, (hf b hb).2.1, (hf b hb).2.2.2.2.1, (hf b hb).2.2.2.2.2⟩
end

/-- tests of a comprehension's clause -/
def PIfs (X : Cx) (ifs : List Expr) (t : TT) : Prop :=
  ∀ (pins : List (Addr × Obj)) (s : Shared) (σ : St) (H : Hp) (Q : Bool → Hp → Prop), Inv X pins σ H s → t σ H Q →
    wpAny (model X.prog X.w) X.A (forIn ifs true fun c r => if r = true then do let ok ← isTrue c X.env (eval c X.env); pure (ForInStep.yield ok) else pure (ForInStep.yield r)) (TP X pins σ Q) X.xe s
def tYes : TT := fun _ H Q => Q true H
theorem pifs_nil {X : Cx} : PIfs X [] tYes := fun _ _ _ H _ I h => wpAny_tests_nil ⟨H, I, h⟩
theorem pifs_one {X : Cx} {c : Expr} {t : TT} (h : PT X c t) : PIfs X [c] t := fun pins s σ H Q I hq => wpAny_tests_one (h pins s σ H Q I hq)

/-- a list comprehension's reading: D the new list; W the invariant by the turn, a measure, the items so far -/
def tComp (wi : TI) (g : TG) (tc : TT) (te : TE) (own : List Str) (kp : List Nat) : TE := fun σ H Q => wi σ H fun J H1 => ∀ D, H1 D = none →
  ∃ W : Nat → Nat → List V → Hp → Prop, (∃ m, W 0 m [] (upd H1 D (.lst []))) ∧ ∀ i m ys H, W i m ys H →
    (J.stop i H ∧ Q (.ref D) H) ∨ (J.go i H ∧ ∀ x H', J.yld i H x H' → g x (cStart own kp σ) H' fun σ2 H2 => tc σ2 H2 fun c H3 =>
      if c = true then te σ2 H3 fun y H4 => H4 D = some (.lst ys) ∧ ys.length < sizeLine ∧ ∃ m', m' < m ∧ W (i + 1) m' (ys ++ [y]) (upd H4 D (.lst (ys ++ [y])))
      else ∃ m', m' < m ∧ W (i + 1) m' ys H3)

section
variable {X : Cx} {scope : Scope} {own : List Str} {kp : List Nat} {kn : List Str} {tg iter elt : Expr} {ifs : List Expr} {wi : TI} {g : TG} {tc : TT} {te : TE} {pos : Pos}

/-- the loop of the block -/
theorem comp_run {pins : List (Addr × Obj)} {σ : St} {H : Hp} {s : Shared} {fp : List Addr} {it D : Addr} {tn : Nat → Heap → Prop} {J : It} {Q : VK} {h₁ : Heap} {tk : Nat} {R : Result → Shared → Prop}
    (hc : X.calm = true) (C : CScope X scope own kp kn) (I : Inv X pins σ H s) (hf : ∀ b ∈ fp, FpOk X pins H b) (hb : ∀ b ∈ fp, b < s.heap.objs.size) (T : Turn X.prog X.w X.K tg J fp it tn)
    (hg : PG (cxComp X scope (own ++ kn) fp s H) tg g) (hi : PIfs (cxComp X scope (own ++ kn) fp s H) ifs tc) (he : PE (cxComp X scope (own ++ kn) fp s H) elt te)
    (hn : h₁.Ns s.heap.objs.size (fun _ => none)) (hk : ∀ b o, s.heap.get? b = some o → h₁.get? b = some o) (st : tn 0 s.heap)
    (W : Nat → Nat → List V → Hp → Prop) (w0 : ∃ m, W 0 m [] H)
    (turn : ∀ i m ys H, W i m ys H →
      (J.stop i H ∧ Q (.ref D) H) ∨ (J.go i H ∧ ∀ x H', J.yld i H x H' → g x (cStart own kp σ) H' fun σ2 H2 => tc σ2 H2 fun c H3 =>
        if c = true then te σ2 H3 fun y H4 => H4 D = some (.lst ys) ∧ ys.length < sizeLine ∧ ∃ m', m' < m ∧ W (i + 1) m' (ys ++ [y]) (upd H4 D (.lst (ys ++ [y])))
        else ∃ m', m' < m ∧ W (i + 1) m' ys H3))
    (hR : ∀ H' s' σ', Inv (cxComp X scope (own ++ kn) fp s H) [] σ' H' s' → Q (.ref D) H' → R (.ok .next) s') :
    codeAny (model X.prog X.w) X.A (.compStart (.ListComp elt [⟨tg, iter, ifs, 0⟩] scope pos) 0 (.ref it) (.ref D) (cxComp X scope (own ++ kn) fp s H).env) R { s with heap := h₁, toks := tk } := by
  have I1 : Inv (cxComp X scope (own ++ kn) fp s H) [] (cStart own kp σ) H { s with heap := h₁, toks := tk } := inv_comp C I hf hb hn hk
  have st1 : tn 0 h₁ := T.keep _ _ _ st fun b _ o e => hk b o e
  have fp1 : ∀ {H' : Hp} {p : List (Addr × Obj)}, (∀ b ∈ fp, H' b = none) → (∀ b ∈ fp, ∀ q ∈ p, q.1 ≠ b) → ∀ b ∈ fp, FpOk (cxComp X scope (own ++ kn) fp s H) p H' b := fun {H' p} hn hp b hb' =>
    ⟨hn b hb', (I1.ok.exf b hb').1, I1.ok.exfs b hb', .inl hb', fun x c e => (I1.ok.exf b hb').2 x c e, fun q hq => hp b hb' q hq⟩
  obtain ⟨m0, w0⟩ := w0
  have loop : codeAny (model X.prog X.w) X.A (.compLoop (.ListComp elt [⟨tg, iter, ifs, 0⟩] scope pos) 0 (.ref it) (.ref D) (cxComp X scope (own ++ kn) fp s H).env) R { s with heap := h₁, toks := tk } := by
    refine codeAny_loop rfl (fun n s' => ∃ i ys H', Inv (cxComp X scope (own ++ kn) fp s H) [] (cStart own kp σ) H' s' ∧ tn i s'.heap ∧ (∀ b ∈ fp, H' b = none) ∧ W i n ys H') (fun n s' hI => ?_) m0 ⟨0, [], H, I1, st1, fun b hb' => (hf b hb').1, w0⟩
    obtain ⟨i, ys, H3, I3, st3, fr3, w3⟩ := hI
    show wpAny _ _ ((compTurn (.ListComp elt [⟨tg, iter, ifs, 0⟩] scope pos) 0 (.ref it) (.ref D) (cxComp X scope (own ++ kn) fp s H).env).onRaise (fun x => do noteFrame x (cxComp X scope (own ++ kn) fp s H).env; theTreesLotGoes x)) _ _ s'
    refine wpAny_noted (wpAny_noRaise ?_)
    rw [compTurn_list]
    refine wpAny_bind (wpAny_standAt (wpAny_bind ?_))
    rcases turn i n ys H3 w3 with ⟨stop, q⟩ | ⟨go, step⟩
    · refine thn (T.done (cxComp X scope (own ++ kn) fp s H) rfl rfl rfl hc i [] s' _ H3 _ I3 (fp1 fr3 (fun _ _ q hq => by cases hq)) st3 stop) fun r s4 ⟨hr, I4⟩ => ?_
      subst hr
      exact wpAny_pure (hR H3 s4 _ I4 q)
    · refine thn (T.item (cxComp X scope (own ++ kn) fp s H) rfl rfl rfl hc i [] s' _ H3 _ I3 (fp1 fr3 (fun _ _ q hq => by cases hq)) st3 go) fun r s4 ⟨u, hr, h4⟩ => ?_
      subst hr
      refine wpAny_bind (thn h4 fun _ s5 ⟨x, H5, I5, r5, y5, st5, fr5⟩ => ?_)
      have I5' := I5.pinned (fp1 fr5 (fun _ _ q hq => by cases hq)) (T.obj _ _ st5)
      have keepIt : ∀ {σ7 : St} {H7 : Hp} {s7 : Shared}, Inv (cxComp X scope (own ++ kn) fp s H) ([] ++ pinsAt fp s5.heap) σ7 H7 s7 → tn (i + 1) s7.heap ∧ ∀ b ∈ fp, H7 b = none := fun {σ7 H7 s7} I7 => by
        refine ⟨T.keep _ _ _ st5 fun b hb o e => (I7.pin (b, o) (List.mem_append_right _ (List.mem_append_right _ (mem_pinsAt hb e)))).1, fun b hb => ?_⟩
        obtain ⟨o, e, d⟩ := T.obj _ _ st5 b hb
        exact (I7.pin (b, o) (List.mem_append_right _ (List.mem_append_right _ (mem_pinsAt hb e)))).2.1
      -- back to the turn's start
      have reset : ∀ {σ7 : St} {H7 : Hp} {s7 : Shared}, Inv (cxComp X scope (own ++ kn) fp s H) ([] ++ pinsAt fp s5.heap) σ7 H7 s7 → Inv (cxComp X scope (own ++ kn) fp s H) [] (cStart own kp σ) H7 s7 := fun {σ7 H7 s7} I7 => by
        have I8 := I7.unpinned
        have hun : Un (frs X.stack) fp H H7 s.heap s7.heap := I8.base
        have I9 : Inv X pins σ H7 s7 := inv_back I hf I8
        refine ⟨I8.ok, I8.os, I8.bare, I8.base, ?_, I8.cell, I8.free, I8.freeC, I8.pin, I8.hok, I1.len⟩
        obtain ⟨m, hm, _⟩ := I8.loc
        refine ⟨m, hm, fun i x v h1 h2 h3 => ?_⟩
        obtain ⟨m1, hm1, hl1⟩ := I1.loc
        obtain ⟨u1, r1, l1⟩ := hl1 i x v h1 h2 h3
        have h1 : (own ++ kn)[i]? = some x := h1
        have h2 : (cStart own kp σ)[i]? = some (some v) := h2
        unfold cStart at h2
        by_cases hi : i < own.length
        · rw [List.getElem?_append_left (by simpa using hi), List.getElem?_replicate] at h2
          split at h2 <;> cases h2
        · rw [List.getElem?_append_right (by simpa using hi), List.length_replicate, List.getElem?_map] at h2
          rw [List.getElem?_append_right (by simpa using hi)] at h1
          cases e : kp[i - own.length]? with
          | none => rw [e] at h2; cases h2
          | some j =>
            rw [e] at h2
            have h2 : (σ[j]?).getD none = some v := Option.some.inj h2
            have hj : X.N[j]? = some x := C.at_ _ j x e h1
            have hσ : σ[j]? = some (some v) := by
              cases q : σ[j]? with
              | none => rw [q] at h2; cases h2
              | some y => rw [q] at h2; exact congrArg some h2
            have hfree : scope.names.lookup x = some .free := C.isfree x (List.mem_of_getElem? h1)
            have hkind := C.free (x, .free) (PySem.mem_of_lookup hfree) rfl
            obtain ⟨m9, hm9, hl9⟩ := I9.loc
            obtain ⟨u, r, l⟩ := hl9 j x v hj hσ (hkind.elim (fun q => Or.inr (Or.inl q)) fun q => Or.inr (Or.inr q))
            refine ⟨u, r, .inr ?_⟩
            rcases l1 with ⟨k, k2⟩ | ⟨k, c, hc, hcell⟩
            · have k : (relabel scope X.env).names.lookup x = some .local := k
              rcases lookup_relabel k with z | ⟨z, _⟩
              · rw [hfree] at z; cases z
              · cases z
            · refine ⟨k, c, hc, ?_⟩
              rcases l with ⟨k', _⟩ | ⟨_, c', hc', hcell'⟩
              · rcases hkind with q | q
                · rw [show X.env.kindOf x = some .cell from q] at k'; cases k'
                · rw [show X.env.kindOf x = some .free from q] at k'; cases k'
              · have hcl : (clOf X.env.cells scope.names []).lookup x = some c := hc
                rcases clOf_lookup scope.names [] hcl with q | ⟨q1, q2⟩
                · simp at q
                · rw [hc'] at q2
                  have q2 : c = c' := q2
                  rw [q2]
                  exact hcell'
      have hmm := hg ([] ++ pinsAt fp s5.heap) s5 (cStart own kp σ) H5 x u _ I5' r5 (step x H5 y5)
      refine wpAny_bind (thn hmm fun _ s6 ⟨σ6, H6, I6, q6⟩ => ?_)
      refine wpAny_bind (thn (hi _ s6 σ6 H6 _ I6 q6) fun ok s7 ⟨H7, I7, q7⟩ => ?_)
      cases ok with
      | false =>
        simp only [Bool.false_eq_true, if_false] at q7 ⊢
        obtain ⟨m', hm', w7⟩ := q7
        obtain ⟨a1, a2⟩ := keepIt I7
        exact wpAny_pure ⟨rfl, m', hm', i + 1, ys, H7, reset I7, a1, a2, w7⟩
      | true =>
        simp only [if_true] at q7 ⊢
        refine wpAny_bind (wpAny_bind (thn (he _ s7 σ6 H7 _ I7 q7) fun yv s8 ⟨y, H8, I8, r8, hD, hlt, m', hm', w8⟩ => wpAny_bind ?_))
        obtain ⟨a1, a2⟩ := keepIt I8
        refine thn (mt_append _ s8 σ6 H8 (.ref D) [y] (.ref D) [yv] (fun v H9 => v = .non ∧ H9 = upd H8 D (.lst (ys ++ [y]))) I8 rfl (.cons r8 .nil) ⟨D, ys, y, rfl, rfl, hD, hlt, rfl, rfl⟩) fun _ s9 ⟨v9, H9, I9, _, _, e9⟩ => ?_
        subst e9
        obtain ⟨b1, b2⟩ := keepIt I9
        exact wpAny_pure (wpAny_pure ⟨rfl, m', hm', i + 1, ys ++ [y], _, reset I9, b1, b2, w8⟩)
  exact codeAny_compStart_list loop (T.self _ _ _ _ _ st1 loop)

/-- [elt for tg in iter if ..] as a value -/
theorem pe_comp (hc : X.calm = true) (C : CScope X scope own kp kn) (hi : PI X tg iter wi) (hg : ∀ fp s H, PG (cxComp X scope (own ++ kn) fp s H) tg g) (hif : ∀ fp s H, PIfs (cxComp X scope (own ++ kn) fp s H) ifs tc)
    (he : ∀ fp s H, PE (cxComp X scope (own ++ kn) fp s H) elt te) (hs : ∀ x, foldedSetIterable iter X.env x = pure x := by intro _; rfl) : PE X (.ListComp elt [⟨tg, iter, ifs, 0⟩] scope pos) (tComp wi g tc te own kp) := by
  intro pins s σ H Q I h
  rw [eval_ListComp]
  refine wpAny_comprehension_free (use := none) rfl hs (closureFor_clOf (cells_have C I)) C.kind C.nd (thn (hi pins s σ H _ I h) fun v s1 h1 => thn h1 fun itv s2 h2 => ?_)
  obtain ⟨it, fp, tn, J, H2, e, I2, T, st2, f2, q⟩ := h2
  subst e
  refine wpAny_newObj_type ?_
  have I3 : Inv X pins σ (upd H2 s2.heap.objs.size (.lst [])) { s2 with heap := s2.heap.push { cls := .type "list", dict := none, data := .seq ([] : List Value).toArray } } := I2.lnew (its := []) (t' := s2.toks) .nil (Nat.zero_le _)
  obtain ⟨W, w0, turn⟩ := q s2.heap.objs.size I2.fresh
  have fne : ∀ b ∈ fp, b < s2.heap.objs.size := fun b hb => let ⟨o, e, _⟩ := T.obj _ _ st2 b hb; Heap.lt_size e
  have f3 : ∀ b ∈ fp, FpOk X pins (upd H2 s2.heap.objs.size (.lst [])) b := fun b hb => ⟨by rw [upd_ne (Nat.ne_of_lt (fne b hb))]; exact (f2 b hb).1, (f2 b hb).2⟩
  generalize hs3 : ({ s2 with heap := s2.heap.push { cls := .type "list", dict := none, data := .seq ([] : List Value).toArray } } : Shared) = s3 at I3 ⊢
  have st3 : tn 0 s3.heap := by rw [← hs3]; exact T.keep _ _ _ st2 fun b _ o e => Heap.get?_push_of_some _ e
  have fne3 : ∀ b ∈ fp, b < s3.heap.objs.size := fun b hb => by rw [← hs3]; exact Nat.lt_of_lt_of_le (fne b hb) (by rw [Heap.size_push]; exact Nat.le_succ _)
  refine wpAny_newFunctionEnv (fun y hy => C.nocell y hy) (by intro y hy; simp at hy) (fun h₁ hns₁ hsb₁ => ?_) C.kind
  have hk : ∀ b o, s3.heap.get? b = some o → h₁.get? b = some o := fun b o e => hsb₁.extBut b o (Nat.ne_of_lt (Heap.lt_size e)) (Heap.get?_push_of_some _ e)
  refine comp_run (D := s2.heap.objs.size) hc C I3 f3 fne3 T (hg fp s3 _) (hif fp s3 _) (he fp s3 _) hns₁ hk st3 W w0 turn fun H' s' σ' J' hq => ?_
  have B := inv_back I3 f3 J'
  obtain ⟨m', hm', _⟩ := J'.loc
  refine ⟨m', hm', fun h' sb => ⟨.ref s2.heap.objs.size, H', ?_, rfl, hq⟩⟩
  have fC := I3.fpOk (H' := H') (b := s3.heap.objs.size) (Nat.le_refl _) J'.free
  exact B.turned (it := s3.heap.objs.size) (t' := s'.toks) (fun b o hb e => (sb.2 b hb).trans e) fC.1 fC.2.1 fC.2.2.2.1 fC.2.2.2.2.1 fC.2.2.2.2.2

/-- name = [elt for tg in iter if ..], the name a plain local of the body -/
theorem ps_setComp {i : Nat} {x : Str} {pos' spos : Pos} (hc : X.calm = true) (hN : X.N.Nodup) (hx : X.N[i]? = some x) (hxl : X.env.scope.names.lookup x = some .local) (C : CScope X scope own kp kn) (hi : PI X tg iter wi)
    (hg : ∀ fp s H, PG (cxComp X scope (own ++ kn) fp s H) tg g) (hif : ∀ fp s H, PIfs (cxComp X scope (own ++ kn) fp s H) ifs tc)
    (he : ∀ fp s H, PE (cxComp X scope (own ++ kn) fp s H) elt te)
    (hsw : swapsWith (.ListComp elt [⟨tg, iter, ifs, 0⟩] scope pos) (some (.Name x pos')) spos.line X.env = pure true := by rfl)
    (hs : ∀ x, foldedSetIterable iter X.env x = pure x := by intro _; rfl) :
    PS X (.Assign [.Name x pos'] (.ListComp elt [⟨tg, iter, ifs, 0⟩] scope pos) spos) (tAsg (tComp wi g tc te own kp) (gName i)) := by
  intro pins s σ H D I h
  rw [exec_Assign_Name_used _ _ _ _ hsw]
  refine wpAny_bind (wpAny_standAt (wpAny_bind ?_))
  show wpAny _ X.A (do let _ ← comprehension (.ListComp elt [⟨tg, iter, ifs, 0⟩] scope pos) scope X.env _ (newList []) false (eval iter X.env) (some (assign (.Name x pos') X.env))) _ _ s
  refine wpAny_bind (wpAny_mono (wpAny_comprehension_free (use := some (assign (.Name x pos') X.env)) (Q := fun _ s' => SP X pins D .next s') rfl hs (closureFor_clOf (cells_have C I)) C.kind C.nd
    (thn (hi pins s σ H _ I h) fun v s1 h1 => thn h1 fun itv s2 h2 => ?_)) (fun _ s' hq => wpAny_pure (wpAny_pure hq)) fun _ _ e => e)
  obtain ⟨it, fp, tn, J, H2, e, I2, T, st2, f2, q⟩ := h2
  subst e
  refine wpAny_newObj_type ?_
  have I3 : Inv X pins σ (upd H2 s2.heap.objs.size (.lst [])) { s2 with heap := s2.heap.push { cls := .type "list", dict := none, data := .seq ([] : List Value).toArray } } := I2.lnew (its := []) (t' := s2.toks) .nil (Nat.zero_le _)
  obtain ⟨W, w0, turn⟩ := q s2.heap.objs.size I2.fresh
  have fne : ∀ b ∈ fp, b < s2.heap.objs.size := fun b hb => let ⟨o, e, _⟩ := T.obj _ _ st2 b hb; Heap.lt_size e
  have f3 : ∀ b ∈ fp, FpOk X pins (upd H2 s2.heap.objs.size (.lst [])) b := fun b hb => ⟨by rw [upd_ne (Nat.ne_of_lt (fne b hb))]; exact (f2 b hb).1, (f2 b hb).2⟩
  generalize hs3 : ({ s2 with heap := s2.heap.push { cls := .type "list", dict := none, data := .seq ([] : List Value).toArray } } : Shared) = s3 at I3 ⊢
  have st3 : tn 0 s3.heap := by rw [← hs3]; exact T.keep _ _ _ st2 fun b _ o e => Heap.get?_push_of_some _ e
  have fne3 : ∀ b ∈ fp, b < s3.heap.objs.size := fun b hb => by rw [← hs3]; exact Nat.lt_of_lt_of_le (fne b hb) (by rw [Heap.size_push]; exact Nat.le_succ _)
  refine wpAny_newFunctionEnv (fun y hy => C.nocell y hy) (by intro y hy; simp at hy) (fun h₁ hns₁ hsb₁ => ?_) C.kind
  have hk : ∀ b o, s3.heap.get? b = some o → h₁.get? b = some o := fun b o e => hsb₁.extBut b o (Nat.ne_of_lt (Heap.lt_size e)) (Heap.get?_push_of_some _ e)
  refine comp_run (Q := fun x H1 => gName i x σ H1 D.nx) (D := s2.heap.objs.size) hc C I3 f3 fne3 T (hg fp s3 _) (hif fp s3 _) (he fp s3 _) hns₁ hk st3 W w0 turn fun H' s' σ' J' hq => ?_
  have B := inv_back I3 f3 J'
  obtain ⟨m', hm', _⟩ := J'.loc
  have fC := I3.fpOk (H' := H') (b := s3.heap.objs.size) (Nat.le_refl _) J'.free
  show wpAny _ X.A (assign (.Name x pos') X.env (.ref s2.heap.objs.size)) _ _ s'
  refine wpAny_assign_Name (store_ok2 B hN hx (.inl hxl) (v := .ref s2.heap.objs.size) rfl (fun s4 I4 ⟨a, sb, ha⟩ => ?_) (.inr hxl))
  have ha' : s3.heap.objs.size ≠ a := by
    rcases ha with rfl | z
    · exact fC.2.1
    · exact fun e => fC.2.2.2.2.1 x a z e.symm
  refine ⟨m', hm'.sameBut sb ha', fun h' sb' => ⟨_, H', ?_, hq⟩⟩
  exact I4.turned (it := s3.heap.objs.size) (t' := s4.toks) (fun b o hb e => (sb'.2 b hb).trans e) fC.1 fC.2.1 fC.2.2.2.1 fC.2.2.2.2.1 fC.2.2.2.2.2
end
end L2

end
section
set_option maxRecDepth 100000
set_option maxHeartbeats 4000000
/-! ## THE DATUM LAYER (own): values without addresses; what a pure expression, a statement, a def is worth -/
namespace L2
open PySem PySem.Spec PyProof.Rows

inductive D where
  | non | bl (b : Bool) | int (i : Int) | str (x : Str) | lst (ds : List D) | tup (ds : List D) | dct (ks : List Key) (ds : List D)

/-- a result: a value, an exception, or nothing known -/
inductive R (α : Type) where
  | ok (a : α) | ex (c : Nat) | no
noncomputable def R.bind {α β : Type} : R α → (α → R β) → R β
  | .ok a, f => f a
  | .ex c, _ => .ex c
  | .no, _ => .no
theorem R.bind_ok {α β : Type} {r : R α} {f : α → R β} {b : β} (h : r.bind f = .ok b) : ∃ a, r = .ok a ∧ f a = .ok b := by
  cases r with
  | ok a => exact ⟨a, rfl, h⟩
  | ex c => cases h
  | no => cases h
@[simp] theorem R.ok_bind {α β : Type} (a : α) (f : α → R β) : (R.ok a).bind f = f a := rfl
def R.when {α : Type} (c : Bool) (r : R α) : R α := if c then r else .no
theorem R.when_ok {α : Type} {c : Bool} {r : R α} {a : α} (h : R.when c r = .ok a) : c = true ∧ r = .ok a := by
  cases c with
  | true => exact ⟨rfl, h⟩
  | false => cases h
@[simp] theorem R.when_true {α : Type} (r : R α) : R.when true r = r := rfl

/-- a list that doesn't change any more; a tuple -/
def LsF (K : PySem.W.Frag) (B : List Addr) (H : Hp) (a : Addr) (xs : List V) : Prop :=
  (a ∉ B ∧ Rd H a (.lst xs)) ∨ ∃ (its : List Value) (n : Nat), K.lookup a = some { cls := .type "list", data := .seq its.toArray n } ∧ xs.length ≤ sizeLine ∧ Vals xs its
def TpF (K : PySem.W.Frag) (B : List Addr) (H : Hp) (a : Addr) (xs : List V) : Prop :=
  (a ∉ B ∧ Rd H a (.tup xs)) ∨ ∃ (o : Obj) (its : Array Value) (n : Nat), K.lookup a = some o ∧ o.cls = .type "tuple" ∧ o.data = .seq its n ∧ its.size ≤ sizeLine ∧ Vals xs its.toList
theorem LsF.sq {K : PySem.W.Frag} {B : List Addr} {H : Hp} {a : Addr} {xs : List V} (h : LsF K B H a xs) : SqL K H a xs := by
  rcases h with z | ⟨its, n, hk, hz, r⟩
  · exact .inl z.2
  · exact .inr ⟨_, its.toArray, n, hk, rfl, rfl, rfl, by rw [List.size_toArray, ← r.length]; exact hz, by simpa using r⟩
theorem TpF.sq {K : PySem.W.Frag} {B : List Addr} {H : Hp} {a : Addr} {xs : List V} (h : TpF K B H a xs) : SqT K H a xs := h.elim (fun z => .inl z.2) .inr

mutual
/-- the value shows the datum; B: the lists that may still change -/
def Rep (K : PySem.W.Frag) (B : List Addr) (H : Hp) : D → V → Prop
  | .non, v => v = .non
  | .bl b, v => v = .bl b
  | .int i, v => v = .int i
  | .str x, v => v = .str x
  | .lst ds, v => ∃ a xs, v = .ref a ∧ LsF K B H a xs ∧ Reps K B H ds xs
  | .tup ds, v => ∃ a xs, v = .ref a ∧ TpF K B H a xs ∧ Reps K B H ds xs
  | .dct ks ds, v => ∃ (a : Addr) (kvs : List (Key × V)), v = .ref a ∧ (a ∉ B ∧ H a = some (.dK kvs)) ∧ kvs.map (·.1) = ks ∧ Reps K B H ds (kvs.map (·.2))
def Reps (K : PySem.W.Frag) (B : List Addr) (H : Hp) : List D → List V → Prop
  | [], xs => xs = []
  | d :: ds, xs => ∃ x r, xs = x :: r ∧ Rep K B H d x ∧ Reps K B H ds r
end

/-- what stands still from (B, H) to (B', H') -/
def Pres (B : List Addr) (H : Hp) (B' : List Addr) (H' : Hp) : Prop := ∀ b o, H b = some o → b ∉ B → H' b = some o ∧ b ∉ B'
theorem Pres.rd {B B' : List Addr} {H H' : Hp} (p : Pres B H B' H') {a : Addr} {u : HO} (h : Rd H a u) (n : a ∉ B) : Rd H' a u ∧ a ∉ B' := by
  rcases h with e | ⟨o, e⟩
  · exact ⟨.inl (p a _ e n).1, (p a _ e n).2⟩
  · exact ⟨.inr ⟨o, (p a _ e n).1⟩, (p a _ e n).2⟩
theorem Pres.trans {B B' B'' : List Addr} {H H' H'' : Hp} (p : Pres B H B' H') (q : Pres B' H' B'' H'') : Pres B H B'' H'' := fun b o e n =>
  let ⟨e1, n1⟩ := p b o e n; q b o e1 n1
theorem Pres.same {B : List Addr} {H H' : Hp} (s : Same H H') : Pres B H B H' := fun b o e n => ⟨s b o e, n⟩
theorem Pres.refl (B : List Addr) (H : Hp) : Pres B H B H := Pres.same (Same.refl H)

theorem LsF.pres {K : PySem.W.Frag} {B B' : List Addr} {H H' : Hp} (p : Pres B H B' H') {a : Addr} {xs : List V} (l : LsF K B H a xs) : LsF K B' H' a xs :=
  l.elim (fun z => .inl ⟨(p.rd z.2 z.1).2, (p.rd z.2 z.1).1⟩) .inr
mutual
theorem Rep.pres {K : PySem.W.Frag} {B B' : List Addr} {H H' : Hp} (p : Pres B H B' H') : ∀ {d : D} {v : V}, Rep K B H d v → Rep K B' H' d v
  | .non, _, h => h
  | .bl _, _, h => h
  | .int _, _, h => h
  | .str _, _, h => h
  | .lst ds, v, h => by
    unfold Rep at h ⊢
    obtain ⟨a, xs, e, l, r⟩ := h
    exact ⟨a, xs, e, l.pres p, Reps.pres p r⟩
  | .tup ds, v, h => by
    unfold Rep at h ⊢
    obtain ⟨a, xs, e, l, r⟩ := h
    exact ⟨a, xs, e, l.elim (fun z => .inl ⟨(p.rd z.2 z.1).2, (p.rd z.2 z.1).1⟩) .inr, Reps.pres p r⟩
  | .dct ks ds, v, h => by
    unfold Rep at h ⊢
    obtain ⟨a, kvs, e, ⟨n, l⟩, k, r⟩ := h
    exact ⟨a, kvs, e, ⟨(p a _ l n).2, (p a _ l n).1⟩, k, Reps.pres p r⟩
theorem Reps.pres {K : PySem.W.Frag} {B B' : List Addr} {H H' : Hp} (p : Pres B H B' H') : ∀ {ds : List D} {xs : List V}, Reps K B H ds xs → Reps K B' H' ds xs
  | [], _, h => h
  | d :: ds, xs, h => by
    unfold Reps at h ⊢
    obtain ⟨x, r, e, h1, h2⟩ := h
    exact ⟨x, r, e, Rep.pres p h1, Reps.pres p h2⟩
end
theorem Rep.same {K : PySem.W.Frag} {B : List Addr} {H H' : Hp} {d : D} {v : V} (h : Rep K B H d v) (s : Same H H') : Rep K B H' d v := h.pres (Pres.same s)
theorem Reps.same {K : PySem.W.Frag} {B : List Addr} {H H' : Hp} {d : List D} {v : List V} (h : Reps K B H d v) (s : Same H H') : Reps K B H' d v := h.pres (Pres.same s)
theorem Reps.nil {K : PySem.W.Frag} {B : List Addr} {H : Hp} : Reps K B H [] [] := by unfold Reps; rfl
theorem Reps.cons {K : PySem.W.Frag} {B : List Addr} {H : Hp} {d : D} {ds : List D} {x : V} {xs : List V} (h : Rep K B H d x) (t : Reps K B H ds xs) : Reps K B H (d :: ds) (x :: xs) := by
  unfold Reps; exact ⟨x, xs, rfl, h, t⟩
theorem Reps.uncons {K : PySem.W.Frag} {B : List Addr} {H : Hp} {d : D} {ds : List D} {xs : List V} (h : Reps K B H (d :: ds) xs) : ∃ x r, xs = x :: r ∧ Rep K B H d x ∧ Reps K B H ds r := by
  unfold Reps at h; exact h
theorem Reps.length {K : PySem.W.Frag} {B : List Addr} {H : Hp} : ∀ {ds : List D} {xs : List V}, Reps K B H ds xs → ds.length = xs.length
  | [], _, h => by unfold Reps at h; rw [h]; rfl
  | d :: ds, xs, h => by
    obtain ⟨x, r, rfl, _, h2⟩ := h.uncons
    simp [h2.length]
theorem Reps.get {K : PySem.W.Frag} {B : List Addr} {H : Hp} : ∀ {ds : List D} {xs : List V} {i : Nat} {d : D}, Reps K B H ds xs → ds[i]? = some d → ∃ x, xs[i]? = some x ∧ Rep K B H d x
  | [], _, _, _, _, e => by simp at e
  | d :: ds, xs, 0, d', h, e => by
    obtain ⟨x, r, rfl, h1, h2⟩ := h.uncons
    simp at e; subst e
    exact ⟨x, rfl, h1⟩
  | d :: ds, xs, i + 1, d', h, e => by
    obtain ⟨x, r, rfl, h1, h2⟩ := h.uncons
    obtain ⟨y, e1, e2⟩ := Reps.get (i := i) h2 (by simpa using e)
    exact ⟨y, by simpa using e1, e2⟩
theorem Reps.append {K : PySem.W.Frag} {B : List Addr} {H : Hp} : ∀ {ds es : List D} {xs ys : List V}, Reps K B H ds xs → Reps K B H es ys → Reps K B H (ds ++ es) (xs ++ ys)
  | [], _, _, _, h, t => by unfold Reps at h; subst h; exact t
  | d :: ds, es, xs, ys, h, t => by
    obtain ⟨x, r, rfl, h1, h2⟩ := h.uncons
    exact Reps.cons h1 (Reps.append h2 t)
theorem Reps.drop {K : PySem.W.Frag} {B : List Addr} {H : Hp} : ∀ {ds : List D} {xs : List V} (n : Nat), Reps K B H ds xs → Reps K B H (ds.drop n) (xs.drop n)
  | _, _, 0, h => h
  | [], _, n + 1, h => by unfold Reps at h; subst h; exact Reps.nil
  | d :: ds, xs, n + 1, h => by
    obtain ⟨x, r, rfl, h1, h2⟩ := h.uncons
    exact Reps.drop n h2
theorem Reps.take {K : PySem.W.Frag} {B : List Addr} {H : Hp} : ∀ {ds : List D} {xs : List V} (n : Nat), Reps K B H ds xs → Reps K B H (ds.take n) (xs.take n)
  | _, _, 0, h => Reps.nil
  | [], _, n + 1, h => by unfold Reps at h; subst h; exact Reps.nil
  | d :: ds, xs, n + 1, h => by
    obtain ⟨x, r, rfl, h1, h2⟩ := h.uncons
    exact Reps.cons h1 (Reps.take n h2)

/-- an atom -/
def D.atom : D → Bool
  | .non => true | .bl _ => true | .int _ => true | .str _ => true | _ => false
theorem Rep.atom {K : PySem.W.Frag} {B B' : List Addr} {H H' : Hp} {d : D} {v : V} (a : d.atom = true) (h : Rep K B H d v) : Rep K B' H' d v := by
  cases d <;> first | exact h | cases a

/-- a slot: unset, a value, a list that is being built -/
inductive Sl where
  | un | val (d : D) | bld (ds : List D)
abbrev DEnv := List Sl

structure EnvR (K : PySem.W.Frag) (Z B : List Addr) (H : Hp) (σ : St) (δ : DEnv) : Prop where
  len : δ.length = σ.length
  bs : ∀ a ∈ B, ∃ o, H a = some o
  zb : ∀ a ∈ Z, a ∈ B
  val : ∀ (i : Nat) (d : D), δ[i]? = some (.val d) → ∃ v, σ[i]? = some (some v) ∧ Rep K B H d v
  bld : ∀ (i : Nat) (ds : List D), δ[i]? = some (.bld ds) → ∃ a xs, σ[i]? = some (some (.ref a)) ∧ a ∈ B ∧ a ∉ Z ∧ H a = some (.lst xs) ∧ Reps K B H ds xs
  dis : ∀ (i j : Nat) (a : Addr) (ds es : List D), δ[i]? = some (.bld ds) → δ[j]? = some (.bld es) → σ[i]? = some (some (.ref a)) → σ[j]? = some (some (.ref a)) → i = j

theorem EnvR.same {K : PySem.W.Frag} {Z B : List Addr} {H H' : Hp} {σ : St} {δ : DEnv} (E : EnvR K Z B H σ δ) (s : Same H H') : EnvR K Z B H' σ δ where
  len := E.len
  bs := fun a ha => let ⟨o, e⟩ := E.bs a ha; ⟨o, s a o e⟩
  zb := E.zb
  val := fun i d e => let ⟨v, h1, h2⟩ := E.val i d e; ⟨v, h1, h2.same s⟩
  bld := fun i ds e => let ⟨a, xs, h1, h2, h3, h4, h5⟩ := E.bld i ds e; ⟨a, xs, h1, h2, h3, s a _ h4, h5.same s⟩
  dis := E.dis

/-- all lists that are being built, seen as values -/
def thaw (δ : DEnv) : DEnv := δ.map fun x => match x with | .bld ds => .val (.lst ds) | y => y
theorem PE.imp {X : Cx} {e : Expr} {t t' : TE} (h : PE X e t) (w : ∀ σ H Q, t' σ H Q → t σ H Q) : PE X e t' := fun pins s σ H Q I hq => h pins s σ H Q I (w σ H Q hq)
theorem PT.imp {X : Cx} {e : Expr} {t t' : TT} (h : PT X e t) (w : ∀ σ H Q, t' σ H Q → t σ H Q) : PT X e t' := fun pins s σ H Q I hq => h pins s σ H Q I (w σ H Q hq)
theorem PA.imp {X : Cx} {e : List Expr} {t t' : TA} (h : PA X e t) (w : ∀ σ H Q, t' σ H Q → t σ H Q) : PA X e t' := fun pos pins s σ H Q I hq => h pos pins s σ H Q I (w σ H Q hq)
theorem PS.imp {X : Cx} {e : Stmt} {t t' : TS} (h : PS X e t) (w : ∀ D σ H, t' D σ H → t D σ H) : PS X e t' := fun pins s σ H D I hq => h pins s σ H D I (w D σ H hq)
theorem PSs.imp {X : Cx} {e : List Stmt} {t t' : TS} (h : PSs X e t) (w : ∀ D σ H, t' D σ H → t D σ H) : PSs X e t' := fun pins s σ H D I hq => h pins s σ H D I (w D σ H hq)
theorem PG.imp {X : Cx} {e : Expr} {t t' : TG} (h : PG X e t) (w : ∀ v σ H Q, t' v σ H Q → t v σ H Q) : PG X e t' := fun pins s σ H v u Q I r hq => h pins s σ H v u Q I r (w v σ H Q hq)
theorem PI.imp {X : Cx} {tg e : Expr} {t t' : TI} (h : PI X tg e t) (w : ∀ σ H Q, t' σ H Q → t σ H Q) : PI X tg e t' := fun pins s σ H Q I hq => h pins s σ H Q I (w σ H Q hq)

/-! ### readings -/
abbrev FD := DEnv → R D
/-- an expression worth f -/
def tD (K : PySem.W.Frag) (f : FD) : TE := fun σ H Q => ∃ Z B δ d, EnvR K Z B H σ δ ∧ f δ = .ok d ∧ ∀ v H', Same H H' → Rep K B H' d v → Q v H'
/-- an expression worth a new list -/
def tN (K : PySem.W.Frag) (f : DEnv → R (List D)) : TE := fun σ H Q => ∃ Z B δ ds, EnvR K Z B H σ δ ∧ f δ = .ok ds ∧ ∀ a xs H', Same H H' → H a = none → H' a = some (.lst xs) → Reps K (a :: B) H' ds xs → Q (.ref a) H'
/-- a test -/
def tTD (K : PySem.W.Frag) (f : DEnv → R Bool) : TT := fun σ H Q => ∃ Z B δ b, EnvR K Z B H σ δ ∧ f δ = .ok b ∧ ∀ H', Same H H' → Q b H'
/-- arguments -/
def tAD (K : PySem.W.Frag) (f : DEnv → R (List D)) : TA := fun σ H Q => ∃ Z B δ ds, EnvR K Z B H σ δ ∧ f δ = .ok ds ∧ ∀ vs H', Same H H' → Reps K B H' ds vs → Q vs H'
abbrev PD (X : Cx) (e : Expr) (f : FD) : Prop := PE X e (tD X.K f)
abbrev PN (X : Cx) (e : Expr) (f : DEnv → R (List D)) : Prop := PE X e (tN X.K f)
abbrev PB (X : Cx) (e : Expr) (f : DEnv → R Bool) : Prop := PT X e (tTD X.K f)
abbrev PAs (X : Cx) (es : List Expr) (f : DEnv → R (List D)) : Prop := PA X es (tAD X.K f)

section
variable {X : Cx}
/-- a new list as a value -/
def eNew (f : DEnv → R (List D)) : FD := fun δ => (f δ).bind fun ds => .ok (.lst ds)
theorem pd_new {e : Expr} {f : DEnv → R (List D)} (h : PN X e f) : PD X e (eNew f) := h.imp fun σ H Q ⟨Z, B, δ, d, E, hf, q⟩ => by
  obtain ⟨ds, h1, h2⟩ := R.bind_ok hf
  cases h2
  refine ⟨Z, B, δ, ds, E, h1, fun a xs H' s n e r => q _ H' s ?_⟩
  unfold Rep
  refine ⟨a, xs, rfl, .inl ⟨fun ha => ?_, .inl e⟩, r.pres fun b o e nb => ⟨e, fun hb => nb (List.mem_cons_of_mem _ hb)⟩⟩
  obtain ⟨o, ho⟩ := E.bs a ha
  rw [n] at ho; cases ho

theorem pres_new {B : List Addr} {H : Hp} {p : Addr} {o : HO} (h : H p = none) : Pres B H (p :: B) (upd H p o) := fun b u e nb =>
  ⟨by rw [upd_ne (ne_of_none e h)]; exact e, fun hb => by
    rcases List.mem_cons.mp hb with z | z
    · exact ne_of_none e h z
    · exact nb z⟩
/-- an atom of lists that are being built -/
def eThaw (f : FD) : FD := fun δ => (f (thaw δ)).bind fun d => R.when d.atom (.ok d)
def bThaw (f : DEnv → R Bool) : DEnv → R Bool := fun δ => f (thaw δ)
/-! names, constants -/
def eVar (i : Nat) : FD := fun δ => match δ[i]? with | some (.val d) => .ok d | _ => .no
def eC (d : D) : FD := fun _ => .ok d
theorem pd_var (i : Nat) {x : Str} {pos : Pos} (hN : X.N[i]? = some x := by rfl) (hv : Vis X.env.scope x := by first | exact Or.inl rfl | exact Or.inr (Or.inl rfl) | exact Or.inr (Or.inr rfl)) (hd : (x == ("__debug__" : Str)) = false := by decide)
    (hcd : (x == ("__classdict__" : Str)) = false := by decide) : PD X (.Name x pos) (eVar i) := (pe_var hN hv hd hcd).imp fun σ H Q ⟨Z, B, δ, d, E, hf, q⟩ => by
  unfold eVar at hf
  split at hf
  · rename_i d' e
    cases hf
    obtain ⟨v, h1, h2⟩ := E.val i d e
    exact ⟨v, h1, q v H (Same.refl H) h2⟩
  · cases hf
theorem pd_const {e : Expr} {v : V} {d : D} (h : PE X e (tC v)) (r : ∀ B H, Rep X.K B H d v) : PD X e (eC d) := h.imp fun σ H Q ⟨Z, B, δ, d', E, hf, q⟩ => by
  cases hf
  exact q v H (Same.refl H) (r B H)
theorem pd_int {i j pos} : PD X (.Constant (.int i) j pos) (eC (.int i)) := pd_const pe_int fun _ _ => by unfold Rep; rfl
theorem pd_bl {b j pos} : PD X (.Constant (.bool b) j pos) (eC (.bl b)) := pd_const pe_bl fun _ _ => by unfold Rep; rfl
theorem pd_non {j pos} : PD X (.Constant .none j pos) (eC .non) := pd_const pe_non fun _ _ => by unfold Rep; rfl
theorem pd_str {x j pos} : PD X (.Constant (.str x) j pos) (eC (.str x)) := pd_const pe_str fun _ _ => by unfold Rep; rfl
/-- a constant of the module -/
def Glob (K : PySem.W.Frag) (mg : Str → Option Value) (x : Str) (d : D) : Prop := ∃ (u : Value) (v : V), mg x = some u ∧ RelV v u ∧ ∀ B H, Rep K B H d v
/-! arguments, displays -/
def aNil : DEnv → R (List D) := fun _ => .ok []
def aCons (f : FD) (g : DEnv → R (List D)) : DEnv → R (List D) := fun δ => (f δ).bind fun d => (g δ).bind fun ds => .ok (d :: ds)
theorem pas_nil : PAs X [] aNil := pa_nil.imp fun σ H Q ⟨Z, B, δ, d, E, hf, q⟩ => by
  cases hf
  exact q [] H (Same.refl H) Reps.nil
theorem pas_cons {e : Expr} {es : List Expr} {f : FD} {g : DEnv → R (List D)} (h : PD X e f) (t : PAs X es g) (hs : starEach (e :: es) X.env = (false, eval e X.env) :: starEach es X.env := by rfl) : PAs X (e :: es) (aCons f g) :=
  (pa_cons h t hs).imp fun σ H Q ⟨Z, B, δ, d, E, hf, q⟩ => by
    obtain ⟨d1, h1, h2⟩ := R.bind_ok hf
    obtain ⟨ds, h3, h4⟩ := R.bind_ok h2
    cases h4
    exact ⟨Z, B, δ, d1, E, h1, fun v H1 s1 r1 => ⟨Z, B, δ, ds, E.same s1, h3, fun vs H2 s2 r2 => q _ H2 (s1.trans s2) (Reps.cons (r1.same s2) r2)⟩⟩
def eTup (g : DEnv → R (List D)) : FD := fun δ => (g δ).bind fun ds => R.when (decide (ds.length ≤ sizeLine)) (.ok (.tup ds))
def nLst (g : DEnv → R (List D)) : DEnv → R (List D) := fun δ => (g δ).bind fun ds => R.when (decide (ds.length ≤ sizeLine)) (.ok ds)
theorem same_upd {H : Hp} {p : Addr} {o : HO} (h : H p = none) : Same H (upd H p o) := fun b u e => by rw [upd_ne (ne_of_none e h)]; exact e
theorem pd_tup {es : List Expr} {g : DEnv → R (List D)} {x1 pos} (h : PAs X es g) : PD X (.Tuple es x1 pos) (eTup g) := (pe_tup h).imp fun σ H Q ⟨Z, B, δ, d, E, hf, q⟩ => by
  obtain ⟨ds, h1, h2⟩ := R.bind_ok hf
  obtain ⟨hl, h3⟩ := R.when_ok h2
  cases h3
  refine ⟨Z, B, δ, ds, E, h1, fun vs H1 s1 r1 => ⟨by rw [← r1.length]; exact of_decide_eq_true hl, fun p hp => q _ _ (s1.trans (same_upd hp)) ?_⟩⟩
  unfold Rep
  refine ⟨p, vs, rfl, .inl ⟨fun ha => ?_, .inl upd_same⟩, r1.same (same_upd hp)⟩
  obtain ⟨o, ho⟩ := (E.same s1).bs p ha
  rw [hp] at ho; cases ho
theorem pn_lst {es : List Expr} {g : DEnv → R (List D)} {pos} (h : PAs X es g) : PN X (.List es pos) (nLst g) := (pe_lst h).imp fun σ H Q ⟨Z, B, δ, d, E, hf, q⟩ => by
  obtain ⟨ds, h1, h2⟩ := R.bind_ok hf
  obtain ⟨hl, h3⟩ := R.when_ok h2
  cases h3
  exact ⟨Z, B, δ, _, E, h1, fun vs H1 s1 r1 => ⟨by rw [← r1.length]; exact of_decide_eq_true hl, fun p hp => q p vs _ (s1.trans (same_upd hp)) (s1.free hp) upd_same (r1.pres (pres_new hp))⟩⟩

/-! operations on two values -/
/-- f at values that show da, db gives a value that shows g da db -/
def OpD (X : Cx) (f : Value → Value → Sem Value) (g : D → D → R D) : Prop :=
  ∀ (pins : List (Addr × Obj)) (s : Shared) (σ : St) (H : Hp) (B : List Addr) (da db d : D) (x y : V) (v u : Value), Inv X pins σ H s → (∀ a ∈ B, ∃ o, H a = some o) → RelV x v → RelV y u → Rep X.K B H da x → Rep X.K B H db y → g da db = .ok d →
    wpAny (model X.prog X.w) X.A (f v u) (EP X pins σ fun z H' => Same H H' ∧ Rep X.K B H' d z) X.xe s
def e2 (g : D → D → R D) (fa fb : FD) : FD := fun δ => (fa δ).bind fun a => (fb δ).bind fun b => g a b
theorem OpD.r {f : Value → Value → Sem Value} {g : D → D → R D} (h : OpD X f g) : OpR X f (fun x y H Q => ∃ B da db d, (∀ a ∈ B, ∃ o, H a = some o) ∧ Rep X.K B H da x ∧ Rep X.K B H db y ∧ g da db = .ok d ∧ ∀ z H', Same H H' → Rep X.K B H' d z → Q z H') := by
  intro pins s σ H x y v u Q I rx ry ⟨B, da, db, d, hb, ha, hb', hg, q⟩
  exact thn (h pins s σ H B da db d x y v u I hb rx ry ha hb' hg) fun z s' ⟨zv, H', I', r', s1, r1⟩ => ⟨zv, H', I', r', q zv H' s1 r1⟩
theorem e2_r {K : PySem.W.Frag} {g : D → D → R D} {fa fb : FD} {σ : St} {H : Hp} {Q : VK} (h : tD K (e2 g fa fb) σ H Q) :
    tOp (fun x y H Q => ∃ B da db d, (∀ a ∈ B, ∃ o, H a = some o) ∧ Rep K B H da x ∧ Rep K B H db y ∧ g da db = .ok d ∧ ∀ z H', Same H H' → Rep K B H' d z → Q z H') (tD K fa) (tD K fb) σ H Q := by
  obtain ⟨Z, B, δ, d, E, hf, q⟩ := h
  obtain ⟨d1, h1, h2⟩ := R.bind_ok hf
  obtain ⟨d2, h3, h4⟩ := R.bind_ok h2
  exact ⟨Z, B, δ, d1, E, h1, fun v1 H1 s1 r1 => ⟨Z, B, δ, d2, E.same s1, h3, fun v2 H2 s2 r2 => ⟨B, d1, d2, d, (E.same (s1.trans s2)).bs, r1.same s2, r2, h4, fun z H' s3 r3 => q z H' (s1.trans (s2.trans s3)) r3⟩⟩⟩
theorem pd_op {op : Operator} {g : D → D → R D} {a b : Expr} {fa fb : FD} {pos : Pos} (ho : OpD X (binaryOp op) g) (ha : PD X a fa) (hb : PD X b fb) : PD X (.BinOp a op b pos) (e2 g fa fb) :=
  (pe_op ho.r ha hb).imp fun σ H Q h => e2_r h
theorem pd_cmp {op : CmpOp} {g : D → D → R D} {a b : Expr} {fa fb : FD} {pos : Pos} (ho : OpD X (compareOp op) g) (ha : PD X a fa) (hb : PD X b fb) (hm : behindInMarks op b = false) : PD X (.Compare a [op] [b] pos) (e2 g fa fb) :=
  (pe_cmpR ho.r ha hb hm).imp fun σ H Q h => e2_r h
/-- a bool as a test -/
def b2 (g : D → D → R D) (fa fb : FD) : DEnv → R Bool := fun δ => (e2 g fa fb δ).bind fun d => match d with | .bl b => .ok b | _ => .no
theorem pb_cmp {op : CmpOp} {g : D → D → R D} {a b : Expr} {fa fb : FD} {pos : Pos} (ho : OpD X (compareOp op) g) (ha : PD X a fa) (hb : PD X b fb) (hm : behindInMarks op b = false) : PB X (.Compare a [op] [b] pos) (b2 g fa fb) :=
  (pt_cmpR ho.r ha hb hm).imp fun σ H Q ⟨Z, B, δ, b, E, hf, q⟩ => by
    obtain ⟨d, h1, h2⟩ := R.bind_ok hf
    cases d with
    | bl k =>
      cases h2
      exact e2_r (g := g) (Q := fun x H' => ∃ k, x = .bl k ∧ Q k H') ⟨Z, B, δ, .bl b, E, h1, fun v H' s r => ⟨b, by unfold Rep at r; exact r, q H' s⟩⟩
    | _ => cases h2
/-- a op1 b op2 c -/
def eChain (g g' : D → D → R D) (fa fb fc : FD) : FD := fun δ => (fa δ).bind fun a => (fb δ).bind fun b => (g a b).bind fun r => match r with
  | .bl true => (fc δ).bind fun c => g' b c
  | .bl false => .ok (.bl false)
  | _ => .no
/-! truth, and, or, not, if -/
def truD : D → R Bool
  | .non => .ok false
  | .bl b => .ok b
  | .int i => .ok (i != 0)
  | .str x => R.when (decide (x.length ≤ sizeLine)) (.ok ((x.length : Int) != 0))
  | .lst ds => .ok (!ds.isEmpty)
  | .tup ds => .ok (!ds.isEmpty)
  | .dct _ _ => .no
def bTru (f : FD) : DEnv → R Bool := fun δ => (f δ).bind truD
theorem Reps.isEmpty {K : PySem.W.Frag} {B : List Addr} {H : Hp} {ds : List D} {xs : List V} (h : Reps K B H ds xs) : ds.isEmpty = xs.isEmpty := by
  have := h.length
  cases ds <;> cases xs <;> simp_all
theorem truD_v {K : PySem.W.Frag} {B : List Addr} {H : Hp} {d : D} {v : V} {b : Bool} (r : Rep K B H d v) (h : truD d = .ok b) : TruV K v H b := by
  cases d with
  | non => unfold Rep at r; subst r; cases h; exact rfl
  | bl k => unfold Rep at r; subst r; cases h; exact rfl
  | int i => unfold Rep at r; subst r; cases h; exact rfl
  | str x => unfold Rep at r; subst r; obtain ⟨h1, h2⟩ := R.when_ok h; cases h2; exact ⟨of_decide_eq_true h1, rfl⟩
  | lst ds => unfold Rep at r; obtain ⟨a, xs, rfl, l, r⟩ := r; cases h; exact .inl ⟨xs, l.sq, by rw [r.isEmpty]⟩
  | tup ds => unfold Rep at r; obtain ⟨a, xs, rfl, l, r⟩ := r; cases h; exact .inr (.inl ⟨xs, l.sq, by rw [r.isEmpty]⟩)
  | dct _ _ => cases h
theorem pb_tru {a : Expr} {f : FD} (ha : PD X a f) (he : ∀ whole, isTrue a X.env whole = (do let v ← whole; standAt a.pos; holding [v] (truthy v)) := by intro _; rfl) : PB X a (bTru f) :=
  (pt_truth ha he).imp fun σ H Q ⟨Z, B, δ, b, E, hf, q⟩ => by
    obtain ⟨d, h1, h2⟩ := R.bind_ok hf
    exact ⟨Z, B, δ, d, E, h1, fun v H' s r => ⟨b, truD_v r h2, q H' s⟩⟩
def bAnd (f g : DEnv → R Bool) : DEnv → R Bool := fun δ => (f δ).bind fun b => if b then g δ else .ok false
def bOr (f g : DEnv → R Bool) : DEnv → R Bool := fun δ => (f δ).bind fun b => if b then .ok true else g δ
def bNot (f : DEnv → R Bool) : DEnv → R Bool := fun δ => (f δ).bind fun b => .ok (!b)
def PBW (X : Cx) (e : Expr) (f : DEnv → R Bool) : Prop := PW X e (tTD X.K f)
theorem PBW.pb {e : Expr} {f : DEnv → R Bool} (h : PBW X e f) : PB X e f := PW.pt h
theorem pbw_and1 {a : Expr} {f : DEnv → R Bool} {pos : Pos} (h : PB X a f) : PBW X (.BoolOp .And [a] pos) f := pw_and1 h
theorem pbw_or1 {a : Expr} {f : DEnv → R Bool} {pos : Pos} (h : PB X a f) : PBW X (.BoolOp .Or [a] pos) f := pw_or1 h
theorem pbw_and {a b : Expr} {rest : List Expr} {f g : DEnv → R Bool} {pos : Pos} (ha : PB X a f) (hb : PBW X (.BoolOp .And (b :: rest) pos) g) : PBW X (.BoolOp .And (a :: b :: rest) pos) (bAnd f g) := by
  intro wh pins s σ H Q I ⟨Z, B, δ, k, E, hf, q⟩
  refine pw_and ha hb wh pins s σ H Q I ?_
  obtain ⟨c, h1, h2⟩ := R.bind_ok hf
  refine ⟨Z, B, δ, c, E, h1, fun H1 s1 => ?_⟩
  cases c with
  | true => rw [if_pos rfl] at h2 ⊢; exact ⟨Z, B, δ, k, E.same s1, h2, fun H' s2 => q H' (s1.trans s2)⟩
  | false => rw [if_neg (by decide)] at h2 ⊢; cases h2; exact q H1 s1
theorem pbw_or {a b : Expr} {rest : List Expr} {f g : DEnv → R Bool} {pos : Pos} (ha : PB X a f) (hb : PBW X (.BoolOp .Or (b :: rest) pos) g) : PBW X (.BoolOp .Or (a :: b :: rest) pos) (bOr f g) := by
  intro wh pins s σ H Q I ⟨Z, B, δ, k, E, hf, q⟩
  refine pw_or ha hb wh pins s σ H Q I ?_
  obtain ⟨c, h1, h2⟩ := R.bind_ok hf
  refine ⟨Z, B, δ, c, E, h1, fun H1 s1 => ?_⟩
  cases c with
  | true => rw [if_pos rfl] at h2 ⊢; cases h2; exact q H1 s1
  | false => rw [if_neg (by decide)] at h2 ⊢; exact ⟨Z, B, δ, k, E.same s1, h2, fun H' s2 => q H' (s1.trans s2)⟩
theorem pb_not {a : Expr} {f : DEnv → R Bool} {pos : Pos} (ha : PB X a f) : PB X (.UnaryOp .Not a pos) (bNot f) := (pt_not ha).imp fun σ H Q ⟨Z, B, δ, k, E, hf, q⟩ => by
  obtain ⟨c, h1, h2⟩ := R.bind_ok hf
  cases h2
  exact ⟨Z, B, δ, c, E, h1, fun H1 s1 => q H1 s1⟩
/-- .. as values (bools) -/
def asB (f : FD) : DEnv → R Bool := fun δ => (f δ).bind fun d => match d with | .bl b => .ok b | _ => .no
def eAnd (f g : FD) : FD := fun δ => (asB f δ).bind fun b => if b then g δ else .ok (.bl false)
def eOr (f g : FD) : FD := fun δ => (asB f δ).bind fun b => if b then .ok (.bl true) else g δ
def eNot (f : FD) : FD := fun δ => (asB f δ).bind fun b => .ok (.bl (!b))
theorem asB_ok {f : FD} {δ : DEnv} {b : Bool} (h : asB f δ = .ok b) : f δ = .ok (.bl b) := by
  obtain ⟨d, h1, h2⟩ := R.bind_ok h
  cases d with
  | bl k => cases h2; exact h1
  | _ => cases h2
theorem pd_one {a : Expr} {op} {f : FD} {pos : Pos} (h : PD X a f) : PD X (.BoolOp op [a] pos) f := pe_one h
theorem pd_and {a b : Expr} {rest : List Expr} {f g : FD} {pos : Pos} (ha : PD X a f) (hb : PD X (.BoolOp .And (b :: rest) pos) g) : PD X (.BoolOp .And (a :: b :: rest) pos) (eAnd f g) := (pe_and ha hb).imp fun σ H Q ⟨Z, B, δ, k, E, hf, q⟩ => by
  obtain ⟨c, h1, h2⟩ := R.bind_ok hf
  refine ⟨Z, B, δ, .bl c, E, asB_ok h1, fun v H1 s1 r1 => ⟨c, by unfold Rep at r1; exact r1, ?_⟩⟩
  cases c with
  | true => rw [if_pos rfl] at h2 ⊢; exact ⟨Z, B, δ, k, E.same s1, h2, fun v H' s2 r2 => q v H' (s1.trans s2) r2⟩
  | false => rw [if_neg (by decide)] at h2 ⊢; cases h2; exact q _ H1 s1 (by unfold Rep; rfl)
theorem pd_not {a : Expr} {f : FD} {pos : Pos} (ha : PD X a f) : PD X (.UnaryOp .Not a pos) (eNot f) := (pe_not ha).imp fun σ H Q ⟨Z, B, δ, k, E, hf, q⟩ => by
  obtain ⟨c, h1, h2⟩ := R.bind_ok hf
  cases h2
  exact ⟨Z, B, δ, .bl c, E, asB_ok h1, fun v H1 s1 r1 => ⟨c, by unfold Rep at r1; exact r1, q _ H1 s1 (by unfold Rep; rfl)⟩⟩
def eIf (c : DEnv → R Bool) (f g : FD) : FD := fun δ => (c δ).bind fun b => if b then f δ else g δ
theorem pd_if {c a b : Expr} {fc : DEnv → R Bool} {f g : FD} {pos : Pos} (hc : PB X c fc) (ha : PD X a f) (hb : PD X b g) : PD X (.IfExp c a b pos) (eIf fc f g) := (pe_ifExp hc ha hb).imp fun σ H Q ⟨Z, B, δ, k, E, hf, q⟩ => by
  obtain ⟨c, h1, h2⟩ := R.bind_ok hf
  refine ⟨Z, B, δ, c, E, h1, fun H1 s1 => ?_⟩
  cases c with
  | true => rw [if_pos rfl] at h2 ⊢; exact ⟨Z, B, δ, k, E.same s1, h2, fun v H' s2 r2 => q v H' (s1.trans s2) r2⟩
  | false => rw [if_neg (by decide)] at h2 ⊢; exact ⟨Z, B, δ, k, E.same s1, h2, fun v H' s2 r2 => q v H' (s1.trans s2) r2⟩

/-! calls -/
/-- a call of a known value -/
def CallD (X : Cx) (f : Value) (g : List D → R D) : Prop :=
  ∀ (pins : List (Addr × Obj)) (s : Shared) (σ : St) (H : Hp) (B : List Addr) (ds : List D) (d : D) (xs : List V) (us : List Value), Inv X pins σ H s → (∀ a ∈ B, ∃ o, H a = some o) → Vals xs us → Reps X.K B H ds xs → g ds = .ok d →
    wpAny (model X.prog X.w) X.A (call f us) (EP X pins σ fun z H' => Same H H' ∧ Rep X.K B H' d z) X.xe s
def eCall (g : List D → R D) (fs : DEnv → R (List D)) : FD := fun δ => (fs δ).bind g
theorem CallD.r {f : Value} {g : List D → R D} (h : CallD X f g) : CallR X f (fun xs H Q => ∃ B ds d, (∀ a ∈ B, ∃ o, H a = some o) ∧ Reps X.K B H ds xs ∧ g ds = .ok d ∧ ∀ z H', Same H H' → Rep X.K B H' d z → Q z H') := by
  intro pins s σ H xs us Q I rx ⟨B, ds, d, hb, hr, hg, q⟩
  exact thn (h pins s σ H B ds d xs us I hb rx hr hg) fun z s' ⟨zv, H', I', r', s1, r1⟩ => ⟨zv, H', I', r', q zv H' s1 r1⟩
theorem eCall_r {K : PySem.W.Frag} {g : List D → R D} {fs : DEnv → R (List D)} {σ : St} {H : Hp} {Q : VK} (h : tD K (eCall g fs) σ H Q) :
    tAD K fs σ H fun vs H1 => ∃ B ds d, (∀ a ∈ B, ∃ o, H1 a = some o) ∧ Reps K B H1 ds vs ∧ g ds = .ok d ∧ ∀ z H', Same H1 H' → Rep K B H' d z → Q z H' := by
  obtain ⟨Z, B, δ, d, E, hf, q⟩ := h
  obtain ⟨ds, h1, h2⟩ := R.bind_ok hf
  exact ⟨Z, B, δ, ds, E, h1, fun vs H1 s1 r1 => ⟨B, ds, d, (E.same s1).bs, r1, h2, fun z H' s2 r2 => q z H' (s1.trans s2) r2⟩⟩
theorem pd_callB {g : List D → R D} {x : Str} {id : String} {p pos : Pos} {e : Expr} {es : List Expr} {fs : DEnv → R (List D)} (hc : CallD X (.builtin id) g) (hg : Gl X x) (hm : X.mg x = none) (hv : bootBuiltins x = some (.builtin id)) (ha : PAs X (e :: es) fs) (hn : x ≠ "__name__" := by decide) (hdb : (x == ("__debug__" : Str)) = false := by decide)
    (he : starEach (e :: es) X.env = (false, eval e X.env) :: starEach es X.env := by rfl) (hpl : (backTo pos (starEach es X.env)).any (·.1) = false := by rfl) : PD X (.Call (.Name x p) (e :: es) [] pos) (eCall g fs) :=
  (pe_callB hc.r hg hm hv ha hn hdb he hpl).imp fun σ H Q h => eCall_r h
theorem pd_callTy {g : List D → R D} {x : Str} {T : String} {p pos : Pos} {e : Expr} {es : List Expr} {fs : DEnv → R (List D)} (hc : CallD X (.type T) g) (hg : Gl X x) (hm : X.mg x = none) (hv : bootBuiltins x = some (.type T)) (ha : PAs X (e :: es) fs) (hn : x ≠ "__name__" := by decide) (hdb : (x == ("__debug__" : Str)) = false := by decide)
    (he : starEach (e :: es) X.env = (false, eval e X.env) :: starEach es X.env := by rfl) (hpl : (backTo pos (starEach es X.env)).any (·.1) = false := by rfl) : PD X (.Call (.Name x p) (e :: es) [] pos) (eCall g fs) :=
  (pe_callTy hc.r hg hm hv ha hn hdb he hpl).imp fun σ H Q h => eCall_r h
/-- what a pure def promises -/
def spD (K : PySem.W.Frag) (n : Nat) (g : List D → R D) : Sp := fun vs H Q _ => vs.length = n ∧ ∃ B ds d, (∀ a ∈ B, ∃ o, H a = some o) ∧ Reps K B H ds vs ∧ g ds = .ok d ∧ ∀ z H', Same H H' → Rep K B H' d z → Q z H'
theorem pd_call {g : List D → R D} {k n : Nat} {f : Addr} {fd : FuncData} {ps : List Str} {x : Str} {p pos : Pos} {e : Expr} {es : List Expr} {fs : DEnv → R (List D)}
    (F : FnOk X.prog X.w X.K X.mg X.base CX0 k f fd ps (spD X.K n g)) (hr : Room k X.A) (hg : Gl X x) (hm : X.mg x = some (.ref f)) (hk : PySem.W.keepIn X.K (.ref f) = true) (hb : Binds X.K fd ps []) (ha : PAs X (e :: es) fs)
    (hn : ∀ δ ds, fs δ = .ok ds → ds.length = n) (hdb : (x == ("__debug__" : Str)) = false := by decide) (he : starEach (e :: es) X.env = (false, eval e X.env) :: starEach es X.env := by rfl) (hpl : (backTo pos (starEach es X.env)).any (·.1) = false := by rfl) :
    PD X (.Call (.Name x p) (e :: es) [] pos) (eCall g fs) :=
  (pe_call F hr hg hm hk hb .nil pass0 ha hdb he hpl).imp fun σ H Q ⟨Z, B, δ, d, E, hf, q⟩ => by
    obtain ⟨ds, h1, h2⟩ := R.bind_ok hf
    refine ⟨Z, B, δ, ds, E, h1, fun vs H1 s1 r1 => ?_⟩
    show spD X.K n g (vs ++ []) H1 Q E0
    rw [List.append_nil]
    exact ⟨by rw [← r1.length]; exact hn δ ds h1, B, ds, d, (E.same s1).bs, r1, h2, fun z H' s2 r2 => q z H' (s1.trans s2) r2⟩
end
end L2

end
section
set_option maxRecDepth 100000
set_option maxHeartbeats 4000000
/-! ## THE DATUM LAYER: statements, loops, comprehensions, defs (own) -/
namespace L2
open PySem PySem.Spec PyProof.Rows

inductive Out where
  | nx (δ : DEnv) | rt (d : D)
abbrev FS := DEnv → R Out

/-- from (B, H) to (B', H'): what is not built here stands still -/
structure Ev (Z B : List Addr) (H : Hp) (B' : List Addr) (H' : Hp) : Prop where
  pres : Pres B H B' H'
  zs : ∀ b o, H b = some o → b ∈ Z → H' b = some o ∧ b ∈ B'
theorem Ev.refl (Z B : List Addr) (H : Hp) (zb : ∀ a ∈ Z, a ∈ B) : Ev Z B H B H := ⟨Pres.refl B H, fun b o e z => ⟨e, zb b z⟩⟩
theorem Ev.trans {Z B B' B'' : List Addr} {H H' H'' : Hp} (a : Ev Z B H B' H') (b : Ev Z B' H' B'' H'') : Ev Z B H B'' H'' :=
  ⟨a.pres.trans b.pres, fun c o e z => let ⟨e1, _⟩ := a.zs c o e z; b.zs c o e1 z⟩
theorem Ev.same {Z B : List Addr} {H H' : Hp} (zb : ∀ a ∈ Z, a ∈ B) (s : Same H H') : Ev Z B H B H' := ⟨Pres.same s, fun b o e z => ⟨s b o e, zb b z⟩⟩

/-- what is wanted behind an outcome -/
def OutOk (K : PySem.W.Frag) (Z B : List Addr) (H : Hp) (D : Ends) : Out → Prop
  | .nx δ' => ∀ σ' B' H', Ev Z B H B' H' → EnvR K Z B' H' σ' δ' → D.nx σ' H'
  | .rt d => ∀ v B' H', Ev Z B H B' H' → (∀ a ∈ Z, a ∈ B') → Rep K B' H' d v → D.rt v H'
theorem OutOk.ev {K : PySem.W.Frag} {Z B B1 : List Addr} {H H1 : Hp} {D : Ends} {o : Out} (q : OutOk K Z B H D o) (ev : Ev Z B H B1 H1) : OutOk K Z B1 H1 D o := by
  cases o with
  | nx δ' => exact fun σ' B' H' ev' E' => q σ' B' H' (ev.trans ev') E'
  | rt d => exact fun v B' H' ev' z r => q v B' H' (ev.trans ev') z r
/-- a statement worth F -/
def sD (K : PySem.W.Frag) (F : FS) : TS := fun D σ H => ∃ Z B δ o, EnvR K Z B H σ δ ∧ F δ = .ok o ∧ OutOk K Z B H D o
abbrev PDs (X : Cx) (st : Stmt) (F : FS) : Prop := PS X st (sD X.K F)
abbrev PDss (X : Cx) (st : List Stmt) (F : FS) : Prop := PSs X st (sD X.K F)

section
variable {X : Cx}
def sNil : FS := fun δ => .ok (.nx δ)
def sSeq (F G : FS) : FS := fun δ => (F δ).bind fun o => match o with | .nx δ' => G δ' | .rt d => .ok (.rt d)
theorem pds_nil : PDss X [] sNil := pss_nil.imp fun D σ H ⟨Z, B, δ, o, E, hf, q⟩ => by
  cases hf
  exact q σ B H (Ev.refl Z B H E.zb) E
theorem sSeq_r {K : PySem.W.Frag} {F G : FS} {D : Ends} {σ : St} {H : Hp} (h : sD K (sSeq F G) D σ H) : tSeq (sD K F) (sD K G) D σ H := by
  obtain ⟨Z, B, δ, o, E, hf, q⟩ := h
  obtain ⟨o1, h1, h2⟩ := R.bind_ok hf
  refine ⟨Z, B, δ, o1, E, h1, ?_⟩
  cases o1 with
  | nx δ1 =>
    intro σ1 B1 H1 ev E1
    refine ⟨Z, B1, δ1, o, E1, h2, ?_⟩
    cases o with
    | nx δ2 => exact fun σ' B' H' ev' E' => q σ' B' H' (ev.trans ev') E'
    | rt d => exact fun v B' H' ev' z r => q v B' H' (ev.trans ev') z r
  | rt d =>
    cases h2
    exact q
theorem pds_cons {st : Stmt} {rest : List Stmt} {F G : FS} (h1 : PDs X st F) (h2 : PDss X rest G) : PDss X (st :: rest) (sSeq F G) := (pss_cons h1 h2).imp fun D σ H h => sSeq_r h
theorem pds_one {st : Stmt} {F : FS} (h1 : PDs X st F) : PDss X [st] F := pss_one h1

theorem EnvR.set {K : PySem.W.Frag} {Z B : List Addr} {H : Hp} {σ : St} {δ : DEnv} (E : EnvR K Z B H σ δ) {i : Nat} {d : D} {v : V} (hi : i < σ.length) (r : Rep K B H d v) : EnvR K Z B H (σ.set i (some v)) (δ.set i (.val d)) where
  len := by rw [List.length_set, List.length_set]; exact E.len
  bs := E.bs
  zb := E.zb
  val := fun j d' e => by
    by_cases h : i = j
    · subst h
      rw [List.getElem?_set_self (by rw [E.len]; exact hi)] at e
      cases e
      exact ⟨v, List.getElem?_set_self hi, r⟩
    · rw [List.getElem?_set_ne h] at e ⊢
      exact E.val j d' e
  bld := fun j ds e => by
    by_cases h : i = j
    · subst h
      rw [List.getElem?_set_self (by rw [E.len]; exact hi)] at e
      cases e
    · rw [List.getElem?_set_ne h] at e ⊢
      exact E.bld j ds e
  dis := fun j k a ds es e1 e2 e3 e4 => by
    by_cases h : i = j
    · subst h
      rw [List.getElem?_set_self (by rw [E.len]; exact hi)] at e1
      cases e1
    · by_cases h' : i = k
      · subst h'
        rw [List.getElem?_set_self (by rw [E.len]; exact hi)] at e2
        cases e2
      · rw [List.getElem?_set_ne h] at e1 e3
        rw [List.getElem?_set_ne h'] at e2 e4
        exact E.dis j k a ds es e1 e2 e3 e4
theorem EnvR.setB {K : PySem.W.Frag} {Z B : List Addr} {H : Hp} {σ : St} {δ : DEnv} (E : EnvR K Z B H σ δ) {i : Nat} {ds : List D} {a : Addr} {xs : List V} (hi : i < σ.length) (hB : a ∈ B) (hZ : a ∉ Z) (hH : H a = some (.lst xs)) (r : Reps K B H ds xs)
    (new : ∀ j es, j ≠ i → δ[j]? = some (.bld es) → σ[j]? ≠ some (some (.ref a))) : EnvR K Z B H (σ.set i (some (.ref a))) (δ.set i (.bld ds)) where
  len := by rw [List.length_set, List.length_set]; exact E.len
  bs := E.bs
  zb := E.zb
  val := fun j d' e => by
    by_cases h : i = j
    · subst h
      rw [List.getElem?_set_self (by rw [E.len]; exact hi)] at e
      cases e
    · rw [List.getElem?_set_ne h] at e ⊢
      exact E.val j d' e
  bld := fun j es e => by
    by_cases h : i = j
    · subst h
      rw [List.getElem?_set_self (by rw [E.len]; exact hi)] at e
      cases e
      exact ⟨a, xs, List.getElem?_set_self hi, hB, hZ, hH, r⟩
    · rw [List.getElem?_set_ne h] at e ⊢
      exact E.bld j es e
  dis := fun j k b ds1 es1 e1 e2 e3 e4 => by
    by_cases h : i = j
    · subst h
      by_cases h' : i = k
      · exact h'
      · rw [List.getElem?_set_self hi] at e3
        cases e3
        rw [List.getElem?_set_ne h'] at e2 e4
        exact absurd e4 (new k es1 (Ne.symm h') e2)
    · by_cases h' : i = k
      · subst h'
        rw [List.getElem?_set_self hi] at e4
        cases e4
        rw [List.getElem?_set_ne h] at e1 e3
        exact absurd e3 (new j ds1 (Ne.symm h) e1)
      · rw [List.getElem?_set_ne h] at e1 e3
        rw [List.getElem?_set_ne h'] at e2 e4
        exact E.dis j k b ds1 es1 e1 e2 e3 e4

/-- name = e -/
def sSet (i : Nat) (f : FD) : FS := fun δ => (f δ).bind fun d => R.when (decide (i < δ.length)) (.ok (.nx (δ.set i (.val d))))
theorem sSet_r {K : PySem.W.Frag} {i : Nat} {f : FD} {D : Ends} {σ : St} {H : Hp} (h : sD K (sSet i f) D σ H) : tAsg (tD K f) (gName i) D σ H := by
  obtain ⟨Z, B, δ, o, E, hf, q⟩ := h
  obtain ⟨d, h1, h2⟩ := R.bind_ok hf
  obtain ⟨hi, h3⟩ := R.when_ok h2
  cases h3
  refine ⟨Z, B, δ, d, E, h1, fun v H1 s1 r1 => ?_⟩
  exact q _ B H1 (Ev.same E.zb s1) ((E.same s1).set (by rw [← E.len]; exact of_decide_eq_true hi) r1)
theorem pds_set {i : Nat} {x : Str} {e : Expr} {f : FD} {pos pos' : Pos} (hN : X.N.Nodup) (hi : X.N[i]? = some x) (hx : Loc X.env.scope x) (he : PD X e f) (hs : swapsWith e (some (.Name x pos')) pos.line X.env = pure false := by rfl) (hf : X.fn x = true ∨ X.env.scope.names.lookup x = some .local := by first | exact .inl rfl | exact .inr rfl | assumption) :
    PDs X (.Assign [.Name x pos'] e pos) (sSet i f) := (ps_set hN hi hx he hs hf).imp fun D σ H h => sSet_r h
/-- name = e, a new list that will be built on -/
def sBld (i : Nat) (f : DEnv → R (List D)) : FS := fun δ => (f δ).bind fun ds => R.when (decide (i < δ.length)) (.ok (.nx (δ.set i (.bld ds))))
theorem sBld_r {K : PySem.W.Frag} {i : Nat} {f : DEnv → R (List D)} {D : Ends} {σ : St} {H : Hp} (h : sD K (sBld i f) D σ H) : tAsg (tN K f) (gName i) D σ H := by
  obtain ⟨Z, B, δ, o, E, hf, q⟩ := h
  obtain ⟨ds, h1, h2⟩ := R.bind_ok hf
  obtain ⟨hi, h3⟩ := R.when_ok h2
  cases h3
  refine ⟨Z, B, δ, ds, E, h1, fun a xs H1 s1 n e r => ?_⟩
  have E1 := E.same s1
  have aB : a ∉ B := fun ha => by obtain ⟨o, ho⟩ := E.bs a ha; rw [n] at ho; cases ho
  have nZ : a ∉ Z := fun ha => aB (E.zb a ha)
  have p0 : Pres B H (a :: B) H1 := fun b o e' nb => ⟨s1 b o e', fun hb => by
    rcases List.mem_cons.mp hb with z | z
    · subst z; rw [n] at e'; cases e'
    · exact nb z⟩
  have E2 : EnvR K Z (a :: B) H1 σ δ := {
    len := E.len
    bs := fun b hb => by
      rcases List.mem_cons.mp hb with z | z
      · subst z; exact ⟨_, e⟩
      · exact E1.bs b z
    zb := fun b hb => List.mem_cons_of_mem _ (E.zb b hb)
    val := fun j d e => let ⟨v, q1, q2⟩ := E.val j d e; ⟨v, q1, q2.pres p0⟩
    bld := fun j es e => let ⟨b, ys, q1, q2, q3, q4, q5⟩ := E.bld j es e; ⟨b, ys, q1, List.mem_cons_of_mem _ q2, q3, s1 b _ q4, q5.pres p0⟩
    dis := E.dis }
  refine q _ (a :: B) H1 ⟨p0, fun b o e' hb => ⟨s1 b o e', List.mem_cons_of_mem _ (E.zb b hb)⟩⟩ (E2.setB (by rw [← E.len]; exact of_decide_eq_true hi) List.mem_cons_self nZ e r fun j es hj ej hσ => ?_)
  obtain ⟨b, ys, q1, _, _, q4, _⟩ := E.bld j es ej
  rw [hσ] at q1
  cases q1
  rw [n] at q4; cases q4
theorem pds_bld {i : Nat} {x : Str} {e : Expr} {f : DEnv → R (List D)} {pos pos' : Pos} (hN : X.N.Nodup) (hi : X.N[i]? = some x) (hx : Loc X.env.scope x) (he : PN X e f) (hs : swapsWith e (some (.Name x pos')) pos.line X.env = pure false := by rfl) (hf : X.fn x = true ∨ X.env.scope.names.lookup x = some .local := by first | exact .inl rfl | exact .inr rfl | assumption) :
    PDs X (.Assign [.Name x pos'] e pos) (sBld i f) := (ps_set hN hi hx he hs hf).imp fun D σ H h => sBld_r h

/-- a list that is built: one more, some more -/
theorem EnvR.grow {K : PySem.W.Frag} {Z B : List Addr} {H : Hp} {σ : St} {δ : DEnv} (E : EnvR K Z B H σ δ) {i : Nat} {ds es : List D} {a : Addr} {xs ys : List V} (hd : δ[i]? = some (.bld ds)) (hσ : σ[i]? = some (some (.ref a))) (hB : a ∈ B) (hH : H a = some (.lst xs)) (r : Reps K B H es ys) :
    EnvR K Z B (upd H a (.lst ys)) σ (δ.set i (.bld es)) ∧ Pres B H B (upd H a (.lst ys)) := by
  have p : Pres B H B (upd H a (.lst ys)) := fun b o e nb => ⟨by rw [upd_ne (fun (z : b = a) => nb (by rw [z]; exact hB))]; exact e, nb⟩
  have hi : i < δ.length := (List.getElem?_eq_some_iff.mp hd).1
  refine ⟨{
    len := by rw [List.length_set]; exact E.len
    bs := fun b hb => by
      by_cases z : b = a
      · subst z; exact ⟨_, upd_same⟩
      · rw [upd_ne z]; exact E.bs b hb
    zb := E.zb
    val := fun j d e => by
      by_cases h : i = j
      · subst h; rw [List.getElem?_set_self hi] at e; cases e
      · rw [List.getElem?_set_ne h] at e
        obtain ⟨v, q1, q2⟩ := E.val j d e
        exact ⟨v, q1, q2.pres p⟩
    bld := fun j fs e => by
      by_cases h : i = j
      · subst h; rw [List.getElem?_set_self hi] at e; cases e
        obtain ⟨b, zs, q1, q2, q3, _, _⟩ := E.bld i ds hd
        rw [hσ] at q1; cases q1
        exact ⟨a, ys, hσ, hB, q3, upd_same, r.pres p⟩
      · rw [List.getElem?_set_ne h] at e
        obtain ⟨b, zs, q1, q2, q3, q4, q5⟩ := E.bld j fs e
        have ne : b ≠ a := fun z => by subst z; exact h (E.dis i j b ds fs hd e hσ q1)
        exact ⟨b, zs, q1, q2, q3, by rw [upd_ne ne]; exact q4, q5.pres p⟩
    dis := fun j k b ds1 es1 e1 e2 e3 e4 => by
      have f1 : ∃ fs, δ[j]? = some (.bld fs) := by
        by_cases h : i = j
        · subst h; exact ⟨ds, hd⟩
        · rw [List.getElem?_set_ne h] at e1; exact ⟨_, e1⟩
      have f2 : ∃ fs, δ[k]? = some (.bld fs) := by
        by_cases h : i = k
        · subst h; exact ⟨ds, hd⟩
        · rw [List.getElem?_set_ne h] at e2; exact ⟨_, e2⟩
      obtain ⟨_, f1⟩ := f1
      obtain ⟨_, f2⟩ := f2
      exact E.dis j k b _ _ f1 f2 e3 e4 }, p⟩
theorem Ev.grow {Z B : List Addr} {H : Hp} {a : Addr} {o : HO} (zb : ∀ a ∈ Z, a ∈ B) (hZ : a ∉ Z) (p : Pres B H B (upd H a o)) : Ev Z B H B (upd H a o) :=
  ⟨p, fun b u e hb => ⟨by rw [upd_ne (fun (z : b = a) => hZ (by rw [← z]; exact hb))]; exact e, zb b hb⟩⟩
def bldAt (δ : DEnv) (i : Nat) : R (List D) := match δ[i]? with | some (.bld ds) => .ok ds | _ => .no
theorem bldAt_ok {δ : DEnv} {i : Nat} {ds : List D} (h : bldAt δ i = .ok ds) : δ[i]? = some (.bld ds) := by
  unfold bldAt at h
  split at h
  · rename_i q; cases h; exact q
  · cases h
/-- x.append(e) -/
def sApp (i : Nat) (f : FD) : FS := fun δ => (f δ).bind fun d => (bldAt δ i).bind fun ds => R.when (decide (ds.length < sizeLine)) (.ok (.nx (δ.set i (.bld (ds ++ [d])))))
theorem pds_app {i : Nat} {x : Str} {e : Expr} {f : FD} {npos apos cpos pos : Pos} (hN : X.N[i]? = some x) (hv : Vis X.env.scope x) (he : PD X e f)
    (hd : (x == ("__debug__" : Str)) = false := by decide) (hcd : (x == ("__classdict__" : Str)) = false := by decide)
    (hs : starEach [e] X.env = (false, eval e X.env) :: starEach [] X.env := by rfl) (hline : (apos.endLine == cpos.line) = true := by rfl)
    (hfew : ((backTo cpos (starEach [e] X.env)).all (fun x => !x.1) && (backToKw cpos (keywordEach [] X.env)).all (fun x => x.1.isSome)
      && decide (([e] : List Expr).length + ([] : List Keyword).length + (if ([] : List Keyword).isEmpty then 0 else 1) < 30)) = true := by rfl)
    (hsw : swapsWith (.Call (.Attribute (.Name x npos) "append" apos) [e] [] cpos) none pos.line X.env = pure false := by rfl)
    (hbase : attributeBase (.Name x npos) "append" X.env (eval (.Name x npos) X.env) = eval (.Name x npos) X.env := by rfl) :
    PDs X (.Expr (.Call (.Attribute (.Name x npos) "append" apos) [e] [] cpos) pos) (sApp i f) := by
  refine (ps_expr (pe_bm (X := X) PySem.F.plainAttrs_list PySem.F.slot_list_append PySem.F.type_list_append mt_append (pe_var hN hv hd hcd) (pa_cons he pa_nil hs) hbase hfew hline hs) hsw).imp fun D σ H ⟨Z, B, δ, o, E, hf, q⟩ => ?_
  obtain ⟨d, h1, h2⟩ := R.bind_ok hf
  obtain ⟨ds, h3, h4⟩ := R.bind_ok h2
  obtain ⟨hl, h5⟩ := R.when_ok h4
  cases h5
  have hb := bldAt_ok h3
  obtain ⟨a, xs, q1, q2, q3, q4, q5⟩ := E.bld i ds hb
  refine ⟨.ref a, q1, .inl ⟨rfl, xs, SqL.of q4⟩, ⟨Z, B, δ, d, E, h1, fun v H1 s1 r1 => ?_⟩⟩
  have E1 := E.same s1
  refine ⟨a, xs, v, rfl, rfl, s1 a _ q4, by rw [← q5.length]; exact of_decide_eq_true hl, ?_⟩
  obtain ⟨E2, p2⟩ := E1.grow (es := ds ++ [d]) (ys := xs ++ [v]) hb q1 q2 (s1 a _ q4) ((q5.same s1).append (Reps.cons r1 Reps.nil))
  exact q σ B _ ((Ev.same E.zb s1).trans (Ev.grow E.zb q3 p2)) E2
/-- x.extend(e), e a new list -/
def sExt (i : Nat) (f : DEnv → R (List D)) : FS := fun δ => (f δ).bind fun es => (bldAt δ i).bind fun ds => R.when (decide (ds.length + es.length ≤ sizeLine)) (.ok (.nx (δ.set i (.bld (ds ++ es)))))
/-- a list is built no more -/
def frz (i : Nat) (δ : DEnv) : DEnv := match δ[i]? with | some (.bld ds) => δ.set i (.val (.lst ds)) | _ => δ
theorem EnvR.frz {K : PySem.W.Frag} {Z B : List Addr} {H : Hp} {σ : St} {δ : DEnv} (E : EnvR K Z B H σ δ) (i : Nat) : ∃ B', Ev Z B H B' H ∧ EnvR K Z B' H σ (frz i δ) := by
  unfold L2.frz
  cases hd : δ[i]? with
  | none => exact ⟨B, Ev.refl Z B H E.zb, E⟩
  | some x =>
    cases x with
    | un => exact ⟨B, Ev.refl Z B H E.zb, E⟩
    | val d => exact ⟨B, Ev.refl Z B H E.zb, E⟩
    | bld ds =>
      obtain ⟨a, xs, q1, q2, q3, q4, q5⟩ := E.bld i ds hd
      have hi : i < δ.length := (List.getElem?_eq_some_iff.mp hd).1
      have p : Pres B H (B.filter fun b => decide (b ≠ a)) H := fun b o e nb => ⟨e, fun hb => nb (List.mem_filter.mp hb).1⟩
      have zb : ∀ b ∈ Z, b ∈ B.filter fun b => decide (b ≠ a) := fun b hb => List.mem_filter.mpr ⟨E.zb b hb, decide_eq_true fun z => q3 (z ▸ hb)⟩
      refine ⟨B.filter fun b => decide (b ≠ a), ⟨p, fun b o e hb => ⟨e, zb b hb⟩⟩, {
        len := by rw [List.length_set]; exact E.len
        bs := fun b hb => E.bs b (List.mem_filter.mp hb).1
        zb := zb
        val := fun j d e => by
          by_cases h : i = j
          · subst h; rw [List.getElem?_set_self hi] at e; cases e
            refine ⟨.ref a, q1, ?_⟩
            unfold Rep
            exact ⟨a, xs, rfl, .inl ⟨fun hb => by simpa using (List.mem_filter.mp hb).2, .inl q4⟩, q5.pres p⟩
          · rw [List.getElem?_set_ne h] at e
            obtain ⟨v, z1, z2⟩ := E.val j d e
            exact ⟨v, z1, z2.pres p⟩
        bld := fun j fs e => by
          by_cases h : i = j
          · subst h; rw [List.getElem?_set_self hi] at e; cases e
          · rw [List.getElem?_set_ne h] at e
            obtain ⟨b, zs, z1, z2, z3, z4, z5⟩ := E.bld j fs e
            exact ⟨b, zs, z1, List.mem_filter.mpr ⟨z2, decide_eq_true fun z => by subst z; exact h (E.dis i j b ds fs hd e q1 z1)⟩, z3, z4, z5.pres p⟩
        dis := fun j k b ds1 es1 e1 e2 e3 e4 => by
          by_cases h : i = j
          · subst h; rw [List.getElem?_set_self hi] at e1; cases e1
          · by_cases h' : i = k
            · subst h'; rw [List.getElem?_set_self hi] at e2; cases e2
            · rw [List.getElem?_set_ne h] at e1
              rw [List.getElem?_set_ne h'] at e2
              exact E.dis j k b ds1 es1 e1 e2 e3 e4 }⟩
def sFrz (i : Nat) (F : FS) : FS := fun δ => F (frz i δ)
theorem sFrz_r {K : PySem.W.Frag} {i : Nat} {F : FS} {D : Ends} {σ : St} {H : Hp} (h : sD K (sFrz i F) D σ H) : sD K F D σ H := by
  obtain ⟨Z, B, δ, o, E, hf, q⟩ := h
  obtain ⟨B1, ev, E1⟩ := E.frz i
  refine ⟨Z, B1, L2.frz i δ, o, E1, hf, ?_⟩
  cases o with
  | nx δ' => exact fun σ' B' H' ev' E' => q σ' B' H' (ev.trans ev') E'
  | rt d => exact fun v B' H' ev' z r => q v B' H' (ev.trans ev') z r
theorem pds_frz (i : Nat) {sts : List Stmt} {F : FS} (h : PDss X sts F) : PDss X sts (sFrz i F) := h.imp fun D σ H h => sFrz_r h
/-- e, dropped; return e; if -/
def sRet (f : FD) : FS := fun δ => (f δ).bind fun d => .ok (.rt d)
theorem pds_ret {e : Expr} {f : FD} {pos : Pos} (he : PD X e f) : PDs X (.Return (some e) pos) (sRet f) := (ps_ret he).imp fun D σ H ⟨Z, B, δ, o, E, hf, q⟩ => by
  obtain ⟨d, h1, h2⟩ := R.bind_ok hf
  cases h2
  exact ⟨Z, B, δ, d, E, h1, fun v H1 s1 r1 => q v B H1 (Ev.same E.zb s1) E.zb r1⟩
def sIf (c : DEnv → R Bool) (F G : FS) : FS := fun δ => (c δ).bind fun b => if b then F δ else G δ
theorem pds_if {c : Expr} {a b : List Stmt} {fc : DEnv → R Bool} {F G : FS} {pos : Pos} (hc : PB X c fc) (ha : PDss X a F) (hb : PDss X b G) : PDs X (.If c a b pos) (sIf fc F G) := (ps_if hc ha hb).imp fun D σ H ⟨Z, B, δ, o, E, hf, q⟩ => by
  obtain ⟨k, h1, h2⟩ := R.bind_ok hf
  refine ⟨Z, B, δ, k, E, h1, fun H1 s1 => ?_⟩
  have q' := q.ev (Ev.same E.zb s1)
  cases k with
  | true => rw [if_pos rfl] at h2; exact iteT ⟨Z, B, δ, o, E.same s1, h2, q'⟩
  | false => rw [if_neg (by decide)] at h2; exact iteF ⟨Z, B, δ, o, E.same s1, h2, q'⟩
/-! targets -/
abbrev FT := D → DEnv → R DEnv
def gD (K : PySem.W.Frag) (t : FT) : TG := fun v σ H Q => ∃ Z B δ d δ', EnvR K Z B H σ δ ∧ Rep K B H d v ∧ t d δ = .ok δ' ∧ ∀ σ' H', Same H H' → EnvR K Z B H' σ' δ' → σ'.length = σ.length → Q σ' H'
abbrev PTg (X : Cx) (tg : Expr) (t : FT) : Prop := PG X tg (gD X.K t)
def gNameD (i : Nat) : FT := fun d δ => R.when (decide (i < δ.length)) (.ok (δ.set i (.val d)))
theorem ptg_name {i : Nat} {x : Str} {pos : Pos} (hN : X.N.Nodup) (hi : X.N[i]? = some x) (hx : Loc X.env.scope x) (hf : X.fn x = true ∨ X.env.scope.names.lookup x = some .local := by first | exact .inl rfl | exact .inr rfl | assumption) : PTg X (.Name x pos) (gNameD i) :=
  (pg_name hN hi hx hf).imp fun v σ H Q ⟨Z, B, δ, d, δ', E, r, ht, q⟩ => by
    obtain ⟨hi, h⟩ := R.when_ok ht
    cases h
    exact q _ H (Same.refl H) (E.set (by rw [← E.len]; exact of_decide_eq_true hi) r) (List.length_set ..)
abbrev FTs := List D → DEnv → R DEnv
def gDs (K : PySem.W.Frag) (t : FTs) : TGs := fun vs σ H Q => ∃ Z B δ ds δ', EnvR K Z B H σ δ ∧ Reps K B H ds vs ∧ t ds δ = .ok δ' ∧ ∀ σ' H', Same H H' → EnvR K Z B H' σ' δ' → σ'.length = σ.length → Q σ' H'
abbrev PTgs (X : Cx) (ts : List Expr) (t : FTs) : Prop := PGs X ts (gDs X.K t)
theorem PGs.imp {X : Cx} {e : List Expr} {t t' : TGs} (h : PGs X e t) (w : ∀ v σ H Q, t' v σ H Q → t v σ H Q) : PGs X e t' := fun pins s σ H v u Q I r hq => h pins s σ H v u Q I r (w v σ H Q hq)
def gNilD : FTs := fun ds δ => match ds with | [] => .ok δ | _ => .no
def gConsD (t : FT) (u : FTs) : FTs := fun ds δ => match ds with | d :: r => (t d δ).bind fun δ' => u r δ' | [] => .no
theorem ptgs_nil : PTgs X [] gNilD := pgs_nil.imp fun vs σ H Q ⟨Z, B, δ, ds, δ', E, r, ht, q⟩ => by
  cases ds with
  | nil => unfold Reps at r; cases ht; exact ⟨r, q σ H (Same.refl H) E rfl⟩
  | cons => cases ht
theorem ptgs_cons {e : Expr} {es : List Expr} {t : FT} {u : FTs} (h1 : PTg X e t) (h2 : PTgs X es u) (hs : (assignEach (e :: es) X.env).map (·.2) = assign e X.env :: (assignEach es X.env).map (·.2) := by rfl) : PTgs X (e :: es) (gConsD t u) :=
  (pgs_cons h1 h2 hs).imp fun vs σ H Q ⟨Z, B, δ, ds, δ', E, r, ht, q⟩ => by
    cases ds with
    | nil => cases ht
    | cons d ds =>
      obtain ⟨x, xs, rfl, r1, r2⟩ := r.uncons
      obtain ⟨δ1, h1, h2⟩ := R.bind_ok ht
      exact ⟨x, xs, rfl, Z, B, δ, d, δ1, E, r1, h1, fun σ1 H1 s1 E1 l1 => ⟨Z, B, δ1, ds, δ', E1, r2.same s1, h2, fun σ2 H2 s2 E2 l2 => q σ2 H2 (s1.trans s2) E2 (l2.trans l1)⟩⟩
def gTupD (n : Nat) (t : FTs) : FT := fun d δ => match d with | .tup ds => R.when (decide (ds.length = n)) (t ds δ) | _ => .no
theorem ptg_tup {es : List Expr} {k : Nat} {t : FTs} {n : Nat} {pos : Pos} (hc : X.calm = true) (h : PTgs X es t) (hn : (assignEach es X.env).length = n := by rfl) (hst : (assignEach es X.env).findIdx? (·.1) = none := by rfl) : PTg X (.Tuple es k pos) (gTupD n t) :=
  (pg_tup hc h hn hst).imp fun v σ H Q ⟨Z, B, δ, d, δ', E, r, ht, q⟩ => by
    cases d with
    | tup ds =>
      unfold Rep at r
      obtain ⟨a, xs, rfl, l, r⟩ := r
      obtain ⟨hl, h⟩ := R.when_ok ht
      exact ⟨a, xs, rfl, l.sq, by rw [← r.length]; exact of_decide_eq_true hl, Z, B, δ, ds, δ', E, r, h, q⟩
    | _ => cases ht
/-- target = e -/
def sAsg (f : FD) (t : FT) : FS := fun δ => (f δ).bind fun d => (t d δ).bind fun δ' => .ok (.nx δ')
/-! what is walked -/
/-- J yields what shows ds, as long as what is not built stands still -/
def ItRep (K : PySem.W.Frag) (B : List Addr) (H : Hp) (J : It) (ds : List D) : Prop := ∀ B' H', Pres B H B' H' → (∀ (i : Nat) (d : D), ds[i]? = some d → J.go i H' ∧ ∀ x H'', J.yld i H' x H'' → (∀ a ∈ B', ∃ o, H' a = some o) → Same H' H'' ∧ Rep K B' H'' d x) ∧ J.stop ds.length H'
def iD (K : PySem.W.Frag) (f : DEnv → R (List D)) : TI := fun σ H R => ∃ Z B δ ds, EnvR K Z B H σ δ ∧ f δ = .ok ds ∧ ∀ J H1, Same H H1 → ItRep K B H1 J ds → R J H1
abbrev PIt (X : Cx) (tg e : Expr) (f : DEnv → R (List D)) : Prop := PI X tg e (iD X.K f)
def itSeq (f : FD) : DEnv → R (List D) := fun δ => (f δ).bind fun d => match d with | .lst ds => .ok ds | .tup ds => .ok ds | _ => .no
theorem pit_seq {tg e : Expr} {f : FD} (h : PD X e f) : PIt X tg e (itSeq f) := by
  intro pins s σ H RR I ⟨Z, B, δ, ds, E, hf, q⟩
  obtain ⟨d, h1, h2⟩ := R.bind_ok hf
  refine thn (h pins s σ H (fun v H1 => Same H H1 ∧ Rep X.K B H1 d v) I ⟨Z, B, δ, d, E, h1, fun v H1 s1 r1 => ⟨s1, r1⟩⟩) fun v s1 ⟨x, H1, I1, r1, ss, rr⟩ => ?_
  cases d with
  | lst es =>
    cases h2
    unfold Rep at rr
    obtain ⟨a, xs, rfl, l, rr⟩ := rr
    cases r1
    obtain ⟨its, rv, p, hz⟩ := I1.list l.sq
    refine wpAny_pyIter_list p.isList ?_
    refine ⟨s1.heap.objs.size, [s1.heap.objs.size], _, _, H1, rfl, I1.kept (t' := s1.toks) fun b o e => Heap.get?_push_of_some _ e, turn_list a _, ⟨_, Heap.get?_push_size _ rfl, rfl, rfl⟩, fun b hb => ?_, q _ H1 ss fun B' H' pr => ?_⟩
    · have e : b = s1.heap.objs.size := by simpa using hb
      subst e
      exact I1.fpOk (Nat.le_refl _) (I1.hok.fresh (Nat.le_refl _))
    · have l' : LsF X.K B' H' a xs := l.pres pr
      have rr' := rr.pres pr
      refine ⟨fun i d hd => ?_, ⟨xs, l'.sq, by rw [rr.length]; exact Nat.le_refl _⟩⟩
      obtain ⟨x, hx, rx⟩ := rr'.get hd
      exact ⟨⟨xs, x, l'.sq, hx⟩, fun y H'' ⟨e1, e2⟩ _ => by
        subst e1
        have := e2 xs l'.sq
        rw [hx] at this
        cases this
        exact ⟨Same.refl _, rx⟩⟩
  | tup es =>
    cases h2
    unfold Rep at rr
    obtain ⟨a, xs, rfl, l, rr⟩ := rr
    cases r1
    obtain ⟨its, rv, p, hz⟩ := I1.tuple l.sq
    refine wpAny_pyIter_tuple (show s1.heap.IsTuple a its.toArray from p) ?_
    refine ⟨s1.heap.objs.size, [s1.heap.objs.size], _, _, H1, rfl, I1.kept (t' := s1.toks) fun b o e => Heap.get?_push_of_some _ e, turn_tuple a _, ⟨_, Heap.get?_push_size _ rfl, rfl, rfl⟩, fun b hb => ?_, q _ H1 ss fun B' H' pr => ?_⟩
    · have e : b = s1.heap.objs.size := by simpa using hb
      subst e
      exact I1.fpOk (Nat.le_refl _) (I1.hok.fresh (Nat.le_refl _))
    · have l' : TpF X.K B' H' a xs := l.elim (fun z => .inl ⟨(pr.rd z.2 z.1).2, (pr.rd z.2 z.1).1⟩) .inr
      have rr' := rr.pres pr
      refine ⟨fun i d hd => ?_, ⟨xs, l'.sq, by rw [rr.length]; exact Nat.le_refl _⟩⟩
      obtain ⟨x, hx, rx⟩ := rr'.get hd
      exact ⟨⟨xs, x, l'.sq, hx⟩, fun y H'' ⟨e1, e2⟩ _ => by
        subst e1
        have := e2 xs l'.sq
        rw [hx] at this
        cases this
        exact ⟨Same.refl _, rx⟩⟩
  | _ => cases h2
def rngD (lo : Int) (n : Nat) : List D := (List.range n).map fun (i : Nat) => D.int (lo + i)
theorem rng_it {K : PySem.W.Frag} {B : List Addr} {H : Hp} (lo : Int) (n : Nat) : ItRep K B H (Itr lo n) (rngD lo n) := fun B' H' _ => by
  refine ⟨fun i d hd => ?_, ?_⟩
  · unfold rngD at hd
    rw [List.getElem?_map] at hd
    cases e : (List.range n)[i]? with
    | none => rw [e] at hd; cases hd
    | some j =>
      rw [e] at hd
      cases hd
      obtain ⟨hi, ej⟩ := List.getElem?_eq_some_iff.mp e
      rw [List.getElem_range] at ej
      subst ej
      rw [List.length_range] at hi
      exact ⟨hi, fun x H'' ⟨e1, e2⟩ _ => by subst e1 e2; exact ⟨Same.refl _, by unfold Rep; rfl⟩⟩
  · show n ≤ (rngD lo n).length
    unfold rngD
    rw [List.length_map, List.length_range]
    exact Nat.le_refl _
def itRng1 (f : FD) : DEnv → R (List D) := fun δ => (f δ).bind fun d => match d with | .int j => R.when (decide (-(2 ^ 62) ≤ j ∧ j < 2 ^ 62)) (.ok (rngD 0 j.toNat)) | _ => .no
theorem pit_range1 {tg a : Expr} {f : FD} {p pos : Pos} (h : PD X a f) (hg : Gl X "range") (hm : X.mg "range" = none) (hs : starEach [a] X.env = [(false, eval a X.env)] := by rfl) : PIt X tg (.Call (.Name "range" p) [a] [] pos) (itRng1 f) :=
  (pi_range1 hg hm (pa_cons h pa_nil hs) hs).imp fun σ H RR ⟨Z, B, δ, ds, E, hf, q⟩ => by
    obtain ⟨d, h1, h2⟩ := R.bind_ok hf
    cases d with
    | int j =>
      obtain ⟨hb, h3⟩ := R.when_ok h2
      cases h3
      have hb := of_decide_eq_true hb
      refine ⟨Z, B, δ, .int j, E, h1, fun v H1 s1 r1 => ⟨j, ?_, hb.1, hb.2, q _ H1 s1 (rng_it 0 _)⟩⟩
      unfold Rep at r1
      rw [r1]
    | _ => cases h2
def itRng2 (f g : FD) : DEnv → R (List D) := fun δ => (f δ).bind fun d => (g δ).bind fun e => match d, e with
  | .int i, .int j => R.when (decide (-(2 ^ 62) ≤ i ∧ i < 2 ^ 62 ∧ -(2 ^ 62) ≤ j ∧ j < 2 ^ 62)) (.ok (rngD i (j - i).toNat)) | _, _ => .no
/-! for -/
def loopD (t : FT) (body : FS) : List D → FS
  | [], δ => .ok (.nx δ)
  | d :: ds, δ => (t d δ).bind fun δ1 => (body δ1).bind fun o => match o with | .nx δ2 => loopD t body ds δ2 | .rt r => .ok (.rt r)
def sFor (it : DEnv → R (List D)) (t : FT) (body : FS) : FS := fun δ => (it δ).bind fun ds => loopD t body ds δ
theorem pds_for {tg iter : Expr} {body : List Stmt} {it : DEnv → R (List D)} {t : FT} {F : FS} {pos : Pos} (hp : PassesOwn (model X.prog X.w) X.A X.env X.xe) (hc : X.calm = true) (hi : PIt X tg iter it) (hg : PTg X tg t) (hb : PDss X body F)
    (hs : ∀ x, foldedSetIterable iter X.env x = pure x := by intro _; rfl) : PDs X (.For tg iter body [] pos) (sFor it t F) := (ps_for hp hc hi hg hb hs).imp fun D σ H ⟨Z, B, δ, o, E, hf, q⟩ => by
  obtain ⟨ds, h1, h2⟩ := R.bind_ok hf
  refine ⟨Z, B, δ, ds, E, h1, fun J H1 s1 ir => ?_⟩
  refine ⟨fun i m σ' H' => m = ds.length - i ∧ i ≤ ds.length ∧ ∃ B' δ', Ev Z B H1 B' H' ∧ EnvR X.K Z B' H' σ' δ' ∧ loopD t F (ds.drop i) δ' = .ok o, ⟨ds.length, rfl, Nat.zero_le _, B, δ, Ev.refl Z B H1 E.zb, E.same s1, by simpa using h2⟩, ?_⟩
  rintro i m σ' H' ⟨rfl, hi, B', δ', ev, E', hl⟩
  obtain ⟨go, stop⟩ := ir B' H' ev.pres
  by_cases hlt : i < ds.length
  · have hd : ds[i]? = some ds[i] := List.getElem?_eq_getElem hlt
    have hdrop : ds.drop i = ds[i] :: ds.drop (i + 1) := List.drop_eq_getElem_cons hlt
    rw [hdrop] at hl
    obtain ⟨δ1, h3, h4⟩ := R.bind_ok hl
    obtain ⟨o1, h5, h6⟩ := R.bind_ok h4
    obtain ⟨g1, g2⟩ := go i _ hd
    refine .inr ⟨g1, fun σ2 H2 => ∃ B2 δ2, Ev Z B H1 B2 H2 ∧ EnvR X.K Z B2 H2 σ2 δ2 ∧ loopD t F (ds.drop (i + 1)) δ2 = .ok o, fun σ2 H2 n => ⟨ds.length - (i + 1), by omega, rfl, hlt, n⟩, fun x H'' y => ?_⟩
    obtain ⟨ss, rr⟩ := g2 x H'' y E'.bs
    refine ⟨Z, B', δ', ds[i], δ1, E'.same ss, rr, h3, fun σ2 H2 s2 E2 l2 => ⟨Z, B', δ1, o1, E2, h5, ?_⟩⟩
    have ev2 : Ev Z B H1 B' H2 := ev.trans (Ev.same E'.zb (ss.trans s2))
    cases o1 with
    | nx δ2 => exact fun σ3 B3 H3 ev3 E3 => ⟨B3, δ2, ev2.trans ev3, E3, h6⟩
    | rt d =>
      cases h6
      exact fun v B3 H3 ev3 z r => q v B3 H3 ((Ev.same E.zb s1).trans (ev2.trans ev3)) z r
  · have e : i = ds.length := by omega
    subst e
    rw [List.drop_length] at hl
    cases hl
    exact .inl ⟨stop, q σ' B' H' ((Ev.same E.zb s1).trans ev) E'⟩
/-! while, by fuel -/
def whileD (c : DEnv → R Bool) (body : FS) : Nat → FS
  | 0, _ => .no
  | n + 1, δ => (c δ).bind fun b => if b then (body δ).bind fun o => match o with | .nx δ2 => whileD c body n δ2 | .rt r => .ok (.rt r) else .ok (.nx δ)
def sWhile (n : Nat) (c : DEnv → R Bool) (body : FS) : FS := fun δ => whileD c body n δ
/-! comprehensions -/
def keepD (δ : DEnv) (i : Nat) : Sl := match δ[i]? with | some (.val d) => .val d | _ => .un
def cEnv (own : List Str) (kp : List Nat) (δ : DEnv) : DEnv := List.replicate own.length .un ++ kp.map (keepD δ)
def compL (t : FT) (c : DEnv → R Bool) (f : FD) (δ : DEnv) : List D → R (List D)
  | [] => .ok []
  | d :: ds => (t d δ).bind fun δ1 => (c δ1).bind fun b => if b then (f δ1).bind fun y => (compL t c f δ ds).bind fun ys => .ok (y :: ys) else compL t c f δ ds
def nComp (it : DEnv → R (List D)) (t : FT) (c : DEnv → R Bool) (f : FD) (own : List Str) (kp : List Nat) : DEnv → R (List D) := fun δ => (it δ).bind fun ds => R.when (decide (ds.length ≤ sizeLine)) (compL t c f (cEnv own kp δ) ds)
theorem cEnv_r {K : PySem.W.Frag} {Z B B' : List Addr} {H H' : Hp} {σ : St} {δ : DEnv} {own : List Str} {kp : List Nat} (E : EnvR K Z B H σ δ) (p : Pres B H B' H') (hB : ∀ a ∈ B', ∃ o, H' a = some o) : EnvR K [] B' H' (cStart own kp σ) (cEnv own kp δ) where
  len := by unfold cStart cEnv; simp
  bs := hB
  zb := fun a ha => by cases ha
  val := fun i d e => by
    unfold cEnv at e
    unfold cStart
    by_cases hi : i < own.length
    · rw [List.getElem?_append_left (by simpa using hi), List.getElem?_replicate] at e
      split at e <;> cases e
    · rw [List.getElem?_append_right (by simpa using hi), List.length_replicate, List.getElem?_map] at e ⊢
      cases q : kp[i - own.length]? with
      | none => rw [q] at e; cases e
      | some j =>
        rw [q] at e
        have e : keepD δ j = .val d := Option.some.inj e
        unfold keepD at e
        split at e
        · rename_i d' ed
          cases e
          obtain ⟨v, h1, h2⟩ := E.val j d ed
          exact ⟨v, by simp [h1], h2.pres p⟩
        · cases e
  bld := fun i ds e => by
    unfold cEnv at e
    by_cases hi : i < own.length
    · rw [List.getElem?_append_left (by simpa using hi), List.getElem?_replicate] at e
      split at e <;> cases e
    · rw [List.getElem?_append_right (by simpa using hi), List.length_replicate, List.getElem?_map] at e
      cases q : kp[i - own.length]? with
      | none => rw [q] at e; cases e
      | some j =>
        rw [q] at e
        have e : keepD δ j = .bld ds := Option.some.inj e
        unfold keepD at e
        split at e <;> cases e
  dis := fun i j a ds es e => by
    unfold cEnv at e
    by_cases hi : i < own.length
    · rw [List.getElem?_append_left (by simpa using hi), List.getElem?_replicate] at e
      split at e <;> cases e
    · rw [List.getElem?_append_right (by simpa using hi), List.length_replicate, List.getElem?_map] at e
      cases q : kp[i - own.length]? with
      | none => rw [q] at e; cases e
      | some j =>
        rw [q] at e
        have e : keepD δ j = .bld ds := Option.some.inj e
        unfold keepD at e
        split at e <;> cases e
theorem nComp_r {K : PySem.W.Frag} {it : DEnv → R (List D)} {t : FT} {c : DEnv → R Bool} {f : FD} {own : List Str} {kp : List Nat} {σ : St} {H : Hp} {Q : VK} (h : tN K (nComp it t c f own kp) σ H Q) :
    tComp (iD K it) (gD K t) (tTD K c) (tD K f) own kp σ H Q := by
  obtain ⟨Z, B, δ, ds, E, hf, q⟩ := h
  obtain ⟨es, h1, h2⟩ := R.bind_ok hf
  obtain ⟨hl, h3⟩ := R.when_ok h2
  have hl := of_decide_eq_true hl
  refine ⟨Z, B, δ, es, E, h1, fun J H1 s1 ir Dd hD => ?_⟩
  have E1 := E.same s1
  have pD : Pres B H1 (Dd :: B) (upd H1 Dd (.lst [])) := pres_new hD
  refine ⟨fun i m ys H' => m = es.length - i ∧ i ≤ es.length ∧ ys.length ≤ i ∧ H' Dd = some (.lst ys) ∧ Same H1 H' ∧ ∃ done rest, ds = done ++ rest ∧ Reps K (Dd :: B) H' done ys ∧ compL t c f (cEnv own kp δ) (es.drop i) = .ok rest,
    ⟨es.length, rfl, Nat.zero_le _, Nat.le_refl _, upd_same, same_upd hD, [], ds, rfl, Reps.nil, by simpa using h3⟩, ?_⟩
  rintro i m ys H' ⟨rfl, hi, hy, hDl, ss, done, rest, rfl, rd, hc⟩
  have dB : Dd ∉ B := fun hb => by obtain ⟨o, ho⟩ := E1.bs Dd hb; rw [hD] at ho; cases ho
  have p' : Pres B H1 (Dd :: B) H' := fun b o e nb => ⟨ss b o e, fun hb => by
    rcases List.mem_cons.mp hb with z | z
    · exact ne_of_none e hD z
    · exact nb z⟩
  have hB' : ∀ a ∈ Dd :: B, ∃ o, H' a = some o := fun a ha => by
    rcases List.mem_cons.mp ha with z | z
    · subst z; exact ⟨_, hDl⟩
    · obtain ⟨o, ho⟩ := E1.bs a z; exact ⟨o, ss a o ho⟩
  obtain ⟨go, stop⟩ := ir (Dd :: B) H' p'
  by_cases hlt : i < es.length
  · have hd : es[i]? = some es[i] := List.getElem?_eq_getElem hlt
    have hdrop : es.drop i = es[i] :: es.drop (i + 1) := List.drop_eq_getElem_cons hlt
    rw [hdrop] at hc
    obtain ⟨δ1, h4, h5⟩ := R.bind_ok hc
    obtain ⟨b, h6, h7⟩ := R.bind_ok h5
    obtain ⟨g1, g2⟩ := go i _ hd
    refine .inr ⟨g1, fun x H2 y => ?_⟩
    obtain ⟨sy, ry⟩ := g2 x H2 y hB'
    have Ec : EnvR K [] (Dd :: B) H2 (cStart own kp σ) (cEnv own kp δ) := cEnv_r E1 (p'.trans (Pres.same sy)) fun a ha => let ⟨o, ho⟩ := hB' a ha; ⟨o, sy a o ho⟩
    refine ⟨[], Dd :: B, cEnv own kp δ, es[i], δ1, Ec, ry, h4, fun σ3 H3 s3 E3 _ => ⟨[], Dd :: B, δ1, b, E3, h6, fun H4 s4 => ?_⟩⟩
    have sAll : Same H' H4 := sy.trans (s3.trans s4)
    cases b with
    | true =>
      rw [if_pos rfl] at h7
      refine iteT ?_
      obtain ⟨yv, h8, h9⟩ := R.bind_ok h7
      obtain ⟨rs, h10, h11⟩ := R.bind_ok h9
      cases h11
      refine ⟨[], Dd :: B, δ1, yv, E3.same s4, h8, fun v H5 s5 r5 => ?_⟩
      have s' : Same H' H5 := sAll.trans s5
      have hD5 : H5 Dd = some (.lst ys) := s' Dd _ hDl
      have pu : Pres (Dd :: B) H5 (Dd :: B) (upd H5 Dd (.lst (ys ++ [v]))) := fun b o e nb => ⟨by rw [upd_ne (fun (z : b = Dd) => nb (by rw [z]; exact List.mem_cons_self))]; exact e, nb⟩
      refine ⟨hD5, by omega, es.length - (i + 1), by omega, rfl, hlt, by rw [List.length_append, List.length_singleton]; omega, upd_same, fun b o e => ?_, done ++ [yv], rs, by simp, ((rd.same s').append (Reps.cons r5 Reps.nil)).pres pu, h10⟩
      rw [upd_ne (ne_of_none e hD)]
      exact s' b o (ss b o e)
    | false =>
      rw [if_neg (by decide)] at h7
      refine iteF ?_
      exact ⟨es.length - (i + 1), by omega, rfl, hlt, by omega, sAll Dd _ hDl, ss.trans sAll, done, rest, rfl, rd.same sAll, h7⟩
  · have e : i = es.length := by omega
    subst e
    rw [List.drop_length] at hc
    cases hc
    rw [List.append_nil] at q
    exact .inl ⟨stop, q Dd ys H' (s1.trans ss) (s1.free hD) hDl rd⟩
theorem pn_comp {scope : Scope} {own : List Str} {kp : List Nat} {kn : List Str} {tg iter elt : Expr} {ifs : List Expr} {it : DEnv → R (List D)} {t : FT} {c : DEnv → R Bool} {f : FD} {pos : Pos} (hc : X.calm = true) (C : CScope X scope own kp kn) (hi : PIt X tg iter it)
    (hg : ∀ fp s H, PTg (cxComp X scope (own ++ kn) fp s H) tg t) (hif : ∀ fp s H, PIfs (cxComp X scope (own ++ kn) fp s H) ifs (tTD X.K c)) (he : ∀ fp s H, PD (cxComp X scope (own ++ kn) fp s H) elt f)
    (hs : ∀ x, foldedSetIterable iter X.env x = pure x := by intro _; rfl) : PN X (.ListComp elt [⟨tg, iter, ifs, 0⟩] scope pos) (nComp it t c f own kp) :=
  (pe_comp hc C hi hg hif he hs).imp fun σ H Q h => nComp_r h
def cYes : DEnv → R Bool := fun _ => .ok true
theorem pifs_yes : PIfs X [] (tTD X.K cYes) := fun pins s σ H Q I ⟨Z, B, δ, b, E, hf, q⟩ => pifs_nil pins s σ H Q I (by cases hf; exact q H (Same.refl H))
theorem pifs_if {e : Expr} {c : DEnv → R Bool} (h : PB X e c) : PIfs X [e] (tTD X.K c) := pifs_one h
/-- name = [..] where the name is a plain local -/
theorem pds_setComp {i : Nat} {x : Str} {pos' spos : Pos} {scope : Scope} {own : List Str} {kp : List Nat} {kn : List Str} {tg iter elt : Expr} {ifs : List Expr} {it : DEnv → R (List D)} {t : FT} {c : DEnv → R Bool} {f : FD} {pos : Pos} (hc : X.calm = true)
    (hN : X.N.Nodup) (hx : X.N[i]? = some x) (hxl : X.env.scope.names.lookup x = some .local) (C : CScope X scope own kp kn) (hi : PIt X tg iter it)
    (hg : ∀ fp s H, PTg (cxComp X scope (own ++ kn) fp s H) tg t) (hif : ∀ fp s H, PIfs (cxComp X scope (own ++ kn) fp s H) ifs (tTD X.K c)) (he : ∀ fp s H, PD (cxComp X scope (own ++ kn) fp s H) elt f)
    (hsw : swapsWith (.ListComp elt [⟨tg, iter, ifs, 0⟩] scope pos) (some (.Name x pos')) spos.line X.env = pure true := by rfl)
    (hs : ∀ x, foldedSetIterable iter X.env x = pure x := by intro _; rfl) : PDs X (.Assign [.Name x pos'] (.ListComp elt [⟨tg, iter, ifs, 0⟩] scope pos) spos) (sSet i (eNew (nComp it t c f own kp))) :=
  (ps_setComp hc hN hx hxl C hi hg hif he hsw hs).imp fun D σ H h => by
    have h1 := sSet_r h
    obtain ⟨Z, B, δ, d, E, hf, q⟩ := h1
    obtain ⟨ds, h2, h3⟩ := R.bind_ok hf
    cases h3
    refine nComp_r ⟨Z, B, δ, ds, E, h2, fun a xs H' s n e r => q _ H' s ?_⟩
    unfold Rep
    refine ⟨a, xs, rfl, .inl ⟨fun ha => ?_, .inl e⟩, r.pres fun b o e nb => ⟨e, fun hb => nb (List.mem_cons_of_mem _ hb)⟩⟩
    obtain ⟨o, ho⟩ := E.bs a ha
    rw [n] at ho; cases ho
end

/-! defs -/
def dStart (N : List Str) (ds : List D) : DEnv := ds.map .val ++ List.replicate (N.length - ds.length) .un
def fnD (N : List Str) (F : FS) : List D → R D := fun ds => (F (dStart N ds)).bind fun o => match o with | .rt d => .ok d | .nx _ => .ok .non
theorem start_r {K : PySem.W.Frag} {B : List Addr} {H : Hp} {N : List Str} {ds : List D} {vs : List V} (hB : ∀ a ∈ B, ∃ o, H a = some o) (r : Reps K B H ds vs) : EnvR K B B H (start N vs) (dStart N ds) where
  len := by unfold start dStart; simp [r.length]
  bs := hB
  zb := fun a ha => ha
  val := fun i d e => by
    unfold dStart at e
    unfold start
    by_cases hi : i < ds.length
    · rw [List.getElem?_append_left (by simpa using hi), List.getElem?_map] at e
      cases q : ds[i]? with
      | none => rw [q] at e; cases e
      | some d' =>
        rw [q] at e
        cases e
        obtain ⟨x, h1, h2⟩ := r.get q
        exact ⟨x, by rw [List.getElem?_append_left (by rw [List.length_map, ← r.length]; exact hi), List.getElem?_map, h1]; rfl, h2⟩
    · rw [List.getElem?_append_right (by simpa using hi), List.getElem?_replicate] at e
      split at e <;> cases e
  bld := fun i es e => by
    unfold dStart at e
    by_cases hi : i < ds.length
    · rw [List.getElem?_append_left (by simpa using hi), List.getElem?_map] at e
      cases q : ds[i]? with
      | none => rw [q] at e; cases e
      | some d' => rw [q] at e; cases e
    · rw [List.getElem?_append_right (by simpa using hi), List.getElem?_replicate] at e
      split at e <;> cases e
  dis := fun i j a es fs e => by
    unfold dStart at e
    by_cases hi : i < ds.length
    · rw [List.getElem?_append_left (by simpa using hi), List.getElem?_map] at e
      cases q : ds[i]? with
      | none => rw [q] at e; cases e
      | some d' => rw [q] at e; cases e
    · rw [List.getElem?_append_right (by simpa using hi), List.getElem?_replicate] at e
      split at e <;> cases e
/-- THE RULE for a pure def -/
theorem fn_pure {P : Program} {w : World} {K : PySem.W.Frag} {mg : Str → Option Value} {base : Heap} {x qual : Str} {st : Stmt} {f : Addr} {fd : FuncData} {N ps : List Str} {k : Nat} {F : FS} (Fn : Fun K x qual st f fd) (S : FnScope N ps (defScope st))
    (hbody : ∀ (cdv : Value) (A : Around) (outer : List Env) (s : Shared) (H : Hp) (E : XK), Room k (A.deeper (envOfC qual (defScope st) s.heap.objs.size f cdv)) →
      PDss (cxOf CX0 P w K mg base N qual (defScope st) f cdv A outer s H E).nox (defBody st) F) : FnOk P w K mg base CX0 (k + 1) f fd ps (spD K ps.length (fnD N F)) := by
  refine Fn.ok S (fun vs H Q E h => h.1) (fun cdv A outer s H vs Q E hr h => ⟨_, hbody cdv A outer s H E hr, ?_⟩)
  obtain ⟨_, B, ds, d, hB, r, hg, q⟩ := h
  obtain ⟨o, h1, h2⟩ := R.bind_ok hg
  refine ⟨B, B, dStart N ds, o, start_r hB r, h1, ?_⟩
  have sm : ∀ {B' : List Addr} {H' : Hp}, Ev B B H B' H' → Same H H' := fun {B' H'} ev b u e => by
    by_cases hb : b ∈ B
    · exact (ev.zs b u e hb).1
    · exact (ev.pres b u e hb).1
  cases o with
  | nx δ' =>
    cases h2
    exact fun σ' B' H' ev _ => q _ H' (sm ev) (by unfold Rep; rfl)
  | rt d' =>
    cases h2
    exact fun v B' H' ev z rr => q v H' (sm ev) (rr.pres fun b o e nb => ⟨e, fun hb => nb (z b hb)⟩)
end L2

end
section
set_option maxRecDepth 100000
set_option maxHeartbeats 4000000
/-! ## THE DATUM LAYER: operations (own) -/
namespace L2
open PySem PySem.Spec PyProof.Rows

theorem Rep.int {K : PySem.W.Frag} {B : List Addr} {H : Hp} {i : Int} {v : V} : Rep K B H (.int i) v ↔ v = .int i := by unfold Rep; exact Iff.rfl
theorem Rep.bl {K : PySem.W.Frag} {B : List Addr} {H : Hp} {i : Bool} {v : V} : Rep K B H (.bl i) v ↔ v = .bl i := by unfold Rep; exact Iff.rfl
theorem Rep.str {K : PySem.W.Frag} {B : List Addr} {H : Hp} {i : Str} {v : V} : Rep K B H (.str i) v ↔ v = .str i := by unfold Rep; exact Iff.rfl
theorem Rep.non {K : PySem.W.Frag} {B : List Addr} {H : Hp} {v : V} : Rep K B H .non v ↔ v = .non := by unfold Rep; exact Iff.rfl
theorem Rep.lst {K : PySem.W.Frag} {B : List Addr} {H : Hp} {ds : List D} {v : V} : Rep K B H (.lst ds) v ↔ ∃ a xs, v = .ref a ∧ LsF K B H a xs ∧ Reps K B H ds xs := by rw [Rep]
theorem Rep.tup {K : PySem.W.Frag} {B : List Addr} {H : Hp} {ds : List D} {v : V} : Rep K B H (.tup ds) v ↔ ∃ a xs, v = .ref a ∧ TpF K B H a xs ∧ Reps K B H ds xs := by rw [Rep]

section
variable {X : Cx}
theorem OpD.of {f : Value → Value → Sem Value} {r : R2} {g : D → D → R D} (h : OpR X f r)
    (w : ∀ (B : List Addr) (H : Hp) (da db d : D) (x y : V) (Q : VK), (∀ a ∈ B, ∃ o, H a = some o) → Rep X.K B H da x → Rep X.K B H db y → g da db = .ok d → (∀ z H', Same H H' → Rep X.K B H' d z → Q z H') → r x y H Q) : OpD X f g := by
  intro pins s σ H B da db d x y v u I hb rx ry ra rb hg
  exact h pins s σ H x y v u _ I rx ry (w B H da db d x y _ hb ra rb hg fun z H' s1 r1 => ⟨s1, r1⟩)
theorem CallD.of {f : Value} {r : List V → Hp → VK → Prop} {g : List D → R D} (h : CallR X f r)
    (w : ∀ (B : List Addr) (H : Hp) (ds : List D) (d : D) (xs : List V) (Q : VK), (∀ a ∈ B, ∃ o, H a = some o) → Reps X.K B H ds xs → g ds = .ok d → (∀ z H', Same H H' → Rep X.K B H' d z → Q z H') → r xs H Q) : CallD X f g := by
  intro pins s σ H B ds d xs us I hb rx rs hg
  exact h pins s σ H xs us _ I rx (w B H ds d xs _ hb rs hg fun z H' s1 r1 => ⟨s1, r1⟩)
/-! ints -/
def dII (C : Int → Int → Bool) (g : Int → Int → Int) : D → D → R D
  | .int i, .int j => R.when (C i j) (.ok (.int (g i j)))
  | _, _ => .no
theorem op_II {f : Value → Value → Sem Value} {C : Int → Int → Bool} {Cp : Int → Int → Prop} {g : Int → Int → Int} (h : OpR X f (rI Cp fun i j => .int (g i j))) (hc : ∀ i j, C i j = true → Cp i j) : OpD X f (dII C g) :=
  OpD.of h fun B H da db d x y Q _ ra rb hg q => by
    unfold dII at hg
    split at hg
    · obtain ⟨h1, h2⟩ := R.when_ok hg
      cases h2
      exact ⟨_, _, Rep.int.mp ra, Rep.int.mp rb, hc _ _ h1, q _ H (Same.refl H) (Rep.int.mpr rfl)⟩
    · cases hg
def dII0 (g : Int → Int → Int) : D → D → R D
  | .int i, .int j => .ok (.int (g i j))
  | _, _ => .no
theorem op_II0 {f : Value → Value → Sem Value} {g : Int → Int → Int} (h : OpR X f (rI0 fun i j => .int (g i j))) : OpD X f (dII0 g) :=
  OpD.of h fun B H da db d x y Q _ ra rb hg q => by
    unfold dII0 at hg
    split at hg
    · cases hg
      exact ⟨_, _, Rep.int.mp ra, Rep.int.mp rb, q _ H (Same.refl H) (Rep.int.mpr rfl)⟩
    · cases hg
def dIB (g : Int → Int → Bool) : D → D → R D
  | .int i, .int j => .ok (.bl (g i j))
  | _, _ => .no
theorem op_IB {f : Value → Value → Sem Value} {g : Int → Int → Bool} (h : OpR X f (rI0 fun i j => .bl (g i j))) : OpD X f (dIB g) :=
  OpD.of h fun B H da db d x y Q _ ra rb hg q => by
    unfold dIB at hg
    split at hg
    · cases hg
      exact ⟨_, _, Rep.int.mp ra, Rep.int.mp rb, q _ H (Same.refl H) (Rep.bl.mpr rfl)⟩
    · cases hg
abbrev dSub : D → D → R D := dII0 fun i j => i - j
theorem o_sub : OpD X (binaryOp .Sub) dSub := op_II0 op_sub
abbrev dFdiv : D → D → R D := dII (fun _ j => decide (0 < j ∧ j < 1073741824)) fun i j => i / j
abbrev dMod : D → D → R D := dII (fun _ j => decide (0 < j)) fun i j => i % j
theorem o_mod : OpD X (binaryOp .Mod) dMod := op_II op_mod fun i j h => of_decide_eq_true h
abbrev dPow : D → D → R D := dII (fun i j => decide (0 ≤ j ∧ j ≤ 1000000 ∧ i.natAbs < 2 ^ 64)) fun i j => i ^ j.toNat
theorem o_pow : OpD X (binaryOp .Pow) dPow := op_II op_pow fun i j h => (of_decide_eq_true h : 0 ≤ j ∧ j ≤ 1000000 ∧ i.natAbs < 2 ^ 64)
abbrev dShr : D → D → R D := dII (fun _ j => decide (0 ≤ j)) fun i j => i / 2 ^ j.toNat
theorem o_shr : OpD X (binaryOp .RShift) dShr := op_II op_shr fun i j h => of_decide_eq_true h
abbrev dBa : D → D → R D := dII0 fun i j => Builtin.bitAnd i j
theorem o_ba : OpD X (binaryOp .BitAnd) dBa := op_II0 op_and
abbrev dBo : D → D → R D := dII0 fun i j => Builtin.bitOr i j
theorem o_bo : OpD X (binaryOp .BitOr) dBo := op_II0 op_or
abbrev dBx : D → D → R D := dII0 fun i j => Builtin.bitXor i j
theorem o_bx : OpD X (binaryOp .BitXor) dBx := op_II0 op_xor
abbrev dLt : D → D → R D := dIB fun i j => decide (i < j)
theorem o_lt : OpD X (compareOp .Lt) dLt := op_IB op_lt
abbrev dLe : D → D → R D := dIB fun i j => decide (i ≤ j)
abbrev dGt : D → D → R D := dIB fun i j => decide (j < i)
theorem o_gt : OpD X (compareOp .Gt) dGt := op_IB op_gt
abbrev dGe : D → D → R D := dIB fun i j => decide (j ≤ i)
theorem o_ge : OpD X (compareOp .GtE) dGe := op_IB op_ge

/-! + * -/
theorem LsF.of_new {K : PySem.W.Frag} {B : List Addr} {H : Hp} {a : Addr} {xs : List V} (h : H a = some (.lst xs)) (n : a ∉ B) : LsF K B H a xs := .inl ⟨n, .inl h⟩
theorem Inv.rdL {pins : List (Addr × Obj)} {σ : St} {H : Hp} {s : Shared} {a : Addr} {xs : List V} {B : List Addr} (I : Inv X pins σ H s) (h : LsF X.K B H a xs) : ∃ (its : List Value) (n : Nat), Vals xs its ∧ s.heap.get? a = some { cls := .type "list", data := .seq its.toArray n } ∧ xs.length ≤ sizeLine := by
  rcases h with ⟨_, h⟩ | ⟨its, n, hk, hz, r⟩
  · obtain ⟨z, its, n, r, e⟩ := h.ok I.hok
    exact ⟨its, n, r, e, z⟩
  · exact ⟨its, n, r, I.kIn a _ hk, hz⟩
theorem op_catS : OpR X (binaryOp .Add) (fun x y H Q => ∃ B l b xs zs, x = .ref l ∧ y = .ref b ∧ LsF X.K B H l xs ∧ LsF X.K B H b zs ∧ xs.length + zs.length ≤ sizeLine ∧ ∀ p, H p = none → Q (.ref p) (upd H p (.lst (xs ++ zs)))) := by
  intro pins s σ H x y v u Q I rx ry h
  obtain ⟨B, l, b, xs, zs, rfl, rfl, hH, hB, hz, q⟩ := h
  cases rx
  cases ry
  obtain ⟨its, n, r, e, _⟩ := I.rdL hH
  obtain ⟨its2, n2, r2, e2, _⟩ := I.rdL hB
  have l1 := r.length
  have l2 := r2.length
  refine PySem.P.add_list e e2 ?_ (by rw [List.size_toArray, List.size_toArray]; omega)
  have ea : its.toArray ++ its2.toArray = (its ++ its2).toArray := by simp
  rw [ea]
  exact ⟨.ref _, _, I.lnew (t' := s.toks) (r.append r2) (by rw [List.length_append]; omega), rfl, q _ I.fresh⟩
def dAdd : D → D → R D
  | .int i, .int j => .ok (.int (i + j))
  | .str a, .str b => R.when (decide (a.length + b.length ≤ sizeLine)) (.ok (.str (a ++ b)))
  | .lst a, .lst b => R.when (decide (a.length + b.length ≤ sizeLine)) (.ok (.lst (a ++ b)))
  | _, _ => .no
theorem o_add : OpD X (binaryOp .Add) dAdd := by
  intro pins s σ H B da db d x y v u I hb rx ry ra rb hg
  unfold dAdd at hg
  split at hg
  · cases hg
    exact op_add pins s σ H x y v u _ I rx ry ⟨_, _, Rep.int.mp ra, Rep.int.mp rb, Same.refl H, Rep.int.mpr rfl⟩
  · obtain ⟨h1, h2⟩ := R.when_ok hg
    cases h2
    exact op_add_str pins s σ H x y v u _ I rx ry ⟨_, _, Rep.str.mp ra, Rep.str.mp rb, of_decide_eq_true h1, Same.refl H, Rep.str.mpr rfl⟩
  · obtain ⟨h1, h2⟩ := R.when_ok hg
    cases h2
    obtain ⟨a1, xs1, rfl, l1, r1⟩ := Rep.lst.mp ra
    obtain ⟨a2, xs2, rfl, l2, r2⟩ := Rep.lst.mp rb
    refine op_catS pins s σ H _ _ v u _ I rx ry ⟨B, a1, a2, xs1, xs2, rfl, rfl, l1, l2, by rw [← r1.length, ← r2.length]; exact of_decide_eq_true h1, fun p hp => ⟨same_upd hp, Rep.lst.mpr ⟨p, _, rfl, .of_new upd_same fun ha => ?_, (r1.append r2).same (same_upd hp)⟩⟩⟩
    obtain ⟨o, ho⟩ := hb p ha
    rw [hp] at ho; cases ho
  · cases hg
theorem op_mulS : OpR X (binaryOp .Mult) (fun x y H Q => ∃ z n, x = .str z ∧ y = .int n ∧ MulOk z n ∧ Q (.str (Txt.mul z n)) H) := by
  intro pins s σ H x y v u Q I rx ry h
  obtain ⟨z, n, rfl, rfl, hm, q⟩ := h
  obtain ⟨t, rfl⟩ := rx
  obtain ⟨t', rfl⟩ := ry
  exact SB.mul hm fun t2 k => ⟨.str _, H, I.tok _, ⟨_, rfl⟩, q⟩
end
end L2

end
section
set_option maxRecDepth 100000
set_option maxHeartbeats 4000000
/-! ## THE DATUM LAYER: more operations (own) -/
namespace L2
open PySem PySem.Spec PyProof.Rows

section
variable {X : Cx}
/-! * -/
theorem mulOk_of {x : Str} {n : Int} (h1 : -(2 ^ 63) ≤ n) (h2 : n < 2 ^ 63) (h3 : x.length * n.toNat ≤ sizeLine) : MulOk x n := by
  refine ⟨by simp only [Bool.or_eq_false_iff, decide_eq_false_iff_not]; omega, fun hn _ => ?_, fun hn _ => ?_⟩
  · have hz : sizeLine = 16777216 := sizeLine_eq
    have e : (n.toNat : Int) = n := by omega
    have h4 : (x.length : Int) * n ≤ 16777216 := by
      have : ((x.length * n.toNat : Nat) : Int) ≤ ((16777216 : Nat) : Int) := Int.ofNat_le.mpr (by omega)
      rw [Int.natCast_mul, e] at this
      exact this
    have : (x.length : Int) ≤ (2 ^ 63 - 1) / n := (Int.le_ediv_iff_mul_le (by omega)).mpr (by omega)
    omega
  · unfold Builtin.Str.tooLong; exact decide_eq_false (by omega)
def dMul : D → D → R D
  | .int i, .int j => R.when (decide ((-(2 ^ 64) < i ∧ i < 2 ^ 64) ∨ (-(2 ^ 64) < j ∧ j < 2 ^ 64))) (.ok (.int (i * j)))
  | .str x, .int n => R.when (decide (-(2 ^ 63) ≤ n ∧ n < 2 ^ 63 ∧ x.length * n.toNat ≤ sizeLine)) (.ok (.str (Txt.mul x n)))
  | _, _ => .no
theorem o_mul : OpD X (binaryOp .Mult) dMul := by
  intro pins s σ H B da db d x y v u I hb rx ry ra rb hg
  unfold dMul at hg
  split at hg
  · obtain ⟨h1, h2⟩ := R.when_ok hg
    cases h2
    have h1 := of_decide_eq_true h1
    exact op_mul pins s σ H x y v u _ I rx ry ⟨_, _, Rep.int.mp ra, Rep.int.mp rb, h1, Same.refl H, Rep.int.mpr rfl⟩
  · obtain ⟨h1, h2⟩ := R.when_ok hg
    cases h2
    have h1 := of_decide_eq_true h1
    exact op_mulS pins s σ H x y v u _ I rx ry ⟨_, _, Rep.str.mp ra, Rep.int.mp rb, mulOk_of h1.1 h1.2.1 h1.2.2, Same.refl H, Rep.str.mpr rfl⟩
  · cases hg

/-! == != -/
mutual
def toPy : D → PyData
  | .non => .none
  | .bl b => .bool b
  | .int i => .int i
  | .str x => .str x
  | .lst ds => .list (toPys ds)
  | .tup ds => .tuple (toPys ds)
  | .dct _ _ => .dict []
def toPys : List D → List PyData
  | [] => []
  | d :: ds => toPy d :: toPys ds
end
mutual
def plainD : D → Bool
  | .dct _ _ => false
  | .lst ds => plainDs ds
  | .tup ds => plainDs ds
  | _ => true
def plainDs : List D → Bool
  | [] => true
  | d :: ds => plainD d && plainDs ds
end
mutual
theorem Rep.reads {pins : List (Addr × Obj)} {σ : St} {H : Hp} {s : Shared} {B : List Addr} (I : Inv X pins σ H s) : ∀ {d : D} {v : V} {u : Value}, plainD d = true → Rep X.K B H d v → RelV v u → ∃ as, Reads s.heap u (toPy d) as
  | .non, v, u, _, r, q => by rw [Rep.non.mp r] at q; cases q; unfold toPy; exact ⟨_, .none⟩
  | .bl b, v, u, _, r, q => by rw [Rep.bl.mp r] at q; cases q; unfold toPy; exact ⟨_, .bool b⟩
  | .int i, v, u, _, r, q => by rw [Rep.int.mp r] at q; obtain ⟨t, rfl⟩ := q; unfold toPy; exact ⟨_, .int i t⟩
  | .str x, v, u, _, r, q => by rw [Rep.str.mp r] at q; obtain ⟨t, rfl⟩ := q; unfold toPy; exact ⟨_, .str x t⟩
  | .lst ds, v, u, hp, r, q => by
    obtain ⟨a, xs, rfl, l, rs⟩ := Rep.lst.mp r
    cases q
    obtain ⟨its, rv, ⟨o, n, e, hc, hd, he⟩, _⟩ := I.list l.sq
    obtain ⟨as, ra⟩ := Reps.reads I (by unfold plainD at hp; exact hp) rs rv
    unfold toPy
    exact ⟨_, .list e hc he (by simpa using ra)⟩
  | .tup ds, v, u, hp, r, q => by
    obtain ⟨a, xs, rfl, l, rs⟩ := Rep.tup.mp r
    cases q
    obtain ⟨its, rv, ⟨o, e, hc, n, hd⟩, _⟩ := I.tuple l.sq
    obtain ⟨as, ra⟩ := Reps.reads I (by unfold plainD at hp; exact hp) rs rv
    unfold toPy
    exact ⟨_, .tuple e hc hd (by simpa using ra)⟩
  | .dct _ _, v, u, hp, r, q => by unfold plainD at hp; cases hp
theorem Reps.reads {pins : List (Addr × Obj)} {σ : St} {H : Hp} {s : Shared} {B : List Addr} (I : Inv X pins σ H s) : ∀ {ds : List D} {vs : List V} {us : List Value}, plainDs ds = true → Reps X.K B H ds vs → Vals vs us → ∃ as, ReadsAll s.heap us (toPys ds) as
  | [], vs, us, _, r, q => by unfold Reps at r; subst r; cases q; unfold toPys; exact ⟨_, .nil⟩
  | d :: ds, vs, us, hp, r, q => by
    obtain ⟨x, xs, rfl, r1, r2⟩ := r.uncons
    cases q with
    | cons q1 q2 =>
      unfold plainDs at hp
      obtain ⟨h1, h2⟩ := Bool.and_eq_true_iff.mp hp
      obtain ⟨as, a1⟩ := Rep.reads I h1 r1 q1
      obtain ⟨bs, a2⟩ := Reps.reads I h2 r2 q2
      unfold toPys
      exact ⟨_, .cons a1 a2⟩
end
/-- == : atoms of one kind by themselves, else by the data -/
def eqD : D → D → R Bool
  | .int i, .int j => .ok (decide (i = j))
  | .str x, .str y => .ok (decide (x = y))
  | .bl a, .bl b => .ok (decide (a = b))
  | d, e => R.when (plainD d && plainD e && SeqAt.shaped (toPy d) && SeqAt.shaped (toPy e)) (.ok (PyData.eqv (toPy d) (toPy e)))
def dEq (d e : D) : R D := (eqD d e).bind fun b => .ok (.bl b)
def dNe (d e : D) : R D := (eqD d e).bind fun b => .ok (.bl (!b))
theorem o_eq (hu : X.A.units + 64 < cLine) : OpD X (compareOp .Eq) dEq := by
  intro pins s σ H B da db d x y v u I hb rx ry ra rb hg
  obtain ⟨b, h1, h2⟩ := R.bind_ok hg
  cases h2
  unfold eqD at h1
  split at h1
  · cases h1
    rename_i i j
    have := op_eq pins s σ H x y v u (fun z H' => Same H H' ∧ Rep X.K B H' (.bl (decide (i = j))) z) I rx ry
    rw [Rep.int.mp ra, Rep.int.mp rb] at this
    refine this ⟨rfl, Same.refl H, Rep.bl.mpr ?_⟩
    simp [V.int.injEq]
  · cases h1
    rename_i i j
    have := op_eq pins s σ H x y v u (fun z H' => Same H H' ∧ Rep X.K B H' (.bl (decide (i = j))) z) I rx ry
    rw [Rep.str.mp ra, Rep.str.mp rb] at this
    refine this ⟨rfl, Same.refl H, Rep.bl.mpr ?_⟩
    simp [V.str.injEq]
  · cases h1
    rename_i i j
    have := op_eq pins s σ H x y v u (fun z H' => Same H H' ∧ Rep X.K B H' (.bl (decide (i = j))) z) I rx ry
    rw [Rep.bl.mp ra, Rep.bl.mp rb] at this
    refine this ⟨rfl, Same.refl H, Rep.bl.mpr ?_⟩
    simp [V.bl.injEq]
  · obtain ⟨h3, h4⟩ := R.when_ok h1
    cases h4
    simp only [Bool.and_eq_true] at h3
    obtain ⟨⟨⟨p1, p2⟩, s1⟩, s2⟩ := h3
    obtain ⟨as, r1⟩ := ra.reads I p1 rx
    obtain ⟨bs, r2⟩ := rb.reads I p2 ry
    exact eq_dataH r1 r2 s1 s2 hu ⟨.bl _, H, I, rfl, Same.refl H, Rep.bl.mpr rfl⟩
theorem o_ne (hu : X.A.units + 64 < cLine) : OpD X (compareOp .NotEq) dNe := by
  intro pins s σ H B da db d x y v u I hb rx ry ra rb hg
  obtain ⟨b, h1, h2⟩ := R.bind_ok hg
  cases h2
  unfold eqD at h1
  split at h1
  · cases h1
    rename_i i j
    have := op_ne pins s σ H x y v u (fun z H' => Same H H' ∧ Rep X.K B H' (.bl (!decide (i = j))) z) I rx ry
    rw [Rep.int.mp ra, Rep.int.mp rb] at this
    refine this ⟨rfl, Same.refl H, Rep.bl.mpr ?_⟩
    simp [V.int.injEq]
  · cases h1
    rename_i i j
    have := op_ne pins s σ H x y v u (fun z H' => Same H H' ∧ Rep X.K B H' (.bl (!decide (i = j))) z) I rx ry
    rw [Rep.str.mp ra, Rep.str.mp rb] at this
    refine this ⟨rfl, Same.refl H, Rep.bl.mpr ?_⟩
    simp [V.str.injEq]
  · cases h1
    rename_i i j
    have := op_ne pins s σ H x y v u (fun z H' => Same H H' ∧ Rep X.K B H' (.bl (!decide (i = j))) z) I rx ry
    rw [Rep.bl.mp ra, Rep.bl.mp rb] at this
    refine this ⟨rfl, Same.refl H, Rep.bl.mpr ?_⟩
    simp [V.bl.injEq]
  · obtain ⟨h3, h4⟩ := R.when_ok h1
    cases h4
    simp only [Bool.and_eq_true] at h3
    obtain ⟨⟨⟨p1, p2⟩, s1⟩, s2⟩ := h3
    obtain ⟨as, r1⟩ := ra.reads I p1 rx
    obtain ⟨bs, r2⟩ := rb.reads I p2 ry
    exact ne_dataH r1 r2 s1 s2 hu ⟨.bl _, H, I, rfl, Same.refl H, Rep.bl.mpr rfl⟩

/-! in, not in: texts in lists and tuples of texts, a text in a text -/
def strs? : List D → Option (List Str)
  | [] => some []
  | .str x :: ds => (strs? ds).map (x :: ·)
  | _ :: _ => none
theorem strs_reps {K : PySem.W.Frag} {B : List Addr} {H : Hp} : ∀ {ds : List D} {xs : List V} {ss : List Str}, Reps K B H ds xs → strs? ds = some ss → xs = ss.map V.str
  | [], xs, ss, r, h => by unfold Reps at r; subst r; cases h; rfl
  | d :: ds, xs, ss, r, h => by
    obtain ⟨x, r', rfl, r1, r2⟩ := r.uncons
    cases d with
    | str z =>
      unfold strs? at h
      cases e : strs? ds with
      | none => rw [e] at h; cases h
      | some tt =>
        rw [e] at h
        cases h
        rw [Rep.str.mp r1, strs_reps r2 e]
        rfl
    | _ => cases h
def ints? : List D → Option (List Int)
  | [] => some []
  | .int x :: ds => (ints? ds).map (x :: ·)
  | _ :: _ => none
theorem ints_reps {K : PySem.W.Frag} {B : List Addr} {H : Hp} : ∀ {ds : List D} {xs : List V} {ss : List Int}, Reps K B H ds xs → ints? ds = some ss → xs = ss.map V.int
  | [], xs, ss, r, h => by unfold Reps at r; subst r; cases h; rfl
  | d :: ds, xs, ss, r, h => by
    obtain ⟨x, r', rfl, r1, r2⟩ := r.uncons
    cases d with
    | int z =>
      unfold ints? at h
      cases e : ints? ds with
      | none => rw [e] at h; cases h
      | some tt =>
        rw [e] at h
        cases h
        rw [Rep.int.mp r1, ints_reps r2 e]
        rfl
    | _ => cases h
def inD (d e : D) : R Bool := match d, e with
  | .str x, .lst ds => (match strs? ds with | some ss => .ok (ss.contains x) | none => .no)
  | .str x, .tup ds => (match strs? ds with | some ss => .ok (ss.contains x) | none => .no)
  | .str x, .str y => .ok (!(Builtin.Str.occurrences y x 0 y.length 1).isEmpty)
  | .int x, .lst ds => (match ints? ds with | some ss => .ok (ss.contains x) | none => .no)
  | .int x, .tup ds => (match ints? ds with | some ss => .ok (ss.contains x) | none => .no)
  | _, _ => .no
def dIn (d e : D) : R D := (inD d e).bind fun b => .ok (.bl b)
def dNotIn (d e : D) : R D := (inD d e).bind fun b => .ok (.bl (!b))
theorem inV_strs (x : Str) : ∀ ss : List Str, inV (.str x) (ss.map V.str) = ss.contains x
  | [] => rfl
  | y :: ss => by
    unfold inV
    rw [List.map_cons, List.any_cons]
    have ih := inV_strs x ss
    unfold inV at ih
    rw [ih]
    show (y == x || ss.contains x) = _
    rw [List.contains_cons]
    congr 1
    exact Bool.eq_iff_iff.mpr ⟨fun h => by simpa using (beq_iff_eq.mp h).symm, fun h => by simpa using (beq_iff_eq.mp h).symm⟩
theorem inV_ints (x : Int) : ∀ ss : List Int, inV (.int x) (ss.map V.int) = ss.contains x
  | [] => rfl
  | y :: ss => by
    unfold inV
    rw [List.map_cons, List.any_cons]
    have ih := inV_ints x ss
    unfold inV at ih
    rw [ih]
    show (y == x || ss.contains x) = _
    rw [List.contains_cons]
    congr 1
    exact Bool.eq_iff_iff.mpr ⟨fun h => by simpa using (beq_iff_eq.mp h).symm, fun h => by simpa using (beq_iff_eq.mp h).symm⟩
theorem flat_ints (ss : List Int) : (ss.map V.int).all flatV = true := by
  rw [List.all_map]
  simp [List.all_eq_true, flatV]
theorem flat_strs (ss : List Str) : (ss.map V.str).all flatV = true := by
  rw [List.all_map]
  simp [List.all_eq_true, flatV]
theorem in_gen {neg : Bool} {op : CmpOp} {g : D → D → R D} (h1 : OpR X (compareOp op) (rIn X.K neg)) (h2 : OpR X (compareOp op) (fun x y H Q => ∃ i j, x = .str i ∧ y = .str j ∧ Q (.bl (if neg then !(!(Builtin.Str.occurrences j i 0 j.length 1).isEmpty) else (!(Builtin.Str.occurrences j i 0 j.length 1).isEmpty))) H))
    (hg : ∀ d e r, g d e = .ok r → ∃ b, inD d e = .ok b ∧ r = .bl (if neg then !b else b)) : OpD X (compareOp op) g := by
  intro pins s σ H B da db d x y v u I hb rx ry ra rb hg'
  obtain ⟨b, hi, rfl⟩ := hg da db d hg'
  unfold inD at hi
  split at hi
  · rename_i z ds
    split at hi
    · rename_i ss e
      cases hi
      obtain ⟨a, xs, rfl, l, rs⟩ := Rep.lst.mp rb
      refine h1 pins s σ H x _ v u _ I rx ry ⟨a, xs, rfl, .inl l.sq, by rw [Rep.str.mp ra]; rfl, by rw [strs_reps rs e]; exact flat_strs _, Same.refl H, Rep.bl.mpr ?_⟩
      rw [strs_reps rs e, Rep.str.mp ra, inV_strs]
    · cases hi
  · rename_i z ds
    split at hi
    · rename_i ss e
      cases hi
      obtain ⟨a, xs, rfl, l, rs⟩ := Rep.tup.mp rb
      refine h1 pins s σ H x _ v u _ I rx ry ⟨a, xs, rfl, .inr l.sq, by rw [Rep.str.mp ra]; rfl, by rw [strs_reps rs e]; exact flat_strs _, Same.refl H, Rep.bl.mpr ?_⟩
      rw [strs_reps rs e, Rep.str.mp ra, inV_strs]
    · cases hi
  · cases hi
    exact h2 pins s σ H x y v u _ I rx ry ⟨_, _, Rep.str.mp ra, Rep.str.mp rb, Same.refl H, Rep.bl.mpr rfl⟩
  · rename_i z ds
    split at hi
    · rename_i ss e
      cases hi
      obtain ⟨a, xs, rfl, l, rs⟩ := Rep.lst.mp rb
      refine h1 pins s σ H x _ v u _ I rx ry ⟨a, xs, rfl, .inl l.sq, by rw [Rep.int.mp ra]; rfl, by rw [ints_reps rs e]; exact flat_ints _, Same.refl H, Rep.bl.mpr ?_⟩
      rw [ints_reps rs e, Rep.int.mp ra, inV_ints]
    · cases hi
  · rename_i z ds
    split at hi
    · rename_i ss e
      cases hi
      obtain ⟨a, xs, rfl, l, rs⟩ := Rep.tup.mp rb
      refine h1 pins s σ H x _ v u _ I rx ry ⟨a, xs, rfl, .inr l.sq, by rw [Rep.int.mp ra]; rfl, by rw [ints_reps rs e]; exact flat_ints _, Same.refl H, Rep.bl.mpr ?_⟩
      rw [ints_reps rs e, Rep.int.mp ra, inV_ints]
    · cases hi
  · cases hi
theorem o_in : OpD X (compareOp .In) dIn := in_gen (neg := false) op_in_seq op_in_str fun d e r h => by
  obtain ⟨b, h1, h2⟩ := R.bind_ok h
  cases h2
  exact ⟨b, h1, rfl⟩
/-! subscripts -/
def ixD (d e : D) : R D := match d, e with
  | .lst ds, .int i => (match atI ds i with | some x => .ok x | none => .no)
  | .tup ds, .int i => (match atI ds i with | some x => .ok x | none => .no)
  | .str x, .int i => R.when (decide (x.length ≤ sizeLine)) (match atI x.cps.toList i with | some c => .ok (.str ⟨#[c]⟩) | none => .no)
  | _, _ => .no
theorem atI_reps {K : PySem.W.Frag} {B : List Addr} {H : Hp} {ds : List D} {xs : List V} {i : Int} {d : D} (r : Reps K B H ds xs) (h : atI ds i = some d) : ∃ x, atI xs i = some x ∧ Rep K B H d x := by
  unfold atI at h ⊢
  rw [← r.length]
  cases e : ixN ds.length i with
  | none => rw [e] at h; cases h
  | some j =>
    rw [e] at h
    exact r.get h
theorem pd_ix {a b : Expr} {fa fb : FD} {pos : Pos} (ha : PD X a fa) (hb : PD X b fb) (hs : PlainIx b) : PD X (.Subscript a b pos) (e2 ixD fa fb) := by
  refine (pe_ix (r := rIx X.K) ix_seq ha hb hs).imp fun σ H Q ⟨Z, B, δ, d, E, hf, q⟩ => ?_
  obtain ⟨d1, h1, h2⟩ := R.bind_ok hf
  obtain ⟨d2, h3, h4⟩ := R.bind_ok h2
  refine ⟨Z, B, δ, d1, E, h1, fun v1 H1 s1 r1 => ⟨Z, B, δ, d2, E.same s1, h3, fun v2 H2 s2 r2 => ?_⟩⟩
  have r1' := r1.same s2
  unfold ixD at h4
  split at h4
  · split at h4
    · rename_i e
      cases h4
      obtain ⟨p, xs, rfl, l, rs⟩ := Rep.lst.mp r1'
      obtain ⟨y, e1, e2⟩ := atI_reps rs e
      exact .inl ⟨p, xs, _, y, rfl, Rep.int.mp r2, l.sq, e1, q y H2 (s1.trans s2) e2⟩
    · cases h4
  · split at h4
    · rename_i e
      cases h4
      obtain ⟨p, xs, rfl, l, rs⟩ := Rep.tup.mp r1'
      obtain ⟨y, e1, e2⟩ := atI_reps rs e
      exact .inr (.inl ⟨p, xs, _, y, rfl, Rep.int.mp r2, l.sq, e1, q y H2 (s1.trans s2) e2⟩)
    · cases h4
  · obtain ⟨hl, h5⟩ := R.when_ok h4
    split at h5
    · rename_i e
      cases h5
      exact .inr (.inr ⟨_, _, _, Rep.str.mp r1', Rep.int.mp r2, of_decide_eq_true hl, e, q _ H2 (s1.trans s2) (Rep.str.mpr rfl)⟩)
    · cases h5
  · cases h4

/-! slices -/
abbrev FO := DEnv → R (Option Int)
def tOD (K : PySem.W.Frag) (f : FO) : TO := fun σ H Q => ∃ Z B δ o, EnvR K Z B H σ δ ∧ f δ = .ok o ∧ ∀ H', Same H H' → Q o H'
theorem PO.imp {X : Cx} {e : Option Expr} {t t' : TO} (h : PO X e t) (w : ∀ σ H Q, t' σ H Q → t σ H Q) : PO X e t' := fun pins s σ H Q I hq => h pins s σ H Q I (w σ H Q hq)
abbrev PP (X : Cx) (e : Option Expr) (f : FO) : Prop := PO X e (tOD X.K f)
def oNone : FO := fun _ => .ok none
def oSome (f : FD) : FO := fun δ => (f δ).bind fun d => match d with | .int i => .ok (some i) | _ => .no
theorem pp_none : PP X none oNone := po_none.imp fun σ H Q ⟨Z, B, δ, o, E, hf, q⟩ => by cases hf; exact q H (Same.refl H)
theorem pp_some {e : Expr} {f : FD} (h : PD X e f) : PP X (some e) (oSome f) := (po_some h).imp fun σ H Q ⟨Z, B, δ, o, E, hf, q⟩ => by
  obtain ⟨d, h1, h2⟩ := R.bind_ok hf
  cases d with
  | int i => cases h2; exact ⟨Z, B, δ, .int i, E, h1, fun v H1 s1 r1 => ⟨i, Rep.int.mp r1, q H1 s1⟩⟩
  | _ => cases h2
theorem sl_str : SlR X (fun x lo hi H Q => ∃ z, x = .str z ∧ z.length ≤ sizeLine ∧ Q (.str (Txt.slice z lo hi)) H) := by
  intro pins s σ H x v vl vu lo hi sl Q I rx hs pl pu h
  obtain ⟨z, rfl, hz, q⟩ := h
  obtain ⟨t, rfl⟩ := rx
  refine ⟨"str", _, F.slot_str_getitem.lookup, typeIs_str _ _ _, ?_⟩
  have fin : ∀ t' k, EP X pins σ Q (.str (Txt.slice z lo hi) t') { s with toks := k } := fun t' k => ⟨.str _, H, I.tok _, ⟨_, rfl⟩, q⟩
  obtain ⟨o, ho, hc, hd⟩ := hs
  cases pl with
  | none =>
    cases pu with
    | none => exact wpAny_getItem_str_slice (l := none) (u := none) (st := none) ⟨o, ho, hc, hd⟩ rfl (post_val_or_str ⟨Nat.le_trans (Txt.slice_le z _ _) hz, fin⟩)
    | int j u => exact wpAny_getItem_str_slice (l := none) (u := some (j, u)) (st := none) ⟨o, ho, hc, hd⟩ rfl (post_val_or_str ⟨Nat.le_trans (Txt.slice_le z _ _) hz, fin⟩)
  | int i t1 =>
    cases pu with
    | none => exact wpAny_getItem_str_slice (l := some (i, t1)) (u := none) (st := none) ⟨o, ho, hc, hd⟩ rfl (post_val_or_str ⟨Nat.le_trans (Txt.slice_le z _ _) hz, fin⟩)
    | int j u => exact wpAny_getItem_str_slice (l := some (i, t1)) (u := some (j, u)) (st := none) ⟨o, ho, hc, hd⟩ rfl (post_val_or_str ⟨Nat.le_trans (Txt.slice_le z _ _) hz, fin⟩)
def cutD {α : Type} (xs : List α) (lo hi : Option Int) : List α := (xs.drop (HT.sIx xs.length 0 lo)).take (HT.sIx xs.length xs.length hi - HT.sIx xs.length 0 lo)
def slD (d : D) (lo hi : Option Int) : R D := match d with
  | .str x => R.when (decide (x.length ≤ sizeLine)) (.ok (.str (Txt.slice x lo hi)))
  | .lst ds => .ok (.lst (cutD ds lo hi))
  | _ => .no
theorem cut_reps {K : PySem.W.Frag} {B : List Addr} {H : Hp} {ds : List D} {xs : List V} (r : Reps K B H ds xs) (lo hi : Option Int) : Reps K B H (cutD ds lo hi) (cutV xs lo hi) := by
  unfold cutD cutV
  rw [← r.length]
  exact (r.drop _).take _
def eSl (f : FD) (fl fh : FO) : FD := fun δ => (f δ).bind fun d => (fl δ).bind fun lo => (fh δ).bind fun hi => slD d lo hi
theorem pd_sl {e : Expr} {lo hi : Option Expr} {f : FD} {fl fh : FO} {p2 pos : Pos} (he : PD X e f) (hl : PP X lo fl) (hh : PP X hi fh) : PD X (.Subscript e (.Slice lo hi none p2) pos) (eSl f fl fh) := by
  refine (pe_slice (sl_str.or sl_list) he hl hh).imp fun σ H Q ⟨Z, B, δ, d, E, hf, q⟩ => ?_
  obtain ⟨d1, h1, h2⟩ := R.bind_ok hf
  obtain ⟨l, h3, h4⟩ := R.bind_ok h2
  obtain ⟨h, h5, h6⟩ := R.bind_ok h4
  refine ⟨Z, B, δ, d1, E, h1, fun v1 H1 s1 r1 => ⟨Z, B, δ, l, E.same s1, h3, fun H2 s2 => ⟨Z, B, δ, h, (E.same s1).same s2, h5, fun H3 s3 => ?_⟩⟩⟩
  have sA : Same H H3 := s1.trans (s2.trans s3)
  have r1' := r1.same (s2.trans s3)
  unfold slD at h6
  split at h6
  · obtain ⟨hz, h7⟩ := R.when_ok h6
    cases h7
    exact .inl ⟨_, Rep.str.mp r1', of_decide_eq_true hz, q _ H3 sA (Rep.str.mpr rfl)⟩
  · cases h6
    obtain ⟨a, xs, rfl, ls, rs⟩ := Rep.lst.mp r1'
    refine .inr ⟨a, xs, rfl, ls.sq, fun p hp => q _ _ (sA.trans (same_upd hp)) (Rep.lst.mpr ⟨p, _, rfl, .of_new upd_same fun ha => ?_, (cut_reps rs l h).same (same_upd hp)⟩)⟩
    obtain ⟨o, ho⟩ := (E.same sA).bs p ha
    rw [hp] at ho; cases ho
  · cases h6

end
end L2

end
section
set_option maxRecDepth 100000
set_option maxHeartbeats 4000000
/-! ## THE DATUM LAYER: calls, methods, f-strings, more that is walked (own) -/
namespace L2
open PySem PySem.Spec PyProof.Rows

section
variable {X : Cx}
theorem Reps.one {K : PySem.W.Frag} {B : List Addr} {H : Hp} {d : D} {xs : List V} (h : Reps K B H [d] xs) : ∃ x, xs = [x] ∧ Rep K B H d x := by
  obtain ⟨x, r, rfl, h1, h2⟩ := h.uncons
  unfold Reps at h2
  subst h2
  exact ⟨x, rfl, h1⟩
/-! built-in functions -/
def cLen : List D → R D
  | [.str x] => R.when (decide (x.length ≤ sizeLine)) (.ok (.int x.length))
  | [.lst ds] => .ok (.int ds.length)
  | [.tup ds] => .ok (.int ds.length)
  | _ => .no
theorem c_len : CallD X (.builtin "len") cLen := CallD.of call_len fun B H ds d xs Q _ rs hg q => by
  unfold cLen at hg
  split at hg
  · obtain ⟨h1, h2⟩ := R.when_ok hg
    cases h2
    obtain ⟨x, rfl, r⟩ := rs.one
    exact ⟨x, _, rfl, by rw [Rep.str.mp r]; exact ⟨of_decide_eq_true h1, rfl⟩, q _ H (Same.refl H) (Rep.int.mpr rfl)⟩
  · cases hg
    obtain ⟨x, rfl, r⟩ := rs.one
    obtain ⟨a, ys, rfl, l, r⟩ := Rep.lst.mp r
    exact ⟨_, _, rfl, .inl ⟨ys, l.sq, rfl⟩, q _ H (Same.refl H) (Rep.int.mpr (by rw [r.length]))⟩
  · cases hg
    obtain ⟨x, rfl, r⟩ := rs.one
    obtain ⟨a, ys, rfl, l, r⟩ := Rep.tup.mp r
    exact ⟨_, _, rfl, .inr ⟨ys, l.sq, rfl⟩, q _ H (Same.refl H) (Rep.int.mpr (by rw [r.length]))⟩
  · cases hg
def cInt : List D → R D
  | [.int i] => .ok (.int i)
  | [.bl b] => .ok (.int (if b then 1 else 0))
  | _ => .no
def cStr : List D → R D
  | [.int i] => R.when (decide (i.natAbs.log2 < 1920)) (.ok (.str (toString i)))
  | _ => .no
def cMin : List D → R D
  | [.int i, .int j] => .ok (.int (if j < i then j else i))
  | _ => .no
def cMax : List D → R D
  | [.int i, .int j] => .ok (.int (if j > i then j else i))
  | _ => .no
def cTuple : List D → R D
  | [.lst ds] => .ok (.tup ds)
  | [.tup ds] => .ok (.tup ds)
  | _ => .no
theorem c_tuple : CallD X (.type "tuple") cTuple := CallD.of call_tuple_of fun B H ds d xs Q hb rs hg q => by
  unfold cTuple at hg
  split at hg
  · cases hg
    obtain ⟨x, rfl, r⟩ := rs.one
    obtain ⟨a, ys, rfl, l, r⟩ := Rep.lst.mp r
    refine ⟨a, ys, rfl, .inl ⟨l.sq, fun p hp => q _ _ (same_upd hp) (Rep.tup.mpr ⟨p, ys, rfl, .inl ⟨fun ha => ?_, .inl upd_same⟩, r.same (same_upd hp)⟩)⟩⟩
    obtain ⟨o, ho⟩ := hb p ha
    rw [hp] at ho; cases ho
  · cases hg
    obtain ⟨x, rfl, r⟩ := rs.one
    have r0 := r
    obtain ⟨a, ys, rfl, l, r⟩ := Rep.tup.mp r
    exact ⟨a, ys, rfl, .inr ⟨l.sq, q _ H (Same.refl H) r0⟩⟩
  · cases hg
def cList : List D → R D
  | [.lst ds] => .ok (.lst ds)
  | [.tup ds] => .ok (.lst ds)
  | _ => .no
def cAbs : List D → R D
  | [.int i] => .ok (.int (if i < 0 then -i else i))
  | _ => .no
theorem c_abs : CallD X (.builtin "abs") cAbs := CallD.of call_abs fun B H ds d xs Q _ rs hg q => by
  unfold cAbs at hg
  split at hg
  · cases hg
    obtain ⟨x, rfl, r⟩ := rs.one
    exact ⟨_, by rw [Rep.int.mp r], q _ H (Same.refl H) (Rep.int.mpr rfl)⟩
  · cases hg
def cSum : List D → R D
  | [.lst ds] => (match ints? ds with | some ns => .ok (.int ns.sum) | none => .no)
  | _ => .no
/-! isinstance(x, T) for a built-in T -/
def tyName : D → String
  | .non => "NoneType" | .bl _ => "bool" | .int _ => "int" | .str _ => "str" | .lst _ => "list" | .tup _ => "tuple" | .dct _ _ => "dict"
/-- isinstance of a text and str; of a bool and bool -/
def eIsT (T : String) (f : FD) : FD := fun δ => (f δ).bind fun d => R.when (tyName d == T && d.atom) (.ok (.bl true))
/-! methods -/
def MtD (X : Cx) (id : String) (g : D → List D → R D) : Prop :=
  ∀ (pins : List (Addr × Obj)) (s : Shared) (σ : St) (H : Hp) (B : List Addr) (da d : D) (ds : List D) (x : V) (xs : List V) (v : Value) (us : List Value), Inv X pins σ H s → (∀ a ∈ B, ∃ o, H a = some o) → RelV x v → Vals xs us → Rep X.K B H da x → Reps X.K B H ds xs → g da ds = .ok d →
    wpAny (model X.prog X.w) X.A (call (.builtin id) (v :: us)) (EP X pins σ fun z H' => Same H H' ∧ Rep X.K B H' d z) X.xe s
def eMt (T : String) (g : D → List D → R D) (f : FD) (fs : DEnv → R (List D)) : FD := fun δ => (f δ).bind fun d => R.when (tyName d == T && (d.atom || T == "list")) ((fs δ).bind fun ds => g d ds)
def mJoin (d : D) (ds : List D) : R D := match d, ds with
  | .str sep, [.lst es] => (match strs? es with | some ss => R.when (JoinOk sep ss) (.ok (.str (Str.join sep ss))) | none => .no)
  | _, _ => .no
/-! f-strings -/
abbrev PJ (X : Cx) (es : List Expr) (f : DEnv → R (List Str)) : Prop :=
  ∀ (pins : List (Addr × Obj)) (s : Shared) (σ : St) (H : Hp) (Z B : List Addr) (δ : DEnv) (acc : Str) (ss : List Str) (Q : VK), Inv X pins σ H s → EnvR X.K Z B H σ δ → f δ = .ok ss → (ss.foldl (· ++ ·) acc).length ≤ sizeLine → (∀ H', Same H H' → Q (.str (ss.foldl (· ++ ·) acc)) H') →
    wpAny (model X.prog X.w) X.A (joinParts acc (evalEach es X.env)) (EP X pins σ Q) X.xe s
def jNil : DEnv → R (List Str) := fun _ => .ok []
def jCons (f : FD) (g : DEnv → R (List Str)) : DEnv → R (List Str) := fun δ => (f δ).bind fun d => match d with | .str x => (g δ).bind fun ss => .ok (x :: ss) | _ => .no
def eJoined (g : DEnv → R (List Str)) : FD := fun δ => (g δ).bind fun ss => R.when (decide ((ss.foldl (· ++ ·) Str.empty).length ≤ sizeLine)) (.ok (.str (ss.foldl (· ++ ·) Str.empty)))
def fmtD : D → R D
  | .str x => R.when (decide (x.length ≤ sizeLine)) (.ok (.str x))
  | .int i => R.when (decide (i.natAbs.log2 < 1920)) (.ok (.str (toString i)))
  | _ => .no
def eFmt (f : FD) : FD := fun δ => (f δ).bind fmtD
/-! {..}.get(k, d): a written dict of texts to atoms -/
def lookD : List (D × D) → Str → R (Option D)
  | [], _ => .ok none
  | (.str y, d) :: r, x => (lookD r x).bind fun o => .ok (match o with | some e => some e | none => if y = x then some d else none)
  | _ :: _, _ => .no

/-! a text's signs -/
def signD (x : Str) : List D := x.cps.toList.map fun c => .str ⟨#[c]⟩
def Its (x : Str) : It := ⟨fun i _ => i < x.cps.size, fun i H v H' => H' = H ∧ ∃ c, x.cps[i]? = some c ∧ v = .str ⟨#[c]⟩, fun i _ => x.cps.size ≤ i⟩
def itStr (f : FD) : DEnv → R (List D) := fun δ => (f δ).bind fun d => match d with | .str x => .ok (signD x) | _ => .no
/-! enumerate -/
def Ite (K : PySem.W.Frag) (a : Addr) : It :=
  ⟨fun i H => ∃ xs x, SqL K H a xs ∧ xs[i]? = some x, fun i H v H' => ∃ p x, H p = none ∧ v = .ref p ∧ (∀ xs, SqL K H a xs → xs[i]? = some x) ∧ H' = upd H p (.tup [.int i, x]), fun i H => ∃ xs, SqL K H a xs ∧ xs.length ≤ i⟩
theorem turn_enum {P : Program} {w : World} {K : PySem.W.Frag} {elts : List Expr} {k : Nat} {pos : Pos} (a e it : Addr) (hei : e ≠ it) : Turn P w K (.Tuple elts k pos) (Ite K a) [e, it] e (fun i h => (∃ old, IsEnum h e it ((i : Nat) : Int) old) ∧ h.IsListIter it a i) where
  mem := by simp
  obj := fun i h st b hb => by
    obtain ⟨⟨old, he⟩, o, ho, c, d⟩ := st
    rcases List.mem_cons.mp hb with rfl | hb
    · exact ⟨_, he, fun v z => by cases z⟩
    · have e : b = it := by simpa using hb
      subst e
      exact ⟨o, ho, fun v z => by rw [d] at z; cases z⟩
  keep := fun i h h' st k => by
    obtain ⟨⟨old, he⟩, hi⟩ := st
    exact ⟨⟨old, k e (by simp) _ he⟩, hi.at fun o x => k it (by simp) o x⟩
  item := by
    intro X hP hw hK hc i pins s σ H E I hf st hg
    subst hP hw hK
    obtain ⟨xs, x, hq, hx⟩ := hg
    obtain ⟨its, rv, p, hz⟩ := I.list hq
    obtain ⟨u, hu, ru⟩ := rv.get hx
    obtain ⟨⟨old, he⟩, hit⟩ := st
    obtain ⟨f0, f1, f2, f3, f4, f5⟩ := hf e (by simp)
    obtain ⟨g0, g1, g2, g3, g4, g5⟩ := hf it (by simp)
    refine wpAny_pyNext_enum_item he hit p.isList (x := u) (by simpa using hu) hei fun h₁ heo hit₁ ht₁ hz₁ hk₁ => ⟨_, rfl, ?_⟩
    refine wpAny_letOwnedTupleGo_enum heo fun h₂ he₂ hs₂ => ?_
    replace hs₂ : Heap.SameBut e h₁ h₂ := hs₂
    have hel : e < s.heap.objs.size := Heap.lt_size he
    have ht₂ : h₂.get? s.heap.objs.size = some { cls := .type "tuple", data := .seq #[.int i s.toks, u] } := (hs₂.2 _ (Nat.ne_of_gt hel)).trans ht₁
    have kk : ∀ b o, b ≠ e → b ≠ it → s.heap.get? b = some o → h₂.get? b = some o := fun b o h1 h2 q => (hs₂.2 b h1).trans (hk₁ b o h1 h2 q)
    have hn : H s.heap.objs.size = none := I.fresh
    have sm : Same H (upd H s.heap.objs.size (.tup [.int i, x])) := same_upd hn
    have nit : ∀ b o, H b = some o → b ≠ e ∧ b ≠ it := fun b o q => ⟨fun z => (by rw [z, f0] at q; cases q), fun z => (by rw [z, g0] at q; cases q)⟩
    have hok : HOk X.prog X.w (upd H s.heap.objs.size (.tup [.int i, x])) h₂ := fun b ob q => by
      by_cases hb : b = s.heap.objs.size
      · subst hb
        rw [upd_same] at q
        cases q
        exact ⟨by show 2 ≤ sizeLine; decide, [.int i s.toks, u], .cons ⟨_, rfl⟩ (.cons ru .nil), ⟨_, ht₂, rfl, _, rfl⟩⟩
      · rw [upd_ne hb] at q
        refine (I.hok b ob q).stay (fun c v hc z => ?_) (fun c z => sm c _ z) fun c ys z => sm c _ z
        rcases hc with rfl | hc
        · exact kk c v (nit c _ q).1 (nit c _ q).2 z
        · exact kk c v (nit c _ hc).1 (nit c _ hc).2 z
    have nch : ∀ b, b ∉ [e, it] → b ≠ e ∧ b ≠ it := fun b hb => ⟨fun z => hb (by simp [z]), fun z => hb (by simp [z])⟩
    have I2 : Inv X pins σ (upd H s.heap.objs.size (.tup [.int i, x])) { s with heap := h₂, toks := s.toks + 1 } := by
      refine I.step (g' := s.gens) (d' := s.drawn) (ch := [e, it]) (fun b hb => ?_) (fun b o _ _ hb q _ => kk b o (nch b hb).1 (nch b hb).2 q) (fun b o _ _ hb q _ => ⟨o.slots, kk b o (nch b hb).1 (nch b hb).2 q⟩)
        (fun b o hb q n => by rw [upd_ne (Nat.ne_of_lt (Heap.lt_size q))]; exact n) (fun b o hb q => ⟨o, kk b o (nch b hb).1 (nch b hb).2 q⟩) (fun b ys z => sm b _ z) (fun b o u z => sm b _ z) (fun b ps z => ⟨#[], by rw [sm b _ z]; simp⟩) (fun m hm => ?_) hok I.bare
      · rcases List.mem_cons.mp hb with rfl | hb
        · exact ⟨f3, f1, f4, f5⟩
        · have z : b = it := by simpa using hb
          subst z
          exact ⟨g3, g1, g4, g5⟩
      · obtain ⟨o, es, ep, ho, r⟩ := hm
        exact ⟨o, es, ep, kk _ o (Ne.symm f1) (Ne.symm g1) ho, r⟩
    refine ⟨.ref s.heap.objs.size, _, I2, rfl, ⟨s.heap.objs.size, x, hn, rfl, fun ys hy => (by rw [I.list_inj hy hq]; exact hx), rfl⟩, ⟨⟨_, by simpa using he₂⟩, hit₁.at fun o q => (hs₂.2 it (Ne.symm hei)).trans q⟩, fun b hb => ?_⟩
    rcases List.mem_cons.mp hb with rfl | hb
    · rw [upd_ne (Nat.ne_of_lt hel)]; exact f0
    · have z : b = it := by simpa using hb
      subst z
      obtain ⟨o, ho, _⟩ := hit
      rw [upd_ne (Nat.ne_of_lt (Heap.lt_size ho))]; exact g0
  done := by
    intro X hP hw hK hc i pins s σ H E I hf st hg
    subst hP hw hK
    obtain ⟨xs, hq, hx⟩ := hg
    obtain ⟨its, rv, p, hz⟩ := I.list hq
    obtain ⟨⟨old, he⟩, hit⟩ := st
    obtain ⟨g0, g1, g2, g3, g4, g5⟩ := hf it (by simp)
    have hl := rv.length
    exact wpAny_pyNext_enum_end (I.ok.hd hc) he hit p.isList (by simp; omega) fun h' eb => ⟨rfl, I.turned (t' := s.toks) (fun b o hb q => eb b o hb q) g0 g1 g3 g4 g5⟩
  self := fun A i s Q E st h => let ⟨⟨_, he⟩, _⟩ := st; wpAny_pyIter_enum he h
def enumD (ds : List D) : List D := ds.zipIdx.map fun p => .tup [.int p.2, p.1]
def itEnum (f : FD) : DEnv → R (List D) := fun δ => (f δ).bind fun d => match d with | .lst ds => .ok (enumD ds) | _ => .no
theorem pit_enum {elts : List Expr} {k : Nat} {tpos : Pos} {a : Expr} {f : FD} {p pos : Pos} (h : PD X a f) (hg : Gl X "enumerate") (hm : X.mg "enumerate" = none) (hs : starEach [a] X.env = [(false, eval a X.env)] := by rfl) : PIt X (.Tuple elts k tpos) (.Call (.Name "enumerate" p) [a] [] pos) (itEnum f) := by
  intro pins s σ H RR I ⟨Z, B, δ, ds, E, hf, q⟩
  obtain ⟨d, h1, h2⟩ := R.bind_ok hf
  have hA := pa_cons h pa_nil hs pos pins s σ H (fun vs H1 => Same H H1 ∧ ∃ v, vs = [v] ∧ Rep X.K B H1 d v) I ⟨Z, B, δ, d, E, h1, fun v H1 s1 r1 => ⟨s1, v, rfl, r1⟩⟩
  refine Call_ (ld_blt I hg hm boot_enumerate (PyProof.Rows.callWith_type1 (thn hA fun us s1 ⟨vs, H1, I1, r1, ss, v, ev, rr⟩ => ?_) hs rfl))
  subst ev
  obtain ⟨u, rfl, ru⟩ := vals1 r1
  cases d with
  | lst es =>
    cases h2
    obtain ⟨b, xs, rfl, l, rs⟩ := Rep.lst.mp rr
    cases ru
    obtain ⟨its, n, rv, e1, hz⟩ := I1.rdL l
    refine call_enumerate_list (items := its.toArray) ⟨_, e1, rfl, n, rfl⟩ fun h' he hit hsz kk => wpAny_pyIter_enum he ?_
    have I2 : Inv X pins σ H1 { s1 with heap := h' } := I1.kept (t' := s1.toks) kk
    refine ⟨s1.heap.objs.size + 1, [s1.heap.objs.size + 1, s1.heap.objs.size], _, _, H1, rfl, I2, turn_enum b (s1.heap.objs.size + 1) s1.heap.objs.size (Nat.succ_ne_self _), ⟨⟨_, he⟩, hit⟩, fun c hc => ?_, q _ H1 ss fun B' H' pr => ?_⟩
    · have hle : s1.heap.objs.size ≤ c := by
        rcases List.mem_cons.mp hc with z | hc
        · rw [z]; exact Nat.le_succ _
        · have z : c = s1.heap.objs.size := by simpa using hc
          rw [z]; exact Nat.le_refl _
      exact I1.fpOk hle (I1.hok.fresh hle)
    · have l' : LsF X.K B' H' b xs := l.pres pr
      have rs' := rs.pres pr
      refine ⟨fun i d hd => ?_, ⟨xs, l'.sq, by rw [← rs.length]; unfold enumD; simp⟩⟩
      unfold enumD at hd
      rw [List.getElem?_map, List.getElem?_zipIdx] at hd
      cases e : es[i]? with
      | none => rw [e] at hd; cases hd
      | some d0 =>
        rw [e] at hd
        have hd : D.tup [.int ((0 + i : Nat) : Int), d0] = d := Option.some.inj hd
        rw [Nat.zero_add] at hd
        obtain ⟨x, hx, rx⟩ := rs'.get e
        refine ⟨⟨xs, x, l'.sq, hx⟩, fun v H'' y hB' => ?_⟩
        obtain ⟨p, y, hp, rfl, hy, rfl⟩ := y
        refine ⟨same_upd hp, ?_⟩
        subst hd
        have hy2 := hy xs l'.sq
        rw [hx] at hy2
        cases hy2
        refine Rep.tup.mpr ⟨p, _, rfl, .inl ⟨fun ha => ?_, .inl upd_same⟩, Reps.cons (Rep.int.mpr rfl) (Reps.cons (rx.same (same_upd hp)) Reps.nil)⟩
        obtain ⟨o, ho⟩ := hB' p ha
        rw [hp] at ho; cases ho
  | _ => cases h2
end
end L2

end
section
set_option maxRecDepth 100000
set_option maxHeartbeats 4000000
/-! ## THE DATUM LAYER: glue for a text's defs (own) -/
namespace L2
open PySem PySem.Spec PyProof.Rows

/-- a def of the text, by its name -/
def Def (K : PySem.W.Frag) (mg : Str → Option Value) (x : Str) (st : Stmt) : Prop := ∃ f fd, Fun K x x st f fd ∧ mg x = some (.ref f)
/-- a pure def that may be called -/
def Callee (P : Program) (w : World) (K : PySem.W.Frag) (mg : Str → Option Value) (base : Heap) (k : Nat) (x : Str) (n : Nat) (g : List D → R D) : Prop :=
  ∃ f fd ps, FnOk P w K mg base CX0 k f fd ps (spD K n g) ∧ mg x = some (.ref f) ∧ PySem.W.keepIn K (.ref f) = true ∧ Binds K fd ps []
theorem alen_nil : ∀ (δ : DEnv) (ds : List D), aNil δ = .ok ds → ds.length = 0 := fun δ ds h => by cases h; rfl
theorem alen_cons {f : FD} {g : DEnv → R (List D)} {n : Nat} (h : ∀ (δ : DEnv) (ds : List D), g δ = .ok ds → ds.length = n) : ∀ (δ : DEnv) (ds : List D), aCons f g δ = .ok ds → ds.length = n + 1 := fun δ ds e => by
  obtain ⟨d, h1, h2⟩ := R.bind_ok e
  obtain ⟨es, h3, h4⟩ := R.bind_ok h2
  cases h4
  rw [List.length_cons, h δ es h3]
/-- THE RULE for a pure def, its body and scope as they are written out -/
theorem fn_pureB {P : Program} {w : World} {K : PySem.W.Frag} {mg : Str → Option Value} {base : Heap} {x qual : Str} {st : Stmt} {f : Addr} {fd : FuncData} {N ps : List Str} {k : Nat} {F : FS} {b : List Stmt} {sc : Scope} (hb : defBody st = b) (hs : defScope st = sc) (Fn : Fun K x qual st f fd) (S : FnScope N ps sc)
    (hbody : ∀ (cdv : Value) (A : Around) (outer : List Env) (s : Shared) (H : Hp) (E : XK), Room k (A.deeper (envOfC qual sc s.heap.objs.size f cdv)) →
      PDss (cxOf CX0 P w K mg base N qual sc f cdv A outer s H E).nox b F) : FnOk P w K mg base CX0 (k + 1) f fd ps (spD K ps.length (fnD N F)) := by
  subst hb hs
  exact fn_pure Fn S hbody
section
variable {X : Cx}
theorem pd_callC {g : List D → R D} {k j n : Nat} {x : Str} {p pos : Pos} {e : Expr} {es : List Expr} {fs : DEnv → R (List D)} (C : Callee X.prog X.w X.K X.mg X.base k x n g) (hr : Room j X.A) (hkj : k ≤ j) (hg : Gl X x) (ha : PAs X (e :: es) fs)
    (hn : ∀ δ ds, fs δ = .ok ds → ds.length = n) (hdb : (x == ("__debug__" : Str)) = false := by decide) (he : starEach (e :: es) X.env = (false, eval e X.env) :: starEach es X.env := by rfl) (hpl : (backTo pos (starEach es X.env)).any (·.1) = false := by rfl) :
    PD X (.Call (.Name x p) (e :: es) [] pos) (eCall g fs) := by
  obtain ⟨f, fd, ps, F, hm, hk, hb⟩ := C
  exact pd_call F (hr.mono hkj) hg hm hk hb ha hn hdb he hpl
/-- what a block's scope is, by a look -/
def csOk (sc : Scope) (N : List Str) (scope : Scope) (kp : List Nat) (kn : List Str) : Bool :=
  decide (scope.kind = .function) && scope.names.all (fun y => decide (y.2 ≠ .cell)) && scope.names.all (fun y => decide (y.2 = .local → scope.names.lookup y.1 = some .local))
    && scope.names.all (fun y => decide (y.2 = .free → (sc.names.lookup y.1 = some .cell ∨ sc.names.lookup y.1 = some .free))) && decide (kn.length = kp.length)
    && (List.range kp.length).all (fun j => decide ((kp[j]?).bind (N[·]?) = kn[j]?)) && kn.all (fun x => decide (scope.names.lookup x = some .free))
theorem CScope.of {scope : Scope} {own : List Str} {kp : List Nat} {kn : List Str} {sc : Scope} {N : List Str} (h1 : X.env.scope = sc) (h2 : X.N = N) (h : csOk sc N scope kp kn = true) : CScope X scope own kp kn := by
  unfold csOk at h
  simp only [Bool.and_eq_true, decide_eq_true_eq, List.all_eq_true] at h
  obtain ⟨⟨⟨⟨⟨⟨a1, a2⟩, a3⟩, a4⟩, a5⟩, a6⟩, a7⟩ := h
  refine ⟨a1, a2, a3, fun y hy hf => ?_, a5, fun j i x hj hx => ?_, a7⟩
  · have := a4 y hy hf
    unfold Env.kindOf
    rw [h1]
    exact this
  · have hlt : j < kp.length := (List.getElem?_eq_some_iff.mp hj).1
    have := a6 j (List.mem_range.mpr hlt)
    rw [hj] at this
    rw [h2]
    exact this.trans hx
/-- {k: v, ..}.get(e, d): written texts to written ints -/
def eGet (kvs : List (Key × V)) (f g : FD) : FD := fun δ => (f δ).bind fun k => (g δ).bind fun d => match k with
  | .str x => (match valV (mergeK [] kvs) (Sum.inr x) with | some (.int i) => .ok (.int i) | none => .ok d | _ => .no)
  | _ => .no
def sExtV (i : Nat) (f : FD) : FS := fun δ => (f δ).bind fun d => match d with
  | .lst es => (bldAt δ i).bind fun ds => R.when (decide (ds.length + es.length ≤ sizeLine)) (.ok (.nx (δ.set i (.bld (ds ++ es)))))
  | _ => .no
end
end L2

end
section
set_option maxRecDepth 100000
set_option maxHeartbeats 4000000
/-! ## THE DATUM LAYER: its judgements, shut (own) -/
namespace L2
open PySem PySem.Spec PyProof.Rows
structure QD (X : Cx) (e : Expr) (f : FD) : Prop where
  h : PD X e f
structure QN (X : Cx) (e : Expr) (f : DEnv → R (List D)) : Prop where
  h : PN X e f
structure QB (X : Cx) (e : Expr) (f : DEnv → R Bool) : Prop where
  h : PB X e f
structure QBW (X : Cx) (e : Expr) (f : DEnv → R Bool) : Prop where
  h : PBW X e f
structure QAs (X : Cx) (e : List Expr) (f : DEnv → R (List D)) : Prop where
  h : PAs X e f
structure QDs (X : Cx) (e : Stmt) (f : FS) : Prop where
  h : PDs X e f
structure QDss (X : Cx) (e : List Stmt) (f : FS) : Prop where
  h : PDss X e f
structure QTg (X : Cx) (e : Expr) (f : FT) : Prop where
  h : PTg X e f
structure QTgs (X : Cx) (e : List Expr) (f : FTs) : Prop where
  h : PTgs X e f
structure QIt (X : Cx) (tg e : Expr) (f : DEnv → R (List D)) : Prop where
  h : PIt X tg e f
structure QP (X : Cx) (e : Option Expr) (f : FO) : Prop where
  h : PP X e f
structure QJ (X : Cx) (e : List Expr) (f : DEnv → R (List Str)) : Prop where
  h : PJ X e f
structure QIfs (X : Cx) (e : List Expr) (c : DEnv → R Bool) : Prop where
  h : PIfs X e (tTD X.K c)
section
variable {X : Cx}
theorem qpd_new {e : Expr} {f : DEnv → R (List D)} (h : QN X e f) : QD X e (eNew f) := ⟨pd_new h.1⟩
theorem qpd_var (i : Nat) {x : Str} {pos : Pos} (hN : X.N[i]? = some x := by rfl) (hv : Vis X.env.scope x := by first | exact Or.inl rfl | exact Or.inr (Or.inl rfl) | exact Or.inr (Or.inr rfl)) (hd : (x == ("__debug__" : Str)) = false := by decide) (hcd : (x == ("__classdict__" : Str)) = false := by decide) : QD X (.Name x pos) (eVar i) := ⟨pd_var i hN hv hd hcd⟩
theorem qpd_int {i j pos} : QD X (.Constant (.int i) j pos) (eC (.int i)) := ⟨pd_int⟩
theorem qpd_bl {b j pos} : QD X (.Constant (.bool b) j pos) (eC (.bl b)) := ⟨pd_bl⟩
theorem qpd_non {j pos} : QD X (.Constant .none j pos) (eC .non) := ⟨pd_non⟩
theorem qpd_str {x j pos} : QD X (.Constant (.str x) j pos) (eC (.str x)) := ⟨pd_str⟩
theorem qpas_nil  : QAs X [] aNil := ⟨pas_nil⟩
theorem qpas_cons {e : Expr} {es : List Expr} {f : FD} {g : DEnv → R (List D)} (h : QD X e f) (t : QAs X es g) (hs : starEach (e :: es) X.env = (false, eval e X.env) :: starEach es X.env := by rfl) : QAs X (e :: es) (aCons f g) := ⟨pas_cons h.1 t.1 hs⟩
theorem qpd_tup {es : List Expr} {g : DEnv → R (List D)} {x1 pos} (h : QAs X es g) : QD X (.Tuple es x1 pos) (eTup g) := ⟨pd_tup h.1⟩
theorem qpn_lst {es : List Expr} {g : DEnv → R (List D)} {pos} (h : QAs X es g) : QN X (.List es pos) (nLst g) := ⟨pn_lst h.1⟩
theorem qpd_op {op : Operator} {g : D → D → R D} {a b : Expr} {fa fb : FD} {pos : Pos} (ho : OpD X (binaryOp op) g) (ha : QD X a fa) (hb : QD X b fb) : QD X (.BinOp a op b pos) (e2 g fa fb) := ⟨pd_op ho ha.1 hb.1⟩
theorem qpd_cmp {op : CmpOp} {g : D → D → R D} {a b : Expr} {fa fb : FD} {pos : Pos} (ho : OpD X (compareOp op) g) (ha : QD X a fa) (hb : QD X b fb) (hm : behindInMarks op b = false) : QD X (.Compare a [op] [b] pos) (e2 g fa fb) := ⟨pd_cmp ho ha.1 hb.1 hm⟩
theorem qpb_cmp {op : CmpOp} {g : D → D → R D} {a b : Expr} {fa fb : FD} {pos : Pos} (ho : OpD X (compareOp op) g) (ha : QD X a fa) (hb : QD X b fb) (hm : behindInMarks op b = false) : QB X (.Compare a [op] [b] pos) (b2 g fa fb) := ⟨pb_cmp ho ha.1 hb.1 hm⟩
theorem qpb_tru {a : Expr} {f : FD} (ha : QD X a f) (he : ∀ whole, isTrue a X.env whole = (do let v ← whole; standAt a.pos; holding [v] (truthy v)) := by intro _; rfl) : QB X a (bTru f) := ⟨pb_tru ha.1 he⟩
theorem qPBW_pb {e : Expr} {f : DEnv → R Bool} (h : QBW X e f) : QB X e f := ⟨PBW.pb h.1⟩
theorem qpbw_and1 {a : Expr} {f : DEnv → R Bool} {pos : Pos} (h : QB X a f) : QBW X (.BoolOp .And [a] pos) f := ⟨pbw_and1 h.1⟩
theorem qpbw_or1 {a : Expr} {f : DEnv → R Bool} {pos : Pos} (h : QB X a f) : QBW X (.BoolOp .Or [a] pos) f := ⟨pbw_or1 h.1⟩
theorem qpbw_and {a b : Expr} {rest : List Expr} {f g : DEnv → R Bool} {pos : Pos} (ha : QB X a f) (hb : QBW X (.BoolOp .And (b :: rest) pos) g) : QBW X (.BoolOp .And (a :: b :: rest) pos) (bAnd f g) := ⟨pbw_and ha.1 hb.1⟩
theorem qpbw_or {a b : Expr} {rest : List Expr} {f g : DEnv → R Bool} {pos : Pos} (ha : QB X a f) (hb : QBW X (.BoolOp .Or (b :: rest) pos) g) : QBW X (.BoolOp .Or (a :: b :: rest) pos) (bOr f g) := ⟨pbw_or ha.1 hb.1⟩
theorem qpb_not {a : Expr} {f : DEnv → R Bool} {pos : Pos} (ha : QB X a f) : QB X (.UnaryOp .Not a pos) (bNot f) := ⟨pb_not ha.1⟩
theorem qpd_one {a : Expr} {op} {f : FD} {pos : Pos} (h : QD X a f) : QD X (.BoolOp op [a] pos) f := ⟨pd_one h.1⟩
theorem qpd_and {a b : Expr} {rest : List Expr} {f g : FD} {pos : Pos} (ha : QD X a f) (hb : QD X (.BoolOp .And (b :: rest) pos) g) : QD X (.BoolOp .And (a :: b :: rest) pos) (eAnd f g) := ⟨pd_and ha.1 hb.1⟩
theorem qpd_not {a : Expr} {f : FD} {pos : Pos} (ha : QD X a f) : QD X (.UnaryOp .Not a pos) (eNot f) := ⟨pd_not ha.1⟩
theorem qpd_if {c a b : Expr} {fc : DEnv → R Bool} {f g : FD} {pos : Pos} (hc : QB X c fc) (ha : QD X a f) (hb : QD X b g) : QD X (.IfExp c a b pos) (eIf fc f g) := ⟨pd_if hc.1 ha.1 hb.1⟩
theorem qpd_callB {g : List D → R D} {x : Str} {id : String} {p pos : Pos} {e : Expr} {es : List Expr} {fs : DEnv → R (List D)} (hc : CallD X (.builtin id) g) (hg : Gl X x) (hm : X.mg x = none) (hv : bootBuiltins x = some (.builtin id)) (ha : QAs X (e :: es) fs) (hn : x ≠ "__name__" := by decide) (hdb : (x == ("__debug__" : Str)) = false := by decide) (he : starEach (e :: es) X.env = (false, eval e X.env) :: starEach es X.env := by rfl) (hpl : (backTo pos (starEach es X.env)).any (·.1) = false := by rfl) : QD X (.Call (.Name x p) (e :: es) [] pos) (eCall g fs) := ⟨pd_callB hc hg hm hv ha.1 hn hdb he hpl⟩
theorem qpd_callTy {g : List D → R D} {x : Str} {T : String} {p pos : Pos} {e : Expr} {es : List Expr} {fs : DEnv → R (List D)} (hc : CallD X (.type T) g) (hg : Gl X x) (hm : X.mg x = none) (hv : bootBuiltins x = some (.type T)) (ha : QAs X (e :: es) fs) (hn : x ≠ "__name__" := by decide) (hdb : (x == ("__debug__" : Str)) = false := by decide) (he : starEach (e :: es) X.env = (false, eval e X.env) :: starEach es X.env := by rfl) (hpl : (backTo pos (starEach es X.env)).any (·.1) = false := by rfl) : QD X (.Call (.Name x p) (e :: es) [] pos) (eCall g fs) := ⟨pd_callTy hc hg hm hv ha.1 hn hdb he hpl⟩
theorem qpds_nil  : QDss X [] sNil := ⟨pds_nil⟩
theorem qpds_cons {st : Stmt} {rest : List Stmt} {F G : FS} (h1 : QDs X st F) (h2 : QDss X rest G) : QDss X (st :: rest) (sSeq F G) := ⟨pds_cons h1.1 h2.1⟩
theorem qpds_one {st : Stmt} {F : FS} (h1 : QDs X st F) : QDss X [st] F := ⟨pds_one h1.1⟩
theorem qpds_set {i : Nat} {x : Str} {e : Expr} {f : FD} {pos pos' : Pos} (hN : X.N.Nodup) (hi : X.N[i]? = some x) (hx : Loc X.env.scope x) (he : QD X e f) (hs : swapsWith e (some (.Name x pos')) pos.line X.env = pure false := by rfl) (hf : X.fn x = true ∨ X.env.scope.names.lookup x = some .local := by first | exact .inl rfl | exact .inr rfl | assumption) : QDs X (.Assign [.Name x pos'] e pos) (sSet i f) := ⟨pds_set hN hi hx he.1 hs hf⟩
theorem qpds_bld {i : Nat} {x : Str} {e : Expr} {f : DEnv → R (List D)} {pos pos' : Pos} (hN : X.N.Nodup) (hi : X.N[i]? = some x) (hx : Loc X.env.scope x) (he : QN X e f) (hs : swapsWith e (some (.Name x pos')) pos.line X.env = pure false := by rfl) (hf : X.fn x = true ∨ X.env.scope.names.lookup x = some .local := by first | exact .inl rfl | exact .inr rfl | assumption) : QDs X (.Assign [.Name x pos'] e pos) (sBld i f) := ⟨pds_bld hN hi hx he.1 hs hf⟩
theorem qpds_app {i : Nat} {x : Str} {e : Expr} {f : FD} {npos apos cpos pos : Pos} (hN : X.N[i]? = some x) (hv : Vis X.env.scope x) (he : QD X e f) (hd : (x == ("__debug__" : Str)) = false := by decide) (hcd : (x == ("__classdict__" : Str)) = false := by decide) (hs : starEach [e] X.env = (false, eval e X.env) :: starEach [] X.env := by rfl) (hline : (apos.endLine == cpos.line) = true := by rfl) (hfew : ((backTo cpos (starEach [e] X.env)).all (fun x => !x.1) && (backToKw cpos (keywordEach [] X.env)).all (fun x => x.1.isSome)
      && decide (([e] : List Expr).length + ([] : List Keyword).length + (if ([] : List Keyword).isEmpty then 0 else 1) < 30)) = true := by rfl) (hsw : swapsWith (.Call (.Attribute (.Name x npos) "append" apos) [e] [] cpos) none pos.line X.env = pure false := by rfl) (hbase : attributeBase (.Name x npos) "append" X.env (eval (.Name x npos) X.env) = eval (.Name x npos) X.env := by rfl) : QDs X (.Expr (.Call (.Attribute (.Name x npos) "append" apos) [e] [] cpos) pos) (sApp i f) := ⟨pds_app hN hv he.1 hd hcd hs hline hfew hsw hbase⟩
theorem qpds_frz (i : Nat) {sts : List Stmt} {F : FS} (h : QDss X sts F) : QDss X sts (sFrz i F) := ⟨pds_frz i h.1⟩
theorem qpds_ret {e : Expr} {f : FD} {pos : Pos} (he : QD X e f) : QDs X (.Return (some e) pos) (sRet f) := ⟨pds_ret he.1⟩
theorem qpds_if {c : Expr} {a b : List Stmt} {fc : DEnv → R Bool} {F G : FS} {pos : Pos} (hc : QB X c fc) (ha : QDss X a F) (hb : QDss X b G) : QDs X (.If c a b pos) (sIf fc F G) := ⟨pds_if hc.1 ha.1 hb.1⟩
theorem qptg_name {i : Nat} {x : Str} {pos : Pos} (hN : X.N.Nodup) (hi : X.N[i]? = some x) (hx : Loc X.env.scope x) (hf : X.fn x = true ∨ X.env.scope.names.lookup x = some .local := by first | exact .inl rfl | exact .inr rfl | assumption) : QTg X (.Name x pos) (gNameD i) := ⟨ptg_name hN hi hx hf⟩
theorem qptgs_nil  : QTgs X [] gNilD := ⟨ptgs_nil⟩
theorem qptgs_cons {e : Expr} {es : List Expr} {t : FT} {u : FTs} (h1 : QTg X e t) (h2 : QTgs X es u) (hs : (assignEach (e :: es) X.env).map (·.2) = assign e X.env :: (assignEach es X.env).map (·.2) := by rfl) : QTgs X (e :: es) (gConsD t u) := ⟨ptgs_cons h1.1 h2.1 hs⟩
theorem qptg_tup {es : List Expr} {k : Nat} {t : FTs} {n : Nat} {pos : Pos} (hc : X.calm = true) (h : QTgs X es t) (hn : (assignEach es X.env).length = n := by rfl) (hst : (assignEach es X.env).findIdx? (·.1) = none := by rfl) : QTg X (.Tuple es k pos) (gTupD n t) := ⟨ptg_tup hc h.1 hn hst⟩
theorem qpit_seq {tg e : Expr} {f : FD} (h : QD X e f) : QIt X tg e (itSeq f) := ⟨pit_seq h.1⟩
theorem qpit_range1 {tg a : Expr} {f : FD} {p pos : Pos} (h : QD X a f) (hg : Gl X "range") (hm : X.mg "range" = none) (hs : starEach [a] X.env = [(false, eval a X.env)] := by rfl) : QIt X tg (.Call (.Name "range" p) [a] [] pos) (itRng1 f) := ⟨pit_range1 h.1 hg hm hs⟩
theorem qpds_for {tg iter : Expr} {body : List Stmt} {it : DEnv → R (List D)} {t : FT} {F : FS} {pos : Pos} (hp : PassesOwn (model X.prog X.w) X.A X.env X.xe) (hc : X.calm = true) (hi : QIt X tg iter it) (hg : QTg X tg t) (hb : QDss X body F) (hs : ∀ x, foldedSetIterable iter X.env x = pure x := by intro _; rfl) : QDs X (.For tg iter body [] pos) (sFor it t F) := ⟨pds_for hp hc hi.1 hg.1 hb.1 hs⟩
theorem qpn_comp {scope : Scope} {own : List Str} {kp : List Nat} {kn : List Str} {tg iter elt : Expr} {ifs : List Expr} {it : DEnv → R (List D)} {t : FT} {c : DEnv → R Bool} {f : FD} {pos : Pos} (hc : X.calm = true) (C : CScope X scope own kp kn) (hi : QIt X tg iter it) (hg : ∀ fp s H, QTg (cxComp X scope (own ++ kn) fp s H) tg t) (hif : ∀ fp s H, QIfs (cxComp X scope (own ++ kn) fp s H) ifs c) (he : ∀ fp s H, QD (cxComp X scope (own ++ kn) fp s H) elt f) (hs : ∀ x, foldedSetIterable iter X.env x = pure x := by intro _; rfl) : QN X (.ListComp elt [⟨tg, iter, ifs, 0⟩] scope pos) (nComp it t c f own kp) := ⟨pn_comp hc C hi.1 (fun fp s H => (hg fp s H).1) (fun fp s H => (hif fp s H).1) (fun fp s H => (he fp s H).1) hs⟩
theorem qpifs_yes  : QIfs X [] cYes := ⟨pifs_yes⟩
theorem qpifs_if {e : Expr} {c : DEnv → R Bool} (h : QB X e c) : QIfs X [e] c := ⟨pifs_if h.1⟩
theorem qpds_setComp {i : Nat} {x : Str} {pos' spos : Pos} {scope : Scope} {own : List Str} {kp : List Nat} {kn : List Str} {tg iter elt : Expr} {ifs : List Expr} {it : DEnv → R (List D)} {t : FT} {c : DEnv → R Bool} {f : FD} {pos : Pos} (hc : X.calm = true) (hN : X.N.Nodup) (hx : X.N[i]? = some x) (hxl : X.env.scope.names.lookup x = some .local) (C : CScope X scope own kp kn) (hi : QIt X tg iter it) (hg : ∀ fp s H, QTg (cxComp X scope (own ++ kn) fp s H) tg t) (hif : ∀ fp s H, QIfs (cxComp X scope (own ++ kn) fp s H) ifs c) (he : ∀ fp s H, QD (cxComp X scope (own ++ kn) fp s H) elt f) (hsw : swapsWith (.ListComp elt [⟨tg, iter, ifs, 0⟩] scope pos) (some (.Name x pos')) spos.line X.env = pure true := by rfl) (hs : ∀ x, foldedSetIterable iter X.env x = pure x := by intro _; rfl) : QDs X (.Assign [.Name x pos'] (.ListComp elt [⟨tg, iter, ifs, 0⟩] scope pos) spos) (sSet i (eNew (nComp it t c f own kp))) := ⟨pds_setComp hc hN hx hxl C hi.1 (fun fp s H => (hg fp s H).1) (fun fp s H => (hif fp s H).1) (fun fp s H => (he fp s H).1) hsw hs⟩
theorem qpd_ix {a b : Expr} {fa fb : FD} {pos : Pos} (ha : QD X a fa) (hb : QD X b fb) (hs : PlainIx b) : QD X (.Subscript a b pos) (e2 ixD fa fb) := ⟨pd_ix ha.1 hb.1 hs⟩
theorem qpp_none  : QP X none oNone := ⟨pp_none⟩
theorem qpp_some {e : Expr} {f : FD} (h : QD X e f) : QP X (some e) (oSome f) := ⟨pp_some h.1⟩
theorem qpd_sl {e : Expr} {lo hi : Option Expr} {f : FD} {fl fh : FO} {p2 pos : Pos} (he : QD X e f) (hl : QP X lo fl) (hh : QP X hi fh) : QD X (.Subscript e (.Slice lo hi none p2) pos) (eSl f fl fh) := ⟨pd_sl he.1 hl.1 hh.1⟩
theorem qpit_enum {elts : List Expr} {k : Nat} {tpos : Pos} {a : Expr} {f : FD} {p pos : Pos} (h : QD X a f) (hg : Gl X "enumerate") (hm : X.mg "enumerate" = none) (hs : starEach [a] X.env = [(false, eval a X.env)] := by rfl) : QIt X (.Tuple elts k tpos) (.Call (.Name "enumerate" p) [a] [] pos) (itEnum f) := ⟨pit_enum h.1 hg hm hs⟩
theorem qfn_pureB {P : Program} {w : World} {K : PySem.W.Frag} {mg : Str → Option Value} {base : Heap} {x qual : Str} {st : Stmt} {f : Addr} {fd : FuncData} {N ps : List Str} {k : Nat} {F : FS} {b : List Stmt} {sc : Scope} (hb : defBody st = b) (hs : defScope st = sc) (Fn : Fun K x qual st f fd) (S : FnScope N ps sc) (hbody : ∀ (cdv : Value) (A : Around) (outer : List Env) (s : Shared) (H : Hp) (E : XK), Room k (A.deeper (envOfC qual sc s.heap.objs.size f cdv)) →
      QDss (cxOf CX0 P w K mg base N qual sc f cdv A outer s H E).nox b F) : FnOk P w K mg base CX0 (k + 1) f fd ps (spD K ps.length (fnD N F)) := fn_pureB hb hs Fn S (fun cdv A outer s H E hr => (hbody cdv A outer s H E hr).1)
theorem qpd_callC {g : List D → R D} {k j n : Nat} {x : Str} {p pos : Pos} {e : Expr} {es : List Expr} {fs : DEnv → R (List D)} (C : Callee X.prog X.w X.K X.mg X.base k x n g) (hr : Room j X.A) (hkj : k ≤ j) (hg : Gl X x) (ha : QAs X (e :: es) fs) (hn : ∀ δ ds, fs δ = .ok ds → ds.length = n) (hdb : (x == ("__debug__" : Str)) = false := by decide) (he : starEach (e :: es) X.env = (false, eval e X.env) :: starEach es X.env := by rfl) (hpl : (backTo pos (starEach es X.env)).any (·.1) = false := by rfl) : QD X (.Call (.Name x p) (e :: es) [] pos) (eCall g fs) := ⟨pd_callC C hr hkj hg ha.1 hn hdb he hpl⟩
end
end L2

end
section
set_option maxRecDepth 100000
set_option maxHeartbeats 4000000
/-! ## a law that is a pure def (own; law_call of the layer, with the script's object told whole) -/
namespace L2
open PySem PySem.Spec PyProof.Rows
theorem law_callR {P : Program} {w : World} {K : PySem.W.Frag} {mg mb : Str → Option Value} {CX : CXT} {k : Nat} {fa a : Addr} {fd : FuncData} {x : Str} {sp : Sp} {s₁ : Shared} {vs : List Value} {ns : List Int}
    (KX : K.In s₁.heap) (hns : s₁.heap.Ns mainGlobals mg) (hb : s₁.heap.Ns builtinsNs mb) (hbb : ∀ x : Str, x ≠ "__name__" → mb x = bootBuiltins x) (hlim : s₁.heap.NoLimit) (hg : s₁.gens = #[])
    (ha : s₁.heap.get? a = some { cls := .type "list", data := .seq vs.toArray }) (hi : IntsAre vs ns) (hl : ns.length ≤ sizeLine) (hr : Room k callerA)
    (F : ∀ base : Heap, K.In base → base.Ns mainGlobals mg → FnOk P w K mg base CX k fa fd [x] sp) (hbind : ∀ (s : Shared) (u : Value), BindsTo s fd ⟨[u], []⟩ [(x, u)])
    (hsp : ∀ H : Hp, Only H → LsF K [] H a (ns.map V.int) → sp [.ref a] H (fun v _ => v = .bl true) fun _ _ _ => False)
    (hCX : ∀ H e s', CX [] H s₁ (fun _ _ _ => False) e s' → False) :
    codeAny (model P w) callerA (.call (.ref fa) ⟨[.ref a], []⟩) (fun r s' => r = .ok (.ret (.bool true)) ∧ OldK s₁.heap s'.heap ∧ s'.os = s₁.os ∧ AllBare s'.gens) s₁ := by
  have rv := vals_ints hi
  have lenV := hi.length
  -- from an abstract heap in which nothing but the script may be tracked
  have core : ∀ H : Hp, Only H → LsF K [] H a (ns.map V.int) → HOk P w H s₁.heap → (∀ b, H b ≠ none → b = a) → (H a ≠ none → K.lookup a = none) →
      codeAny (model P w) callerA (.call (.ref fa) ⟨[.ref a], []⟩) (fun r s' => r = .ok (.ret (.bool true)) ∧ OldK s₁.heap s'.heap ∧ s'.os = s₁.os ∧ AllBare s'.gens) s₁ := by
    intro H hO hS hok hA hK
    have base_of : ∀ {b : Addr} {o : Obj}, s₁.heap.get? b = some o → H b = none → (hidT s₁.heap H).get? b = some o := fun e n => hidT_get e n
    have noA : ∀ {b : Addr} {o : Obj} {es : Array DictEntry} {ep : Nat}, s₁.heap.get? b = some o → o.data = .dict es ep → H b = none := fun {b o es ep} e d => by
      cases q : H b with
      | none => rfl
      | some u =>
        have e' : b = a := hA b (by rw [q]; simp)
        subst e'
        rw [ha] at e; cases e
        have d' : Data.seq vs.toArray _ = Data.dict es ep := d
        cases d'
    have nsK : ∀ {b : Addr} {m : Str → Option Value}, s₁.heap.Ns b m → (hidT s₁.heap H).Ns b m := fun {b m} ⟨o, es, ep, e, d, r⟩ => ⟨o, es, ep, base_of e (noA e d), d, r⟩
    have hKb : K.In (hidT s₁.heap H) := fun b o e => base_of (KX b o e) (by
      cases q : H b with
      | none => rfl
      | some u =>
        have e' : b = a := hA b (by rw [q]; simp)
        subst e'
        rw [hK (by rw [q]; simp)] at e; cases e)
    have hM : Mod K mg (hidT s₁.heap H) := ⟨hKb, nsK hns, ⟨mb, nsK hb, hbb⟩, let ⟨mc, h1, h2⟩ := hlim; ⟨mc, nsK h1, h2⟩⟩
    have e0 : Env0 P w K mg (hidT s₁.heap H) callerA [] s₁ H := ⟨rfl, hM, fun b o e => of_hidT e, Nat.le_of_eq (hidT_size _ _), trivial, fun b hb => absurd (show b ∈ ([] : List Addr) from hb) (by simp), hok, .of_eq hg⟩
    refine codeAny_mono ((F _ hKb (nsK hns)).run callerA [] s₁ H ⟨[.ref a], []⟩ [.ref a] [.ref a] _ _ hr e0 (hbind s₁ (.ref a)) (.cons rfl .nil) (hsp H hO hS)) fun r s' h => ?_
    cases r with
    | error e => exact (hCX H e s' h).elim
    | ok fl =>
      cases fl with
      | next => exact False.elim h
      | brk => exact False.elim h
      | cont => exact False.elim h
      | ret u =>
        obtain ⟨v, H', os, bare, un, hok', r', q⟩ := h
        have q' : v = .bl true := q
        subst q'
        obtain rfl : u = Value.bool true := r'
        refine ⟨rfl, OldK.of_keep fun b o e => ?_, os, bare⟩
        cases q : H b with
        | none => exact un.keep b o e q (by intro z; exact absurd (show b ∈ ([] : List Addr) from z) (by simp)) (by simp)
        | some u =>
          rcases hO b with z | ⟨ob, xs, z⟩
          · rw [q] at z; cases z
          · have z2 := un.frzs b ob _ z
            obtain ⟨e1, _⟩ := hok b _ z
            obtain ⟨e2, _⟩ := hok' b _ z2
            rw [e] at e1; cases e1
            exact e2
  cases hk : K.lookup a with
  | some o =>
    -- the script is one of the module's own objects
    have e := KX a o hk
    rw [ha] at e
    cases e
    refine core (fun _ => none) (fun _ => .inl rfl) (.inr ⟨vs, _, hk, by rw [List.length_map]; exact hl, rv⟩) (fun b u z => by have z' : (none : Option HO) = some u := z; cases z') (fun b z => absurd rfl z) fun z => absurd rfl z
  | none =>
    refine core (fun b => if b = a then some (.frz { cls := .type "list", data := .seq vs.toArray } (.lst (ns.map V.int))) else none) (fun b => ?_) (.inl ⟨by simp, .inr ⟨{ cls := .type "list", data := .seq vs.toArray }, if_pos rfl⟩⟩) (fun b u z => ?_) (fun b z => ?_) fun _ => hk
    · by_cases hb : b = a
      · exact .inr ⟨_, _, if_pos hb⟩
      · exact .inl (if_neg hb)
    · by_cases hb : b = a
      · have z' := (if_pos hb).symm.trans z
        cases z'
        subst hb
        exact ⟨ha, by rw [List.length_map]; exact hl, vs, _, rv, ha⟩
      · have z' := (if_neg hb).symm.trans z
        cases z'
    · by_cases hb : b = a
      · exact hb
      · exact absurd (if_neg hb) z

theorem ints_rep {K : PySem.W.Frag} {B : List Addr} {H : Hp} : ∀ ns : List Int, Reps K B H (ns.map D.int) (ns.map V.int)
  | [] => Reps.nil
  | n :: ns => Reps.cons (Rep.int.mpr rfl) (ints_rep ns)
theorem walkL {l : PySem.W.OpenLaw} {n k : Nat} {q : Program} {loose : List Str} {XP : (Str → Option Value) → Heap → Prop} {YP : World → Heap → Prop} {d : DefRec} {K : Params → PySem.W.Frag} {x : Str} {g : List D → R D}
    (hn : l.most = some n) (hn2 : n ≤ sizeLine) (hdf : d.params.defaults = []) (hr : Room k callerA) (hY : ∀ (w : World) (h : Heap), YP w h → (K w.params).In h)
    (F : ∀ (w : World) (mg : Str → Option Value) (fa : Addr) (h : Heap), (K w.params).In h → h.Ns mainGlobals mg → mg d.name = some (.ref fa) →
      ∃ fd : FuncData, (∀ (s : Shared) (u : Value), BindsTo s fd ⟨[u], []⟩ [(x, u)]) ∧ ∀ base : Heap, (K w.params).In base → base.Ns mainGlobals mg → FnOk l.prog w (K w.params) mg base CX0 k fa fd [x] (spD (K w.params) 1 g))
    (hg : ∀ ns : List Int, ns.length ≤ n → g [.lst (ns.map D.int)] = .ok (.bl true)) : PySem.W.WalkO q loose XP YP l.row.toRowW d [] (fun f vs => PySem.call f vs) := by
  refine Att.attach_call hn hdf fun w s₀ s₁ mg mb fa o pm cd doc a vs ns G Y ho hd hcd hmg hobj hints hlen hgen => ?_
  have KX := hY w _ Y
  obtain ⟨fd, hb, hF⟩ := F w mg fa _ KX G.T.g hmg
  refine law_callR KX G.T.g G.T.b G.T.builtins G.T.nolimit hgen hobj hints (Nat.le_trans hlen hn2) hr hF hb (fun H hO hS => ?_) fun H e s' h => h
  refine ⟨rfl, [], [.lst (ns.map D.int)], .bl true, fun b hb => (by cases hb), Reps.cons (Rep.lst.mpr ⟨_, _, rfl, hS, ints_rep ns⟩) Reps.nil, hg ns hlen, fun z H' _ r => Rep.bl.mp r⟩
theorem def_mk {K : PySem.W.Frag} {h : Heap} {mg : Str → Option Value} {x : Str} {st : Stmt} {f : Addr} {oc : Value} {od an : Option Addr} {osl : Array (Option Value)} {kV doc pm cdv ct : Value} (X : K.In h) (G : h.Ns mainGlobals mg) (a : PySem.W.nsIn K mainGlobals x = some (some (.ref f)))
    (l : K.lookup f = some ⟨oc, od, .func (PySem.W.fnOf x x (defArgs st) (defBody st) (defScope st) .none kV doc pm an cdv ct), osl⟩) (c : PySem.W.codeIn K cdv x = true) (k : PySem.W.keepIn K (.ref f) = true) : Def K mg x st :=
  ⟨f, _, fun_mk l c k, PySem.W.mg_of X G a⟩
end L2

end
section
set_option maxRecDepth 100000
set_option maxHeartbeats 4000000
/-! ## what loops and comprehensions are worth (own) -/
namespace L2
open PySem PySem.Spec PyProof.Rows

theorem loopD_from {t : FT} {body : FS} : ∀ (ds : List D) (n : Nat) (P : Nat → DEnv → Prop) {δ : DEnv}, P n δ →
    (∀ i d δ, ds[i]? = some d → P (n + i) δ → ∃ δ', ((t d δ).bind body) = .ok (.nx δ') ∧ P (n + i + 1) δ') → ∃ δ', loopD t body ds δ = .ok (.nx δ') ∧ P (n + ds.length) δ'
  | [], n, P, δ, h0, _ => ⟨δ, rfl, h0⟩
  | d :: ds, n, P, δ, h0, hs => by
    obtain ⟨δ1, e1, p1⟩ := hs 0 d δ rfl h0
    obtain ⟨δ2, e2, p2⟩ := loopD_from ds (n + 1) P p1 (fun i d' δ' hi hp => by
      have := hs (i + 1) d' δ' (by simpa using hi) (by rw [show n + (i + 1) = n + 1 + i by omega]; exact hp)
      rw [show n + (i + 1) + 1 = n + 1 + i + 1 by omega] at this
      exact this)
    refine ⟨δ2, ?_, by rw [List.length_cons, show n + (ds.length + 1) = n + 1 + ds.length by omega]; exact p2⟩
    obtain ⟨δ0, h1, h2⟩ := R.bind_ok e1
    show (t d δ).bind (fun δ1 => (body δ1).bind fun o => match o with | .nx δ2 => loopD t body ds δ2 | .rt r => .ok (.rt r)) = _
    rw [h1, R.ok_bind, h2, R.ok_bind]
    exact e2
theorem loopD_inv {t : FT} {body : FS} {ds : List D} (P : Nat → DEnv → Prop) {δ : DEnv} (h0 : P 0 δ)
    (hs : ∀ i d δ, ds[i]? = some d → P i δ → ∃ δ', ((t d δ).bind body) = .ok (.nx δ') ∧ P (i + 1) δ') : ∃ δ', loopD t body ds δ = .ok (.nx δ') ∧ P ds.length δ' := by
  have := loopD_from (t := t) (body := body) ds 0 P h0 (fun i d δ hi hp => by simpa using hs i d δ hi (by simpa using hp))
  simpa using this
theorem atI_of {α : Type} {xs : List α} {i : Int} (h0 : 0 ≤ i) (h : i.toNat < xs.length) : atI xs i = some xs[i.toNat] := by
  unfold atI ixN
  rw [if_pos h0, if_pos (by omega)]
  simp [h]
theorem ints_map : ∀ ss : List Int, ints? (ss.map D.int) = some ss
  | [] => rfl
  | s :: ss => by show (ints? (ss.map D.int)).map (s :: ·) = _; rw [ints_map ss]; rfl
theorem sSeq_ok {F G : FS} {δ δ1 : DEnv} {r : R Out} (h : F δ = .ok (.nx δ1)) (h2 : G δ1 = r) : sSeq F G δ = r := by unfold sSeq; rw [h, R.ok_bind]; exact h2
theorem eNew_ok {f : DEnv → R (List D)} {δ : DEnv} {ds : List D} (h : f δ = .ok ds) : eNew f δ = .ok (.lst ds) := by unfold eNew; rw [h]; rfl
theorem sIf_t {c : DEnv → R Bool} {F G : FS} {δ : DEnv} {r : R Out} (h : c δ = .ok true) (h2 : F δ = r) : sIf c F G δ = r := by unfold sIf; rw [h, R.ok_bind, if_pos rfl]; exact h2
theorem sIf_f {c : DEnv → R Bool} {F G : FS} {δ : DEnv} {r : R Out} (h : c δ = .ok false) (h2 : G δ = r) : sIf c F G δ = r := by unfold sIf; rw [h, R.ok_bind, if_neg (by decide)]; exact h2
theorem sFor_ok {it : DEnv → R (List D)} {t : FT} {F : FS} {δ : DEnv} {ds : List D} {r : R Out} (h : it δ = .ok ds) (h2 : loopD t F ds δ = r) : sFor it t F δ = r := by unfold sFor; rw [h, R.ok_bind]; exact h2
theorem sRet_ok {f : FD} {δ : DEnv} {d : D} (h : f δ = .ok d) : sRet f δ = .ok (.rt d) := by unfold sRet; rw [h]; rfl
theorem fnD_ok {N : List Str} {F : FS} {ds : List D} {d : D} (h : F (dStart N ds) = .ok (.rt d)) : fnD N F ds = .ok d := by unfold fnD; rw [h]; rfl
theorem when_of {α : Type} {p : Prop} [Decidable p] (r : R α) (h : p) : R.when (decide p) r = r := by rw [decide_eq_true h]; rfl
theorem sSet_ok {i : Nat} {f : FD} {δ : DEnv} {d : D} (h : f δ = .ok d) (hi : i < δ.length) : sSet i f δ = .ok (.nx (δ.set i (.val d))) := by unfold sSet; rw [h, R.ok_bind, when_of _ hi]
theorem sBld_ok {i : Nat} {f : DEnv → R (List D)} {δ : DEnv} {ds : List D} (h : f δ = .ok ds) (hi : i < δ.length) : sBld i f δ = .ok (.nx (δ.set i (.bld ds))) := by unfold sBld; rw [h, R.ok_bind, when_of _ hi]
theorem sApp_ok {i : Nat} {f : FD} {δ : DEnv} {d : D} {ds : List D} (h : f δ = .ok d) (hb : δ[i]? = some (.bld ds)) (hl : ds.length < sizeLine) : sApp i f δ = .ok (.nx (δ.set i (.bld (ds ++ [d])))) := by unfold sApp bldAt; rw [h, R.ok_bind, hb]; show R.when _ _ = _; rw [when_of _ hl]
theorem nComp_ok {it : DEnv → R (List D)} {t : FT} {c : DEnv → R Bool} {f : FD} {own : List Str} {kp : List Nat} {δ : DEnv} {ds ys : List D} (h1 : it δ = .ok ds) (h2 : ds.length ≤ sizeLine) (h3 : compL t c f (cEnv own kp δ) ds = .ok ys) : nComp it t c f own kp δ = .ok ys := by unfold nComp; rw [h1, R.ok_bind, when_of _ h2, h3]
theorem ixL_of {ds : List D} {i : Int} {d : D} (h : atI ds i = some d) : ixD (.lst ds) (.int i) = .ok d := by unfold ixD; simp only [h]
theorem ixT_of {ds : List D} {i : Int} {d : D} (h : atI ds i = some d) : ixD (.tup ds) (.int i) = .ok d := by unfold ixD; simp only [h]
end L2

end
section
set_option maxRecDepth 100000
/-! ## what expressions are worth, part by part (own) -/
namespace L2
open PySem PySem.Spec PyProof.Rows
theorem e2_ok {g : D → D → R D} {fa fb : FD} {δ : DEnv} {a b : D} {r : R D} (ha : fa δ = .ok a) (hb : fb δ = .ok b) (h : g a b = r) : e2 g fa fb δ = r := by unfold e2; rw [ha, R.ok_bind, hb, R.ok_bind]; exact h
theorem b2_ok {g : D → D → R D} {fa fb : FD} {δ : DEnv} {a b : D} {k : Bool} (ha : fa δ = .ok a) (hb : fb δ = .ok b) (h : g a b = .ok (.bl k)) : b2 g fa fb δ = .ok k := by unfold b2; rw [e2_ok ha hb h]; rfl
theorem aCons_ok {f : FD} {g : DEnv → R (List D)} {δ : DEnv} {d : D} {ds : List D} (h : f δ = .ok d) (h2 : g δ = .ok ds) : aCons f g δ = .ok (d :: ds) := by unfold aCons; rw [h, R.ok_bind, h2]; rfl
theorem eCall_ok {g : List D → R D} {fs : DEnv → R (List D)} {δ : DEnv} {ds : List D} {r : R D} (h : fs δ = .ok ds) (h2 : g ds = r) : eCall g fs δ = r := by unfold eCall; rw [h, R.ok_bind]; exact h2
theorem eTup_ok {g : DEnv → R (List D)} {δ : DEnv} {ds : List D} (h : g δ = .ok ds) (hl : ds.length ≤ sizeLine) : eTup g δ = .ok (.tup ds) := by unfold eTup; rw [h, R.ok_bind, when_of _ hl]
theorem nLst_ok {g : DEnv → R (List D)} {δ : DEnv} {ds : List D} (h : g δ = .ok ds) (hl : ds.length ≤ sizeLine) : nLst g δ = .ok ds := by unfold nLst; rw [h, R.ok_bind, when_of _ hl]
theorem eSl_ok {f : FD} {fl fh : FO} {δ : DEnv} {d : D} {lo hi : Option Int} {r : R D} (h : f δ = .ok d) (h1 : fl δ = .ok lo) (h2 : fh δ = .ok hi) (h3 : slD d lo hi = r) : eSl f fl fh δ = r := by unfold eSl; rw [h, R.ok_bind, h1, R.ok_bind, h2, R.ok_bind]; exact h3
theorem oSome_ok {f : FD} {δ : DEnv} {i : Int} (h : f δ = .ok (.int i)) : oSome f δ = .ok (some i) := by unfold oSome; rw [h]; rfl
theorem mod_ok {a b : Int} (h : 0 < b) : dMod (.int a) (.int b) = .ok (.int (a % b)) := by unfold dMod dII; exact when_of _ h
theorem rng1_ok {f : FD} {δ : DEnv} {n : Nat} (h : f δ = .ok (.int n)) (hn : n < 1000000) : itRng1 f δ = .ok (rngD 0 n) := by
  unfold itRng1; rw [h, R.ok_bind]; show R.when (decide (-(2 ^ 62) ≤ (n : Int) ∧ (n : Int) < 2 ^ 62)) _ = _
  rw [when_of _ ⟨by omega, by omega⟩, Int.toNat_natCast]
theorem itL_ok {f : FD} {δ : DEnv} {ds : List D} (h : f δ = .ok (.lst ds)) : itSeq f δ = .ok ds := by unfold itSeq; rw [h]; rfl
theorem itT_ok {f : FD} {δ : DEnv} {ds : List D} (h : f δ = .ok (.tup ds)) : itSeq f δ = .ok ds := by unfold itSeq; rw [h]; rfl
theorem itE_ok {f : FD} {δ : DEnv} {ds : List D} (h : f δ = .ok (.lst ds)) : itEnum f δ = .ok (enumD ds) := by unfold itEnum; rw [h]; rfl
theorem lenL (ds : List D) : cLen [.lst ds] = .ok (.int ds.length) := rfl
end L2

end
section
set_option maxRecDepth 100000
set_option maxHeartbeats 4000000
/-! ## THE STORE LAYER (own): the datum layer with a store of lists, dicts and objects that change -/
namespace L3
open PySem PySem.Spec PyProof.Rows L2

/-- a value: a datum, a place of the store, a list or a tuple that holds such -/
inductive V3 where
  | d (x : D) | loc (k : Nat) | lst (vs : List V3) | tup (vs : List V3)
/-- a thing of the store -/
inductive SO where
  | lst (ds : List D) | dct (kvs : List (Key × D)) | ins (c : Nat) (fs : List (Str × V3)) | frz
abbrev Sto := List SO
inductive R3 (α : Type) where
  | ok (a : α) (S : Sto) | ex (c : Nat) (S : Sto) | no
noncomputable def R3.bind {α β : Type} : R3 α → (α → Sto → R3 β) → R3 β
  | .ok a S, f => f a S
  | .ex c S, _ => .ex c S
  | .no, _ => .no
theorem R3.bind_ok {α β : Type} {r : R3 α} {f : α → Sto → R3 β} {b : β} {S' : Sto} (h : r.bind f = .ok b S') : ∃ a S, r = .ok a S ∧ f a S = .ok b S' := by
  cases r with
  | ok a S => exact ⟨a, S, rfl, h⟩
  | ex c S => cases h
  | no => cases h
@[simp] theorem R3.ok_bind {α β : Type} (a : α) (S : Sto) (f : α → Sto → R3 β) : (R3.ok a S).bind f = f a S := rfl
def R3.when {α : Type} (c : Bool) (r : R3 α) : R3 α := if c then r else .no
theorem R3.when_ok {α : Type} {c : Bool} {r : R3 α} {a : α} {S : Sto} (h : R3.when c r = .ok a S) : c = true ∧ r = .ok a S := by
  cases c with
  | true => exact ⟨rfl, h⟩
  | false => cases h
def R3.of {α : Type} (r : R α) (S : Sto) : R3 α := match r with | .ok a => .ok a S | _ => .no
theorem R3.of_ok {α : Type} {r : R α} {S S' : Sto} {a : α} (h : R3.of r S = .ok a S') : r = .ok a ∧ S' = S := by
  cases r with
  | ok b => cases h; exact ⟨rfl, rfl⟩
  | ex c => cases h
  | no => cases h

/-- where the store's things lie; z: lists under way elsewhere, that nothing here touches -/
structure P3 where
  r : List Addr
  z : List Addr
  f : List Addr
def P3.b (ρ : P3) : List Addr := ρ.r.filter (fun a => !ρ.f.contains a) ++ ρ.z
theorem P3.mem_b {ρ : P3} {a : Addr} : a ∈ ρ.b ↔ (a ∈ ρ.r ∧ a ∉ ρ.f) ∨ a ∈ ρ.z := by
  unfold P3.b
  rw [List.mem_append, List.mem_filter]
  simp
def P3.push (ρ : P3) (a : Addr) : P3 := ⟨ρ.r ++ [a], ρ.z, ρ.f⟩
def P3.cut (ρ : P3) (n : Nat) : P3 := ⟨ρ.r.take n, ρ.z, ρ.f⟩
mutual
def Rep3 (K : PySem.W.Frag) (ρ : P3) (H : Hp) : V3 → V → Prop
  | .d x, v => Rep K ρ.b H x v
  | .loc k, v => ∃ a, ρ.r[k]? = some a ∧ v = .ref a
  | .lst vs, v => ∃ a xs, v = .ref a ∧ LsF K ρ.b H a xs ∧ Reps3 K ρ H vs xs
  | .tup vs, v => ∃ a xs, v = .ref a ∧ TpF K ρ.b H a xs ∧ Reps3 K ρ H vs xs
def Reps3 (K : PySem.W.Frag) (ρ : P3) (H : Hp) : List V3 → List V → Prop
  | [], xs => xs = []
  | d :: ds, xs => ∃ x r, xs = x :: r ∧ Rep3 K ρ H d x ∧ Reps3 K ρ H ds r
end
structure Pre (ρ : P3) (H : Hp) (ρ' : P3) (H' : Hp) : Prop where
  pres : Pres ρ.b H ρ'.b H'
  zz : ρ'.z = ρ.z
  zs : ∀ (b : Addr) (o : HO), b ∈ ρ.z → H b = some o → H' b = some o
  ext : ∀ (k : Nat) (a : Addr), ρ.r[k]? = some a → ρ'.r[k]? = some a
theorem Pre.refl (ρ : P3) (H : Hp) : Pre ρ H ρ H := ⟨Pres.refl ρ.b H, rfl, fun _ _ _ h => h, fun _ _ h => h⟩
theorem Pre.trans {ρ ρ' ρ'' : P3} {H H' H'' : Hp} (a : Pre ρ H ρ' H') (b : Pre ρ' H' ρ'' H'') : Pre ρ H ρ'' H'' := ⟨a.pres.trans b.pres, b.zz.trans a.zz, fun c o hc h => b.zs c o (by rw [a.zz]; exact hc) (a.zs c o hc h), fun k x h => b.ext k x (a.ext k x h)⟩
theorem Pre.same {ρ : P3} {H H' : Hp} (s : Same H H') : Pre ρ H ρ H' := ⟨Pres.same s, rfl, fun b o _ h => s b o h, fun _ _ h => h⟩
theorem TpF.pres {K : PySem.W.Frag} {B B' : List Addr} {H H' : Hp} (p : Pres B H B' H') {a : Addr} {xs : List V} (l : TpF K B H a xs) : TpF K B' H' a xs :=
  l.elim (fun z => .inl ⟨(p.rd z.2 z.1).2, (p.rd z.2 z.1).1⟩) .inr
mutual
theorem Rep3.pre {K : PySem.W.Frag} {ρ ρ' : P3} {H H' : Hp} (p : Pre ρ H ρ' H') : ∀ {d : V3} {v : V}, Rep3 K ρ H d v → Rep3 K ρ' H' d v
  | .d x, v, h => by unfold Rep3 at h ⊢; exact h.pres p.pres
  | .loc k, v, h => by unfold Rep3 at h ⊢; obtain ⟨a, h1, h2⟩ := h; exact ⟨a, p.ext k a h1, h2⟩
  | .lst vs, v, h => by unfold Rep3 at h ⊢; obtain ⟨a, xs, e, l, r⟩ := h; exact ⟨a, xs, e, l.pres p.pres, Reps3.pre p r⟩
  | .tup vs, v, h => by unfold Rep3 at h ⊢; obtain ⟨a, xs, e, l, r⟩ := h; exact ⟨a, xs, e, TpF.pres p.pres l, Reps3.pre p r⟩
theorem Reps3.pre {K : PySem.W.Frag} {ρ ρ' : P3} {H H' : Hp} (p : Pre ρ H ρ' H') : ∀ {ds : List V3} {xs : List V}, Reps3 K ρ H ds xs → Reps3 K ρ' H' ds xs
  | [], _, h => by unfold Reps3 at h ⊢; exact h
  | d :: ds, xs, h => by
    unfold Reps3 at h ⊢
    obtain ⟨x, r, e, h1, h2⟩ := h
    exact ⟨x, r, e, Rep3.pre p h1, Reps3.pre p h2⟩
end
/-- what the values need to stand -/
structure PW (ρ : P3) (H : Hp) (ρ' : P3) (H' : Hp) : Prop where
  pres : Pres ρ.b H ρ'.b H'
  ext : ∀ (k : Nat) (a : Addr), ρ.r[k]? = some a → ρ'.r[k]? = some a
theorem Pre.pw {ρ ρ' : P3} {H H' : Hp} (p : Pre ρ H ρ' H') : PW ρ H ρ' H' := ⟨p.pres, p.ext⟩
theorem PW.trans {ρ ρ' ρ'' : P3} {H H' H'' : Hp} (a : PW ρ H ρ' H') (b : PW ρ' H' ρ'' H'') : PW ρ H ρ'' H'' := ⟨a.pres.trans b.pres, fun k x h => b.ext k x (a.ext k x h)⟩
mutual
theorem Rep3.pw {K : PySem.W.Frag} {ρ ρ' : P3} {H H' : Hp} (p : PW ρ H ρ' H') : ∀ {d : V3} {v : V}, Rep3 K ρ H d v → Rep3 K ρ' H' d v
  | .d x, v, h => by unfold Rep3 at h ⊢; exact h.pres p.pres
  | .loc k, v, h => by unfold Rep3 at h ⊢; obtain ⟨a, h1, h2⟩ := h; exact ⟨a, p.ext k a h1, h2⟩
  | .lst vs, v, h => by unfold Rep3 at h ⊢; obtain ⟨a, xs, e, l, r⟩ := h; exact ⟨a, xs, e, l.pres p.pres, Reps3.pw p r⟩
  | .tup vs, v, h => by unfold Rep3 at h ⊢; obtain ⟨a, xs, e, l, r⟩ := h; exact ⟨a, xs, e, TpF.pres p.pres l, Reps3.pw p r⟩
theorem Reps3.pw {K : PySem.W.Frag} {ρ ρ' : P3} {H H' : Hp} (p : PW ρ H ρ' H') : ∀ {ds : List V3} {xs : List V}, Reps3 K ρ H ds xs → Reps3 K ρ' H' ds xs
  | [], _, h => by unfold Reps3 at h ⊢; exact h
  | d :: ds, xs, h => by
    unfold Reps3 at h ⊢
    obtain ⟨x, r, e, h1, h2⟩ := h
    exact ⟨x, r, e, Rep3.pw p h1, Reps3.pw p h2⟩
end
theorem Reps3.nil {K : PySem.W.Frag} {ρ : P3} {H : Hp} : Reps3 K ρ H [] [] := by unfold Reps3; rfl
theorem Reps3.cons {K : PySem.W.Frag} {ρ : P3} {H : Hp} {d : V3} {ds : List V3} {x : V} {xs : List V} (h : Rep3 K ρ H d x) (t : Reps3 K ρ H ds xs) : Reps3 K ρ H (d :: ds) (x :: xs) := by
  unfold Reps3; exact ⟨x, xs, rfl, h, t⟩
theorem Reps3.uncons {K : PySem.W.Frag} {ρ : P3} {H : Hp} {d : V3} {ds : List V3} {xs : List V} (h : Reps3 K ρ H (d :: ds) xs) : ∃ x r, xs = x :: r ∧ Rep3 K ρ H d x ∧ Reps3 K ρ H ds r := by
  unfold Reps3 at h; exact h
theorem Reps3.length {K : PySem.W.Frag} {ρ : P3} {H : Hp} : ∀ {ds : List V3} {xs : List V}, Reps3 K ρ H ds xs → ds.length = xs.length
  | [], _, h => by unfold Reps3 at h; rw [h]; rfl
  | d :: ds, xs, h => by
    obtain ⟨x, r, rfl, _, h2⟩ := h.uncons
    simp [h2.length]
theorem Reps3.of {K : PySem.W.Frag} {ρ : P3} {H : Hp} : ∀ {ds : List D} {xs : List V}, Reps K ρ.b H ds xs → Reps3 K ρ H (ds.map .d) xs
  | [], _, h => by unfold Reps at h; subst h; exact Reps3.nil
  | d :: ds, xs, h => by
    obtain ⟨x, r, rfl, h1, h2⟩ := h.uncons
    exact Reps3.cons (by unfold Rep3; exact h1) (Reps3.of h2)
theorem Reps3.to {K : PySem.W.Frag} {ρ : P3} {H : Hp} : ∀ {ds : List D} {xs : List V}, Reps3 K ρ H (ds.map .d) xs → Reps K ρ.b H ds xs
  | [], _, h => by unfold Reps3 at h; subst h; exact Reps.nil
  | d :: ds, xs, h => by
    obtain ⟨x, r, rfl, h1, h2⟩ := Reps3.uncons h
    unfold Rep3 at h1
    exact Reps.cons h1 (Reps3.to h2)

/-- a thing of the store shows itself in the heap -/
def ObR (K : PySem.W.Frag) (cl : Nat → Addr) (ρ : P3) (H : Hp) : SO → Option HO → Prop
  | .lst ds, h => ∃ xs, h = some (.lst xs) ∧ Reps K ρ.b H ds xs
  | .dct kvs, h => ∃ ys, h = some (.dK ys) ∧ ys.map (·.1) = kvs.map (·.1) ∧ Reps K ρ.b H (kvs.map (·.2)) (ys.map (·.2))
  | .ins c fs, h => ∃ dx ys, h = some (.ins (cl c) dx ys) ∧ ys.map (·.1) = fs.map (·.1) ∧ Reps3 K ρ H (fs.map (·.2)) (ys.map (·.2))
  | .frz, h => ∃ u, h = some u
theorem ObR.pre {K : PySem.W.Frag} {cl : Nat → Addr} {ρ ρ' : P3} {H H' : Hp} (p : Pre ρ H ρ' H') {o : SO} {h : Option HO} (r : ObR K cl ρ H o h) : ObR K cl ρ' H' o h := by
  cases o with
  | lst ds => obtain ⟨xs, e, q⟩ := r; exact ⟨xs, e, q.pres p.pres⟩
  | dct kvs => obtain ⟨ys, e, e2, q⟩ := r; exact ⟨ys, e, e2, q.pres p.pres⟩
  | ins c fs => obtain ⟨dx, ys, e, e2, q⟩ := r; exact ⟨dx, ys, e, e2, q.pre p⟩
  | frz => exact r
theorem ObR.pw {K : PySem.W.Frag} {cl : Nat → Addr} {ρ ρ' : P3} {H H' : Hp} (p : PW ρ H ρ' H') {o : SO} {h : Option HO} (r : ObR K cl ρ H o h) : ObR K cl ρ' H' o h := by
  cases o with
  | lst ds => obtain ⟨xs, e, q⟩ := r; exact ⟨xs, e, q.pres p.pres⟩
  | dct kvs => obtain ⟨ys, e, e2, q⟩ := r; exact ⟨ys, e, e2, q.pres p.pres⟩
  | ins c fs => obtain ⟨dx, ys, e, e2, q⟩ := r; exact ⟨dx, ys, e, e2, q.pw p⟩
  | frz => exact r
theorem ObR.some {K : PySem.W.Frag} {cl : Nat → Addr} {ρ : P3} {H : Hp} {o : SO} {h : Option HO} (r : ObR K cl ρ H o h) : ∃ u, h = some u := by
  cases o with
  | lst ds => obtain ⟨xs, e, q⟩ := r; exact ⟨_, e⟩
  | dct kvs => obtain ⟨ys, e, e2, q⟩ := r; exact ⟨_, e⟩
  | ins c fs => obtain ⟨dx, ys, e, e2, q⟩ := r; exact ⟨_, e⟩
  | frz => exact r
structure SW (K : PySem.W.Frag) (cl : Nat → Addr) (ρ : P3) (H : Hp) (S : Sto) : Prop where
  len : ρ.r.length = S.length
  nd : ∀ (i j : Nat) (a : Addr), ρ.r[i]? = some a → ρ.r[j]? = some a → i = j
  ob : ∀ (k : Nat) (a : Addr) (o : SO), ρ.r[k]? = some a → S[k]? = some o → ObR K cl ρ H o (H a)
  zb : ∀ b ∈ ρ.z, (∃ xs, H b = some (.lst xs)) ∧ b ∉ ρ.r
  fz : ∀ (k : Nat) (a : Addr), ρ.r[k]? = some a → S[k]? ≠ some .frz → a ∉ ρ.f
  ff : ∀ a ∈ ρ.f, ∃ o, H a = some o
  fi : ∀ (k : Nat) (a : Addr), ρ.r[k]? = some a → S[k]? = some .frz → a ∈ ρ.f
theorem SW.rs {K : PySem.W.Frag} {cl : Nat → Addr} {ρ : P3} {H : Hp} {S : Sto} (w : SW K cl ρ H S) : ∀ a ∈ ρ.r, ∃ o, H a = some o := fun a z => by
  obtain ⟨k, hk⟩ := List.getElem?_of_mem z
  have hl := (List.getElem?_eq_some_iff.mp hk).1
  exact (w.ob k a _ hk (List.getElem?_eq_getElem (by rw [← w.len]; exact hl))).some
theorem SW.bs {K : PySem.W.Frag} {cl : Nat → Addr} {ρ : P3} {H : Hp} {S : Sto} (w : SW K cl ρ H S) : ∀ a ∈ ρ.b, ∃ o, H a = some o := fun a ha => by
  rcases P3.mem_b.mp ha with z | z
  · exact w.rs a z.1
  · obtain ⟨xs, h⟩ := (w.zb a z).1
    exact ⟨_, h⟩
theorem SW.same {K : PySem.W.Frag} {cl : Nat → Addr} {ρ : P3} {H H' : Hp} {S : Sto} (w : SW K cl ρ H S) (s : Same H H') : SW K cl ρ H' S :=
  ⟨w.len, w.nd, fun k a o h1 h2 => by
    have r := w.ob k a o h1 h2
    obtain ⟨u, hu⟩ := r.some
    rw [s a u hu, ← hu]
    exact r.pre (Pre.same s), fun b hb => let ⟨⟨o, ho⟩, n⟩ := w.zb b hb; ⟨⟨o, s b _ ho⟩, n⟩, w.fz, fun a ha => let ⟨o, ho⟩ := w.ff a ha; ⟨o, s a o ho⟩, w.fi⟩
theorem P3.mem_push {ρ : P3} {a b : Addr} (h : b ∈ (ρ.push a).b) : b ∈ ρ.b ∨ b = a := by
  rcases P3.mem_b.mp h with ⟨z, n⟩ | z
  · rcases List.mem_append.mp z with y | y
    · exact .inl (P3.mem_b.mpr (.inl ⟨y, n⟩))
    · exact .inr (List.mem_singleton.mp y)
  · exact .inl (P3.mem_b.mpr (.inr z))
/-- a thing more -/
theorem SW.new {K : PySem.W.Frag} {cl : Nat → Addr} {ρ : P3} {H H' : Hp} {S : Sto} (w : SW K cl ρ H S) {a : Addr} {o : SO} (s : Same H H') (n : H a = none) (r : ObR K cl (ρ.push a) H' o (H' a)) (hne : o ≠ SO.frz := by intro h; cases h) :
    SW K cl (ρ.push a) H' (S ++ [o]) ∧ Pre ρ H (ρ.push a) H' := by
  have na : a ∉ ρ.b := fun ha => by obtain ⟨o, ho⟩ := w.bs a ha; rw [n] at ho; cases ho
  have nr : a ∉ ρ.r := fun ha => by obtain ⟨o, ho⟩ := w.rs a ha; rw [n] at ho; cases ho
  have nf : a ∉ ρ.f := fun ha => by obtain ⟨o, ho⟩ := w.ff a ha; rw [n] at ho; cases ho
  have p : Pre ρ H (ρ.push a) H' := ⟨fun b u e nb => ⟨s b u e, fun hb => by
    rcases P3.mem_push hb with z | z
    · exact nb z
    · subst z; rw [n] at e; cases e⟩, rfl, fun b o _ h => s b o h, fun k x hx => by
      show (ρ.r ++ [a])[k]? = _
      rw [List.getElem?_append_left (List.getElem?_eq_some_iff.mp hx).1]; exact hx⟩
  have last : ∀ (i : Nat) (b : Addr), (ρ.push a).r[i]? = some b → (i < ρ.r.length ∧ ρ.r[i]? = some b) ∨ (i = ρ.r.length ∧ b = a) := fun i b h => by
    have h : (ρ.r ++ [a])[i]? = some b := h
    by_cases q : i < ρ.r.length
    · rw [List.getElem?_append_left q] at h; exact .inl ⟨q, h⟩
    · rw [List.getElem?_append_right (by omega)] at h
      have h0 : i - ρ.r.length = 0 := by
        have := (List.getElem?_eq_some_iff.mp h).1
        simp at this; omega
      rw [h0] at h
      cases h
      exact .inr ⟨by omega, rfl⟩
  refine ⟨⟨by show (ρ.r ++ [a]).length = _; rw [List.length_append, List.length_append, w.len]; rfl, fun i j b hi hj => ?_, fun k b u hk hu => ?_, fun b hb => ?_, fun k b hk hu => ?_, fun b hb => ?_, fun k b hk hu => ?_⟩, p⟩
  · rcases last i b hi with ⟨q1, q2⟩ | ⟨q1, rfl⟩
    · rcases last j b hj with ⟨z1, z2⟩ | ⟨z1, rfl⟩
      · exact w.nd i j b q2 z2
      · exact absurd (List.mem_of_getElem? q2) nr
    · rcases last j b hj with ⟨z1, z2⟩ | ⟨z1, z3⟩
      · exact absurd (List.mem_of_getElem? z2) nr
      · omega
  · rcases last k b hk with ⟨q1, q2⟩ | ⟨q1, rfl⟩
    · rw [List.getElem?_append_left (by rw [← w.len]; exact q1)] at hu
      have r0 := w.ob k b u q2 hu
      obtain ⟨x, hx⟩ := r0.some
      rw [s b x hx, ← hx]
      exact r0.pre p
    · rw [List.getElem?_append_right (by rw [← w.len]; omega), q1, w.len, Nat.sub_self] at hu
      cases hu
      exact r
  · obtain ⟨⟨o, ho⟩, nb⟩ := w.zb b hb
    refine ⟨⟨o, s b _ ho⟩, fun h => ?_⟩
    rcases List.mem_append.mp h with y | y
    · exact nb y
    · rw [List.mem_singleton] at y; subst y; rw [n] at ho; cases ho
  · rcases last k b hk with ⟨q1, q2⟩ | ⟨q1, rfl⟩
    · rw [List.getElem?_append_left (by rw [← w.len]; exact q1)] at hu
      exact w.fz k b q2 hu
    · exact nf
  · obtain ⟨o, ho⟩ := w.ff b hb
    exact ⟨o, s b o ho⟩
  · rcases last k b hk with ⟨q1, q2⟩ | ⟨q1, rfl⟩
    · rw [List.getElem?_append_left (by rw [← w.len]; exact q1)] at hu
      exact w.fi k b q2 hu
    · rw [List.getElem?_append_right (by rw [← w.len]; omega), q1, w.len, Nat.sub_self] at hu
      cases hu
      exact absurd rfl hne
/-- a thing changed -/
theorem SW.put {K : PySem.W.Frag} {cl : Nat → Addr} {ρ : P3} {H : Hp} {S : Sto} (w : SW K cl ρ H S) {k : Nat} {a : Addr} {o : SO} {u : HO} (hk : ρ.r[k]? = some a) (hf : a ∉ ρ.f) (r : ObR K cl ρ H o (some u)) (hne : o ≠ SO.frz := by intro h; cases h) :
    SW K cl ρ (upd H a u) (S.set k o) ∧ Pre ρ H ρ (upd H a u) := by
  have ha : a ∈ ρ.r := List.mem_of_getElem? hk
  have hb : a ∈ ρ.b := P3.mem_b.mpr (.inl ⟨ha, hf⟩)
  have nz : ∀ b ∈ ρ.z, b ≠ a := fun b hb z => (w.zb b hb).2 (by rw [z]; exact ha)
  have p : Pre ρ H ρ (upd H a u) := ⟨fun b x e nb => ⟨by rw [upd_ne (fun (z : b = a) => nb (by rw [z]; exact hb))]; exact e, nb⟩, rfl, fun b o hb h => by rw [upd_ne (nz b hb)]; exact h, fun _ _ h => h⟩
  have hl : k < S.length := by rw [← w.len]; exact (List.getElem?_eq_some_iff.mp hk).1
  refine ⟨⟨by rw [List.length_set]; exact w.len, w.nd, fun j b x hj hx => ?_, fun b hb => ?_, fun j b hj hx => ?_, fun b hb => ?_, fun j b hj hx => ?_⟩, p⟩
  · by_cases q : k = j
    · subst q
      rw [hk] at hj; cases hj
      rw [List.getElem?_set_self hl] at hx; cases hx
      rw [upd_same]
      exact r.pre p
    · rw [List.getElem?_set_ne q] at hx
      have ne : b ≠ a := fun z => by subst z; exact q (w.nd k j b hk hj)
      rw [upd_ne ne]
      exact (w.ob j b x hj hx).pre p
  · obtain ⟨⟨o, ho⟩, nb⟩ := w.zb b hb
    exact ⟨⟨o, by rw [upd_ne (nz b hb)]; exact ho⟩, nb⟩
  · by_cases q : k = j
    · subst q
      rw [hk] at hj; cases hj
      exact hf
    · rw [List.getElem?_set_ne q] at hx
      exact w.fz j b hj hx
  · obtain ⟨o, ho⟩ := w.ff b hb
    exact ⟨o, by rw [upd_ne (fun z => hf (by rw [← z]; exact hb))]; exact ho⟩
  · by_cases q : k = j
    · subst q
      rw [List.getElem?_set_self hl] at hx; cases hx
      exact absurd rfl hne
    · rw [List.getElem?_set_ne q] at hx
      exact w.fi j b hj hx
/-- a list that changes no more is a datum from here on -/
theorem SW.frz {K : PySem.W.Frag} {cl : Nat → Addr} {ρ : P3} {H : Hp} {S : Sto} (w : SW K cl ρ H S) {k : Nat} {a : Addr} {ds : List D} (hk : ρ.r[k]? = some a) (hS : S[k]? = some (.lst ds)) :
    SW K cl ⟨ρ.r, ρ.z, a :: ρ.f⟩ H (S.set k .frz) ∧ Pre ρ H ⟨ρ.r, ρ.z, a :: ρ.f⟩ H ∧ Rep K (⟨ρ.r, ρ.z, a :: ρ.f⟩ : P3).b H (.lst ds) (.ref a) := by
  have hl : k < S.length := by rw [← w.len]; exact (List.getElem?_eq_some_iff.mp hk).1
  have sub : ∀ b, b ∈ (⟨ρ.r, ρ.z, a :: ρ.f⟩ : P3).b → b ∈ ρ.b := fun b hb => by
    rcases P3.mem_b.mp hb with ⟨z, n⟩ | z
    · exact P3.mem_b.mpr (.inl ⟨z, fun h => n (List.mem_cons_of_mem _ h)⟩)
    · exact P3.mem_b.mpr (.inr z)
  have p : Pre ρ H ⟨ρ.r, ρ.z, a :: ρ.f⟩ H := ⟨fun b o e nb => ⟨e, fun hb => nb (sub b hb)⟩, rfl, fun _ _ _ h => h, fun _ _ h => h⟩
  obtain ⟨xs, e1, r1⟩ := w.ob k a _ hk hS
  refine ⟨⟨by rw [List.length_set]; exact w.len, w.nd, fun j b x hj hx => ?_, w.zb, fun j b hj hx => ?_, fun b hb => ?_, fun j b hj hx => ?_⟩, p, ?_⟩
  · by_cases q : k = j
    · subst q
      rw [List.getElem?_set_self hl] at hx; cases hx
      rw [hk] at hj; cases hj
      exact ⟨_, e1⟩
    · rw [List.getElem?_set_ne q] at hx
      exact (w.ob j b x hj hx).pre p
  · by_cases q : k = j
    · subst q
      rw [List.getElem?_set_self hl] at hx
      exact absurd rfl hx
    · rw [List.getElem?_set_ne q] at hx
      intro h
      rcases List.mem_cons.mp h with z | z
      · subst z; exact q (w.nd k j b hk hj)
      · exact w.fz j b hj hx z
  · rcases List.mem_cons.mp hb with z | z
    · subst z; exact ⟨_, e1⟩
    · exact w.ff b z
  · by_cases q : k = j
    · subst q
      rw [hk] at hj; cases hj
      exact List.mem_cons_self
    · rw [List.getElem?_set_ne q] at hx
      exact List.mem_cons_of_mem _ (w.fi j b hj hx)
  · refine Rep.lst.mpr ⟨a, xs, rfl, .inl ⟨fun hb => ?_, .inl e1⟩, r1.pres p.pres⟩
    rcases P3.mem_b.mp hb with ⟨_, n⟩ | z
    · exact n List.mem_cons_self
    · exact (w.zb a z).2 (List.mem_of_getElem? hk)
/-! data of atoms and tuples alone -/
mutual
def tupD : D → Bool
  | .lst _ => false
  | .dct _ _ => false
  | .tup ds => tupDs ds
  | _ => true
def tupDs : List D → Bool
  | [] => true
  | d :: ds => tupD d && tupDs ds
end
mutual
theorem Rep.ofTup {K : PySem.W.Frag} {B : List Addr} {H : Hp} (hB : ∀ b ∈ B, ∀ xs, ¬ Rd H b (.tup xs)) : ∀ {d : D} {v : V}, tupD d = true → Rep K [] H d v → Rep K B H d v
  | .non, v, _, r => Rep.non.mpr (Rep.non.mp r)
  | .bl _, v, _, r => Rep.bl.mpr (Rep.bl.mp r)
  | .int _, v, _, r => Rep.int.mpr (Rep.int.mp r)
  | .str _, v, _, r => Rep.str.mpr (Rep.str.mp r)
  | .lst _, v, h, _ => by unfold tupD at h; cases h
  | .dct _ _, v, h, _ => by unfold tupD at h; cases h
  | .tup ds, v, h, r => by
    unfold tupD at h
    obtain ⟨a, xs, rfl, l, rs⟩ := Rep.tup.mp r
    exact Rep.tup.mpr ⟨a, xs, rfl, l.elim (fun z => .inl ⟨fun hb => hB a hb xs z.2, z.2⟩) .inr, Reps.ofTup hB h rs⟩
theorem Reps.ofTup {K : PySem.W.Frag} {B : List Addr} {H : Hp} (hB : ∀ b ∈ B, ∀ xs, ¬ Rd H b (.tup xs)) : ∀ {ds : List D} {vs : List V}, tupDs ds = true → Reps K [] H ds vs → Reps K B H ds vs
  | [], _, _, r => by unfold Reps at r; subst r; exact Reps.nil
  | d :: ds, vs, h, r => by
    unfold tupDs at h
    obtain ⟨h1, h2⟩ := Bool.and_eq_true_iff.mp h
    obtain ⟨x, xs, rfl, r1, r2⟩ := r.uncons
    exact Reps.cons (Rep.ofTup hB h1 r1) (Reps.ofTup hB h2 r2)
end
theorem SW.nt {K : PySem.W.Frag} {cl : Nat → Addr} {ρ : P3} {H : Hp} {S : Sto} (w : SW K cl ρ H S) : ∀ b ∈ ρ.b, ∀ xs, ¬ Rd H b (.tup xs) := fun b hb xs h => by
  have key : ∀ o, H b = some o → (∀ xs, o ≠ .tup xs) → (∀ ob xs, o ≠ .frz ob (.tup xs)) → False := fun o e h1 h2 => by
    rcases h with z | ⟨ob, z⟩
    · rw [e] at z; cases z; exact h1 _ rfl
    · rw [e] at z; cases z; exact h2 _ _ rfl
  rcases P3.mem_b.mp hb with ⟨z, n⟩ | z
  · obtain ⟨k, hk⟩ := List.getElem?_of_mem z
    have hl := (List.getElem?_eq_some_iff.mp hk).1
    have hS : S[k]? = some (S[k]'(by rw [← w.len]; exact hl)) := List.getElem?_eq_getElem (by rw [← w.len]; exact hl)
    have r := w.ob k b _ hk hS
    generalize S[k]'(by rw [← w.len]; exact hl) = o at r hS
    cases o with
    | lst ds => obtain ⟨ys, e, _⟩ := r; exact key _ e (fun _ q => by cases q) (fun _ _ q => by cases q)
    | dct kvs => obtain ⟨ys, e, _⟩ := r; exact key _ e (fun _ q => by cases q) (fun _ _ q => by cases q)
    | ins c fs => obtain ⟨dx, ys, e, _⟩ := r; exact key _ e (fun _ q => by cases q) (fun _ _ q => by cases q)
    | frz => exact n (w.fi k b hk hS)
  · obtain ⟨⟨ys, e⟩, _⟩ := w.zb b z
    exact key _ e (fun _ q => by cases q) (fun _ _ q => by cases q)

abbrev DE := List (Option V3)
structure EnvX (K : PySem.W.Frag) (cl : Nat → Addr) (ρ : P3) (H : Hp) (S : Sto) (σ : L2.St) (δ : DE) : Prop where
  len : δ.length = σ.length
  sw : SW K cl ρ H S
  val : ∀ (i : Nat) (d : V3), δ[i]? = some (some d) → ∃ v, σ[i]? = some (some v) ∧ Rep3 K ρ H d v
theorem EnvX.to {K : PySem.W.Frag} {cl : Nat → Addr} {ρ ρ' : P3} {H H' : Hp} {S S' : Sto} {σ : L2.St} {δ : DE} (E : EnvX K cl ρ H S σ δ) (p : Pre ρ H ρ' H') (w : SW K cl ρ' H' S') : EnvX K cl ρ' H' S' σ δ :=
  ⟨E.len, w, fun i d e => let ⟨v, h1, h2⟩ := E.val i d e; ⟨v, h1, h2.pre p⟩⟩
theorem EnvX.set {K : PySem.W.Frag} {cl : Nat → Addr} {ρ : P3} {H : Hp} {S : Sto} {σ : L2.St} {δ : DE} (E : EnvX K cl ρ H S σ δ) {i : Nat} {d : V3} {v : V} (hi : i < σ.length) (r : Rep3 K ρ H d v) : EnvX K cl ρ H S (σ.set i (some v)) (δ.set i (some d)) :=
  ⟨by rw [List.length_set, List.length_set]; exact E.len, E.sw, fun j d' e => by
    by_cases h : i = j
    · subst h
      rw [List.getElem?_set_self (by rw [E.len]; exact hi)] at e
      cases e
      exact ⟨v, List.getElem?_set_self hi, r⟩
    · rw [List.getElem?_set_ne h] at e ⊢
      exact E.val j d' e⟩
/-- what a pure expression sees -/
def down (δ : DE) : DEnv := δ.map fun x => match x with | some (.d d) => .val d | _ => .un
theorem EnvX.down {K : PySem.W.Frag} {cl : Nat → Addr} {ρ : P3} {H : Hp} {S : Sto} {σ : L2.St} {δ : DE} (E : EnvX K cl ρ H S σ δ) : EnvR K [] ρ.b H σ (down δ) where
  len := by unfold L3.down; rw [List.length_map]; exact E.len
  bs := E.sw.bs
  zb := fun a ha => by cases ha
  val := fun i d e => by
    unfold L3.down at e
    rw [List.getElem?_map] at e
    cases q : δ[i]? with
    | none => rw [q] at e; cases e
    | some x =>
      rw [q] at e
      match x, e, q with
      | some (.d y), e, q =>
        cases e
        obtain ⟨v, h1, h2⟩ := E.val i _ q
        unfold Rep3 at h2
        exact ⟨v, h1, h2⟩
      | some (.loc k), e, q => cases e
      | some (.lst k), e, q => cases e
      | some (.tup k), e, q => cases e
      | none, e, q => cases e
  bld := fun i ds e => by
    unfold L3.down at e
    rw [List.getElem?_map] at e
    cases q : δ[i]? with
    | none => rw [q] at e; cases e
    | some x =>
      rw [q] at e
      match x, e with
      | some (.d y), e => cases e
      | some (.loc k), e => cases e
      | some (.lst k), e => cases e
      | some (.tup k), e => cases e
      | none, e => cases e
  dis := fun i j a ds es e => by
    unfold L3.down at e
    rw [List.getElem?_map] at e
    cases q : δ[i]? with
    | none => rw [q] at e; cases e
    | some x =>
      rw [q] at e
      match x, e with
      | some (.d y), e => cases e
      | some (.loc k), e => cases e
      | some (.lst k), e => cases e
      | some (.tup k), e => cases e
      | none, e => cases e
/-! what a pure expression sees that reads lists of the store, too -/
mutual
def res (S : Sto) : V3 → Option D
  | .d x => some x
  | .loc k => (match S[k]? with | some (.lst ds) => some (.lst ds) | _ => none)
  | .lst vs => (ress S vs).map D.lst
  | .tup vs => (ress S vs).map D.tup
def ress (S : Sto) : List V3 → Option (List D)
  | [] => some []
  | v :: vs => (res S v).bind fun d => (ress S vs).map (d :: ·)
end
def downT (S : Sto) (δ : DE) : DEnv := δ.map fun x => match x with | some v => (match res S v with | some d => .val d | none => .un) | none => .un
theorem omap_some {α β : Type} {o : Option α} {f : α → β} {b : β} (h : o.map f = some b) : ∃ a, o = some a ∧ f a = b := by
  cases o with
  | none => cases h
  | some a => cases h; exact ⟨a, rfl, rfl⟩
theorem obind_some {α β : Type} {o : Option α} {f : α → Option β} {b : β} (h : o.bind f = some b) : ∃ a, o = some a ∧ f a = some b := by
  cases o with
  | none => cases h
  | some a => exact ⟨a, rfl, h⟩
/-! the places of a value that is told lie behind the n first of the store -/
mutual
def geOk (n : Nat) : V3 → Bool
  | .d _ => true
  | .loc k => decide (n ≤ k)
  | .lst vs => gesOk n vs
  | .tup vs => gesOk n vs
def gesOk (n : Nat) : List V3 → Bool
  | [] => true
  | v :: vs => geOk n v && gesOk n vs
end
mutual
/-- a value told, its lists read: none of its own lists lies in B' -/
theorem Rep3.resB {K : PySem.W.Frag} {cl : Nat → Addr} {ρ : P3} {H : Hp} {S : Sto} {B' : List Addr} {n : Nat} (w : SW K cl ρ H S) (p : Pres ρ.b H B' H) (hn : ∀ (k : Nat) (a : Addr), n ≤ k → ρ.r[k]? = some a → a ∉ B') : ∀ {v : V3} {d : D} {x : V}, geOk n v = true → res S v = some d → Rep3 K ρ H v x → Rep K B' H d x
  | .d y, d, x, _, h, r => by unfold L3.res at h; cases h; unfold Rep3 at r; exact r.pres p
  | .loc k, d, x, g, h, r => by
    unfold L3.res at h
    unfold Rep3 at r
    unfold geOk at g
    obtain ⟨a, h1, rfl⟩ := r
    split at h
    · rename_i ds e
      cases h
      obtain ⟨xs, e2, q⟩ := w.ob k a _ h1 e
      unfold Rep
      exact ⟨a, xs, rfl, .inl ⟨hn k a (of_decide_eq_true g) h1, .inl e2⟩, q.pres p⟩
    · cases h
  | .lst vs, d, x, g, h, r => by
    unfold L3.res at h
    unfold geOk at g
    obtain ⟨ds, e, rfl⟩ := omap_some h
    unfold Rep3 at r
    obtain ⟨a, xs, rfl, l, r⟩ := r
    unfold Rep
    exact ⟨a, xs, rfl, l.pres p, Reps3.resB w p hn g e r⟩
  | .tup vs, d, x, g, h, r => by
    unfold L3.res at h
    unfold geOk at g
    obtain ⟨ds, e, rfl⟩ := omap_some h
    unfold Rep3 at r
    obtain ⟨a, xs, rfl, l, r⟩ := r
    unfold Rep
    exact ⟨a, xs, rfl, TpF.pres p l, Reps3.resB w p hn g e r⟩
theorem Reps3.resB {K : PySem.W.Frag} {cl : Nat → Addr} {ρ : P3} {H : Hp} {S : Sto} {B' : List Addr} {n : Nat} (w : SW K cl ρ H S) (p : Pres ρ.b H B' H) (hn : ∀ (k : Nat) (a : Addr), n ≤ k → ρ.r[k]? = some a → a ∉ B') : ∀ {vs : List V3} {ds : List D} {xs : List V}, gesOk n vs = true → ress S vs = some ds → Reps3 K ρ H vs xs → Reps K B' H ds xs
  | [], ds, xs, _, h, r => by unfold ress at h; cases h; unfold Reps3 at r; subst r; exact Reps.nil
  | v :: vs, ds, xs, g, h, r => by
    unfold ress at h
    unfold gesOk at g
    obtain ⟨g1, g2⟩ := Bool.and_eq_true_iff.mp g
    obtain ⟨d, e1, h2⟩ := obind_some h
    obtain ⟨es, e2, rfl⟩ := omap_some h2
    obtain ⟨y, ys, rfl, r1, r2⟩ := r.uncons
    exact Reps.cons (Rep3.resB w p hn g1 e1 r1) (Reps3.resB w p hn g2 e2 r2)
end
mutual
theorem geOk_zero : ∀ v : V3, geOk 0 v = true
  | .d _ => by unfold geOk; rfl
  | .loc k => by unfold geOk; exact decide_eq_true (Nat.zero_le _)
  | .lst vs => by unfold geOk; exact gesOk_zero vs
  | .tup vs => by unfold geOk; exact gesOk_zero vs
theorem gesOk_zero : ∀ vs : List V3, gesOk 0 vs = true
  | [] => by unfold gesOk; rfl
  | v :: vs => by unfold gesOk; rw [geOk_zero v, gesOk_zero vs]; rfl
end
theorem Rep3.res {K : PySem.W.Frag} {cl : Nat → Addr} {ρ : P3} {H : Hp} {S : Sto} (w : SW K cl ρ H S) {v : V3} {d : D} {x : V} (h : res S v = some d) (r : Rep3 K ρ H v x) : Rep K [] H d x :=
  r.resB w (fun b o e _ => ⟨e, by simp⟩) (n := 0) (fun _ _ _ _ => by simp) (geOk_zero v) h
theorem downT_get {S : Sto} {δ : DE} {i : Nat} {y : Sl} (e : (downT S δ)[i]? = some y) : (∃ v d, δ[i]? = some (some v) ∧ res S v = some d ∧ y = .val d) ∨ y = .un := by
  unfold downT at e
  rw [List.getElem?_map] at e
  cases q : δ[i]? with
  | none => rw [q] at e; cases e
  | some x =>
    rw [q] at e
    cases x with
    | none => cases e; exact .inr rfl
    | some v =>
      cases z : res S v with
      | none =>
        have e : some (match res S v with | some d => Sl.val d | none => .un) = some y := e
        rw [z] at e; cases e; exact .inr rfl
      | some d =>
        have e : some (match res S v with | some d => Sl.val d | none => .un) = some y := e
        rw [z] at e; cases e; exact .inl ⟨v, d, rfl, z, rfl⟩
theorem EnvX.downT {K : PySem.W.Frag} {cl : Nat → Addr} {ρ : P3} {H : Hp} {S : Sto} {σ : L2.St} {δ : DE} (E : EnvX K cl ρ H S σ δ) : EnvR K [] [] H σ (downT S δ) where
  len := by unfold L3.downT; rw [List.length_map]; exact E.len
  bs := fun a ha => by cases ha
  zb := fun a ha => by cases ha
  val := fun i d e => by
    rcases downT_get e with ⟨v, d', h1, h2, h3⟩ | h
    · cases h3
      obtain ⟨x, q1, q2⟩ := E.val i v h1
      exact ⟨x, q1, q2.res E.sw h2⟩
    · cases h
  bld := fun i ds e => by
    rcases downT_get e with ⟨v, d', h1, h2, h3⟩ | h
    · cases h3
    · cases h
  dis := fun i j a ds es e => by
    rcases downT_get e with ⟨v, d', h1, h2, h3⟩ | h
    · cases h3
    · cases h

/-! ### readings -/
abbrev FX := DE → Sto → R3 V3
abbrev FB := DE → Sto → R3 Bool
abbrev FA := DE → Sto → R3 (List V3)
def tX (K : PySem.W.Frag) (cl : Nat → Addr) (f : FX) : TE := fun σ H Q => ∃ ρ S δ v S', EnvX K cl ρ H S σ δ ∧ f δ S = .ok v S' ∧ ∀ u ρ' H', Pre ρ H ρ' H' → SW K cl ρ' H' S' → Rep3 K ρ' H' v u → Q u H'
def tXB (K : PySem.W.Frag) (cl : Nat → Addr) (f : FB) : TT := fun σ H Q => ∃ ρ S δ b S', EnvX K cl ρ H S σ δ ∧ f δ S = .ok b S' ∧ ∀ ρ' H', Pre ρ H ρ' H' → SW K cl ρ' H' S' → Q b H'
def tXA (K : PySem.W.Frag) (cl : Nat → Addr) (f : FA) : TA := fun σ H Q => ∃ ρ S δ vs S', EnvX K cl ρ H S σ δ ∧ f δ S = .ok vs S' ∧ ∀ us ρ' H', Pre ρ H ρ' H' → SW K cl ρ' H' S' → Reps3 K ρ' H' vs us → Q us H'
structure PX (X : Cx) (cl : Nat → Addr) (e : Expr) (f : FX) : Prop where
  go : PE X e (tX X.K cl f)
structure PXB (X : Cx) (cl : Nat → Addr) (e : Expr) (f : FB) : Prop where
  go : PT X e (tXB X.K cl f)
structure PXA (X : Cx) (cl : Nat → Addr) (es : List Expr) (f : FA) : Prop where
  go : PA X es (tXA X.K cl f)
section
variable {X : Cx} {cl : Nat → Addr}
/-- a pure expression -/
def xP (f : FD) : FX := fun δ S => (R3.of (f (down δ)) S).bind fun d S => .ok (.d d) S
theorem px_pure {e : Expr} {f : FD} (h : QD X e f) : PX X cl e (xP f) := ⟨h.1.imp fun σ H Q ⟨ρ, S, δ, v, S', E, hf, q⟩ => by
  obtain ⟨d, S1, h1, h2⟩ := R3.bind_ok hf
  obtain ⟨h3, e3⟩ := R3.of_ok h1
  cases h2
  subst e3
  exact ⟨[], ρ.b, down δ, d, E.down, h3, fun v H' s r => q v ρ H' (Pre.same s) (E.sw.same s) (by unfold Rep3; exact r)⟩⟩
/-- an atom, of lists of the store too -/
def xT (f : FD) : FX := fun δ S => (R3.of (f (downT S δ)) S).bind fun d S => R3.when (tupD d) (.ok (.d d) S)
theorem px_thaw {e : Expr} {f : FD} (h : QD X e f) : PX X cl e (xT f) := ⟨h.1.imp fun σ H Q ⟨ρ, S, δ, v, S', E, hf, q⟩ => by
  obtain ⟨d, S1, h1, h2⟩ := R3.bind_ok hf
  obtain ⟨h4, e3⟩ := R3.of_ok h1
  obtain ⟨ha, h3⟩ := R3.when_ok h2
  cases h3
  subst e3
  exact ⟨[], [], downT _ δ, d, E.downT, h4, fun v H' s r => q v ρ H' (Pre.same s) (E.sw.same s) (by unfold Rep3; exact Rep.ofTup (E.sw.same s).nt ha r)⟩⟩
def bP (f : DEnv → R Bool) : FB := fun δ S => R3.of (f (down δ)) S
theorem pxb_pure {e : Expr} {f : DEnv → R Bool} (h : QB X e f) : PXB X cl e (bP f) := ⟨h.1.imp fun σ H Q ⟨ρ, S, δ, v, S', E, hf, q⟩ => by
  obtain ⟨h1, e3⟩ := R3.of_ok hf
  subst e3
  exact ⟨[], ρ.b, down δ, v, E.down, h1, fun H' s => q ρ H' (Pre.same s) (E.sw.same s)⟩⟩
def bT (f : DEnv → R Bool) : FB := fun δ S => R3.of (f (downT S δ)) S
theorem pxb_thaw {e : Expr} {f : DEnv → R Bool} (h : QB X e f) : PXB X cl e (bT f) := ⟨h.1.imp fun σ H Q ⟨ρ, S, δ, v, S', E, hf, q⟩ => by
  obtain ⟨h1, e3⟩ := R3.of_ok hf
  subst e3
  exact ⟨[], [], downT _ δ, v, E.downT, h1, fun H' s => q ρ H' (Pre.same s) (E.sw.same s)⟩⟩
/-- a name -/
def xVar (i : Nat) : FX := fun δ S => match δ[i]? with | some (some v) => .ok v S | _ => .no
theorem px_var (i : Nat) {x : Str} {pos : Pos} (hN : X.N[i]? = some x := by rfl) (hv : Vis X.env.scope x := by first | exact Or.inl rfl | exact Or.inr (Or.inl rfl) | exact Or.inr (Or.inr rfl)) (hd : (x == ("__debug__" : Str)) = false := by decide)
    (hcd : (x == ("__classdict__" : Str)) = false := by decide) : PX X cl (.Name x pos) (xVar i) := ⟨(pe_var hN hv hd hcd).imp fun σ H Q ⟨ρ, S, δ, v, S', E, hf, q⟩ => by
  unfold xVar at hf
  split at hf
  · rename_i d' e
    cases hf
    obtain ⟨u, h1, h2⟩ := E.val i _ e
    exact ⟨u, h1, q u ρ H (Pre.refl ρ H) E.sw h2⟩
  · cases hf⟩
/-- a new list of the store -/
def xNew (f : DEnv → R (List D)) : FX := fun δ S => (R3.of (f (down δ)) S).bind fun ds S => .ok (.loc S.length) (S ++ [.lst ds])
theorem px_new {e : Expr} {f : DEnv → R (List D)} (h : QN X e f) : PX X cl e (xNew f) := ⟨h.1.imp fun σ H Q ⟨ρ, S, δ, v, S', E, hf, q⟩ => by
  obtain ⟨ds, S1, h1, h2⟩ := R3.bind_ok hf
  obtain ⟨h3, e3⟩ := R3.of_ok h1
  cases h2
  subst e3
  refine ⟨[], ρ.b, down δ, ds, E.down, h3, fun a xs H' s n e r => ?_⟩
  have r' : Reps X.K (ρ.push a).b H' ds xs := r.pres fun b o e nb => ⟨e, fun hb => nb (by
    rcases P3.mem_push hb with z | z
    · exact List.mem_cons_of_mem _ z
    · subst z; exact List.mem_cons_self)⟩
  obtain ⟨w, p⟩ := E.sw.new (o := .lst ds) s n ⟨xs, e, r'⟩
  exact q _ _ H' p w (by unfold Rep3; exact ⟨a, by show (ρ.r ++ [a])[_]? = _; rw [← E.sw.len, List.getElem?_append_right (by omega), Nat.sub_self]; rfl, rfl⟩)⟩
end
end L3

end
section
set_option maxRecDepth 100000
set_option maxHeartbeats 4000000
/-! ## THE STORE LAYER: expressions with deeds, statements, loops (own) -/
namespace L3
open PySem PySem.Spec PyProof.Rows L2
section
variable {X : Cx} {cl : Nat → Addr}
/-! arguments -/
def xNil : FA := fun _ S => .ok [] S
def xCons (f : FX) (g : FA) : FA := fun δ S => (f δ S).bind fun v S1 => (g δ S1).bind fun vs S2 => .ok (v :: vs) S2
theorem pxa_nil : PXA X cl [] xNil := ⟨pa_nil.imp fun σ H Q ⟨ρ, S, δ, v, S', E, hf, q⟩ => by
  cases hf
  exact q [] ρ H (Pre.refl ρ H) E.sw Reps3.nil⟩
theorem pxa_cons {e : Expr} {es : List Expr} {f : FX} {g : FA} (h : PX X cl e f) (t : PXA X cl es g) (hs : starEach (e :: es) X.env = (false, eval e X.env) :: starEach es X.env := by rfl) : PXA X cl (e :: es) (xCons f g) :=
  ⟨(pa_cons h.1 t.1 hs).imp fun σ H Q ⟨ρ, S, δ, v, S', E, hf, q⟩ => by
    obtain ⟨v1, S1, h1, h2⟩ := R3.bind_ok hf
    obtain ⟨vs, S2, h3, h4⟩ := R3.bind_ok h2
    cases h4
    exact ⟨ρ, S, δ, v1, S1, E, h1, fun u ρ1 H1 p1 w1 r1 => ⟨ρ1, S1, δ, vs, _, E.to p1 w1, h3, fun us ρ2 H2 p2 w2 r2 => q _ ρ2 H2 (p1.trans p2) w2 (Reps3.cons (r1.pre p2) r2)⟩⟩⟩
def allD : List V3 → Option (List D)
  | [] => some []
  | .d x :: r => (allD r).map (x :: ·)
  | _ :: _ => none
theorem allD_some : ∀ {vs : List V3} {ds : List D}, allD vs = some ds → vs = ds.map .d
  | [], ds, h => by cases h; rfl
  | .d x :: r, ds, h => by
    cases e : allD r with
    | none => have h : (allD r).map (x :: ·) = some ds := h; rw [e] at h; cases h
    | some es =>
      have h : (allD r).map (x :: ·) = some ds := h
      rw [e] at h
      cases h
      rw [allD_some e]
      rfl
  | .loc _ :: _, _, h => by cases h
  | .lst _ :: _, _, h => by cases h
  | .tup _ :: _, _, h => by cases h
theorem allD_map : ∀ ds : List D, allD (ds.map .d) = some ds
  | [] => rfl
  | d :: ds => by show (allD (ds.map .d)).map (d :: ·) = _; rw [allD_map ds]; rfl
def mkTup (vs : List V3) : V3 := match allD vs with | some ds => .d (.tup ds) | none => .tup vs
def mkLst (vs : List V3) : V3 := match allD vs with | some ds => .d (.lst ds) | none => .lst vs
/-- a tuple, a list that doesn't change -/
def xTup (g : FA) : FX := fun δ S => (g δ S).bind fun vs S => R3.when (decide (vs.length ≤ sizeLine)) (.ok (mkTup vs) S)
theorem new_pre {ρ : P3} {H : Hp} {p : Addr} {o : HO} (hp : H p = none) : Pre ρ H ρ (upd H p o) := Pre.same (same_upd hp)
theorem mkTup_rep {K : PySem.W.Frag} {ρ : P3} {H : Hp} {vs : List V3} {xs : List V} {a : Addr} (l : TpF K ρ.b H a xs) (r : Reps3 K ρ H vs xs) : Rep3 K ρ H (mkTup vs) (.ref a) := by
  unfold mkTup
  split
  · rename_i ds e
    rw [allD_some e] at r
    unfold Rep3 Rep
    exact ⟨a, xs, rfl, l, r.to⟩
  · unfold Rep3
    exact ⟨a, xs, rfl, l, r⟩
theorem mkLst_rep {K : PySem.W.Frag} {ρ : P3} {H : Hp} {vs : List V3} {xs : List V} {a : Addr} (l : LsF K ρ.b H a xs) (r : Reps3 K ρ H vs xs) : Rep3 K ρ H (mkLst vs) (.ref a) := by
  unfold mkLst
  split
  · rename_i ds e
    rw [allD_some e] at r
    unfold Rep3 Rep
    exact ⟨a, xs, rfl, l, r.to⟩
  · unfold Rep3
    exact ⟨a, xs, rfl, l, r⟩
theorem px_tup {es : List Expr} {g : FA} {x1 pos} (h : PXA X cl es g) : PX X cl (.Tuple es x1 pos) (xTup g) := ⟨(pe_tup h.1).imp fun σ H Q ⟨ρ, S, δ, v, S', E, hf, q⟩ => by
  obtain ⟨vs, S1, h1, h2⟩ := R3.bind_ok hf
  obtain ⟨hl, h3⟩ := R3.when_ok h2
  cases h3
  refine ⟨ρ, S, δ, vs, _, E, h1, fun us ρ1 H1 p1 w1 r1 => ⟨by rw [← r1.length]; exact of_decide_eq_true hl, fun p hp => q _ ρ1 _ (p1.trans (new_pre hp)) (w1.same (same_upd hp)) ?_⟩⟩
  refine mkTup_rep (.inl ⟨fun ha => ?_, .inl upd_same⟩) (r1.pre (new_pre hp))
  obtain ⟨o, ho⟩ := w1.bs p ha
  rw [hp] at ho; cases ho⟩
def xLst (g : FA) : FX := fun δ S => (g δ S).bind fun vs S => R3.when (decide (vs.length ≤ sizeLine)) (.ok (mkLst vs) S)
theorem px_lst {es : List Expr} {g : FA} {pos} (h : PXA X cl es g) : PX X cl (.List es pos) (xLst g) := ⟨(pe_lst h.1).imp fun σ H Q ⟨ρ, S, δ, v, S', E, hf, q⟩ => by
  obtain ⟨vs, S1, h1, h2⟩ := R3.bind_ok hf
  obtain ⟨hl, h3⟩ := R3.when_ok h2
  cases h3
  refine ⟨ρ, S, δ, vs, _, E, h1, fun us ρ1 H1 p1 w1 r1 => ⟨by rw [← r1.length]; exact of_decide_eq_true hl, fun p hp => q _ ρ1 _ (p1.trans (new_pre hp)) (w1.same (same_upd hp)) ?_⟩⟩
  refine mkLst_rep (.inl ⟨fun ha => ?_, .inl upd_same⟩) (r1.pre (new_pre hp))
  obtain ⟨o, ho⟩ := w1.bs p ha
  rw [hp] at ho; cases ho⟩
/-- operations on two data -/
def x2 (g : D → D → R D) (fa fb : FX) : FX := fun δ S => (fa δ S).bind fun a S1 => (fb δ S1).bind fun b S2 => match a, b with
  | .d x, .d y => (R3.of (g x y) S2).bind fun d S => .ok (.d d) S
  | _, _ => .no
theorem x2_r {K : PySem.W.Frag} {g : D → D → R D} {fa fb : FX} {σ : L2.St} {H : Hp} {Q : VK} (h : tX K cl (x2 g fa fb) σ H Q) :
    tOp (fun x y H Q => ∃ B da db d, (∀ a ∈ B, ∃ o, H a = some o) ∧ Rep K B H da x ∧ Rep K B H db y ∧ g da db = .ok d ∧ ∀ z H', Same H H' → Rep K B H' d z → Q z H') (tX K cl fa) (tX K cl fb) σ H Q := by
  obtain ⟨ρ, S, δ, v, S', E, hf, q⟩ := h
  obtain ⟨a, S1, h1, h2⟩ := R3.bind_ok hf
  obtain ⟨b, S2, h3, h4⟩ := R3.bind_ok h2
  match a, b, h1, h3, h4 with
  | .d x, .d y, h1, h3, h4 =>
    obtain ⟨d, S3, h5, h6⟩ := R3.bind_ok h4
    obtain ⟨h7, e⟩ := R3.of_ok h5
    cases h6
    subst e
    refine ⟨ρ, S, δ, .d x, S1, E, h1, fun u1 ρ1 H1 p1 w1 r1 => ⟨ρ1, S1, δ, .d y, _, E.to p1 w1, h3, fun u2 ρ2 H2 p2 w2 r2 => ?_⟩⟩
    have r1' := r1.pre p2
    unfold Rep3 at r1' r2
    exact ⟨ρ2.b, x, y, d, w2.bs, r1', r2, h7, fun z H' s r => q z ρ2 H' (p1.trans (p2.trans (Pre.same s))) (w2.same s) (by unfold Rep3; exact r)⟩
  | .d x, .loc _, _, _, h4 => cases h4
  | .d x, .lst _, _, _, h4 => cases h4
  | .d x, .tup _, _, _, h4 => cases h4
  | .loc _, _, _, _, h4 => cases h4
  | .lst _, _, _, _, h4 => cases h4
  | .tup _, _, _, _, h4 => cases h4
theorem px_op {op : Operator} {g : D → D → R D} {a b : Expr} {fa fb : FX} {pos : Pos} (ho : OpD X (binaryOp op) g) (ha : PX X cl a fa) (hb : PX X cl b fb) : PX X cl (.BinOp a op b pos) (x2 g fa fb) :=
  ⟨(pe_op ho.r ha.1 hb.1).imp fun σ H Q h => x2_r h⟩
theorem px_cmp {op : CmpOp} {g : D → D → R D} {a b : Expr} {fa fb : FX} {pos : Pos} (ho : OpD X (compareOp op) g) (ha : PX X cl a fa) (hb : PX X cl b fb) (hm : behindInMarks op b = false) : PX X cl (.Compare a [op] [b] pos) (x2 g fa fb) :=
  ⟨(pe_cmpR ho.r ha.1 hb.1 hm).imp fun σ H Q h => x2_r h⟩
def xb2 (g : D → D → R D) (fa fb : FX) : FB := fun δ S => (x2 g fa fb δ S).bind fun v S => match v with | .d (.bl b) => .ok b S | _ => .no
theorem pxb_cmp {op : CmpOp} {g : D → D → R D} {a b : Expr} {fa fb : FX} {pos : Pos} (ho : OpD X (compareOp op) g) (ha : PX X cl a fa) (hb : PX X cl b fb) (hm : behindInMarks op b = false) : PXB X cl (.Compare a [op] [b] pos) (xb2 g fa fb) :=
  ⟨(pt_cmpR ho.r ha.1 hb.1 hm).imp fun σ H Q ⟨ρ, S, δ, b, S', E, hf, q⟩ => by
    obtain ⟨v, S1, h1, h2⟩ := R3.bind_ok hf
    have hv : v = .d (.bl b) ∧ S1 = S' := by
      match v, h2 with
      | .d (.bl k), h2 => cases h2; exact ⟨rfl, rfl⟩
      | .d .non, h2 => cases h2
      | .d (.int _), h2 => cases h2
      | .d (.str _), h2 => cases h2
      | .d (.lst _), h2 => cases h2
      | .d (.tup _), h2 => cases h2
      | .d (.dct _ _), h2 => cases h2
      | .loc _, h2 => cases h2
      | .lst _, h2 => cases h2
      | .tup _, h2 => cases h2
    obtain ⟨rfl, rfl⟩ := hv
    exact x2_r (g := g) (Q := fun x H' => ∃ k, x = .bl k ∧ Q k H') ⟨ρ, S, δ, _, _, E, h1, fun u ρ' H' p w r => ⟨b, by unfold Rep3 Rep at r; exact r, q ρ' H' p w⟩⟩⟩
/-! ### statements -/
inductive Ou where
  | nx (δ : DE) | rt (v : V3)
abbrev FZ := DE → Sto → R3 Ou
def OutX (K : PySem.W.Frag) (cl : Nat → Addr) (ρ : P3) (H : Hp) (D : Ends) (S' : Sto) : Ou → Prop
  | .nx δ' => ∀ σ' ρ' H', Pre ρ H ρ' H' → EnvX K cl ρ' H' S' σ' δ' → D.nx σ' H'
  | .rt v => ∀ u ρ' H', Pre ρ H ρ' H' → SW K cl ρ' H' S' → Rep3 K ρ' H' v u → D.rt u H'
theorem OutX.pre {K : PySem.W.Frag} {ρ ρ1 : P3} {H H1 : Hp} {D : Ends} {S' : Sto} {o : Ou} (q : OutX K cl ρ H D S' o) (p : Pre ρ H ρ1 H1) : OutX K cl ρ1 H1 D S' o := by
  cases o with
  | nx δ' => exact fun σ' ρ' H' p' E' => q σ' ρ' H' (p.trans p') E'
  | rt d => exact fun v ρ' H' p' w r => q v ρ' H' (p.trans p') w r
def sX (K : PySem.W.Frag) (cl : Nat → Addr) (F : FZ) : TS := fun D σ H => ∃ ρ S δ o S', EnvX K cl ρ H S σ δ ∧ F δ S = .ok o S' ∧ OutX K cl ρ H D S' o
structure PZ (X : Cx) (cl : Nat → Addr) (st : Stmt) (F : FZ) : Prop where
  go : PS X st (sX X.K cl F)
structure PZs (X : Cx) (cl : Nat → Addr) (st : List Stmt) (F : FZ) : Prop where
  go : PSs X st (sX X.K cl F)
def zNil : FZ := fun δ S => .ok (.nx δ) S
def zSeq (F G : FZ) : FZ := fun δ S => (F δ S).bind fun o S1 => match o with | .nx δ' => G δ' S1 | .rt d => .ok (.rt d) S1
theorem pzs_nil : PZs X cl [] zNil := ⟨pss_nil.imp fun D σ H ⟨ρ, S, δ, o, S', E, hf, q⟩ => by
  cases hf
  exact q σ ρ H (Pre.refl ρ H) E⟩
theorem pzs_cons {st : Stmt} {rest : List Stmt} {F G : FZ} (h1 : PZ X cl st F) (h2 : PZs X cl rest G) : PZs X cl (st :: rest) (zSeq F G) := ⟨(pss_cons h1.1 h2.1).imp fun D σ H ⟨ρ, S, δ, o, S', E, hf, q⟩ => by
  obtain ⟨o1, S1, h1, h2⟩ := R3.bind_ok hf
  refine ⟨ρ, S, δ, o1, S1, E, h1, ?_⟩
  cases o1 with
  | nx δ1 =>
    intro σ1 ρ1 H1 p1 E1
    exact ⟨ρ1, S1, δ1, o, S', E1, h2, q.pre p1⟩
  | rt d =>
    cases h2
    exact q⟩
theorem pzs_one {st : Stmt} {F : FZ} (h1 : PZ X cl st F) : PZs X cl [st] F := ⟨pss_one h1.1⟩
def zSet (i : Nat) (f : FX) : FZ := fun δ S => (f δ S).bind fun v S => R3.when (decide (i < δ.length)) (.ok (.nx (δ.set i (some v))) S)
theorem pz_set {i : Nat} {x : Str} {e : Expr} {f : FX} {pos pos' : Pos} (hN : X.N.Nodup) (hi : X.N[i]? = some x) (hx : Loc X.env.scope x) (he : PX X cl e f) (hs : swapsWith e (some (.Name x pos')) pos.line X.env = pure false := by rfl) (hf : X.fn x = true ∨ X.env.scope.names.lookup x = some .local := by first | exact .inl rfl | exact .inr rfl | assumption) :
    PZ X cl (.Assign [.Name x pos'] e pos) (zSet i f) := ⟨(ps_set hN hi hx he.1 hs hf).imp fun D σ H ⟨ρ, S, δ, o, S', E, hf, q⟩ => by
  obtain ⟨v, S1, h1, h2⟩ := R3.bind_ok hf
  obtain ⟨hi, h3⟩ := R3.when_ok h2
  cases h3
  refine ⟨ρ, S, δ, v, _, E, h1, fun u ρ1 H1 p1 w1 r1 => ?_⟩
  exact q _ ρ1 H1 p1 ((E.to p1 w1).set (by rw [← E.len]; exact of_decide_eq_true hi) r1)⟩
def zRet (f : FX) : FZ := fun δ S => (f δ S).bind fun v S => .ok (.rt v) S
theorem pz_ret {e : Expr} {f : FX} {pos : Pos} (he : PX X cl e f) : PZ X cl (.Return (some e) pos) (zRet f) := ⟨(ps_ret he.1).imp fun D σ H ⟨ρ, S, δ, o, S', E, hf, q⟩ => by
  obtain ⟨v, S1, h1, h2⟩ := R3.bind_ok hf
  cases h2
  exact ⟨ρ, S, δ, v, _, E, h1, fun u ρ1 H1 p1 w1 r1 => q u ρ1 H1 p1 w1 r1⟩⟩
def zIf (c : FB) (F G : FZ) : FZ := fun δ S => (c δ S).bind fun b S => if b then F δ S else G δ S
theorem pz_if {c : Expr} {a b : List Stmt} {fc : FB} {F G : FZ} {pos : Pos} (hc : PXB X cl c fc) (ha : PZs X cl a F) (hb : PZs X cl b G) : PZ X cl (.If c a b pos) (zIf fc F G) := ⟨(ps_if hc.1 ha.1 hb.1).imp fun D σ H ⟨ρ, S, δ, o, S', E, hf, q⟩ => by
  obtain ⟨k, S1, h1, h2⟩ := R3.bind_ok hf
  refine ⟨ρ, S, δ, k, S1, E, h1, fun ρ1 H1 p1 w1 => ?_⟩
  cases k with
  | true => rw [if_pos rfl] at h2; exact iteT ⟨ρ1, S1, δ, o, S', E.to p1 w1, h2, q.pre p1⟩
  | false => rw [if_neg (by decide)] at h2; exact iteF ⟨ρ1, S1, δ, o, S', E.to p1 w1, h2, q.pre p1⟩⟩
def zDrop (f : FX) : FZ := fun δ S => (f δ S).bind fun _ S => .ok (.nx δ) S
/-! while -/
def zWhileN (c : FB) (body : FZ) : Nat → FZ
  | 0, _, _ => .no
  | n + 1, δ, S => (c δ S).bind fun b S => if b then (body δ S).bind fun o S => match o with | .nx δ2 => zWhileN c body n δ2 S | .rt r => .ok (.rt r) S else .ok (.nx δ) S
def zWhile (n : Nat) (c : FB) (body : FZ) : FZ := fun δ S => zWhileN c body n δ S
end
end L3

end
section
set_option maxRecDepth 100000
set_option maxHeartbeats 4000000
/-! ## THE STORE LAYER: what is walked, targets, for (own) -/
namespace L3
open PySem PySem.Spec PyProof.Rows L2
theorem Reps3.get {K : PySem.W.Frag} {ρ : P3} {H : Hp} : ∀ {ds : List V3} {xs : List V} {i : Nat} {d : V3}, Reps3 K ρ H ds xs → ds[i]? = some d → ∃ x, xs[i]? = some x ∧ Rep3 K ρ H d x
  | [], _, _, _, _, e => by simp at e
  | d :: ds, xs, 0, d', h, e => by
    obtain ⟨x, r, rfl, h1, h2⟩ := h.uncons
    simp at e; subst e
    exact ⟨x, rfl, h1⟩
  | d :: ds, xs, i + 1, d', h, e => by
    obtain ⟨x, r, rfl, h1, h2⟩ := h.uncons
    obtain ⟨y, e1, e2⟩ := Reps3.get (i := i) h2 (by simpa using e)
    exact ⟨y, by simpa using e1, e2⟩
def ItX (K : PySem.W.Frag) (ρ : P3) (H : Hp) (J : It) (vs : List V3) : Prop := ∀ ρ' H', PW ρ H ρ' H' → (∀ a ∈ ρ'.b, ∃ o, H' a = some o) → (∀ (i : Nat) (d : V3), vs[i]? = some d → J.go i H' ∧ ∀ x H'', J.yld i H' x H'' → Same H' H'' ∧ Rep3 K ρ' H'' d x) ∧ J.stop vs.length H'
theorem ItX.of {K : PySem.W.Frag} {ρ : P3} {H : Hp} {J : It} {ds : List D} (h : ItRep K ρ.b H J ds) : ItX K ρ H J (ds.map .d) := fun ρ' H' p bs => by
  obtain ⟨h1, h2⟩ := h ρ'.b H' p.pres
  refine ⟨fun i v hv => ?_, by rw [List.length_map]; exact h2⟩
  rw [List.getElem?_map] at hv
  cases e : ds[i]? with
  | none => rw [e] at hv; cases hv
  | some d =>
    rw [e] at hv
    cases hv
    obtain ⟨g1, g2⟩ := h1 i d e
    exact ⟨g1, fun x H'' y => let ⟨s, r⟩ := g2 x H'' y bs; ⟨s, by unfold Rep3; exact r⟩⟩
def tIX (K : PySem.W.Frag) (cl : Nat → Addr) (f : FA) : TI := fun σ H R => ∃ ρ S δ vs S', EnvX K cl ρ H S σ δ ∧ f δ S = .ok vs S' ∧ ∀ J ρ1 H1, Pre ρ H ρ1 H1 → SW K cl ρ1 H1 S' → ItX K ρ1 H1 J vs → R J H1
structure PXI (X : Cx) (cl : Nat → Addr) (tg e : Expr) (f : FA) : Prop where
  go : PI X tg e (tIX X.K cl f)
section
variable {X : Cx} {cl : Nat → Addr}
def iP (f : DEnv → R (List D)) : FA := fun δ S => (R3.of (f (down δ)) S).bind fun ds S => .ok (ds.map .d) S
theorem pxi_pure {tg e : Expr} {f : DEnv → R (List D)} (h : QIt X tg e f) : PXI X cl tg e (iP f) := ⟨h.1.imp fun σ H Q ⟨ρ, S, δ, vs, S', E, hf, q⟩ => by
  obtain ⟨ds, S1, h1, h2⟩ := R3.bind_ok hf
  obtain ⟨h3, e3⟩ := R3.of_ok h1
  cases h2
  subst e3
  exact ⟨[], ρ.b, down δ, ds, E.down, h3, fun J H1 s r => q J ρ H1 (Pre.same s) (E.sw.same s) (ItX.of r)⟩⟩
def iRng1 (f : FX) : FA := fun δ S => (f δ S).bind fun v S => match v with | .d (.int j) => R3.when (decide (-(2 ^ 62) ≤ j ∧ j < 2 ^ 62)) (.ok ((rngD 0 j.toNat).map .d) S) | _ => .no
theorem pxi_range1 {tg a : Expr} {f : FX} {p pos : Pos} (h : PX X cl a f) (hg : Gl X "range") (hm : X.mg "range" = none) (hs : starEach [a] X.env = [(false, eval a X.env)] := by rfl) : PXI X cl tg (.Call (.Name "range" p) [a] [] pos) (iRng1 f) :=
  ⟨(pi_range1 hg hm (pa_cons h.1 pa_nil hs) hs).imp fun σ H RR ⟨ρ, S, δ, vs, S', E, hf, q⟩ => by
    obtain ⟨v, S1, h1, h2⟩ := R3.bind_ok hf
    match v, h1, h2 with
    | .d (.int j), h1, h2 =>
      obtain ⟨hb, h3⟩ := R3.when_ok h2
      cases h3
      have hb := of_decide_eq_true hb
      refine ⟨ρ, S, δ, .d (.int j), _, E, h1, fun u ρ1 H1 p1 w1 r1 => ⟨j, ?_, hb.1, hb.2, q _ ρ1 H1 p1 w1 (ItX.of (rng_it 0 _))⟩⟩
      unfold Rep3 Rep at r1
      rw [r1]
    | .d .non, _, h2 => cases h2
    | .d (.bl _), _, h2 => cases h2
    | .d (.str _), _, h2 => cases h2
    | .d (.lst _), _, h2 => cases h2
    | .d (.tup _), _, h2 => cases h2
    | .d (.dct _ _), _, h2 => cases h2
    | .loc _, _, h2 => cases h2
    | .lst _, _, h2 => cases h2
    | .tup _, _, h2 => cases h2⟩
/-- a list that doesn't change, of any values -/
def iSeq (f : FX) : FA := fun δ S => (f δ S).bind fun v S => match v with | .d (.lst ds) => .ok (ds.map .d) S | .lst vs => .ok vs S | _ => .no
theorem pxi_seq {tg e : Expr} {f : FX} (h : PX X cl e f) : PXI X cl tg e (iSeq f) := ⟨by
  intro pins s σ H RR I ⟨ρ, S, δ, vs, S', E, hf, q⟩
  obtain ⟨v, S1, h1, h2⟩ := R3.bind_ok hf
  refine thn (h.1 pins s σ H (fun u H1 => ∃ ρ1, Pre ρ H ρ1 H1 ∧ SW X.K cl ρ1 H1 S1 ∧ Rep3 X.K ρ1 H1 v u) I ⟨ρ, S, δ, v, S1, E, h1, fun u ρ1 H1 p1 w1 r1 => ⟨ρ1, p1, w1, r1⟩⟩) fun u s1 ⟨x, H1, I1, r1, ρ1, p1, w1, rr⟩ => ?_
  have key : S1 = S' ∧ ∃ a xs, x = .ref a ∧ LsF X.K ρ1.b H1 a xs ∧ Reps3 X.K ρ1 H1 vs xs := by
    match v, h2, rr with
    | .d (.lst ds), h2, rr =>
      cases h2
      unfold Rep3 Rep at rr
      obtain ⟨a, xs, e, l, r⟩ := rr
      exact ⟨rfl, a, xs, e, l, Reps3.of r⟩
    | .lst ws, h2, rr =>
      cases h2
      unfold Rep3 at rr
      exact ⟨rfl, rr⟩
    | .d .non, h2, _ => cases h2
    | .d (.bl _), h2, _ => cases h2
    | .d (.int _), h2, _ => cases h2
    | .d (.str _), h2, _ => cases h2
    | .d (.tup _), h2, _ => cases h2
    | .d (.dct _ _), h2, _ => cases h2
    | .loc _, h2, _ => cases h2
    | .tup _, h2, _ => cases h2
  obtain ⟨rfl, a, xs, rfl, l, rr⟩ := key
  cases r1
  obtain ⟨its, rv, p, hz⟩ := I1.list l.sq
  refine wpAny_pyIter_list p.isList ?_
  refine ⟨s1.heap.objs.size, [s1.heap.objs.size], _, _, H1, rfl, I1.kept (t' := s1.toks) fun b o e => Heap.get?_push_of_some _ e, turn_list a _, ⟨_, Heap.get?_push_size _ rfl, rfl, rfl⟩, fun b hb => ?_, q _ ρ1 H1 p1 w1 fun ρ' H' pr bs => ?_⟩
  · have e : b = s1.heap.objs.size := by simpa using hb
    subst e
    exact I1.fpOk (Nat.le_refl _) (I1.hok.fresh (Nat.le_refl _))
  · have l' : LsF X.K ρ'.b H' a xs := l.pres pr.pres
    have rr' := rr.pw pr
    refine ⟨fun i d hd => ?_, ⟨xs, l'.sq, by rw [rr.length]; exact Nat.le_refl _⟩⟩
    obtain ⟨x, hx, rx⟩ := rr'.get hd
    exact ⟨⟨xs, x, l'.sq, hx⟩, fun y H'' ⟨e1, e2⟩ => by
      subst e1
      have := e2 xs l'.sq
      rw [hx] at this
      cases this
      exact ⟨Same.refl _, rx⟩⟩⟩
/-! targets -/
abbrev FG := V3 → DE → Option DE
abbrev FGs := List V3 → DE → Option DE
def gX (K : PySem.W.Frag) (cl : Nat → Addr) (t : FG) : TG := fun v σ H Q => ∃ ρ S δ x δ', EnvX K cl ρ H S σ δ ∧ Rep3 K ρ H x v ∧ t x δ = some δ' ∧ ∀ σ' H', Same H H' → EnvX K cl ρ H' S σ' δ' → Q σ' H'
def gXs (K : PySem.W.Frag) (cl : Nat → Addr) (t : FGs) : TGs := fun v σ H Q => ∃ ρ S δ x δ', EnvX K cl ρ H S σ δ ∧ Reps3 K ρ H x v ∧ t x δ = some δ' ∧ ∀ σ' H', Same H H' → EnvX K cl ρ H' S σ' δ' → Q σ' H'
structure PXG (X : Cx) (cl : Nat → Addr) (tg : Expr) (t : FG) : Prop where
  go : PG X tg (gX X.K cl t)
structure PXGs (X : Cx) (cl : Nat → Addr) (tg : List Expr) (t : FGs) : Prop where
  go : PGs X tg (gXs X.K cl t)
theorem EnvX.same {K : PySem.W.Frag} {ρ : P3} {H H' : Hp} {S : Sto} {σ : L2.St} {δ : DE} (E : EnvX K cl ρ H S σ δ) (s : Same H H') : EnvX K cl ρ H' S σ δ := E.to (Pre.same s) (E.sw.same s)
def gNm (i : Nat) : FG := fun d δ => if i < δ.length then some (δ.set i (some d)) else none
theorem pxg_name {i : Nat} {x : Str} {pos : Pos} (hN : X.N.Nodup) (hi : X.N[i]? = some x) (hx : Loc X.env.scope x) (hf : X.fn x = true ∨ X.env.scope.names.lookup x = some .local := by first | exact .inl rfl | exact .inr rfl | assumption) : PXG X cl (.Name x pos) (gNm i) :=
  ⟨(pg_name hN hi hx hf).imp fun v σ H Q ⟨ρ, S, δ, d, δ', E, r, ht, q⟩ => by
    unfold gNm at ht
    split at ht
    · rename_i hi
      cases ht
      exact q _ H (Same.refl H) (E.set (by rw [← E.len]; exact hi) r)
    · cases ht⟩
def gNl : FGs := fun ds δ => match ds with | [] => some δ | _ => none
def gCn (t : FG) (u : FGs) : FGs := fun ds δ => match ds with | d :: r => (t d δ).bind fun δ' => u r δ' | [] => none
theorem pxgs_nil : PXGs X cl [] gNl := ⟨pgs_nil.imp fun vs σ H Q ⟨ρ, S, δ, ds, δ', E, r, ht, q⟩ => by
  cases ds with
  | nil => unfold Reps3 at r; cases ht; exact ⟨r, q σ H (Same.refl H) E⟩
  | cons => cases ht⟩
theorem pxgs_cons {e : Expr} {es : List Expr} {t : FG} {u : FGs} (h1 : PXG X cl e t) (h2 : PXGs X cl es u) (hs : (assignEach (e :: es) X.env).map (·.2) = assign e X.env :: (assignEach es X.env).map (·.2) := by rfl) : PXGs X cl (e :: es) (gCn t u) :=
  ⟨(pgs_cons h1.1 h2.1 hs).imp fun vs σ H Q ⟨ρ, S, δ, ds, δ', E, r, ht, q⟩ => by
    cases ds with
    | nil => cases ht
    | cons d ds =>
      obtain ⟨x, xs, rfl, r1, r2⟩ := r.uncons
      have ht : (t d δ).bind (fun δ' => u ds δ') = some δ' := ht
      cases e1 : t d δ with
      | none => rw [e1] at ht; cases ht
      | some δ1 =>
        rw [e1] at ht
        exact ⟨x, xs, rfl, ρ, S, δ, d, δ1, E, r1, e1, fun σ1 H1 s1 E1 => ⟨ρ, S, δ1, ds, δ', E1, r2.pre (Pre.same s1), ht, fun σ2 H2 s2 E2 => q σ2 H2 (s1.trans s2) E2⟩⟩⟩
def gTp (n : Nat) (t : FGs) : FG := fun d δ => match d with
  | .d (.tup ds) => if ds.length = n then t (ds.map .d) δ else none
  | .tup vs => if vs.length = n then t vs δ else none
  | _ => none
theorem pxg_tup {es : List Expr} {k : Nat} {t : FGs} {n : Nat} {pos : Pos} (hc : X.calm = true) (h : PXGs X cl es t) (hn : (assignEach es X.env).length = n := by rfl) (hst : (assignEach es X.env).findIdx? (·.1) = none := by rfl) : PXG X cl (.Tuple es k pos) (gTp n t) :=
  ⟨(pg_tup hc h.1 hn hst).imp fun v σ H Q ⟨ρ, S, δ, d, δ', E, r, ht, q⟩ => by
    have key : ∃ vs a xs, v = .ref a ∧ TpF X.K ρ.b H a xs ∧ Reps3 X.K ρ H vs xs ∧ vs.length = n ∧ t vs δ = some δ' := by
      unfold gTp at ht
      split at ht
      · rename_i ds
        split at ht
        · rename_i hl
          unfold Rep3 Rep at r
          obtain ⟨a, xs, e, l, r⟩ := r
          exact ⟨ds.map .d, a, xs, e, l, Reps3.of r, by rw [List.length_map]; exact hl, ht⟩
        · cases ht
      · rename_i vs
        split at ht
        · rename_i hl
          unfold Rep3 at r
          obtain ⟨a, xs, e, l, r⟩ := r
          exact ⟨vs, a, xs, e, l, r, hl, ht⟩
        · cases ht
      · cases ht
    obtain ⟨vs, a, xs, rfl, l, r, hl, ht⟩ := key
    exact ⟨a, xs, rfl, l.sq, by rw [← r.length]; exact hl, ρ, S, δ, vs, δ', E, r, ht, q⟩⟩
/-- target = e -/
def zAsg (f : FX) (t : FG) : FZ := fun δ S => (f δ S).bind fun d S => match t d δ with | some δ' => .ok (.nx δ') S | none => .no
theorem pz_asg {tg e : Expr} {f : FX} {t : FG} {pos : Pos} (he : PX X cl e f) (hg : PXG X cl tg t) (hs : swapsWithSole [tg] e pos.line X.env = pure false := by rfl) (hw : swappedStores [tg] e X.env = pure none := by rfl)
    (h1 : (assignEach [tg] X.env).map (·.2) = [assign tg X.env] := by rfl) : PZ X cl (.Assign [tg] e pos) (zAsg f t) := ⟨(ps_asg he.1 hg.1 hs hw h1).imp fun D σ H ⟨ρ, S, δ, o, S', E, hf, q⟩ => by
  obtain ⟨d, S1, h1, h2⟩ := R3.bind_ok hf
  split at h2
  · rename_i δ1 e1
    cases h2
    exact ⟨ρ, S, δ, d, _, E, h1, fun v ρ1 H1 p1 w1 r1 => ⟨ρ1, _, δ, d, δ1, E.to p1 w1, r1, e1, fun σ' H2 s2 E2 => q σ' ρ1 H2 (p1.trans (Pre.same s2)) E2⟩⟩
  · cases h2⟩
/-! for -/
def loopX (t : FG) (body : FZ) : List V3 → FZ
  | [], δ, S => .ok (.nx δ) S
  | d :: ds, δ, S => match t d δ with
    | none => .no
    | some δ1 => (body δ1 S).bind fun o S => match o with | .nx δ2 => loopX t body ds δ2 S | .rt r => .ok (.rt r) S
def zFor (it : FA) (t : FG) (body : FZ) : FZ := fun δ S => (it δ S).bind fun vs S => loopX t body vs δ S
theorem pz_for {tg iter : Expr} {body : List Stmt} {it : FA} {t : FG} {F : FZ} {pos : Pos} (hp : PassesOwn (model X.prog X.w) X.A X.env X.xe) (hc : X.calm = true) (hi : PXI X cl tg iter it) (hg : PXG X cl tg t) (hb : PZs X cl body F)
    (hs : ∀ x, foldedSetIterable iter X.env x = pure x := by intro _; rfl) : PZ X cl (.For tg iter body [] pos) (zFor it t F) := ⟨(ps_for hp hc hi.1 hg.1 hb.1 hs).imp fun D σ H ⟨ρ, S, δ, o, S', E, hf, q⟩ => by
  obtain ⟨ds, S0, h1, h2⟩ := R3.bind_ok hf
  refine ⟨ρ, S, δ, ds, S0, E, h1, fun J ρ1 H1 p1 w1 ir => ?_⟩
  refine ⟨fun i m σ' H' => m = ds.length - i ∧ i ≤ ds.length ∧ ∃ ρ' S1 δ', Pre ρ1 H1 ρ' H' ∧ EnvX X.K cl ρ' H' S1 σ' δ' ∧ loopX t F (ds.drop i) δ' S1 = .ok o S', ⟨ds.length, rfl, Nat.zero_le _, ρ1, S0, δ, Pre.refl ρ1 H1, E.to p1 w1, by simpa using h2⟩, ?_⟩
  rintro i m σ' H' ⟨rfl, hi, ρ', S1, δ', pv, E', hl⟩
  obtain ⟨go, stop⟩ := ir ρ' H' pv.pw E'.sw.bs
  by_cases hlt : i < ds.length
  · have hd : ds[i]? = some ds[i] := List.getElem?_eq_getElem hlt
    have hdrop : ds.drop i = ds[i] :: ds.drop (i + 1) := List.drop_eq_getElem_cons hlt
    rw [hdrop] at hl
    unfold loopX at hl
    split at hl
    · cases hl
    · rename_i δ1 h3
      obtain ⟨o1, S2, h5, h6⟩ := R3.bind_ok hl
      obtain ⟨g1, g2⟩ := go i _ hd
      refine .inr ⟨g1, fun σ2 H2 => ∃ ρ2 S2 δ2, Pre ρ1 H1 ρ2 H2 ∧ EnvX X.K cl ρ2 H2 S2 σ2 δ2 ∧ loopX t F (ds.drop (i + 1)) δ2 S2 = .ok o S', fun σ2 H2 n => ⟨ds.length - (i + 1), by omega, rfl, hlt, n⟩, fun x H'' y => ?_⟩
      obtain ⟨ss, rr⟩ := g2 x H'' y
      refine ⟨ρ', S1, δ', ds[i], δ1, E'.same ss, rr, h3, fun σ2 H2 s2 E2 => ⟨ρ', S1, δ1, o1, S2, E2, h5, ?_⟩⟩
      have pv2 : Pre ρ1 H1 ρ' H2 := pv.trans (Pre.same (ss.trans s2))
      cases o1 with
      | nx δ2 => exact fun σ3 ρ3 H3 p3 E3 => ⟨ρ3, S2, δ2, pv2.trans p3, E3, h6⟩
      | rt d =>
        cases h6
        exact fun v ρ3 H3 p3 w r => q v ρ3 H3 (p1.trans (pv2.trans p3)) w r
  · have e : i = ds.length := by omega
    subst e
    rw [List.drop_length] at hl
    cases hl
    exact .inl ⟨stop, q σ' ρ' H' (p1.trans pv) E'⟩⟩
end
end L3

end
section
set_option maxRecDepth 100000
set_option maxHeartbeats 4000000
/-! ## THE STORE LAYER: deeds on the store, defs, calls (own) -/
namespace L3
open PySem PySem.Spec PyProof.Rows L2
/-! the store cut short -/
mutual
def locOk (n : Nat) : V3 → Bool
  | .d _ => true
  | .loc k => decide (k < n)
  | .lst vs => locsOk n vs
  | .tup vs => locsOk n vs
def locsOk (n : Nat) : List V3 → Bool
  | [] => true
  | v :: vs => locOk n v && locsOk n vs
end
def soOk (n : Nat) : SO → Bool
  | .ins _ fs => locsOk n (fs.map (·.2))
  | _ => true
theorem cut_sub {ρ : P3} {n : Nat} {b : Addr} (h : b ∈ (ρ.cut n).b) : b ∈ ρ.b := by
  rcases P3.mem_b.mp h with z | z
  · exact P3.mem_b.mpr (.inl ⟨List.mem_of_mem_take z.1, z.2⟩)
  · exact P3.mem_b.mpr (.inr z)
theorem cut_pres {ρ : P3} {H : Hp} (n : Nat) : Pres ρ.b H (ρ.cut n).b H := fun b o e nb => ⟨e, fun hb => nb (cut_sub hb)⟩
mutual
theorem Rep3.cut {K : PySem.W.Frag} {ρ : P3} {H : Hp} {n : Nat} : ∀ {v : V3} {x : V}, locOk n v = true → Rep3 K ρ H v x → Rep3 K (ρ.cut n) H v x
  | .d y, x, _, h => by unfold Rep3 at h ⊢; exact h.pres (cut_pres n)
  | .loc k, x, o, h => by
    unfold Rep3 at h ⊢
    unfold locOk at o
    obtain ⟨a, h1, h2⟩ := h
    exact ⟨a, by show (ρ.r.take n)[k]? = _; rw [List.getElem?_take_of_lt (of_decide_eq_true o)]; exact h1, h2⟩
  | .lst vs, x, o, h => by
    unfold Rep3 at h ⊢
    unfold locOk at o
    obtain ⟨a, xs, e, l, r⟩ := h
    exact ⟨a, xs, e, l.pres (cut_pres n), Reps3.cut o r⟩
  | .tup vs, x, o, h => by
    unfold Rep3 at h ⊢
    unfold locOk at o
    obtain ⟨a, xs, e, l, r⟩ := h
    exact ⟨a, xs, e, TpF.pres (cut_pres n) l, Reps3.cut o r⟩
theorem Reps3.cut {K : PySem.W.Frag} {ρ : P3} {H : Hp} {n : Nat} : ∀ {vs : List V3} {xs : List V}, locsOk n vs = true → Reps3 K ρ H vs xs → Reps3 K (ρ.cut n) H vs xs
  | [], _, _, h => by unfold Reps3 at h ⊢; exact h
  | v :: vs, xs, o, h => by
    unfold locsOk at o
    obtain ⟨o1, o2⟩ := Bool.and_eq_true_iff.mp o
    obtain ⟨x, r, rfl, h1, h2⟩ := h.uncons
    exact Reps3.cons (Rep3.cut o1 h1) (Reps3.cut o2 h2)
end
theorem SW.cut {K : PySem.W.Frag} {cl : Nat → Addr} {ρ : P3} {H : Hp} {S : Sto} (w : SW K cl ρ H S) {n : Nat} (ok : (S.take n).all (soOk n) = true) : SW K cl (ρ.cut n) H (S.take n) :=
  ⟨by show (ρ.r.take n).length = _; rw [List.length_take, List.length_take, w.len], fun i j a hi hj => by
    have hi : (ρ.r.take n)[i]? = some a := hi
    have hj : (ρ.r.take n)[j]? = some a := hj
    have gi : ρ.r[i]? = some a := by
      rw [List.getElem?_take] at hi; split at hi
      · exact hi
      · cases hi
    have gj : ρ.r[j]? = some a := by
      rw [List.getElem?_take] at hj; split at hj
      · exact hj
      · cases hj
    exact w.nd i j a gi gj, fun k a o hk ho => by
    have hk : (ρ.r.take n)[k]? = some a := hk
    have gk : ρ.r[k]? = some a := by
      rw [List.getElem?_take] at hk; split at hk
      · exact hk
      · cases hk
    have go : S[k]? = some o := by
      rw [List.getElem?_take] at ho; split at ho
      · exact ho
      · cases ho
    have r := w.ob k a o gk go
    have oo : soOk n o = true := List.all_eq_true.mp ok o (List.mem_of_getElem? ho)
    cases o with
    | lst ds => obtain ⟨xs, e, q⟩ := r; exact ⟨xs, e, q.pres (cut_pres n)⟩
    | dct kvs => obtain ⟨ys, e, e2, q⟩ := r; exact ⟨ys, e, e2, q.pres (cut_pres n)⟩
    | ins c fs => obtain ⟨dx, ys, e, e2, q⟩ := r; exact ⟨dx, ys, e, e2, q.cut oo⟩
    | frz => exact r, fun b hb => let ⟨h1, h2⟩ := w.zb b hb; ⟨h1, fun h => h2 (List.mem_of_mem_take h)⟩, (fun k a hk ho => by
    have hk : (ρ.r.take n)[k]? = some a := hk
    rw [List.getElem?_take] at hk
    split at hk
    · rename_i hlt
      rw [List.getElem?_take_of_lt hlt] at ho
      exact w.fz k a hk ho
    · cases hk), w.ff, (fun k a hk ho => by
    have hk : (ρ.r.take n)[k]? = some a := hk
    rw [List.getElem?_take] at hk
    split at hk
    · rename_i hlt
      rw [List.getElem?_take_of_lt hlt] at ho
      exact w.fi k a hk ho
    · cases hk)⟩
theorem SW.cutPre {K : PySem.W.Frag} {cl : Nat → Addr} {ρ ρ' : P3} {H H' : Hp} {n : Nat} (hn : ρ.r.length ≤ n) (p : Pre ρ H ρ' H') : Pre ρ H (ρ'.cut n) H' :=
  ⟨p.pres.trans (cut_pres n), p.zz, p.zs, fun k a h => by show (ρ'.r.take n)[k]? = _; rw [List.getElem?_take_of_lt (Nat.lt_of_lt_of_le (List.getElem?_eq_some_iff.mp h).1 hn)]; exact p.ext k a h⟩
section
variable {X : Cx} {cl : Nat → Addr}
/-! x.append(e) -/
def lstAt (S : Sto) (k : Nat) : Option (List D) := match S[k]? with | some (.lst ds) => some ds | _ => none
theorem lstAt_some {S : Sto} {k : Nat} {ds : List D} (h : lstAt S k = some ds) : S[k]? = some (.lst ds) := by
  unfold lstAt at h
  split at h
  · rename_i e; cases h; exact e
  · cases h
def locAt (δ : DE) (i : Nat) : Option Nat := match δ[i]? with | some (some (.loc k)) => some k | _ => none
theorem locAt_some {δ : DE} {i k : Nat} (h : locAt δ i = some k) : δ[i]? = some (some (.loc k)) := by
  unfold locAt at h
  split at h
  · rename_i e; cases h; exact e
  · cases h
def zApp (i : Nat) (f : FX) : FZ := fun δ S => match locAt δ i with
  | none => .no
  | some k => match lstAt S k with
    | none => .no
    | some _ => (f δ S).bind fun v S1 => match v with
      | .d d => (match lstAt S1 k with | some ds => R3.when (decide (ds.length < sizeLine)) (.ok (.nx δ) (S1.set k (.lst (ds ++ [d])))) | none => .no)
      | _ => .no
theorem pz_app {i : Nat} {x : Str} {e : Expr} {f : FX} {npos apos cpos pos : Pos} (hN : X.N[i]? = some x) (hv : Vis X.env.scope x) (he : PX X cl e f)
    (hd : (x == ("__debug__" : Str)) = false := by decide) (hcd : (x == ("__classdict__" : Str)) = false := by decide)
    (hs : starEach [e] X.env = (false, eval e X.env) :: starEach [] X.env := by rfl) (hline : (apos.endLine == cpos.line) = true := by rfl)
    (hfew : ((backTo cpos (starEach [e] X.env)).all (fun x => !x.1) && (backToKw cpos (keywordEach [] X.env)).all (fun x => x.1.isSome)
      && decide (([e] : List Expr).length + ([] : List Keyword).length + (if ([] : List Keyword).isEmpty then 0 else 1) < 30)) = true := by rfl)
    (hsw : swapsWith (.Call (.Attribute (.Name x npos) "append" apos) [e] [] cpos) none pos.line X.env = pure false := by rfl)
    (hbase : attributeBase (.Name x npos) "append" X.env (eval (.Name x npos) X.env) = eval (.Name x npos) X.env := by rfl) :
    PZ X cl (.Expr (.Call (.Attribute (.Name x npos) "append" apos) [e] [] cpos) pos) (zApp i f) := by
  refine ⟨(ps_expr (pe_bm (X := X) PySem.F.plainAttrs_list PySem.F.slot_list_append PySem.F.type_list_append mt_append (pe_var hN hv hd hcd) (pa_cons he.1 pa_nil hs) hbase hfew hline hs) hsw).imp fun D σ H ⟨ρ, S, δ, o, S', E, hf, q⟩ => ?_⟩
  unfold zApp at hf
  split at hf
  · cases hf
  · rename_i k hk
    split at hf
    · cases hf
    · rename_i ds0 h0
      obtain ⟨v, S1, h1, h2⟩ := R3.bind_ok hf
      split at h2
      · rename_i d
        split at h2
        · rename_i ds h3
          obtain ⟨hl, h4⟩ := R3.when_ok h2
          cases h4
          obtain ⟨u, u1, u2⟩ := E.val i _ (locAt_some hk)
          unfold Rep3 at u2
          obtain ⟨a, a1, rfl⟩ := u2
          obtain ⟨xs0, x0, _⟩ := E.sw.ob k a _ a1 (lstAt_some h0)
          refine ⟨.ref a, u1, .inl ⟨rfl, xs0, SqL.of x0⟩, ⟨ρ, S, δ, .d d, S1, E, h1, fun y ρ1 H1 p1 w1 r1 => ?_⟩⟩
          have b1 := p1.ext k a a1
          obtain ⟨xs, x1, x2⟩ := w1.ob k a _ b1 (lstAt_some h3)
          refine ⟨a, xs, y, rfl, rfl, x1, by rw [← x2.length]; exact of_decide_eq_true hl, ?_⟩
          unfold Rep3 at r1
          obtain ⟨w2, p2⟩ := w1.put (o := .lst (ds ++ [d])) (u := .lst (xs ++ [y])) b1 (w1.fz k a b1 (by rw [lstAt_some h3]; intro h; cases h)) ⟨xs ++ [y], rfl, x2.append (Reps.cons r1 Reps.nil)⟩
          exact q σ ρ1 _ (p1.trans p2) (E.to (p1.trans p2) w2)
        · cases h2
      · cases h2
/-! x[i] = e -/
def zPut (fo fi fe : FX) : FZ := fun δ S => (fe δ S).bind fun v S1 => (fo δ S1).bind fun o S2 => (fi δ S2).bind fun j S3 => match v, o, j with
  | .d d, .loc k, .d (.int n) => (match lstAt S3 k with
    | some ds => (match ixN ds.length n with | some m => .ok (.nx δ) (S3.set k (.lst (ds.set m d))) | none => .no)
    | none => .no)
  | _, _, _ => .no
/-! calls of defs that change the store -/
def spX (K : PySem.W.Frag) (cl : Nat → Addr) (n : Nat) (g : List V3 → Sto → R3 V3) : Sp := fun vs H Q _ => vs.length = n ∧ ∃ ρ S xs v S', SW K cl ρ H S ∧ Reps3 K ρ H xs vs ∧ g xs S = .ok v S' ∧ ∀ u ρ' H', Pre ρ H ρ' H' → SW K cl ρ' H' S' → Rep3 K ρ' H' v u → Q u H'
def xCall (g : List V3 → Sto → R3 V3) (fs : FA) : FX := fun δ S => (fs δ S).bind g
def CalleeX (P : Program) (w : World) (K : PySem.W.Frag) (mg : Str → Option Value) (base : Heap) (cl : Nat → Addr) (k : Nat) (x : Str) (n : Nat) (g : List V3 → Sto → R3 V3) : Prop :=
  ∃ (f : Addr) (fd : FuncData) (ps : List Str), FnOk P w K mg base CX0 k f fd ps (spX K cl n g) ∧ mg x = some (.ref f) ∧ PySem.W.keepIn K (.ref f) = true ∧ Binds K fd ps []
theorem px_call {g : List V3 → Sto → R3 V3} {k j n : Nat} {x : Str} {p pos : Pos} {e : Expr} {es : List Expr} {fs : FA} (C : CalleeX X.prog X.w X.K X.mg X.base cl k x n g) (hr : Room j X.A) (hkj : k ≤ j) (hg : Gl X x) (ha : PXA X cl (e :: es) fs)
    (hn : ∀ δ S ds S', fs δ S = .ok ds S' → ds.length = n) (hdb : (x == ("__debug__" : Str)) = false := by decide) (he : starEach (e :: es) X.env = (false, eval e X.env) :: starEach es X.env := by rfl) (hpl : (backTo pos (starEach es X.env)).any (·.1) = false := by rfl) :
    PX X cl (.Call (.Name x p) (e :: es) [] pos) (xCall g fs) := by
  obtain ⟨f, fd, ps, F, hm, hk, hb⟩ := C
  refine ⟨(pe_call F (hr.mono hkj) hg hm hk hb .nil pass0 ha.1 hdb he hpl).imp fun σ H Q ⟨ρ, S, δ, v, S', E, hf, q⟩ => ?_⟩
  obtain ⟨vs, S1, h1, h2⟩ := R3.bind_ok hf
  refine ⟨ρ, S, δ, vs, S1, E, h1, fun us ρ1 H1 p1 w1 r1 => ?_⟩
  show spX X.K cl n g (us ++ []) H1 Q E0
  rw [List.append_nil]
  exact ⟨by rw [← r1.length]; exact hn δ S vs S1 h1, ρ1, S1, vs, v, S', w1, r1, h2, fun z ρ2 H2 p2 w2 r2 => q z ρ2 H2 (p1.trans p2) w2 r2⟩
end
/-! defs -/
def xStart (N : List Str) (vs : List V3) : DE := vs.map some ++ List.replicate (N.length - vs.length) none
theorem xstart_r {K : PySem.W.Frag} {cl : Nat → Addr} {ρ : P3} {H : Hp} {S : Sto} {N : List Str} {ds : List V3} {vs : List V} (w : SW K cl ρ H S) (r : Reps3 K ρ H ds vs) : EnvX K cl ρ H S (L2.start N vs) (xStart N ds) where
  len := by unfold L2.start xStart; simp [r.length]
  sw := w
  val := fun i d e => by
    unfold xStart at e
    unfold L2.start
    by_cases hi : i < ds.length
    · rw [List.getElem?_append_left (by simpa using hi), List.getElem?_map] at e
      cases q : ds[i]? with
      | none => rw [q] at e; cases e
      | some d' =>
        rw [q] at e
        cases e
        obtain ⟨x, h1, h2⟩ := r.get q
        exact ⟨x, by rw [List.getElem?_append_left (by rw [List.length_map, ← r.length]; exact hi), List.getElem?_map, h1]; rfl, h2⟩
    · rw [List.getElem?_append_right (by simpa using hi), List.getElem?_replicate] at e
      split at e <;> cases e
/-- the def keeps the whole store -/
def fnK (N : List Str) (F : FZ) : List V3 → Sto → R3 V3 := fun vs S => (F (xStart N vs) S).bind fun o S' => match o with | .rt v => .ok v S' | .nx _ => .ok (.d .non) S'
/-- the def tells a datum, and leaves no new things behind -/
def fnP (N : List Str) (F : FZ) : List V3 → Sto → R3 V3 := fun vs S => (fnK N F vs S).bind fun v S' => match res S' v with
  | some d => R3.when ((S'.take S.length).all (soOk S.length) && geOk S.length v) (.ok (.d d) (S'.take S.length))
  | none => .no
theorem fn_keep {P : Program} {w : World} {K : PySem.W.Frag} {mg : Str → Option Value} {base : Heap} {cl : Nat → Addr} {x qual : Str} {st : Stmt} {f : Addr} {fd : FuncData} {N ps : List Str} {k : Nat} {F : FZ} (Fn : Fun K x qual st f fd) (S : FnScope N ps (defScope st))
    (hbody : ∀ (cdv : Value) (A : Around) (outer : List Env) (s : Shared) (H : Hp) (E : XK), Room k (A.deeper (envOfC qual (defScope st) s.heap.objs.size f cdv)) →
      PZs (cxOf CX0 P w K mg base N qual (defScope st) f cdv A outer s H E).nox cl (defBody st) F) : FnOk P w K mg base CX0 (k + 1) f fd ps (spX K cl ps.length (fnK N F)) := by
  refine Fn.ok S (fun vs H Q E h => h.1) (fun cdv A outer s H vs Q E hr h => ⟨_, (hbody cdv A outer s H E hr).1, ?_⟩)
  obtain ⟨_, ρ, S, ds, v, S', w, r, hg, q⟩ := h
  obtain ⟨o, S1, h1, h2⟩ := R3.bind_ok hg
  refine ⟨ρ, S, xStart N ds, o, S1, xstart_r w r, h1, ?_⟩
  cases o with
  | nx δ' =>
    cases h2
    exact fun σ' ρ' H' p' E' => q _ ρ' H' p' E'.sw (by unfold Rep3 Rep; rfl)
  | rt d' =>
    cases h2
    exact fun u ρ' H' p' w' r' => q u ρ' H' p' w' r'
theorem fnP_of {K : PySem.W.Frag} {cl : Nat → Addr} {N : List Str} {F : FZ} {n : Nat} {vs : List V} {H : Hp} {Q : VK} {E : XK} (h : spX K cl n (fnP N F) vs H Q E) : spX K cl n (fnK N F) vs H Q E := by
  obtain ⟨hl, ρ, S, xs, v, S', w, r, hg, q⟩ := h
  obtain ⟨v1, S1, h1, h2⟩ := R3.bind_ok hg
  refine ⟨hl, ρ, S, xs, v1, S1, w, r, h1, fun u ρ1 H1 p1 w1 r1 => ?_⟩
  have pc : Pre ρ H (ρ1.cut S.length) H1 := SW.cutPre (K := K) (cl := cl) (by rw [w.len]; exact Nat.le_refl _) p1
  split at h2
  · rename_i d e
    obtain ⟨ok, h3⟩ := R3.when_ok h2
    obtain ⟨ok, hk⟩ := Bool.and_eq_true_iff.mp ok
    cases h3
    refine q u _ H1 pc (w1.cut ok) ?_
    unfold Rep3
    refine r1.resB w1 (cut_pres _) (fun k a hk a1 ha => ?_) hk e
    rcases P3.mem_b.mp ha with ⟨z, _⟩ | z
    · obtain ⟨j, hj⟩ := List.getElem?_of_mem z
      have hj : (ρ1.r.take S.length)[j]? = some a := hj
      rw [List.getElem?_take] at hj
      split at hj
      · rename_i hjl
        have := w1.nd j k a hj a1
        omega
      · cases hj
    · exact (w1.zb a z).2 (List.mem_of_getElem? a1)
  · cases h2
end L3

end
section
set_option maxRecDepth 100000
set_option maxHeartbeats 4000000
/-! ## THE STORE LAYER: an item set, comprehensions with deeds (own) -/
namespace L3
open PySem PySem.Spec PyProof.Rows L2
theorem Reps.setAt {K : PySem.W.Frag} {ρ : P3} {H : Hp} : ∀ {ds : List D} {xs : List V} {m : Nat} {d : D} {v : V}, Reps K ρ.b H ds xs → Rep K ρ.b H d v → Reps K ρ.b H (ds.set m d) (xs.set m v)
  | [], _, _, _, _, h, _ => by unfold Reps at h; subst h; exact Reps.nil
  | e :: ds, xs, 0, d, v, h, r => by
    obtain ⟨x, r', rfl, h1, h2⟩ := h.uncons
    exact Reps.cons r h2
  | e :: ds, xs, m + 1, d, v, h, r => by
    obtain ⟨x, r', rfl, h1, h2⟩ := h.uncons
    exact Reps.cons h1 (Reps.setAt h2 r)
section
variable {X : Cx} {cl : Nat → Addr}
/-- hg: pg_sub ho.1 hi.1 set_list -/
theorem pz_put {o i e : Expr} {fo fi fe : FX} {spos pos : Pos} (he : PX X cl e fe)
    (hg : PG X (.Subscript o i spos) (gSub (tX X.K cl fo) (tX X.K cl fi) rSetL))
    (hs : swapsWithSole [.Subscript o i spos] e pos.line X.env = pure false := by rfl) (hw : swappedStores [.Subscript o i spos] e X.env = pure none := by rfl)
    (h1 : (assignEach [.Subscript o i spos] X.env).map (·.2) = [assign (.Subscript o i spos) X.env] := by rfl) : PZ X cl (.Assign [.Subscript o i spos] e pos) (zPut fo fi fe) := ⟨(ps_asg he.1 hg hs hw h1).imp fun D σ H ⟨ρ, S, δ, ou, S', E, hf, q⟩ => by
  obtain ⟨v, S1, h1, h2⟩ := R3.bind_ok hf
  obtain ⟨vo, S2, h3, h4⟩ := R3.bind_ok h2
  obtain ⟨vi, S3, h5, h6⟩ := R3.bind_ok h4
  split at h6
  · rename_i d k n
    split at h6
    · rename_i ds hds
      split at h6
      · rename_i m hm
        cases h6
        refine ⟨ρ, S, δ, .d d, S1, E, h1, fun u ρ1 H1 p1 w1 r1 => ⟨ρ1, S1, δ, .loc k, S2, E.to p1 w1, h3, fun u2 ρ2 H2 p2 w2 r2 => ⟨ρ2, S2, δ, .d (.int n), S3, (E.to p1 w1).to p2 w2, h5, fun u3 ρ3 H3 p3 w3 r3 => ?_⟩⟩⟩
        unfold Rep3 at r2
        obtain ⟨a, a1, rfl⟩ := r2
        have a3 := p3.ext k a a1
        obtain ⟨xs, x1, x2⟩ := w3.ob k a _ a3 (lstAt_some hds)
        unfold Rep3 Rep at r3
        have r1' := r1.pre (p2.trans p3)
        unfold Rep3 at r1'
        obtain ⟨w4, p4⟩ := w3.put (o := .lst (ds.set m d)) (u := .lst (xs.set m u)) a3 (w3.fz k a a3 (by rw [lstAt_some hds]; intro h; cases h)) ⟨xs.set m u, rfl, Reps.setAt x2 r1'⟩
        exact ⟨a, xs, n, m, rfl, r3, x1, by rw [← x2.length]; exact hm, q σ ρ3 _ (((p1.trans p2).trans p3).trans p4) (E.to (((p1.trans p2).trans p3).trans p4) w4)⟩
      · cases h6
    · cases h6
  · cases h6⟩
/-! comprehensions -/
def kX (δ : DE) (i : Nat) : Option V3 := match δ[i]? with | some (some v) => some v | _ => none
def cEnvX (own : List Str) (kp : List Nat) (δ : DE) : DE := List.replicate own.length none ++ kp.map (kX δ)
theorem cEnvX_r {K : PySem.W.Frag} {ρ ρ' : P3} {H H' : Hp} {S S' : Sto} {σ : L2.St} {δ : DE} {own : List Str} {kp : List Nat} (E : EnvX K cl ρ H S σ δ) (p : PW ρ H ρ' H') (w : SW K cl ρ' H' S') : EnvX K cl ρ' H' S' (cStart own kp σ) (cEnvX own kp δ) where
  len := by unfold cStart cEnvX; simp
  sw := w
  val := fun i d e => by
    unfold cEnvX at e
    unfold cStart
    by_cases hi : i < own.length
    · rw [List.getElem?_append_left (by simpa using hi), List.getElem?_replicate] at e
      split at e <;> cases e
    · rw [List.getElem?_append_right (by simpa using hi), List.length_replicate, List.getElem?_map] at e ⊢
      cases q : kp[i - own.length]? with
      | none => rw [q] at e; cases e
      | some j =>
        rw [q] at e
        have e : kX δ j = some d := Option.some.inj e
        unfold kX at e
        split at e
        · rename_i d' ed
          cases e
          obtain ⟨v, h1, h2⟩ := E.val j d ed
          exact ⟨v, by simp [h1], h2.pw p⟩
        · cases e
/-- the walk -/
def compX (t : FG) (c : FB) (f : FX) (δ : DE) : List V3 → Sto → R3 (List V3)
  | [], S => .ok [] S
  | v :: vs, S => match t v δ with
    | none => .no
    | some δ1 => (c δ1 S).bind fun b S1 => if b then (f δ1 S1).bind fun y S2 => (compX t c f δ vs S2).bind fun ys S3 => .ok (y :: ys) S3 else compX t c f δ vs S1
def xComp (it : FA) (t : FG) (c : FB) (f : FX) (own : List Str) (kp : List Nat) : FX := fun δ S => (it δ S).bind fun vs S1 => R3.when (decide (vs.length ≤ sizeLine)) ((compX t c f (cEnvX own kp δ) vs S1).bind fun ys S2 => .ok (mkLst ys) S2)
theorem Reps3.append {K : PySem.W.Frag} {ρ : P3} {H : Hp} : ∀ {ds es : List V3} {xs ys : List V}, Reps3 K ρ H ds xs → Reps3 K ρ H es ys → Reps3 K ρ H (ds ++ es) (xs ++ ys)
  | [], _, _, _, h, t => by unfold Reps3 at h; subst h; exact t
  | d :: ds, es, xs, ys, h, t => by
    obtain ⟨x, r, rfl, h1, h2⟩ := h.uncons
    exact Reps3.cons h1 (Reps3.append h2 t)
theorem xComp_r {K : PySem.W.Frag} {it : FA} {t : FG} {c : FB} {f : FX} {own : List Str} {kp : List Nat} {σ : L2.St} {H : Hp} {Q : VK} (h : tX K cl (xComp it t c f own kp) σ H Q) :
    tComp (tIX K cl it) (gX K cl t) (tXB K cl c) (tX K cl f) own kp σ H Q := by
  obtain ⟨ρ, S, δ, v, SF, E, hf, q⟩ := h
  obtain ⟨es, S1, h1, h2⟩ := R3.bind_ok hf
  obtain ⟨hl, h3⟩ := R3.when_ok h2
  have hl := of_decide_eq_true hl
  obtain ⟨vs, S2, h4, h5⟩ := R3.bind_ok h3
  cases h5
  refine ⟨ρ, S, δ, es, S1, E, h1, fun J ρ1 H1 p1 w1 ir Dd hD => ?_⟩
  have nDz : Dd ∉ ρ1.b := fun hb => by obtain ⟨o, ho⟩ := w1.bs Dd hb; rw [hD] at ho; cases ho
  have nDr : Dd ∉ ρ1.r := fun hb => by obtain ⟨o, ho⟩ := w1.rs Dd hb; rw [hD] at ho; cases ho
  have toZ : ∀ {r' f' : List Addr} {H' : Hp}, Pre ρ1 H1 ⟨r', ρ1.z, f'⟩ H' → PW ρ1 H1 ⟨r', Dd :: ρ1.z, f'⟩ H' := fun {r' f' H'} p => ⟨fun b o e nb => ⟨(p.pres b o e nb).1, fun hb => by
    rcases P3.mem_b.mp hb with z | z
    · exact (p.pres b o e nb).2 (P3.mem_b.mpr (.inl z))
    · rcases List.mem_cons.mp z with y | y
      · exact ne_of_none e hD y
      · exact (p.pres b o e nb).2 (P3.mem_b.mpr (.inr y))⟩, p.ext⟩
  have w0 : SW K cl ⟨ρ1.r, Dd :: ρ1.z, ρ1.f⟩ (upd H1 Dd (.lst [])) S1 := by
    have s0 : Same H1 (upd H1 Dd (.lst [])) := same_upd hD
    have ws := w1.same s0
    refine ⟨ws.len, ws.nd, fun k a o hk ho => ?_, fun b hb => ?_, ws.fz, ws.ff, ws.fi⟩
    · have r := w1.ob k a o hk ho
      obtain ⟨u, hu⟩ := r.some
      rw [s0 a u hu, ← hu]
      exact r.pw (toZ (Pre.same s0))
    · rcases List.mem_cons.mp hb with y | y
      · subst y; exact ⟨⟨_, upd_same⟩, nDr⟩
      · exact ws.zb b y
  refine ⟨fun i m ys H' => m = es.length - i ∧ i ≤ es.length ∧ ys.length ≤ i ∧ H' Dd = some (.lst ys) ∧ ∃ r' f' S' done rest, Pre ρ1 H1 ⟨r', ρ1.z, f'⟩ H' ∧ SW K cl ⟨r', Dd :: ρ1.z, f'⟩ H' S' ∧ vs = done ++ rest ∧ Reps3 K ⟨r', Dd :: ρ1.z, f'⟩ H' done ys ∧ compX t c f (cEnvX own kp δ) (es.drop i) S' = .ok rest SF,
    ⟨es.length, rfl, Nat.zero_le _, Nat.le_refl _, upd_same, ρ1.r, ρ1.f, S1, [], vs, Pre.same (same_upd hD), w0, rfl, Reps3.nil, by simpa using h4⟩, ?_⟩
  rintro i m ys H' ⟨rfl, hi, hy, hDl, r', f', S', done, rest, pv, w', rfl, rd, hc⟩
  obtain ⟨go, stop⟩ := ir ⟨r', Dd :: ρ1.z, f'⟩ H' (toZ pv) w'.bs
  have unZ : ∀ {ρ4 : P3} {H4 : Hp}, Pre ⟨r', Dd :: ρ1.z, f'⟩ H' ρ4 H4 → Pre ρ1 H1 ⟨ρ4.r, ρ1.z, ρ4.f⟩ H4 := fun {ρ4 H4} p4 => ⟨fun b o e nb => by
      obtain ⟨e1, n1⟩ := (toZ pv).pres b o e nb
      obtain ⟨e2', n2⟩ := p4.pres b o e1 n1
      refine ⟨e2', fun hb => n2 ?_⟩
      rcases P3.mem_b.mp hb with z | z
      · exact P3.mem_b.mpr (.inl z)
      · exact P3.mem_b.mpr (.inr (by rw [p4.zz]; exact List.mem_cons_of_mem _ z)), rfl, fun b o hb h => p4.zs b o (List.mem_cons_of_mem _ hb) (pv.zs b o hb h), fun k a h => p4.ext k a (pv.ext k a h)⟩
  by_cases hlt : i < es.length
  · have hd : es[i]? = some es[i] := List.getElem?_eq_getElem hlt
    have hdrop : es.drop i = es[i] :: es.drop (i + 1) := List.drop_eq_getElem_cons hlt
    rw [hdrop] at hc
    unfold compX at hc
    split at hc
    · cases hc
    · rename_i δ1 h6
      obtain ⟨b, T1, h7, h8⟩ := R3.bind_ok hc
      obtain ⟨g1, g2⟩ := go i _ hd
      refine .inr ⟨g1, fun x H2 y => ?_⟩
      obtain ⟨sy, ry⟩ := g2 x H2 y
      have Ec : EnvX K cl ⟨r', Dd :: ρ1.z, f'⟩ H2 S' (cStart own kp σ) (cEnvX own kp δ) := cEnvX_r E (p1.pw.trans ((toZ pv).trans (Pre.same sy).pw)) (w'.same sy)
      refine ⟨⟨r', Dd :: ρ1.z, f'⟩, S', cEnvX own kp δ, es[i], δ1, Ec, ry, h6, fun σ3 H3 s3 E3 => ⟨⟨r', Dd :: ρ1.z, f'⟩, S', δ1, b, T1, E3, h7, fun ρ4 H4 p4 w4 => ?_⟩⟩
      have pv4 : Pre ⟨r', Dd :: ρ1.z, f'⟩ H' ρ4 H4 := (Pre.same (sy.trans s3)).trans p4
      cases b with
      | true =>
        rw [if_pos rfl] at h8
        refine iteT ?_
        obtain ⟨yv, T2, h9, h10⟩ := R3.bind_ok h8
        obtain ⟨rs, T3, h11, h12⟩ := R3.bind_ok h10
        cases h12
        refine ⟨ρ4, T1, δ1, yv, T2, E3.to p4 w4, h9, fun v5 ρ5 H5 p5 w5 r5 => ?_⟩
        have pv5 : Pre ⟨r', Dd :: ρ1.z, f'⟩ H' ρ5 H5 := pv4.trans p5
        have hD5 : H5 Dd = some (.lst ys) := pv5.zs Dd _ List.mem_cons_self hDl
        have u5 := unZ pv5
        obtain ⟨r5', z5, f5⟩ := ρ5
        have ez : z5 = Dd :: ρ1.z := pv5.zz
        subst ez
        have nr : Dd ∉ r5' := (w5.zb Dd List.mem_cons_self).2
        have pw : PW ⟨r5', Dd :: ρ1.z, f5⟩ H5 ⟨r5', Dd :: ρ1.z, f5⟩ (upd H5 Dd (.lst (ys ++ [v5]))) := ⟨fun b o e nb => ⟨by rw [upd_ne (fun (z : b = Dd) => nb (by rw [z]; exact P3.mem_b.mpr (.inr List.mem_cons_self)))]; exact e, nb⟩, fun _ _ h => h⟩
        refine ⟨hD5, by omega, es.length - (i + 1), by omega, rfl, hlt, by rw [List.length_append, List.length_singleton]; omega, upd_same, r5', f5, T2, done ++ [yv], rs, ?_, ?_, by simp, Reps3.append ((rd.pre pv5).pw pw) (Reps3.cons (r5.pw pw) Reps3.nil), h11⟩
        · refine ⟨fun b o e nb => ⟨by rw [upd_ne (ne_of_none e hD)]; exact (u5.pres b o e nb).1, (u5.pres b o e nb).2⟩, rfl, fun b o hb h => ?_, u5.ext⟩
          rw [upd_ne (ne_of_none h hD)]
          exact u5.zs b o hb h
        · refine ⟨w5.len, w5.nd, fun k a o hk ho => ?_, fun b hb => ?_, w5.fz, fun b hb => ?_, w5.fi⟩
          · have ne : a ≠ Dd := fun z => nr (by rw [← z]; exact List.mem_of_getElem? hk)
            rw [upd_ne ne]
            exact (w5.ob k a o hk ho).pw pw
          · obtain ⟨⟨o, ho⟩, n⟩ := w5.zb b hb
            refine ⟨?_, n⟩
            by_cases z : b = Dd
            · subst z; exact ⟨_, upd_same⟩
            · rw [upd_ne z]; exact ⟨o, ho⟩
          · obtain ⟨o, ho⟩ := w5.ff b hb
            by_cases z : b = Dd
            · subst z; exact ⟨_, upd_same⟩
            · rw [upd_ne z]; exact ⟨o, ho⟩
      | false =>
        rw [if_neg (by decide)] at h8
        refine iteF ?_
        have hD4 : H4 Dd = some (.lst ys) := pv4.zs Dd _ List.mem_cons_self hDl
        have u4 := unZ pv4
        obtain ⟨r4', z4, f4⟩ := ρ4
        have ez : z4 = Dd :: ρ1.z := pv4.zz
        subst ez
        exact ⟨es.length - (i + 1), by omega, rfl, hlt, by omega, hD4, r4', f4, T1, done, rest, u4, w4, rfl, rd.pre pv4, h8⟩
  · have e : i = es.length := by omega
    subst e
    rw [List.drop_length] at hc
    cases hc
    rw [List.append_nil] at q
    refine .inl ⟨stop, ?_⟩
    have back : PW ⟨r', Dd :: ρ1.z, f'⟩ H' ⟨r', ρ1.z, f'⟩ H' := ⟨fun b o e nb => ⟨e, fun hb => nb (by
      rcases P3.mem_b.mp hb with z | z
      · exact P3.mem_b.mpr (.inl z)
      · exact P3.mem_b.mpr (.inr (List.mem_cons_of_mem _ z)))⟩, fun _ _ h => h⟩
    have wB : SW K cl ⟨r', ρ1.z, f'⟩ H' _ := ⟨w'.len, w'.nd, fun k a o hk ho => (w'.ob k a o hk ho).pw back, fun b hb => w'.zb b (List.mem_cons_of_mem _ hb), w'.fz, w'.ff, w'.fi⟩
    refine q _ ⟨r', ρ1.z, f'⟩ H' (p1.trans pv) wB (mkLst_rep (.inl ⟨fun hb => ?_, .inl hDl⟩) (rd.pw back))
    rcases P3.mem_b.mp hb with z | z
    · exact (w'.zb Dd List.mem_cons_self).2 z.1
    · exact nDz (P3.mem_b.mpr (.inr z))
end
end L3

end
section
set_option maxRecDepth 100000
set_option maxHeartbeats 4000000
/-! ## THE STORE LAYER: comprehensions as expressions, a name set to one; extend (own) -/
namespace L3
open PySem PySem.Spec PyProof.Rows L2
section
variable {X : Cx} {cl : Nat → Addr}
theorem px_comp {scope : Scope} {own : List Str} {kp : List Nat} {kn : List Str} {tg iter elt : Expr} {ifs : List Expr} {it : FA} {t : FG} {c : FB} {f : FX} {pos : Pos} (hc : X.calm = true) (C : CScope X scope own kp kn) (hi : PXI X cl tg iter it)
    (hg : ∀ fp s H, PXG (cxComp X scope (own ++ kn) fp s H) cl tg t) (hif : ∀ fp s H, PIfs (cxComp X scope (own ++ kn) fp s H) ifs (tXB X.K cl c)) (he : ∀ fp s H, PX (cxComp X scope (own ++ kn) fp s H) cl elt f)
    (hs : ∀ x, foldedSetIterable iter X.env x = pure x := by intro _; rfl) : PX X cl (.ListComp elt [⟨tg, iter, ifs, 0⟩] scope pos) (xComp it t c f own kp) :=
  ⟨(pe_comp hc C hi.1 (fun fp s H => (hg fp s H).1) hif (fun fp s H => (he fp s H).1) hs).imp fun σ H Q h => xComp_r h⟩
def bYes : FB := fun _ S => .ok true S
theorem pxifs_yes : PIfs X [] (tXB X.K cl bYes) := fun pins s σ H Q I ⟨ρ, S, δ, b, S', E, hf, q⟩ => pifs_nil pins s σ H Q I (by cases hf; exact q ρ H (Pre.refl ρ H) E.sw)
theorem pxifs_if {e : Expr} {c : FB} (h : PXB X cl e c) : PIfs X [e] (tXB X.K cl c) := pifs_one h.1
/-- a list of the store, given by values -/
def xAl (g : FA) : FX := fun δ S => (g δ S).bind fun vs S1 => match allD vs with
  | some ds => R3.when (decide (ds.length ≤ sizeLine)) (.ok (.loc S1.length) (S1 ++ [.lst ds]))
  | none => .no
end
end L3

end
section
set_option maxRecDepth 100000
set_option maxHeartbeats 4000000
/-! ## THE STORE LAYER: calls of what is built in, with deeds in their arguments (own) -/
namespace L3
open PySem PySem.Spec PyProof.Rows L2
section
variable {X : Cx} {cl : Nat → Addr}
def xCallB (g : List D → R D) (fs : FA) : FX := fun δ S => (fs δ S).bind fun vs S1 => match allD vs with
  | some ds => (R3.of (g ds) S1).bind fun d S => .ok (.d d) S
  | none => .no
/-- if-expressions -/
def xIf (c : FB) (f g : FX) : FX := fun δ S => (c δ S).bind fun b S => if b then f δ S else g δ S
theorem xlen_nil : ∀ (δ : DE) (S : Sto) (ds : List V3) (S' : Sto), xNil δ S = .ok ds S' → ds.length = 0 := fun δ S ds S' h => by cases h; rfl
theorem xlen_cons {f : FX} {g : FA} {n : Nat} (h : ∀ (δ : DE) (S : Sto) (ds : List V3) (S' : Sto), g δ S = .ok ds S' → ds.length = n) : ∀ (δ : DE) (S : Sto) (ds : List V3) (S' : Sto), xCons f g δ S = .ok ds S' → ds.length = n + 1 := fun δ S ds S' e => by
  obtain ⟨v, S1, h1, h2⟩ := R3.bind_ok e
  obtain ⟨vs, S2, h3, h4⟩ := R3.bind_ok h2
  cases h4
  rw [List.length_cons, h δ S1 vs _ h3]
end
end L3

end
section
set_option maxRecDepth 100000
set_option maxHeartbeats 4000000
/-! ## THE STORE LAYER: subscripts (own) -/
namespace L3
open PySem PySem.Spec PyProof.Rows L2
theorem atI_reps3 {K : PySem.W.Frag} {ρ : P3} {H : Hp} {ds : List V3} {xs : List V} {i : Int} {d : V3} (r : Reps3 K ρ H ds xs) (h : atI ds i = some d) : ∃ x, atI xs i = some x ∧ Rep3 K ρ H d x := by
  unfold atI at h ⊢
  rw [← r.length]
  cases e : ixN ds.length i with
  | none => rw [e] at h; cases h
  | some j =>
    rw [e] at h
    exact r.get h
section
variable {X : Cx} {cl : Nat → Addr}
def xIx (fa fb : FX) : FX := fun δ S => (fa δ S).bind fun a S1 => (fb δ S1).bind fun b S2 => match a, b with
  | .d x, .d y => (R3.of (ixD x y) S2).bind fun d S => .ok (.d d) S
  | .lst vs, .d (.int i) => (match atI vs i with | some v => .ok v S2 | none => .no)
  | .tup vs, .d (.int i) => (match atI vs i with | some v => .ok v S2 | none => .no)
  | _, _ => .no
theorem px_ix {a b : Expr} {fa fb : FX} {pos : Pos} (ha : PX X cl a fa) (hb : PX X cl b fb) (hs : PlainIx b) : PX X cl (.Subscript a b pos) (xIx fa fb) := by
  refine ⟨(pe_ix (r := rIx X.K) ix_seq ha.1 hb.1 hs).imp fun σ H Q ⟨ρ, S, δ, v, S', E, hf, q⟩ => ?_⟩
  obtain ⟨v1, S1, h1, h2⟩ := R3.bind_ok hf
  obtain ⟨v2, S2, h3, h4⟩ := R3.bind_ok h2
  refine ⟨ρ, S, δ, v1, S1, E, h1, fun u1 ρ1 H1 p1 w1 r1 => ⟨ρ1, S1, δ, v2, S2, E.to p1 w1, h3, fun u2 ρ2 H2 p2 w2 r2 => ?_⟩⟩
  have r1' := r1.pre p2
  have p12 := p1.trans p2
  split at h4
  · rename_i x y
    obtain ⟨d, S3, h5, h6⟩ := R3.bind_ok h4
    obtain ⟨h7, e7⟩ := R3.of_ok h5
    cases h6
    subst e7
    unfold Rep3 at r1' r2
    unfold ixD at h7
    split at h7
    · split at h7
      · rename_i e
        cases h7
        obtain ⟨p, xs, rfl, l, rs⟩ := Rep.lst.mp r1'
        obtain ⟨y, e1, e2⟩ := atI_reps rs e
        exact .inl ⟨p, xs, _, y, rfl, Rep.int.mp r2, l.sq, e1, q y ρ2 H2 p12 w2 (by unfold Rep3; exact e2)⟩
      · cases h7
    · split at h7
      · rename_i e
        cases h7
        obtain ⟨p, xs, rfl, l, rs⟩ := Rep.tup.mp r1'
        obtain ⟨y, e1, e2⟩ := atI_reps rs e
        exact .inr (.inl ⟨p, xs, _, y, rfl, Rep.int.mp r2, l.sq, e1, q y ρ2 H2 p12 w2 (by unfold Rep3; exact e2)⟩)
      · cases h7
    · obtain ⟨hl, h8⟩ := R.when_ok h7
      split at h8
      · rename_i e
        cases h8
        exact .inr (.inr ⟨_, _, _, Rep.str.mp r1', Rep.int.mp r2, of_decide_eq_true hl, e, q _ ρ2 H2 p12 w2 (by unfold Rep3; exact Rep.str.mpr rfl)⟩)
      · cases h8
    · cases h7
  · split at h4
    · rename_i e
      cases h4
      unfold Rep3 at r1' r2
      obtain ⟨p, xs, rfl, l, rs⟩ := r1'
      obtain ⟨y, e1, e2⟩ := atI_reps3 rs e
      exact .inl ⟨p, xs, _, y, rfl, Rep.int.mp r2, l.sq, e1, q y ρ2 H2 p12 w2 e2⟩
    · cases h4
  · split at h4
    · rename_i e
      cases h4
      unfold Rep3 at r1' r2
      obtain ⟨p, xs, rfl, l, rs⟩ := r1'
      obtain ⟨y, e1, e2⟩ := atI_reps3 rs e
      exact .inr (.inl ⟨p, xs, _, y, rfl, Rep.int.mp r2, l.sq, e1, q y ρ2 H2 p12 w2 e2⟩)
    · cases h4
  · cases h4
end
end L3

end
section
set_option maxRecDepth 100000
set_option maxHeartbeats 4000000
/-! ## THE STORE LAYER: and, or, not, if-expressions, slices (own) -/
namespace L3
open PySem PySem.Spec PyProof.Rows L2
section
variable {X : Cx} {cl : Nat → Addr}
structure PXW (X : Cx) (cl : Nat → Addr) (e : Expr) (f : FB) : Prop where
  go : L2.PW X e (tXB X.K cl f)
def yAnd (f g : FB) : FB := fun δ S => (f δ S).bind fun b S => if b then g δ S else .ok false S
def yOr (f g : FB) : FB := fun δ S => (f δ S).bind fun b S => if b then .ok true S else g δ S
def yNot (f : FB) : FB := fun δ S => (f δ S).bind fun b S => .ok (!b) S
theorem pxb_not {a : Expr} {f : FB} {pos : Pos} (ha : PXB X cl a f) : PXB X cl (.UnaryOp .Not a pos) (yNot f) := ⟨(pt_not ha.1).imp fun σ H Q ⟨ρ, S, δ, k, S', E, hf, q⟩ => by
  obtain ⟨c, S1, h1, h2⟩ := R3.bind_ok hf
  cases h2
  exact ⟨ρ, S, δ, c, _, E, h1, fun ρ1 H1 p1 w1 => q ρ1 H1 p1 w1⟩⟩
/-- a datum's truth -/
def yTru (f : FX) : FB := fun δ S => (f δ S).bind fun v S => match v with | .d d => R3.of (truD d) S | _ => .no
theorem pxb_tru {a : Expr} {f : FX} (ha : PX X cl a f) (ht : ∀ {t : TE}, PE X a t → PT X a (fun σ H Q => t σ H fun x H' => ∃ b, TruV X.K x H' b ∧ Q b H')) : PXB X cl a (yTru f) :=
  ⟨(ht ha.1).imp fun σ H Q ⟨ρ, S, δ, b, S', E, hf, q⟩ => by
    obtain ⟨v, S1, h1, h2⟩ := R3.bind_ok hf
    split at h2
    · rename_i d
      obtain ⟨h3, e3⟩ := R3.of_ok h2
      subst e3
      exact ⟨ρ, S, δ, .d d, _, E, h1, fun u ρ1 H1 p1 w1 r1 => ⟨b, truD_v (by unfold Rep3 at r1; exact r1) h3, q ρ1 H1 p1 w1⟩⟩
    · cases h2⟩
/-! slices -/
abbrev FOX := DE → Sto → R3 (Option Int)
def tOX (K : PySem.W.Frag) (cl : Nat → Addr) (f : FOX) : TO := fun σ H Q => ∃ ρ S δ o S', EnvX K cl ρ H S σ δ ∧ f δ S = .ok o S' ∧ ∀ ρ' H', Pre ρ H ρ' H' → SW K cl ρ' H' S' → Q o H'
structure PXO (X : Cx) (cl : Nat → Addr) (e : Option Expr) (f : FOX) : Prop where
  go : PO X e (tOX X.K cl f)
def xoNone : FOX := fun _ S => .ok none S
def xoSome (f : FX) : FOX := fun δ S => (f δ S).bind fun v S => match v with | .d (.int i) => .ok (some i) S | _ => .no
def xSl (f : FX) (fl fh : FOX) : FX := fun δ S => (f δ S).bind fun v S1 => (fl δ S1).bind fun lo S2 => (fh δ S2).bind fun hi S3 => match v with
  | .d d => (R3.of (slD d lo hi) S3).bind fun r S => .ok (.d r) S
  | _ => .no
end
end L3

end
section
set_option maxRecDepth 100000
set_option maxHeartbeats 4000000
/-! ## isinstance of any datum; list(..) as a new list; defs and calls of the store layer (own) -/
namespace L2
open PySem PySem.Spec PyProof.Rows
section
variable {X : Cx}
def isTy (t T : String) : Bool := t == T || (t == "bool" && T == "int")
theorem kit_ty {K : PySem.W.Frag} (t T : String) (ht : t ∈ ["NoneType", "bool", "int", "str", "list", "tuple"]) (hT : T ∈ ["bool", "int", "str", "list", "tuple"]) : PySem.W.kitOne K (.type t) (.type T) = some (isTy t T) := by
  simp only [List.mem_cons, List.not_mem_nil, or_false] at ht hT
  rcases ht with rfl | rfl | rfl | rfl | rfl | rfl <;> rcases hT with rfl | rfl | rfl | rfl | rfl <;> rfl
def eIsG (T : String) (f : FD) : FD := fun δ => (f δ).bind fun d => match d with | .dct _ _ => .no | _ => .ok (.bl (isTy (tyName d) T))
theorem qpd_isG {T : Str} {Ts : String} {p p2 pos : Pos} {e : Expr} {f : FD} (he : QD X e f) (hT : Ts ∈ ["bool", "int", "str", "list", "tuple"]) (hg : Gl X "isinstance") (hm : X.mg "isinstance" = none) (hgT : Gl X T) (hmT : X.mg T = none) (hvT : bootBuiltins T = some (.type Ts)) (hnT : T ≠ "__name__" := by decide) (hdT : (T == ("__debug__" : Str)) = false := by decide)
    (hs : starEach [e, .Name T p2] X.env = (false, eval e X.env) :: starEach [.Name T p2] X.env := by rfl) (hpl : (backTo pos (starEach [.Name T p2] X.env)).any (·.1) = false := by rfl) : QD X (.Call (.Name "isinstance" p) [e, .Name T p2] [] pos) (eIsG Ts f) := by
  have hc : CallR X (.builtin "isinstance") (fun xs H Q => ∃ B d x, Rep X.K B H d x ∧ (∀ a b, d ≠ .dct a b) ∧ xs = [x, .ty Ts] ∧ Q (.bl (isTy (tyName d) Ts)) H) := by
    intro pins s σ H xs us Q I r h
    obtain ⟨B, d, x, rd, ha, rfl, q⟩ := h
    obtain ⟨u, w', rfl, ru, rw'⟩ := vals2 r
    cases rw'
    have fin : ∀ tk, EP X pins σ Q (.bool (isTy (tyName d) Ts)) { s with toks := tk } := fun tk => ⟨.bl _, H, I.tok _, rfl, q⟩
    cases d with
    | non => exact isinst_ok I ru (by rw [Rep.non.mp rd]; exact .non) (kit_ty "NoneType" Ts (by decide) hT) fin
    | bl b => exact isinst_ok I ru (by rw [Rep.bl.mp rd]; exact .bl b) (kit_ty "bool" Ts (by decide) hT) fin
    | int i => exact isinst_ok I ru (by rw [Rep.int.mp rd]; exact .int i) (kit_ty "int" Ts (by decide) hT) fin
    | str z => exact isinst_ok I ru (by rw [Rep.str.mp rd]; exact .str z) (kit_ty "str" Ts (by decide) hT) fin
    | lst es =>
      obtain ⟨a, ys, rfl, l, _⟩ := Rep.lst.mp rd
      cases (show u = Value.ref a from ru)
      obtain ⟨its2, n2, r2, h1, z2⟩ := I.rdL l
      exact PySem.W.kia_one PySem.W.kitx_list I.kIn ⟨_, h1, rfl⟩ (kit_ty "list" Ts (by decide) hT) (fun z => nomatch z) fin
    | tup es =>
      obtain ⟨a, ys, rfl, l, _⟩ := Rep.tup.mp rd
      cases (show u = Value.ref a from ru)
      obtain ⟨its, rv, p, hz⟩ := I.tuple l.sq
      obtain ⟨o, h1, h2, _⟩ := p
      exact PySem.W.kia_one PySem.W.kitx_tuple I.kIn ⟨o, h1, h2⟩ (kit_ty "tuple" Ts (by decide) hT) (fun z => nomatch z) fin
    | dct a b => exact absurd rfl (ha a b)
  refine ⟨(pe_callB hc hg hm boot_isinstance (pa_cons he.1 (pa_cons (pe_bltn (v := .ty Ts) hgT hmT hvT rfl hnT hdT) pa_nil) hs) (by decide) (by decide) hs hpl).imp fun σ H Q ⟨Z, B, δ, d, E, hf, q⟩ => ?_⟩
  obtain ⟨d1, h1, h2⟩ := R.bind_ok hf
  have key : (∀ a b, d1 ≠ .dct a b) ∧ d = .bl (isTy (tyName d1) Ts) := by
    cases d1 with
    | dct a b => cases h2
    | _ => cases h2; exact ⟨fun _ _ z => (by cases z), rfl⟩
  obtain ⟨k1, rfl⟩ := key
  exact ⟨Z, B, δ, d1, E, h1, fun v H1 s1 r1 => ⟨B, d1, v, r1, k1, rfl, q _ H1 s1 (Rep.bl.mpr rfl)⟩⟩
/-- list(e), as a new list -/
def nList (f : FD) : DEnv → R (List D) := fun δ => (f δ).bind fun d => match d with | .lst ds => .ok ds | .tup ds => .ok ds | _ => .no
end
end L2
namespace L3
open PySem PySem.Spec PyProof.Rows L2
theorem fn_keepB {P : Program} {w : World} {K : PySem.W.Frag} {mg : Str → Option Value} {base : Heap} {cl : Nat → Addr} {x qual : Str} {st : Stmt} {f : Addr} {fd : FuncData} {N ps : List Str} {k : Nat} {F : FZ} {b : List Stmt} {sc : Scope} (hb : defBody st = b) (hs : defScope st = sc) (Fn : Fun K x qual st f fd) (S : FnScope N ps sc)
    (hbody : ∀ (cdv : Value) (A : Around) (outer : List Env) (s : Shared) (H : Hp) (E : XK), Room k (A.deeper (envOfC qual sc s.heap.objs.size f cdv)) →
      PZs (cxOf CX0 P w K mg base N qual sc f cdv A outer s H E).nox cl b F) : FnOk P w K mg base CX0 (k + 1) f fd ps (spX K cl ps.length (fnK N F)) := by
  subst hb hs
  exact fn_keep Fn S hbody
theorem CalleeX.p {P : Program} {w : World} {K : PySem.W.Frag} {mg : Str → Option Value} {base : Heap} {cl : Nat → Addr} {k : Nat} {x : Str} {n : Nat} {N : List Str} {F : FZ} (C : CalleeX P w K mg base cl k x n (fnK N F)) : CalleeX P w K mg base cl k x n (fnP N F) :=
  let ⟨f, fd, ps, F, h⟩ := C; ⟨f, fd, ps, F.imp fun _ _ _ _ h => fnP_of h, h⟩
/-- a law that changes nothing of what was there -/
def fnL (N : List Str) (F : FZ) : List D → R D := fun ds => match fnP N F (ds.map .d) [] with
  | .ok (.d d) [] => R.when d.atom (.ok d)
  | _ => .no
theorem fnL_of {K : PySem.W.Frag} {cl : Nat → Addr} {N : List Str} {F : FZ} {n : Nat} {vs : List V} {H : Hp} {Q : VK} {E : XK} (h : spD K n (fnL N F) vs H Q E) : spX K cl n (fnK N F) vs H Q E := by
  obtain ⟨hl, B, ds, d, hb, r, hg, q⟩ := h
  unfold fnL at hg
  split at hg
  · rename_i d' e
    obtain ⟨ha, h2⟩ := R.when_ok hg
    cases h2
    have r0 : Reps K (⟨[], [], []⟩ : P3).b H ds vs := r.pres fun b o e _ => ⟨e, by simp [P3.b]⟩
    refine fnP_of ⟨hl, ⟨[], [], []⟩, [], ds.map .d, .d d, [], ⟨rfl, fun i j a hi => by simp at hi, fun k a o hk => by simp at hk, fun b hb => by simp at hb, fun k a hk => by simp at hk, fun b hb => by simp at hb, fun k a hk => by simp at hk⟩, Reps3.of r0, e, fun u ρ' H' p w' r' => q u H' (fun b o eb => ?_) ?_⟩
    · exact (p.pres b o eb (by simp [P3.b])).1
    · unfold Rep3 at r'
      exact r'.atom ha
  · cases hg
section
variable {X : Cx} {cl : Nat → Addr}
theorem pxb_truG {a : Expr} {f : FX} (ha : PX X cl a f) (he : ∀ whole, isTrue a X.env whole = (do let v ← whole; standAt a.pos; holding [v] (truthy v)) := by intro _; rfl) : PXB X cl a (yTru f) := pxb_tru ha fun h => pt_truth h he
/-- a call of a pure def, with deeds in its arguments -/
theorem px_callC {g : List D → R D} {k j n : Nat} {x : Str} {p pos : Pos} {e : Expr} {es : List Expr} {fs : FA} (C : Callee X.prog X.w X.K X.mg X.base k x n g) (hr : Room j X.A) (hkj : k ≤ j) (hg : Gl X x) (ha : PXA X cl (e :: es) fs)
    (hn : ∀ δ S ds S', fs δ S = .ok ds S' → ds.length = n) (hdb : (x == ("__debug__" : Str)) = false := by decide) (he : starEach (e :: es) X.env = (false, eval e X.env) :: starEach es X.env := by rfl) (hpl : (backTo pos (starEach es X.env)).any (·.1) = false := by rfl) :
    PX X cl (.Call (.Name x p) (e :: es) [] pos) (xCallB g fs) := by
  obtain ⟨f, fd, ps, F, hm, hk, hb⟩ := C
  refine ⟨(pe_call F (hr.mono hkj) hg hm hk hb .nil pass0 ha.1 hdb he hpl).imp fun σ H Q ⟨ρ, S, δ, v, S', E, hf, q⟩ => ?_⟩
  obtain ⟨vs, S1, h1, h2⟩ := R3.bind_ok hf
  split at h2
  · rename_i ds e
    obtain ⟨d, S2, h3, h4⟩ := R3.bind_ok h2
    obtain ⟨h5, e5⟩ := R3.of_ok h3
    cases h4
    subst e5
    refine ⟨ρ, S, δ, vs, _, E, h1, fun us ρ1 H1 p1 w1 r1 => ?_⟩
    have hl := hn δ S vs _ h1
    rw [allD_some e] at r1
    show spD X.K n g (us ++ []) H1 Q E0
    rw [List.append_nil]
    exact ⟨by rw [← r1.length, ← allD_some e]; exact hl, ρ1.b, ds, d, w1.bs, r1.to, h5, fun z H' s r => q z ρ1 H' (p1.trans (Pre.same s)) (w1.same s) (by unfold Rep3; exact r)⟩
  · cases h2
/-- a tuple, of any values -/
def iTup (f : FX) : FA := fun δ S => (f δ S).bind fun v S => match v with | .d (.tup ds) => .ok (ds.map .d) S | .tup vs => .ok vs S | _ => .no
end
end L3

end
section
set_option maxRecDepth 100000
set_option maxHeartbeats 4000000
/-! ## THE STORE LAYER: what its worths are, operator by operator (own) -/
namespace L3
open PySem PySem.Spec PyProof.Rows L2
def W3 {α : Type} (r : R3 α) (Q : α → Sto → Prop) : Prop := ∃ a S, r = .ok a S ∧ Q a S
section
variable {α β : Type} {Q Q' : α → Sto → Prop} {S : Sto} {δ : DE}
theorem W3.ok {a : α} (h : Q a S) : W3 (.ok a S) Q := ⟨a, S, rfl, h⟩
theorem W3.bind {Q : β → Sto → Prop} {r : R3 α} {f : α → Sto → R3 β} (h : W3 r fun a S => W3 (f a S) Q) : W3 (r.bind f) Q := by
  obtain ⟨a, S1, e1, b, S2, h2, q⟩ := h
  exact ⟨b, S2, by rw [e1]; exact h2, q⟩
theorem W3.mono {r : R3 α} (h : W3 r Q) (m : ∀ a S, Q a S → Q' a S) : W3 r Q' := let ⟨a, S, e, q⟩ := h; ⟨a, S, e, m a S q⟩
theorem W3.wh {c : Bool} {r : R3 α} (hc : c = true) (h : W3 r Q) : W3 (R3.when c r) Q := by rw [hc]; exact h
theorem W3.of {r : R α} {a : α} (e : r = .ok a) (h : Q a S) : W3 (R3.of r S) Q := by rw [e]; exact ⟨a, S, rfl, h⟩
end
section
variable {S : Sto} {δ : DE} {QV : V3 → Sto → Prop} {QB : Bool → Sto → Prop} {QA : List V3 → Sto → Prop} {QO : Ou → Sto → Prop}
theorem w_P {f : FD} {d : D} (e : f (down δ) = .ok d) (h : QV (.d d) S) : W3 (xP f δ S) QV := W3.bind (W3.of e (W3.ok h))
theorem w_T {f : FD} {d : D} (e : f (downT S δ) = .ok d) (ha : tupD d = true) (h : QV (.d d) S) : W3 (xT f δ S) QV := W3.bind (W3.of e (W3.wh ha (W3.ok h)))
theorem w_bP {f : DEnv → R Bool} {b : Bool} (e : f (down δ) = .ok b) (h : QB b S) : W3 (bP f δ S) QB := W3.of e h
theorem w_bT {f : DEnv → R Bool} {b : Bool} (e : f (downT S δ) = .ok b) (h : QB b S) : W3 (bT f δ S) QB := W3.of e h
theorem w_var {i : Nat} {v : V3} (e : δ[i]? = some (some v)) (h : QV v S) : W3 (xVar i δ S) QV := by unfold xVar; rw [e]; exact W3.ok h
theorem w_new {f : DEnv → R (List D)} {ds : List D} (e : f (down δ) = .ok ds) (h : QV (.loc S.length) (S ++ [.lst ds])) : W3 (xNew f δ S) QV := W3.bind (W3.of e (W3.ok h))
theorem w_nil (h : QA [] S) : W3 (xNil δ S) QA := W3.ok h
theorem w_cons {f : FX} {g : FA} (h : W3 (f δ S) fun v S1 => W3 (g δ S1) fun vs S2 => QA (v :: vs) S2) : W3 (xCons f g δ S) QA := W3.bind (h.mono fun _ _ h => W3.bind (h.mono fun _ _ h => W3.ok h))
theorem w_tup {g : FA} (h : W3 (g δ S) fun vs S1 => vs.length ≤ sizeLine ∧ QV (mkTup vs) S1) : W3 (xTup g δ S) QV := W3.bind (h.mono fun _ _ h => W3.wh (decide_eq_true h.1) (W3.ok h.2))
theorem w_lst {g : FA} (h : W3 (g δ S) fun vs S1 => vs.length ≤ sizeLine ∧ QV (mkLst vs) S1) : W3 (xLst g δ S) QV := W3.bind (h.mono fun _ _ h => W3.wh (decide_eq_true h.1) (W3.ok h.2))
theorem w_2 {g : D → D → R D} {fa fb : FX} (h : W3 (fa δ S) fun a S1 => W3 (fb δ S1) fun b S2 => ∃ x y d, a = .d x ∧ b = .d y ∧ g x y = .ok d ∧ QV (.d d) S2) : W3 (x2 g fa fb δ S) QV :=
  W3.bind (h.mono fun _ _ h => W3.bind (h.mono fun _ _ ⟨_, _, _, e1, e2, e3, q⟩ => by subst e1 e2; exact W3.bind (W3.of e3 (W3.ok q))))
theorem w_b2 {g : D → D → R D} {fa fb : FX} (h : W3 (fa δ S) fun a S1 => W3 (fb δ S1) fun b S2 => ∃ x y k, a = .d x ∧ b = .d y ∧ g x y = .ok (.bl k) ∧ QB k S2) : W3 (xb2 g fa fb δ S) QB :=
  W3.bind (w_2 (h.mono fun _ _ h => h.mono fun _ _ ⟨x, y, k, e1, e2, e3, q⟩ => ⟨x, y, .bl k, e1, e2, e3, W3.ok q⟩))
theorem w_ix {fa fb : FX} (h : W3 (fa δ S) fun a S1 => W3 (fb δ S1) fun b S2 => ∃ x y d, a = .d x ∧ b = .d y ∧ ixD x y = .ok d ∧ QV (.d d) S2) : W3 (xIx fa fb δ S) QV :=
  W3.bind (h.mono fun _ _ h => W3.bind (h.mono fun _ _ ⟨_, _, _, e1, e2, e3, q⟩ => by subst e1 e2; exact W3.bind (W3.of e3 (W3.ok q))))
theorem w_call {g : List V3 → Sto → R3 V3} {fs : FA} (h : W3 (fs δ S) fun vs S1 => W3 (g vs S1) QV) : W3 (xCall g fs δ S) QV := W3.bind h
theorem w_callB {g : List D → R D} {fs : FA} (h : W3 (fs δ S) fun vs S1 => ∃ ds d, vs = ds.map .d ∧ g ds = .ok d ∧ QV (.d d) S1) : W3 (xCallB g fs δ S) QV :=
  W3.bind (h.mono fun _ _ ⟨ds, _, e1, e2, q⟩ => by subst e1; rw [allD_map]; exact W3.bind (W3.of e2 (W3.ok q)))
theorem w_comp {it : FA} {t : FG} {c : FB} {f : FX} {own : List Str} {kp : List Nat} (h : W3 (it δ S) fun vs S1 => vs.length ≤ sizeLine ∧ W3 (compX t c f (cEnvX own kp δ) vs S1) fun ys S2 => QV (mkLst ys) S2) : W3 (xComp it t c f own kp δ S) QV :=
  W3.bind (h.mono fun _ _ h => W3.wh (decide_eq_true h.1) (W3.bind (h.2.mono fun _ _ h => W3.ok h)))
theorem w_tru {f : FX} (h : W3 (f δ S) fun v S1 => ∃ d b, v = .d d ∧ truD d = .ok b ∧ QB b S1) : W3 (yTru f δ S) QB := W3.bind (h.mono fun _ _ ⟨_, _, e, e2, q⟩ => by subst e; exact W3.of e2 q)
theorem w_not {f : FB} (h : W3 (f δ S) fun b S1 => QB (!b) S1) : W3 (yNot f δ S) QB := W3.bind (h.mono fun _ _ h => W3.ok h)
theorem w_seq {F G : FZ} (h : W3 (F δ S) fun o S1 => ∃ δ1, o = .nx δ1 ∧ W3 (G δ1 S1) QO) : W3 (zSeq F G δ S) QO := W3.bind (h.mono fun _ _ ⟨_, e, h⟩ => by subst e; exact h)
theorem w_seqR {F G : FZ} (h : W3 (F δ S) fun o S1 => ∃ v, o = .rt v ∧ QO (.rt v) S1) : W3 (zSeq F G δ S) QO := W3.bind (h.mono fun _ _ ⟨_, e, h⟩ => by subst e; exact W3.ok h)
theorem w_set {i : Nat} {f : FX} (hi : i < δ.length) (h : W3 (f δ S) fun v S1 => QO (.nx (δ.set i (some v))) S1) : W3 (zSet i f δ S) QO := W3.bind (h.mono fun _ _ h => W3.wh (decide_eq_true hi) (W3.ok h))
theorem w_ret {f : FX} (h : W3 (f δ S) fun v S1 => QO (.rt v) S1) : W3 (zRet f δ S) QO := W3.bind (h.mono fun _ _ h => W3.ok h)
theorem w_if {c : FB} {F G : FZ} (h : W3 (c δ S) fun b S1 => if b then W3 (F δ S1) QO else W3 (G δ S1) QO) : W3 (zIf c F G δ S) QO := W3.bind (h.mono fun b _ h => by cases b <;> exact h)
theorem w_asg {f : FX} {t : FG} (h : W3 (f δ S) fun v S1 => ∃ δ1, t v δ = some δ1 ∧ QO (.nx δ1) S1) : W3 (zAsg f t δ S) QO := W3.bind (h.mono fun _ _ ⟨_, e, q⟩ => by rw [e]; exact W3.ok q)
theorem w_znil (h : QO (.nx δ) S) : W3 (zNil δ S) QO := W3.ok h
theorem w_iP {f : DEnv → R (List D)} {ds : List D} (e : f (down δ) = .ok ds) (h : QA (ds.map .d) S) : W3 (iP f δ S) QA := W3.bind (W3.of e (W3.ok h))
theorem w_rng1 {f : FX} (h : W3 (f δ S) fun v S1 => ∃ n : Nat, v = .d (.int n) ∧ n < 1000000 ∧ QA ((rngD 0 n).map .d) S1) : W3 (iRng1 f δ S) QA := W3.bind (h.mono fun _ _ ⟨n, e, hn, q⟩ => by
  subst e
  refine W3.wh (decide_eq_true ⟨by omega, by omega⟩) (W3.ok ?_)
  rw [Int.toNat_natCast]; exact q)
theorem w_iSeqD {f : FX} (h : W3 (f δ S) fun v S1 => ∃ ds, v = .d (.lst ds) ∧ QA (ds.map .d) S1) : W3 (iSeq f δ S) QA := W3.bind (h.mono fun _ _ ⟨n, e, q⟩ => by subst e; exact W3.ok q)
theorem w_for {it : FA} {t : FG} {F : FZ} (h : W3 (it δ S) fun vs S1 => W3 (loopX t F vs δ S1) QO) : W3 (zFor it t F δ S) QO := W3.bind h
theorem w_app {i k : Nat} {f : FX} (hk : δ[i]? = some (some (.loc k))) (h0 : ∃ ds, S[k]? = some (.lst ds)) (h : W3 (f δ S) fun v S1 => ∃ d ds, v = .d d ∧ S1[k]? = some (.lst ds) ∧ ds.length < sizeLine ∧ QO (.nx δ) (S1.set k (.lst (ds ++ [d])))) : W3 (zApp i f δ S) QO := by
  obtain ⟨es, h0⟩ := h0
  unfold zApp
  have e1 : locAt δ i = some k := by unfold locAt; rw [hk]
  have e2 : lstAt S k = some es := by unfold lstAt; simp only [h0]
  rw [e1]; show W3 (match lstAt S k with | none => _ | some _ => _) _
  rw [e2]
  refine W3.bind (h.mono fun v S1 ⟨d, ds, e, h1, hl, q⟩ => ?_)
  subst e
  have e3 : lstAt S1 k = some ds := by unfold lstAt; simp only [h1]
  show W3 (match lstAt S1 k with | some ds => _ | none => _) _
  rw [e3]
  exact W3.wh (decide_eq_true hl) (W3.ok q)
theorem w_put {fo fi fe : FX} (h : W3 (fe δ S) fun v S1 => W3 (fo δ S1) fun o S2 => W3 (fi δ S2) fun j S3 => ∃ d k n ds m, v = .d d ∧ o = .loc k ∧ j = .d (.int n) ∧ S3[k]? = some (.lst ds) ∧ ixN ds.length n = some m ∧ QO (.nx δ) (S3.set k (.lst (ds.set m d)))) : W3 (zPut fo fi fe δ S) QO :=
  W3.bind (h.mono fun _ _ h => W3.bind (h.mono fun _ _ h => W3.bind (h.mono fun _ S3 ⟨d, k, n, ds, m, e1, e2, e3, h1, h2, q⟩ => by
    subst e1 e2 e3
    have e3 : lstAt S3 k = some ds := by unfold lstAt; simp only [h1]
    show W3 (match lstAt S3 k with | some ds => _ | none => _) _
    rw [e3]
    show W3 (match ixN ds.length n with | some m => _ | none => _) _
    rw [h2]
    exact W3.ok q)))
theorem loopX_from {t : FG} {body : FZ} : ∀ (vs : List V3) (n : Nat) (P : Nat → DE → Sto → Prop) {δ : DE} {S : Sto}, P n δ S →
    (∀ i v δ S, vs[i]? = some v → P (n + i) δ S → ∃ δ1, t v δ = some δ1 ∧ W3 (body δ1 S) fun o S1 => ∃ δ2, o = .nx δ2 ∧ P (n + i + 1) δ2 S1) → W3 (loopX t body vs δ S) fun o S1 => ∃ δ2, o = .nx δ2 ∧ P (n + vs.length) δ2 S1
  | [], n, P, δ, S, h0, _ => W3.ok ⟨δ, rfl, h0⟩
  | v :: vs, n, P, δ, S, h0, hs => by
    obtain ⟨δ1, e1, o, S1, e2, δ2, rfl, p2⟩ := hs 0 v δ S rfl h0
    have ih := loopX_from vs (n + 1) P p2 (fun i v' δ' S' hi hp => by
      have := hs (i + 1) v' δ' S' (by simpa using hi) (by rw [show n + (i + 1) = n + 1 + i by omega]; exact hp)
      rw [show n + (i + 1) + 1 = n + 1 + i + 1 by omega] at this
      exact this)
    rw [show n + 1 + vs.length = n + (v :: vs).length by rw [List.length_cons]; omega] at ih
    unfold loopX
    rw [e1]
    refine W3.bind ⟨_, _, e2, ?_⟩
    exact ih
theorem loopX_inv {t : FG} {body : FZ} {vs : List V3} (P : Nat → DE → Sto → Prop) {δ : DE} {S : Sto} (h0 : P 0 δ S)
    (hs : ∀ i v δ S, vs[i]? = some v → P i δ S → ∃ δ1, t v δ = some δ1 ∧ W3 (body δ1 S) fun o S1 => ∃ δ2, o = .nx δ2 ∧ P (i + 1) δ2 S1) : W3 (loopX t body vs δ S) fun o S1 => ∃ δ2, o = .nx δ2 ∧ P vs.length δ2 S1 := by
  have := loopX_from (t := t) (body := body) vs 0 P h0 (fun i v δ S hi hp => by simpa using hs i v δ S hi (by simpa using hp))
  simpa using this
/-- a walk whose part done is known by P: how many, what was told, the store -/
theorem compX_from {t : FG} {c : FB} {f : FX} {δ : DE} : ∀ (vs : List V3) (n : Nat) (P : Nat → List V3 → Sto → Prop) {ys : List V3} {S : Sto}, P n ys S →
    (∀ i v ys S, vs[i]? = some v → P (n + i) ys S → ∃ δ1, t v δ = some δ1 ∧ W3 (c δ1 S) fun b S1 => if b then W3 (f δ1 S1) fun y S2 => P (n + i + 1) (ys ++ [y]) S2 else P (n + i + 1) ys S1) → W3 (compX t c f δ vs S) fun zs S1 => P (n + vs.length) (ys ++ zs) S1
  | [], n, P, ys, S, h0, _ => W3.ok (by rw [List.append_nil]; exact h0)
  | v :: vs, n, P, ys, S, h0, hs => by
    obtain ⟨δ1, e1, b, S1, e2, h2⟩ := hs 0 v ys S rfl h0
    have ih : ∀ {ys' S'}, P (n + 1) ys' S' → W3 (compX t c f δ vs S') fun zs S1 => P (n + (v :: vs).length) (ys' ++ zs) S1 := fun {ys' S'} p => by
      have := compX_from (t := t) (c := c) (f := f) (δ := δ) vs (n + 1) P p (fun i v' ys' S' hi hp => by
        have := hs (i + 1) v' ys' S' (by simpa using hi) (by rw [show n + (i + 1) = n + 1 + i by omega]; exact hp)
        rw [show n + (i + 1) + 1 = n + 1 + i + 1 by omega] at this
        exact this)
      rw [show n + 1 + vs.length = n + (v :: vs).length by rw [List.length_cons]; omega] at this
      exact this
    unfold compX
    rw [e1]
    refine W3.bind ⟨b, S1, e2, ?_⟩
    cases b with
    | true =>
      rw [if_pos rfl] at h2 ⊢
      exact W3.bind (h2.mono fun y S2 p => W3.bind ((ih p).mono fun zs S3 q => W3.ok (by rw [List.append_assoc] at q; exact q)))
    | false => rw [if_neg (by decide)] at h2 ⊢; exact ih h2
theorem compX_inv {t : FG} {c : FB} {f : FX} {δ : DE} {vs : List V3} (P : Nat → List V3 → Sto → Prop) {S : Sto} (h0 : P 0 [] S)
    (hs : ∀ i v ys S, vs[i]? = some v → P i ys S → ∃ δ1, t v δ = some δ1 ∧ W3 (c δ1 S) fun b S1 => if b then W3 (f δ1 S1) fun y S2 => P (i + 1) (ys ++ [y]) S2 else P (i + 1) ys S1) : W3 (compX t c f δ vs S) fun zs S1 => P vs.length zs S1 := by
  have := compX_from (t := t) (c := c) (f := f) (δ := δ) vs 0 P h0 (fun i v ys S hi hp => by simpa using hs i v ys S hi (by simpa using hp))
  simpa using this
theorem w_yes {QB : Bool → Sto → Prop} (h : QB true S) : W3 (bYes δ S) QB := W3.ok h
/-! defs -/
theorem w_K {N : List Str} {F : FZ} {vs : List V3} {δ : DE} (e : xStart N vs = δ) (h : W3 (F δ S) fun o S1 => ∃ v, o = .rt v ∧ QV v S1) : W3 (fnK N F vs S) QV := by
  subst e
  exact W3.bind (h.mono fun _ _ ⟨_, e, q⟩ => by subst e; exact W3.ok q)
/-- a store of lists alone -/
def Lists (S : Sto) : Prop := ∀ o ∈ S, ∃ ds, o = SO.lst ds
end
end L3
namespace L3
open PySem PySem.Spec PyProof.Rows L2
section
variable {S : Sto} {δ : DE} {QV : V3 → Sto → Prop}
theorem w_compD {it : FA} {t : FG} {c : FB} {f : FX} {own : List Str} {kp : List Nat} (P : Nat → List D → Sto → Prop) (h : W3 (it δ S) fun vs S1 => vs.length ≤ sizeLine ∧ P 0 [] S1 ∧
    (∀ i v ds S2, vs[i]? = some v → P i ds S2 → ∃ δ1, t v (cEnvX own kp δ) = some δ1 ∧ W3 (c δ1 S2) fun b S3 => if b then W3 (f δ1 S3) fun y S4 => ∃ d, y = .d d ∧ P (i + 1) (ds ++ [d]) S4 else P (i + 1) ds S3) ∧
    ∀ ds S2, P vs.length ds S2 → QV (.d (.lst ds)) S2) : W3 (xComp it t c f own kp δ S) QV := by
  refine w_comp (h.mono fun vs S1 ⟨hl, h0, hs, hq⟩ => ⟨hl, ?_⟩)
  refine (compX_inv (fun i ys S => ∃ ds, ys = ds.map V3.d ∧ P i ds S) ⟨[], rfl, h0⟩ ?_).mono fun zs S2 ⟨ds, e, p⟩ => ?_
  · rintro i v ys S2 hv ⟨ds, rfl, p⟩
    obtain ⟨δ1, e1, h1⟩ := hs i v ds S2 hv p
    refine ⟨δ1, e1, h1.mono fun b S3 h3 => ?_⟩
    cases b with
    | true =>
      rw [if_pos rfl] at h3 ⊢
      exact h3.mono fun y S4 ⟨d, e, p⟩ => by subst e; exact ⟨ds ++ [d], by simp, p⟩
    | false => rw [if_neg (by decide)] at h3 ⊢; exact ⟨ds, rfl, h3⟩
  · subst e
    unfold mkLst
    rw [allD_map]
    exact hq ds S2 p
/-- a datum that can be held against itself -/
structure Fit (n : Nat) (d : D) : Prop where
  pl : plainD d = true
  ly : (toPy d).canLay0 = true
  dp : (toPy d).depth ≤ n
theorem Fit.int (i : Int) : Fit 0 (.int i) := ⟨by unfold plainD; rfl, by unfold toPy PyData.canLay0; rfl, by unfold toPy PyData.depth; omega⟩
theorem Fit.mono {n m : Nat} {d : D} (h : Fit n d) (hm : n ≤ m) : Fit m d := ⟨h.pl, h.ly, Nat.le_trans h.dp hm⟩
theorem Fit.all {n : Nat} : ∀ {ds : List D}, (∀ d ∈ ds, Fit n d) → plainDs ds = true ∧ PyData.canLayAll0 (toPys ds) = true ∧ PyData.depthAll (toPys ds) ≤ n
  | [], _ => ⟨by unfold plainDs; rfl, by unfold toPys PyData.canLayAll0; rfl, by unfold toPys PyData.depthAll; omega⟩
  | d :: ds, h => by
    obtain ⟨h1, h2, h3⟩ := Fit.all (ds := ds) fun x hx => h x (List.mem_cons_of_mem _ hx)
    have f := h d List.mem_cons_self
    refine ⟨by unfold plainDs; rw [f.pl, h1]; rfl, by unfold toPys PyData.canLayAll0; rw [f.ly, h2]; rfl, ?_⟩
    unfold toPys PyData.depthAll
    have := f.dp
    omega
theorem Fit.lst {n : Nat} {ds : List D} (h : ∀ d ∈ ds, Fit n d) : Fit (n + 1) (.lst ds) := by
  obtain ⟨h1, h2, h3⟩ := Fit.all h
  exact ⟨by unfold plainD; exact h1, by unfold toPy PyData.canLay0; exact h2, by unfold toPy PyData.depth; omega⟩
theorem Fit.sh {n : Nat} {d : D} (h : Fit n d) (hn : n ≤ 64) : SeqAt.shaped (toPy d) = true := by
  unfold SeqAt.shaped
  rw [h.ly, decide_eq_true (Nat.le_trans h.dp hn)]
  rfl
theorem eqD_lt {d e : List D} : eqD (.lst d) (.lst e) = R.when (plainD (.lst d) && plainD (.lst e) && SeqAt.shaped (toPy (.lst d)) && SeqAt.shaped (toPy (.lst e))) (.ok (PyData.eqv (toPy (.lst d)) (toPy (.lst e)))) := rfl
end
end L3
namespace L3
open PySem PySem.Spec PyProof.Rows L2
end L3

end
section
set_option maxRecDepth 100000
set_option maxHeartbeats 4000000
/-! ## more operations: is None, int of a text, find, dicts that are read; freezing; defs that call themselves (own) -/
namespace L2
open PySem PySem.Spec PyProof.Rows
section
variable {X : Cx}
def isNon : D → Bool | .non => true | _ => false
def dIs (d e : D) : R D := match e with | .non => .ok (.bl (isNon d)) | _ => .no
def dIsN (d e : D) : R D := match e with | .non => .ok (.bl (!isNon d)) | _ => .no
theorem isNon_r {K : PySem.W.Frag} {B : List Addr} {H : Hp} {d : D} {x : V} (r : Rep K B H d x) : decide (x = .non) = isNon d := by
  cases d with
  | non => rw [Rep.non.mp r]; rfl
  | bl b => rw [Rep.bl.mp r]; rfl
  | int b => rw [Rep.int.mp r]; rfl
  | str b => rw [Rep.str.mp r]; rfl
  | lst ds => obtain ⟨a, xs, rfl, _⟩ := Rep.lst.mp r; rfl
  | tup ds => obtain ⟨a, xs, rfl, _⟩ := Rep.tup.mp r; rfl
  | dct ks ds => unfold Rep at r; obtain ⟨a, xs, rfl, _⟩ := r; rfl
theorem o_is : OpD X (compareOp .Is) dIs := OpD.of op_isN fun B H da db d x y Q _ ra rb hg q => by
  unfold dIs at hg
  split at hg
  · cases hg
    exact ⟨Rep.non.mp rb, by rw [isNon_r ra]; exact q _ H (Same.refl H) (Rep.bl.mpr rfl)⟩
  · cases hg
/-! int of a text -/
def cIntT : List D → R D
  | [.str x] => R.when (decide (x.length ≤ 640)) (match PySem.intText? x with | some n => .ok (.int n) | none => .no)
  | _ => .no
def cIntA (ds : List D) : R D := match ds with | [.str _] => cIntT ds | _ => cInt ds
def eNeg (f : FD) : FD := fun δ => (f δ).bind fun d => match d with | .int i => .ok (.int (-i)) | _ => .no
/-! x.find(y) -/
def mFind (d : D) (ds : List D) : R D := match d, ds with
  | .str x, [.str y] => .ok (.int (Txt.find x y))
  | _, _ => .no
/-! a dict of written texts to written texts, and what it holds -/
def dctD (kvs : List (Str × Str)) : D := .dct (kvs.map fun p => Sum.inr p.1) (kvs.map fun p => .str p.2)
def kvV (kvs : List (Str × Str)) : List (Key × V) := kvs.map fun p => ((Sum.inr p.1 : Key), V.str p.2)
def dGet (d k : D) : R D := match d, k with
  | .dct ks ds, .str x => (match (ks.zip ds).find? fun p => decide (p.1 = Sum.inr x) with | some p => .ok p.2 | none => .no)
  | _, _ => .no
end
theorem fn_no {P : Program} {w : World} {K : PySem.W.Frag} {mg : Str → Option Value} {base : Heap} {k n : Nat} {f : Addr} {fd : FuncData} {ps : List Str} : FnOk P w K mg base CX0 k f fd ps (spD K n fun _ => .no) :=
  ⟨fun vs H Q E h => (by obtain ⟨_, _, _, _, _, _, h, _⟩ := h; cases h), fun A outer s H args us vs Q E _ _ _ _ h => (by obtain ⟨_, _, _, _, _, _, h, _⟩ := h; cases h)⟩
end L2
namespace L3
open PySem PySem.Spec PyProof.Rows L2
section
variable {X : Cx} {cl : Nat → Addr}
/-! and, or as values, with deeds -/
def asX (f : FX) : FB := fun δ S => (f δ S).bind fun v S => match v with | .d (.bl b) => .ok b S | _ => .no
def xAnd (f g : FX) : FX := fun δ S => (asX f δ S).bind fun b S => if b then g δ S else .ok (.d (.bl false)) S
def xOr (f g : FX) : FX := fun δ S => (asX f δ S).bind fun b S => if b then .ok (.d (.bl true)) S else g δ S
/-- from here on a list changes no more -/
def zFrz (i : Nat) (F : FZ) : FZ := fun δ S => match locAt δ i with
  | some k => (match lstAt S k with | some ds => F (δ.set i (some (.d (.lst ds)))) (S.set k .frz) | none => .no)
  | none => .no
theorem pzs_frz (i : Nat) {sts : List Stmt} {F : FZ} (h : PZs X cl sts F) : PZs X cl sts (zFrz i F) := ⟨h.1.imp fun D σ H ⟨ρ, S, δ, o, S', E, hf, q⟩ => by
  unfold zFrz at hf
  split at hf
  · rename_i k hk
    split at hf
    · rename_i ds hds
      obtain ⟨v, v1, v2⟩ := E.val i _ (locAt_some hk)
      unfold Rep3 at v2
      obtain ⟨a, a1, rfl⟩ := v2
      obtain ⟨w, p, r⟩ := E.sw.frz a1 (lstAt_some hds)
      have E1 : EnvX X.K cl ⟨ρ.r, ρ.z, a :: ρ.f⟩ H (S.set k .frz) σ (δ.set i (some (.d (.lst ds)))) := ⟨by rw [List.length_set]; exact E.len, w, fun j d e => by
        by_cases h : i = j
        · subst h
          rw [List.getElem?_set_self (by obtain ⟨h1, _⟩ := List.getElem?_eq_some_iff.mp (locAt_some hk); exact h1)] at e
          cases e
          exact ⟨_, v1, by unfold Rep3; exact r⟩
        · rw [List.getElem?_set_ne h] at e
          obtain ⟨u, u1, u2⟩ := E.val j d e
          exact ⟨u, u1, u2.pre p⟩⟩
      exact ⟨_, _, _, o, S', E1, hf, q.pre p⟩
    · cases hf
  · cases hf⟩
theorem w_frz {i k : Nat} {ds : List D} {F : FZ} {δ : DE} {S : Sto} {QO : Ou → Sto → Prop} (hk : δ[i]? = some (some (.loc k))) (hS : S[k]? = some (.lst ds)) (h : W3 (F (δ.set i (some (.d (.lst ds)))) (S.set k .frz)) QO) : W3 (zFrz i F δ S) QO := by
  unfold zFrz
  have e1 : locAt δ i = some k := by unfold locAt; rw [hk]
  have e2 : lstAt S k = some ds := by unfold lstAt; simp only [hS]
  simp only [e1, e2]
  exact h
end
/-- a store without objects -/
def Flat (S : Sto) : Prop := ∀ o ∈ S, ∀ n, soOk n o = true
theorem Flat.all {S : Sto} (h : Flat S) (n : Nat) : (S.take n).all (soOk n) = true := List.all_eq_true.mpr fun o ho => h o (List.mem_of_mem_take ho) n
theorem Flat.set {S : Sto} (h : Flat S) (k : Nat) {x : SO} (hx : ∀ n, soOk n x = true) : Flat (S.set k x) := fun o ho => by
  rcases List.mem_or_eq_of_mem_set ho with z | z
  · exact h o z
  · rw [z]; exact hx
theorem Flat.push {S : Sto} (h : Flat S) {x : SO} (hx : ∀ n, soOk n x = true) : Flat (S ++ [x]) := fun o ho => by
  rcases List.mem_append.mp ho with z | z
  · exact h o z
  · rw [List.mem_singleton.mp z]; exact hx
theorem Flat.take {S : Sto} (h : Flat S) (n : Nat) : Flat (S.take n) := fun o ho => h o (List.mem_of_mem_take ho)
theorem Flat.nil : Flat [] := fun o ho => by cases ho
theorem w_PnF {N : List Str} {F : FZ} {vs : List V3} {S : Sto} {QV : V3 → Sto → Prop} (h : W3 (fnK N F vs S) fun v S1 => Flat S1 ∧ geOk S.length v = true ∧ ∃ d, res S1 v = some d ∧ QV (.d d) (S1.take S.length)) : W3 (fnP N F vs S) QV :=
  W3.bind (h.mono fun v S1 ⟨hl, hg, d, e, q⟩ => by
    rw [e]
    exact W3.wh (by rw [hl.all, hg]; rfl) (W3.ok q))
end L3

end
section
set_option maxRecDepth 100000
set_option maxHeartbeats 4000000
/-! ## tuple(range(n)) (own) -/
namespace PySem
open Sem (wp)
open AutoSeq1 (wpAny_loadPart')
section
variable {prog : Program} {w : World} {A : Around} {E : Value → Shared → Prop} {s : Shared}
end
end PySem
namespace L2
open PySem PySem.Spec PyProof.Rows
section
variable {X : Cx}
def eTupRng (f : FD) : FD := fun δ => (f δ).bind fun d => match d with
  | .int j => R.when (decide (-(2 ^ 62) ≤ j ∧ j < 16777216)) (.ok (.tup (rngD 0 j.toNat)))
  | _ => .no
end
end L2

end
section
set_option maxRecDepth 100000
set_option maxHeartbeats 4000000
/-! ## enumerate of a tuple (own) -/
namespace PySem
open Sem (wp)
open AutoSeq1 (wpAny_loadPart')
section
variable {prog : Program} {w : World} {A : Around} {E : Value → Shared → Prop} {s : Shared}
theorem nextOf_tup_item {it l : Addr} {i : Nat} {items : Array Value} {x : Value} {Q : Value → Shared → Prop} (hit : s.heap.IsTupleIter it l i) (hl : s.heap.IsTuple l items) (hx : items[i]? = some x)
    (hQ : ∀ h', h'.IsTupleIter it l (i + 1) → Heap.SameBut it s.heap h' → Q x { s with heap := h' }) : wpAny (model prog w) A (Builtin.SmallTypes.nextOf (.ref it)) Q E s := by
  obtain ⟨o, ho, hc, hd⟩ := id hit; obtain ⟨ol, hol, _, nl, hdl⟩ := hl
  unfold Builtin.SmallTypes.nextOf
  refine wpAny_bind (wpAny_callSpecial?_slot (name := Str.ofString "__next__") hit.typeIs F.slot_tuple_iterator_next (wpAny_call_entry F.slot_tuple_iterator_next hit.typeIs F.entry_tuple_iterator_next ?_ (F.args_tuple_iterator_next_1 _)))
  show wpAny _ _ (field (.ref it) 0 >>= _) _ _ s; refine wpAny_bind (wpAny_field ho hd (x := .ref l) rfl ?_)
  show wpAny _ _ (if (Value.ref l == Value.none) = true then _ else _) _ _ s; rw [if_neg (show ¬ ((Value.ref l == Value.none) = true) from Bool.false_ne_true)]
  show wpAny _ _ (field (.ref it) 1 >>= _) _ _ s; refine wpAny_bind (wpAny_field ho hd (x := .int i 0) rfl ?_)
  show wpAny _ _ (seqItems? (.ref l) >>= _) _ _ s; refine wpAny_bind (wpAny_seqItems hol hdl ?_)
  simp only [Int.toNat_natCast, hx]
  refine wpAny_bind (wpAny_setField ho hd (by simp) (wpAny_pure ⟨x, rfl, wpAny_pure (hQ _ ⟨_, Heap.get?_update_self _ ho (Obj.isFreed_of_fields (Obj.data_mapFields hd _)), (Obj.cls_mapFields ..).trans hc, by rw [Obj.data_mapFields hd]; simp [rawInt]⟩ (Heap.SameBut.update ..))⟩))
theorem nextOf_tup_end {it l : Addr} {i : Nat} {items : Array Value} {Q : Value → Shared → Prop} (hh : A.handled = none) (hit : s.heap.IsTupleIter it l i) (hl : s.heap.IsTuple l items) (hx : items[i]? = none)
    (hE : ∀ h' e, Heap.ExtBut it s.heap h' → (∃ o, h'.get? e = some o ∧ o.cls = .type "StopIteration") → E (.ref e) { s with heap := h' }) : wpAny (model prog w) A (Builtin.SmallTypes.nextOf (.ref it)) Q E s := by
  obtain ⟨o, ho, hc, hd⟩ := id hit; obtain ⟨ol, hol, _, nl, hdl⟩ := hl
  unfold Builtin.SmallTypes.nextOf
  refine wpAny_bind (wpAny_callSpecial?_slot (name := Str.ofString "__next__") hit.typeIs F.slot_tuple_iterator_next (wpAny_call_entry F.slot_tuple_iterator_next hit.typeIs F.entry_tuple_iterator_next ?_ (F.args_tuple_iterator_next_1 _)))
  show wpAny _ _ (field (.ref it) 0 >>= _) _ _ s; refine wpAny_bind (wpAny_field ho hd (x := .ref l) rfl ?_)
  show wpAny _ _ (if (Value.ref l == Value.none) = true then _ else _) _ _ s; rw [if_neg (show ¬ ((Value.ref l == Value.none) = true) from Bool.false_ne_true)]
  show wpAny _ _ (field (.ref it) 1 >>= _) _ _ s; refine wpAny_bind (wpAny_field ho hd (x := .int i 0) rfl ?_)
  show wpAny _ _ (seqItems? (.ref l) >>= _) _ _ s; refine wpAny_bind (wpAny_seqItems hol hdl ?_)
  simp only [Int.toNat_natCast, hx]
  refine wpAny_bind (wpAny_rule (wpAny_bind (wpAny_setField ho hd (by simp) ?_)))
  show wpAny _ _ (newExc (.type "StopIteration") [] >>= _) _ _ _; refine wpAny_bind ?_; simp only [newExc, newTuple]
  refine wpAny_bind (wpAny_newObj_type ?_ (by size_fits))
  refine wpAny_bind (m := firstArgMember _ _) (wpAny_of_eq (a := Value.none) (by first | rfl | (simp only [firstArgMember]; rfl)) ?_); refine wpAny_newObj_type ?_ (by size_fits)
  simp only [raiseNew]; refine wpAny_bind (wpAny_handled ?_)
  first | rw [show A.in1.handled = none from hh] | rw [hh]
  exact wpAny_bind (wpAny_pure (wpAny_throw (hE _ _ (((Heap.SameBut.update ..).extBut.push _).push _) ⟨_, Heap.get?_push_size _ rfl, rfl⟩)))
end
end PySem
namespace L2
open PySem PySem.Spec PyProof.Rows
def IteT (K : PySem.W.Frag) (a : Addr) : It :=
  ⟨fun i H => ∃ xs x, SqT K H a xs ∧ xs[i]? = some x, fun i H v H' => ∃ p x, H p = none ∧ v = .ref p ∧ (∀ xs, SqT K H a xs → xs[i]? = some x) ∧ H' = upd H p (.tup [.int i, x]), fun i H => ∃ xs, SqT K H a xs ∧ xs.length ≤ i⟩
section
variable {X : Cx}
def itEnumT (f : FD) : DEnv → R (List D) := fun δ => (f δ).bind fun d => match d with | .tup ds => .ok (enumD ds) | _ => .no
end
end L2

end
section
set_option maxRecDepth 100000
set_option maxHeartbeats 4000000
/-! ## // by great numbers, list * n, sorted, min and max of a list; list + list as a place, clear (own) -/
namespace L2
open PySem PySem.Spec PyProof.Rows
section
variable {X : Cx}
theorem op_fdivB : OpR X (binaryOp .FloorDiv) (rI (fun _ j => 0 < j ∧ j.natAbs.log2 < 9000) fun i j => .int (i / j)) := opI fun i j _ _ _ _ _ hc q => by
  have h1 : (0 : Int) < j := hc.1
  exact floordiv_int (by omega) (by rw [Int.fdiv_eq_ediv_of_nonneg i (by omega)]; exact q) (.inl (PyProof.noPylong_of_log2 hc.2))
abbrev dFdvB : D → D → R D := dII (fun _ j => decide (0 < j ∧ j.natAbs.log2 < 9000)) fun i j => i / j
theorem o_fdvB : OpD X (binaryOp .FloorDiv) dFdvB := op_II op_fdivB fun i j h => (of_decide_eq_true h : 0 < j ∧ j.natAbs.log2 < 9000)
/-! list * n, of a list that was made just now -/
def nRep (f : DEnv → R (List D)) (g : FD) : DEnv → R (List D) := fun δ => (f δ).bind fun ds => (g δ).bind fun d => match d with
  | .int k => R.when (decide (0 ≤ k ∧ k < 1000000 ∧ ds.length * k.toNat ≤ sizeLine)) (.ok (List.replicate k.toNat ds).flatten)
  | _ => .no
/-! sorted -/
def sortZ (ns : List Int) : List Int := ns.mergeSort fun a b => decide (a ≤ b)
def cSorted : List D → R D
  | [.lst ds] => (match ints? ds with | some ns => R.when (decide (ns.length < 64)) (.ok (.lst ((sortZ ns).map .int))) | none => .no)
  | _ => .no
/-! min and max of a list -/
def cMinL : List D → R D
  | [.lst ds] => (match ints? ds with | some (n :: ns) => .ok (.int (ns.foldl min n)) | _ => .no)
  | ds => cMin ds
def cMaxL : List D → R D
  | [.lst ds] => (match ints? ds with | some (n :: ns) => .ok (.int (ns.foldl max n)) | _ => .no)
  | ds => cMax ds
end
end L2
namespace L3
open PySem PySem.Spec PyProof.Rows L2
/-- the items of a list, of the store or not -/
def lsOf (S : Sto) : V3 → Option (List D)
  | .d (.lst ds) => some ds
  | .loc k => lstAt S k
  | _ => none
section
variable {X : Cx} {cl : Nat → Addr}
/-- xs + ys, a new list of the store -/
def xCat (fa fb : FX) : FX := fun δ S => (fa δ S).bind fun a S1 => (fb δ S1).bind fun b S2 => match lsOf S2 a, lsOf S2 b with
  | some ds, some es => R3.when (decide (ds.length + es.length ≤ sizeLine)) (.ok (.loc S2.length) (S2 ++ [.lst (ds ++ es)]))
  | _, _ => .no
/-- x.clear() -/
def zClr (i : Nat) : FZ := fun δ S => match locAt δ i with
  | none => .no
  | some k => (match lstAt S k with | some _ => .ok (.nx δ) (S.set k (.lst [])) | none => .no)
end
end L3

end
section
set_option maxRecDepth 100000
set_option maxHeartbeats 4000000
/-! ## THE STORE LAYER: own objects: fields, methods, making (own) -/
namespace L3
open PySem PySem.Spec PyProof.Rows L2
def insAt (S : Sto) (c k : Nat) : Option (List (Str × V3)) := match S[k]? with | some (.ins c' fs) => (if c' = c then some fs else none) | _ => none
theorem insAt_some {S : Sto} {c k : Nat} {fs : List (Str × V3)} (h : insAt S c k = some fs) : S[k]? = some (.ins c fs) := by
  unfold insAt at h
  split at h
  · rename_i c' fs' e
    split at h
    · rename_i hc; cases h; rw [e, hc]
    · cases h
  · cases h
theorem fld_get {K : PySem.W.Frag} {ρ : P3} {H : Hp} {f : Str} {v : V3} : ∀ {fs : List (Str × V3)} {ys : List (Str × V)}, ys.map (·.1) = fs.map (·.1) → Reps3 K ρ H (fs.map (·.2)) (ys.map (·.2)) → fs.lookup f = some v → ∃ x, ys.lookup f = some x ∧ Rep3 K ρ H v x
  | [], ys, _, _, h => by simp at h
  | (g, w) :: fs, [], e, _, _ => by simp at e
  | (g, w) :: fs, (g', y) :: ys, e, r, h => by
    obtain ⟨e1, e2'⟩ := List.cons.inj e
    have e1 : g' = g := e1
    subst e1
    obtain ⟨x, xs, ex, r1, r2⟩ := r.uncons
    cases ex
    rw [List.lookup_cons] at h ⊢
    cases hq : f == g' with
    | true => rw [hq] at h; cases h; exact ⟨y, rfl, r1⟩
    | false => rw [hq] at h; exact fld_get e2' r2 h
theorem fld_none {f : Str} : ∀ {fs : List (Str × V3)} {ys : List (Str × V)}, ys.map (·.1) = fs.map (·.1) → fs.lookup f = none → ys.lookup f = none
  | [], [], _, _ => rfl
  | [], _ :: _, e, _ => by simp at e
  | _ :: _, [], e, _ => by simp at e
  | (g, w) :: fs, (g', y) :: ys, e, h => by
    obtain ⟨e1, e2'⟩ := List.cons.inj e
    have e1 : g' = g := e1
    subst e1
    rw [List.lookup_cons] at h ⊢
    cases hq : f == g' with
    | true => rw [hq] at h; cases h
    | false => rw [hq] at h; exact fld_none e2' h
def putX (f : Str) (v : V3) : List (Str × V3) → List (Str × V3)
  | [] => [(f, v)]
  | (g, x) :: r => if g = f then (g, v) :: r else (g, x) :: putX f v r
theorem put_rep {K : PySem.W.Frag} {ρ : P3} {H : Hp} {f : Str} {v : V3} {u : V} (rv : Rep3 K ρ H v u) : ∀ {fs : List (Str × V3)} {ys : List (Str × V)}, ys.map (·.1) = fs.map (·.1) → Reps3 K ρ H (fs.map (·.2)) (ys.map (·.2)) →
    (putF f u ys).map (·.1) = (putX f v fs).map (·.1) ∧ Reps3 K ρ H ((putX f v fs).map (·.2)) ((putF f u ys).map (·.2))
  | [], [], _, _ => ⟨rfl, Reps3.cons rv Reps3.nil⟩
  | [], _ :: _, e, _ => by simp at e
  | _ :: _, [], e, _ => by simp at e
  | (g, w) :: fs, (g', y) :: ys, e, r => by
    obtain ⟨e1, e2'⟩ := List.cons.inj e
    have e1 : g' = g := e1
    subst e1
    obtain ⟨x, xs, ex, r1, r2⟩ := r.uncons
    cases ex
    unfold putX putF
    by_cases hg : g' = f
    · rw [if_pos hg, if_pos hg]
      exact ⟨by rw [List.map_cons, List.map_cons, e2'], Reps3.cons rv r2⟩
    · rw [if_neg hg, if_neg hg]
      obtain ⟨h1, h2⟩ := put_rep rv e2' r2
      exact ⟨by rw [List.map_cons, List.map_cons, h1], Reps3.cons r1 h2⟩
section
variable {X : Cx} {cl : Nat → Addr}
/-- e.f -/
def xFld (c : Nat) (f : Str) (g : FX) : FX := fun δ S => (g δ S).bind fun v S1 => match v with
  | .loc k => (match insAt S1 c k with | some fs => (match fs.lookup f with | some v => .ok v S1 | none => .no) | none => .no)
  | _ => .no
theorem px_fld {c : Nat} {e : Expr} {f : Str} {g : FX} {pos : Pos} (hC : Cls X.K (cl c)) (hn : NoAttr X.K (cl c) f) (he : PX X cl e g) (hb : attributeBase e f X.env (eval e X.env) = eval e X.env := by rfl) : PX X cl (.Attribute e f pos) (xFld c f g) := ⟨(pe_fld he.1 hb).imp fun σ H Q ⟨ρ, S, δ, v, S', E, hf, q⟩ => by
  obtain ⟨o, S1, h1, h2⟩ := R3.bind_ok hf
  split at h2
  · rename_i k
    split at h2
    · rename_i fs e1
      split at h2
      · rename_i w e2'
        cases h2
        refine ⟨ρ, S, δ, .loc k, _, E, h1, fun u ρ1 H1 p1 w1 r1 => ?_⟩
        unfold Rep3 at r1
        obtain ⟨a, a1, rfl⟩ := r1
        obtain ⟨dx, ys, ey, ek, rs⟩ := w1.ob k a _ a1 (insAt_some e1)
        obtain ⟨x, hx, rx⟩ := fld_get ek rs e2'
        exact ⟨a, cl c, dx, ys, x, rfl, ey, hC, hn, hx, q x ρ1 H1 p1 w1 rx⟩
      · cases h2
    · cases h2
  · cases h2⟩
theorem w_fld {c k : Nat} {f : Str} {g : FX} {δ : DE} {S : Sto} {Q : V3 → Sto → Prop} (h : W3 (g δ S) fun v S1 => ∃ fs w, v = .loc k ∧ S1[k]? = some (.ins c fs) ∧ fs.lookup f = some w ∧ Q w S1) : W3 (xFld c f g δ S) Q :=
  W3.bind (h.mono fun v S1 ⟨fs, w, e1, e2', e3, q⟩ => by
    subst e1
    have e4 : insAt S1 c k = some fs := by unfold insAt; simp only [e2', if_true]
    simp only [e4, e3]
    exact W3.ok q)
/-- o.m(..) -/
def MethX (P : Program) (w : World) (K : PySem.W.Frag) (mg : Str → Option Value) (base : Heap) (cl : Nat → Addr) (k c : Nat) (m : Str) (n : Nat) (g : List V3 → Sto → R3 V3) : Prop :=
  ∃ (f : Addr) (fd : FuncData) (ps : List Str), Cls K (cl c) ∧ Meth K (cl c) m f ∧ FnOk P w K mg base CX0 k f fd ps (spX K cl (n + 1) g) ∧ Binds K fd ps []
def xMeth (c : Nat) (m : Str) (g : List V3 → Sto → R3 V3) (fo : FX) (fs : FA) : FX := fun δ S => (fo δ S).bind fun o S1 => match o with
  | .loc k => (match insAt S1 c k with | some ys => (match ys.lookup m with | none => (fs δ S1).bind fun vs S2 => g (.loc k :: vs) S2 | some _ => .no) | none => .no)
  | _ => .no
theorem px_meth {g : List V3 → Sto → R3 V3} {k j n c : Nat} {m : Str} {o e : Expr} {es : List Expr} {fo : FX} {fs : FA} {apos pos : Pos} {pl : Sem Bool} (M : MethX X.prog X.w X.K X.mg X.base cl k c m n g) (hr : Room j X.A) (hkj : k ≤ j) (ho : PX X cl o fo) (ha : PXA X cl (e :: es) fs) (hn : ∀ δ S ds S', fs δ S = .ok ds S' → ds.length = n)
    (hst : starEach (e :: es) X.env = (false, eval e X.env) :: starEach es X.env := by rfl) (hpl : (backTo pos (starEach es X.env)).any (·.1) = false := by rfl)
    (ht : eval (.Call (.Attribute o m apos) (e :: es) [] pos) X.env = (do
      let ov ← eval o X.env
      standAt apos.atName
      let (f, first) ← holding [ov] (getMethod ov m pl)
      callWith pos f first (backTo pos (starEach (e :: es) X.env)) (backToKw pos (keywordEach [] X.env))) := by rfl) :
    PX X cl (.Call (.Attribute o m apos) (e :: es) [] pos) (xMeth c m g fo fs) := by
  obtain ⟨f, fd, ps, hC, hm, F, hb⟩ := M
  refine ⟨(pe_meth ho.1 hC hm F (hr.mono hkj) hb .nil pass0 ha.1 hst hpl ht).imp fun σ H Q ⟨ρ, S, δ, v, S', E, hf, q⟩ => ?_⟩
  obtain ⟨ov, S1, h1, h2⟩ := R3.bind_ok hf
  split at h2
  · rename_i kk
    split at h2
    · rename_i ys e1
      split at h2
      · rename_i e2'
        obtain ⟨vs, S2, h3, h4⟩ := R3.bind_ok h2
        refine ⟨ρ, S, δ, .loc kk, S1, E, h1, fun u ρ1 H1 p1 w1 r1 => ?_⟩
        have r1' := r1
        unfold Rep3 at r1
        obtain ⟨a, a1, rfl⟩ := r1
        obtain ⟨dx, zs, ey, ek, rs⟩ := w1.ob kk a _ a1 (insAt_some e1)
        refine ⟨a, dx, zs, rfl, ey, fld_none ek e2', ρ1, S1, δ, vs, S2, E.to p1 w1, h3, fun us ρ2 H2 p2 w2 r2 => ?_⟩
        show spX X.K cl (n + 1) g (V.ref a :: (us ++ [])) H2 Q E0
        rw [List.append_nil]
        exact ⟨by rw [List.length_cons, ← r2.length, hn δ S1 vs S2 h3], ρ2, S2, .loc kk :: vs, v, S', w2, Reps3.cons (r1'.pre p2) r2, h4, fun z ρ3 H3 p3 w3 r3 => q z ρ3 H3 (p1.trans (p2.trans p3)) w3 r3⟩
      · cases h2
    · cases h2
  · cases h2
/-- C(..) -/
def MakeX (P : Program) (w : World) (K : PySem.W.Frag) (mg : Str → Option Value) (base : Heap) (cl : Nat → Addr) (k c : Nat) (x : Str) (n : Nat) (g : List V3 → Sto → R3 V3) : Prop :=
  ∃ (f : Addr) (fd : FuncData) (ps : List Str), Mk K (cl c) f ∧ FnOk P w K mg base CX0 k f fd ps (spX K cl (n + 1) g) ∧ mg x = some (.ref (cl c)) ∧ Binds K fd ps []
def xMake (c : Nat) (g : List V3 → Sto → R3 V3) (fs : FA) : FX := fun δ S => (fs δ S).bind fun vs S1 => (g (.loc S1.length :: vs) (S1 ++ [.ins c []])).bind fun v S2 => match v with
  | .d .non => .ok (.loc S1.length) S2
  | _ => .no
theorem px_make {g : List V3 → Sto → R3 V3} {k j n c : Nat} {x : Str} {p pos : Pos} {e : Expr} {es : List Expr} {fs : FA} (M : MakeX X.prog X.w X.K X.mg X.base cl k c x n g) (hr : Room j X.A) (hkj : k + 1 ≤ j) (hg : Gl X x) (ha : PXA X cl (e :: es) fs) (hn : ∀ δ S ds S', fs δ S = .ok ds S' → ds.length = n)
    (hdb : (x == ("__debug__" : Str)) = false := by decide) (he : starEach (e :: es) X.env = (false, eval e X.env) :: starEach es X.env := by rfl) (hpl : (backTo pos (starEach es X.env)).any (·.1) = false := by rfl) :
    PX X cl (.Call (.Name x p) (e :: es) [] pos) (xMake c g fs) := by
  obtain ⟨f, fd, ps, M, F, hm, hb⟩ := M
  refine ⟨(pe_make M F (hr.mono hkj) hg hm hb .nil pass0 ha.1 hdb he hpl).imp fun σ H Q ⟨ρ, S, δ, v, S', E, hf, q⟩ => ?_⟩
  obtain ⟨vs, S1, h1, h2⟩ := R3.bind_ok hf
  obtain ⟨v0, S2, h3, h4⟩ := R3.bind_ok h2
  split at h4
  · cases h4
    refine ⟨ρ, S, δ, vs, S1, E, h1, fun us ρ1 H1 p1 w1 r1 xa dx hx hdx hne => ?_⟩
    have hx1 : upd H1 dx (.own xa) xa = none := by rw [upd_ne (fun z => hne z.symm)]; exact hx
    have sm : Same H1 (upd (upd H1 dx (.own xa)) xa (.ins (cl c) dx [])) := (same_upd hdx).trans (same_upd hx1)
    obtain ⟨w2, p2⟩ := w1.new (a := xa) (o := .ins c []) sm hx ⟨dx, [], upd_same, rfl, Reps3.nil⟩
    show spX X.K cl (n + 1) g (V.ref xa :: (us ++ [])) _ _ E0
    rw [List.append_nil]
    have rl : Rep3 X.K (ρ1.push xa) (upd (upd H1 dx (.own xa)) xa (.ins (cl c) dx [])) (.loc S1.length) (.ref xa) := by
      unfold Rep3
      exact ⟨xa, by show (ρ1.r ++ [xa])[_]? = _; rw [← w1.len, List.getElem?_append_right (Nat.le_refl _), Nat.sub_self]; rfl, rfl⟩
    exact ⟨by rw [List.length_cons, ← r1.length, hn δ S vs S1 h1], _, _, .loc S1.length :: vs, .d .non, _, w2, Reps3.cons rl (r1.pre p2), h3, fun z ρ3 H3 p3 w3 r3 => ⟨by unfold Rep3 Rep at r3; exact r3, q _ ρ3 H3 (p1.trans (p2.trans p3)) w3 (rl.pre p3)⟩⟩
  · cases h4
/-- o.f = e -/
def zFld (c : Nat) (f : Str) (fo fe : FX) : FZ := fun δ S => (fe δ S).bind fun v S1 => (fo δ S1).bind fun o S2 => match o with
  | .loc k => (match insAt S2 c k with | some fs => R3.when (decide (fs.length < 1000)) (.ok (.nx δ) (S2.set k (.ins c (putX f v fs)))) | none => .no)
  | _ => .no
theorem pz_fld {c : Nat} {o value : Expr} {f : Str} {fo fe : FX} {pos pos' : Pos} (hC : Cls X.K (cl c)) (hn : NoAttr X.K (cl c) f) (ho : PX X cl o fo) (he : PX X cl value fe) (hs : swapsWith value (some (.Attribute o f pos')) pos.line X.env = pure false := by rfl) :
    PZ X cl (.Assign [.Attribute o f pos'] value pos) (zFld c f fo fe) := ⟨(ps_fld ho.1 he.1 hs).imp fun D σ H ⟨ρ, S, δ, ou, S', E, hf, q⟩ => by
  obtain ⟨v, S1, h1, h2⟩ := R3.bind_ok hf
  obtain ⟨vo, S2, h3, h4⟩ := R3.bind_ok h2
  split at h4
  · rename_i k
    split at h4
    · rename_i fs e1
      obtain ⟨hl, h5⟩ := R3.when_ok h4
      cases h5
      refine ⟨ρ, S, δ, v, S1, E, h1, fun u ρ1 H1 p1 w1 r1 => ⟨ρ1, S1, δ, .loc k, S2, E.to p1 w1, h3, fun u2 ρ2 H2 p2 w2 r2 => ?_⟩⟩
      unfold Rep3 at r2
      obtain ⟨a, a1, rfl⟩ := r2
      obtain ⟨dx, ys, ey, ek, rs⟩ := w2.ob k a _ a1 (insAt_some e1)
      have hlen : ys.length = fs.length := by have := congrArg List.length ek; simpa using this
      obtain ⟨k1, k2⟩ := put_rep (f := f) (r1.pre p2) ek rs
      obtain ⟨w3, p3⟩ := w2.put (o := .ins c (putX f v fs)) (u := .ins (cl c) dx (putF f u ys)) a1 (w2.fz k a a1 (by rw [insAt_some e1]; intro h; cases h)) ⟨dx, _, rfl, k1, k2⟩
      exact ⟨a, cl c, dx, ys, rfl, ey, hC, hn, by rw [hlen]; exact of_decide_eq_true hl, q σ ρ2 _ (p1.trans (p2.trans p3)) (E.to (p1.trans (p2.trans p3)) w3)⟩
    · cases h4
  · cases h4⟩
theorem w_fldSet {c k : Nat} {f : Str} {fo fe : FX} {δ : DE} {S : Sto} {QO : Ou → Sto → Prop} (h : W3 (fe δ S) fun v S1 => W3 (fo δ S1) fun o S2 => ∃ fs, o = .loc k ∧ S2[k]? = some (.ins c fs) ∧ fs.length < 1000 ∧ QO (.nx δ) (S2.set k (.ins c (putX f v fs)))) : W3 (zFld c f fo fe δ S) QO :=
  W3.bind (h.mono fun v S1 h => W3.bind (h.mono fun o S2 ⟨fs, e1, e2', hl, q⟩ => by
    subst e1
    have e4 : insAt S2 c k = some fs := by unfold insAt; simp only [e2', if_true]
    simp only [e4]
    exact W3.wh (decide_eq_true hl) (W3.ok q)))
theorem w_meth {c k : Nat} {m : Str} {g : List V3 → Sto → R3 V3} {fo : FX} {fs : FA} {δ : DE} {S : Sto} {Q : V3 → Sto → Prop} (h : W3 (fo δ S) fun o S1 => ∃ ys, o = .loc k ∧ S1[k]? = some (.ins c ys) ∧ ys.lookup m = none ∧ W3 (fs δ S1) fun vs S2 => W3 (g (.loc k :: vs) S2) Q) : W3 (xMeth c m g fo fs δ S) Q :=
  W3.bind (h.mono fun o S1 ⟨ys, e1, e2', e3, h⟩ => by
    subst e1
    have e4 : insAt S1 c k = some ys := by unfold insAt; simp only [e2', if_true]
    simp only [e4, e3]
    exact W3.bind h)
theorem w_make {c : Nat} {g : List V3 → Sto → R3 V3} {fs : FA} {δ : DE} {S : Sto} {Q : V3 → Sto → Prop} (h : W3 (fs δ S) fun vs S1 => W3 (g (.loc S1.length :: vs) (S1 ++ [.ins c []])) fun v S2 => v = .d .non ∧ Q (.loc S1.length) S2) : W3 (xMake c g fs δ S) Q :=
  W3.bind (h.mono fun vs S1 h => W3.bind (h.mono fun v S2 ⟨e, q⟩ => by subst e; exact W3.ok q))
end
end L3

end
section
set_option maxRecDepth 100000
set_option maxHeartbeats 4000000
/-! ## zip of lists and tuples, isinstance of two types, range with step -1 (own) -/
namespace PySem
open Sem (wp)
def SqIt (t : Bool) (h : Heap) (i l : Addr) (k : Nat) : Prop := cond t (h.IsTupleIter i l k) (h.IsListIter i l k)
def SqOf (t : Bool) (h : Heap) (l : Addr) (xs : Array Value) : Prop := cond t (h.IsTuple l xs) (h.IsList l xs)
def itName (t : Bool) : String := cond t "tuple_iterator" "list_iterator"
theorem SqIt.at {t : Bool} {h h' : Heap} {i l : Addr} {k : Nat} (x : SqIt t h i l k) (e : ∀ o, h.get? i = some o → h'.get? i = some o) : SqIt t h' i l k := by
  cases t with
  | true => exact Heap.IsTupleIter.at x e
  | false => exact Heap.IsListIter.at x e
theorem SqOf.at {t : Bool} {h h' : Heap} {l : Addr} {xs : Array Value} (x : SqOf t h l xs) (e : ∀ o, h.get? l = some o → h'.get? l = some o) : SqOf t h' l xs := by
  cases t with
  | true => exact Heap.IsTuple.at x e
  | false => exact Heap.IsList.at x e
theorem SqIt.xb {t : Bool} {h h' : Heap} {i l b : Addr} {k : Nat} (x : SqIt t h i l k) (hs : Heap.ExtBut b h h') (hab : i ≠ b) : SqIt t h' i l k := x.at fun o e => hs i o hab e
theorem SqOf.xb {t : Bool} {h h' : Heap} {l b : Addr} {xs : Array Value} (x : SqOf t h l xs) (hs : Heap.ExtBut b h h') (hab : l ≠ b) : SqOf t h' l xs := x.at fun o e => hs l o hab e
theorem SqIt.ob {t : Bool} {h : Heap} {i l : Addr} {k : Nat} (x : SqIt t h i l k) : ∃ o, h.get? i = some o ∧ ∀ v, o.data ≠ .cell v := by
  cases t with
  | true => obtain ⟨o, e, _, d⟩ := x; exact ⟨o, e, fun v z => by rw [d] at z; cases z⟩
  | false => obtain ⟨o, e, _, d⟩ := x; exact ⟨o, e, fun v z => by rw [d] at z; cases z⟩
theorem SqOf.lt {t : Bool} {h : Heap} {l : Addr} {xs : Array Value} (x : SqOf t h l xs) : l < h.objs.size := by
  cases t with
  | true => obtain ⟨o, e, _⟩ := x; exact Heap.lt_size e
  | false => obtain ⟨o, e, _⟩ := x; exact Heap.lt_size e
theorem SqIt.lt {t : Bool} {h : Heap} {i l : Addr} {k : Nat} (x : SqIt t h i l k) : i < h.objs.size := let ⟨_, e, _⟩ := x.ob; Heap.lt_size e
section
variable {prog : Program} {w : World} {A : Around} {E : Value → Shared → Prop} {s : Shared}
theorem nextOf_sq_item {t : Bool} {it l : Addr} {i : Nat} {items : Array Value} {x : Value} {Q : Value → Shared → Prop} (hit : SqIt t s.heap it l i) (hl : SqOf t s.heap l items) (hx : items[i]? = some x)
    (hQ : ∀ h', SqIt t h' it l (i + 1) → Heap.SameBut it s.heap h' → Q x { s with heap := h' }) : wpAny (model prog w) A (Builtin.SmallTypes.nextOf (.ref it)) Q E s := by
  cases t with
  | true => exact nextOf_tup_item hit hl hx hQ
  | false => exact wpAny_nextOf_list_item hit hl hx hQ
theorem nextOf_sq_end {t : Bool} {it l : Addr} {i : Nat} {items : Array Value} {Q : Value → Shared → Prop} (hh : A.handled = none) (hit : SqIt t s.heap it l i) (hl : SqOf t s.heap l items) (hx : items[i]? = none)
    (hE : ∀ h' e, Heap.ExtBut it s.heap h' → (∃ o, h'.get? e = some o ∧ o.cls = .type "StopIteration") → E (.ref e) { s with heap := h' }) : wpAny (model prog w) A (Builtin.SmallTypes.nextOf (.ref it)) Q E s := by
  cases t with
  | true => exact nextOf_tup_end hh hit hl hx hE
  | false => exact wpAny_nextOf_list_end hh hit hl hx hE
theorem pyIter_sq {t : Bool} {l : Addr} {items : Array Value} {Q : Value → Shared → Prop} (hl : SqOf t s.heap l items)
    (hQ : Q (.ref s.heap.objs.size) { s with heap := s.heap.push { cls := .type (itName t), data := .fields #[.ref l, .int 0 0] } }) : wpAny (model prog w) A (pyIter (.ref l)) Q E s := by
  cases t with
  | true => exact wpAny_pyIter_tuple hl hQ
  | false => exact wpAny_pyIter_list hl hQ
theorem zipS_item {t u : Bool} {z TI TO i1 i2 l1 l2 : Addr} {k1 k2 : Nat} {xs ys : Array Value} {x y a b : Value} {Q : Value → Shared → Prop} (D : ZipApart z TI TO i1 i2 l1 l2) (hz : IsZip s.heap z TI TO .none) (hTI : IsPair s.heap TI (.ref i1) (.ref i2))
    (hTO : IsPair s.heap TO a b) (h1 : SqIt t s.heap i1 l1 k1) (h2 : SqIt u s.heap i2 l2 k2) (hl1 : SqOf t s.heap l1 xs) (hl2 : SqOf u s.heap l2 ys) (hx : xs[k1]? = some x) (hy : ys[k2]? = some y)
    (hQ : ∀ h', IsZip h' z TI TO (rawInt s.heap.objs.size) → IsPair h' TO x y → SqIt t h' i1 l1 (k1 + 1) → SqIt u h' i2 l2 (k2 + 1) → IsPair h' s.heap.objs.size x y → h'.objs.size = s.heap.objs.size + 1 → (∀ c o, c ≠ z → c ≠ TO → c ≠ i1 → c ≠ i2 → s.heap.get? c = some o → h'.get? c = some o) → Q (.ref s.heap.objs.size) { s with heap := h' }) :
    wpAny (model prog w) A (Builtin.«zip.__next__» ⟨[.ref z], []⟩) (fun fin s' => ∃ v, fin = .done (.ret v) ∧ Q v s') E s := by
  show wpAny _ _ (field (.ref z) 2 >>= _) _ _ _; refine wpAny_bind (wpAny_field hz rfl (x := .bool false) rfl ?_); show wpAny _ _ (field (.ref z) 3 >>= _) _ _ _
  refine wpAny_bind (wpAny_field hz rfl (x := .ref TI) rfl ?_); refine wpAny_bind (wpAny_seqItems hTI rfl ?_); show wpAny _ _ (Builtin.SmallTypes.ownedTupleIsFree (.ref z) >>= _) _ _ _
  refine wpAny_bind ?_; unfold Builtin.SmallTypes.ownedTupleIsFree; refine wpAny_bind (wpAny_field hz rfl (x := .none) rfl (wpAny_pure ?_)); simp only [if_true]
  refine wpAny_bind (wpAny_rule ?_); refine wpAny_bind (wpAny_field hz rfl (x := .ref TO) rfl ?_); refine wpAny_bind (wpAny_setField_rec hz (by simp) fun h₁ hz₁ hs₁ => ?_)
  replace hz₁ : IsZip h₁ z TI TO .ellipsis := hz₁; refine wpAny_bind ?_; simp only [List.zipIdx_cons, List.zipIdx_nil, List.forIn_cons, List.forIn_nil]
  refine wpAny_bind (wpAny_bind (wpAny_onRaise ?_)); show wpAny _ _ (Builtin.SmallTypes.nextOf (.ref i1) >>= _) _ _ _
  refine wpAny_bind (nextOf_sq_item (h1.xb hs₁.extBut D.i1z) (hl1.xb hs₁.extBut D.l1z) hx fun h₂ h1₂ hs₂ => wpAny_pure ?_)
  have hTO₂ : IsPair h₂ TO a b := hs₂.extBut _ _ D.TOi1 (hs₁.extBut _ _ D.TOz hTO); refine wpAny_bind (wpAny_seqItems hTO₂ rfl ?_); refine wpAny_bind (wpAny_updateSeq_pair hTO₂ fun h₃ hTO₃ hs₃ => ?_)
  replace hTO₃ : IsPair h₃ TO x b := hTO₃; refine wpAny_bind (wpAny_letGo (wpAny_pure ?_)); refine wpAny_bind (wpAny_bind (wpAny_onRaise ?_)); show wpAny _ _ (Builtin.SmallTypes.nextOf (.ref i2) >>= _) _ _ _
  refine wpAny_bind (nextOf_sq_item (((h2.xb hs₁.extBut D.i2z).xb hs₂.extBut D.i12.symm).xb hs₃.extBut D.TOi2.symm) (((hl2.xb hs₁.extBut D.l2z).xb hs₂.extBut D.l2i1).xb hs₃.extBut D.l2TO) hy fun h₄ h2₄ hs₄ => wpAny_pure ?_)
  have hTO₄ : IsPair h₄ TO x b := hs₄.extBut _ _ D.TOi2 hTO₃; refine wpAny_bind (wpAny_seqItems hTO₄ rfl ?_); refine wpAny_bind (wpAny_updateSeq_pair hTO₄ fun h₅ hTO₅ hs₅ => ?_)
  replace hTO₅ : IsPair h₅ TO x y := hTO₅; refine wpAny_bind (wpAny_letGo (wpAny_pure (wpAny_pure ?_))); refine wpAny_bind (wpAny_seqItems hTO₅ rfl ?_); refine wpAny_bind (wpAny_newTuple ?_)
  have hsz : h₅.objs.size = s.heap.objs.size := (hs₅.1.trans (hs₄.1.trans (hs₃.1.trans (hs₂.1.trans hs₁.1))))
  have hz₅ : IsZip h₅ z TI TO .ellipsis := hs₅.extBut _ _ D.TOz.symm <| hs₄.extBut _ _ D.i2z.symm <| hs₃.extBut _ _ D.TOz.symm <| hs₂.extBut _ _ D.i1z.symm hz₁
  have hk₅ : ∀ c o, c ≠ z → c ≠ TO → c ≠ i1 → c ≠ i2 → s.heap.get? c = some o → h₅.get? c = some o := fun c o c1 c2 c3 c4 e => hs₅.extBut _ _ c2 <| hs₄.extBut _ _ c4 <| hs₃.extBut _ _ c2 <| hs₂.extBut _ _ c3 <| hs₁.extBut _ _ c1 e
  have h1₅ : SqIt t h₅ i1 l1 (k1 + 1) := ((h1₂.xb hs₃.extBut D.TOi1.symm).xb hs₄.extBut D.i12).xb hs₅.extBut D.TOi1.symm
  have h2₅ : SqIt u h₅ i2 l2 (k2 + 1) := h2₄.xb hs₅.extBut D.TOi2.symm
  have hzlt := Heap.lt_size hz₅
  show wpAny _ _ (Builtin.SmallTypes.ownedTupleHandOut (.ref z) (.ref h₅.objs.size) >>= _) _ _ _; refine wpAny_bind ?_; unfold Builtin.SmallTypes.ownedTupleHandOut
  have hz₆ : IsZip (h₅.push { cls := .type "tuple", data := .seq #[x, y] }) z TI TO .ellipsis := Heap.get?_push_of_some _ hz₅; refine wpAny_bind (wpAny_setField_rec hz₆ (by simp) fun h₇ hz₇ hs₇ => ?_)
  replace hz₇ : IsZip h₇ z TI TO (rawInt h₅.objs.size) := hz₇; refine wpAny_setField_rec hz₇ (by simp) fun h₈ hz₈ hs₈ => ?_; replace hz₈ : IsZip h₈ z TI TO (rawInt h₅.objs.size) := hz₈
  have up : ∀ c o, c ≠ z → h₅.get? c = some o → h₈.get? c = some o := fun c o c1 e => hs₈.extBut _ _ c1 <| hs₇.extBut _ _ c1 (Heap.get?_push_of_some _ e)
  have hT₈ : IsPair h₈ h₅.objs.size x y := hs₈.extBut _ _ (Nat.ne_of_gt hzlt) <| hs₇.extBut _ _ (Nat.ne_of_gt hzlt) (Heap.get?_push_size _ rfl)
  have hz8 : h₈.objs.size = h₅.objs.size + 1 := (hs₈.1.trans hs₇.1).trans (Heap.size_push ..)
  rw [hsz] at hz₈ hT₈ hz8; refine wpAny_pure ⟨_, rfl, ?_⟩; show Q (.ref h₅.objs.size) _; rw [hsz]
  exact hQ h₈ hz₈ (up _ _ D.TOz hTO₅) (h1₅.at fun o e => up _ o D.i1z e) (h2₅.at fun o e => up _ o D.i2z e) hT₈ hz8 fun c o c1 c2 c3 c4 e => up c o c1 (hk₅ c o c1 c2 c3 c4 e)
theorem zipS_end {t u : Bool} {z TI TO i1 i2 l1 l2 : Addr} {k1 k2 : Nat} {xs ys : Array Value} {a b : Value} {Q : Fin → Shared → Prop} (hh : A.handled = none) (D : ZipApart z TI TO i1 i2 l1 l2) (hz : IsZip s.heap z TI TO .none)
    (hTI : IsPair s.heap TI (.ref i1) (.ref i2)) (hTO : IsPair s.heap TO a b) (h1 : SqIt t s.heap i1 l1 k1) (h2 : SqIt u s.heap i2 l2 k2) (hl1 : SqOf t s.heap l1 xs) (hl2 : SqOf u s.heap l2 ys) (hend : xs[k1]? = none ∨ ys[k2]? = none)
    (hE : ∀ h' e, (∀ c o, c ≠ z → c ≠ TO → c ≠ i1 → c ≠ i2 → s.heap.get? c = some o → h'.get? c = some o) → (∃ o, h'.get? e = some o ∧ o.cls = .type "StopIteration") → E (.ref e) { s with heap := h' }) : wpAny (model prog w) A (Builtin.«zip.__next__» ⟨[.ref z], []⟩) Q E s := by
  show wpAny _ _ (field (.ref z) 2 >>= _) _ _ _; refine wpAny_bind (wpAny_field hz rfl (x := .bool false) rfl ?_); show wpAny _ _ (field (.ref z) 3 >>= _) _ _ _
  refine wpAny_bind (wpAny_field hz rfl (x := .ref TI) rfl ?_); refine wpAny_bind (wpAny_seqItems hTI rfl ?_); show wpAny _ _ (Builtin.SmallTypes.ownedTupleIsFree (.ref z) >>= _) _ _ _
  refine wpAny_bind ?_; unfold Builtin.SmallTypes.ownedTupleIsFree; refine wpAny_bind (wpAny_field hz rfl (x := .none) rfl (wpAny_pure ?_)); simp only [if_true]
  refine wpAny_bind (wpAny_rule ?_); refine wpAny_bind (wpAny_field hz rfl (x := .ref TO) rfl ?_); refine wpAny_bind (wpAny_setField_rec hz (by simp) fun h₁ hz₁ hs₁ => ?_)
  replace hz₁ : IsZip h₁ z TI TO .ellipsis := hz₁; refine wpAny_bind ?_; simp only [List.zipIdx_cons, List.zipIdx_nil, List.forIn_cons, List.forIn_nil]
  refine wpAny_bind (wpAny_bind (wpAny_onRaise ?_)); show wpAny _ _ (Builtin.SmallTypes.nextOf (.ref i1) >>= _) _ _ _
  cases hx : xs[k1]? with
  | none =>
    refine wpAny_bind (nextOf_sq_end hh (h1.xb hs₁.extBut D.i1z) (hl1.xb hs₁.extBut D.l1z) hx fun h₂ e hs₂ he => ?_)
    obtain ⟨oe, hoe, hce⟩ := he; have hz₂ : IsZip h₂ z TI TO .ellipsis := hs₂ _ _ D.i1z.symm hz₁
    have hez : e ≠ z := fun x => by { subst x; rw [hz₂] at hoe; cases hoe; simp at hce }
    exact wpAny_setField_rec hz₂ (by simp) fun h₃ _ hs₃ => hE h₃ e (fun c o c1 _ c3 _ x => hs₃.extBut _ _ c1 <| hs₂ _ _ c3 <| hs₁.extBut _ _ c1 x) ⟨oe, hs₃.extBut _ _ hez hoe, hce⟩
  | some x =>
    have hy : ys[k2]? = none := hend.resolve_left fun h => by { rw [hx] at h; cases h }
    refine wpAny_bind (nextOf_sq_item (h1.xb hs₁.extBut D.i1z) (hl1.xb hs₁.extBut D.l1z) hx fun h₂ h1₂ hs₂ => wpAny_pure ?_)
    have hTO₂ : IsPair h₂ TO a b := hs₂.extBut _ _ D.TOi1 (hs₁.extBut _ _ D.TOz hTO); refine wpAny_bind (wpAny_seqItems hTO₂ rfl ?_); refine wpAny_bind (wpAny_updateSeq_pair hTO₂ fun h₃ hTO₃ hs₃ => ?_)
    refine wpAny_bind (wpAny_letGo (wpAny_pure ?_)); refine wpAny_bind (wpAny_bind (wpAny_onRaise ?_)); show wpAny _ _ (Builtin.SmallTypes.nextOf (.ref i2) >>= _) _ _ _
    refine wpAny_bind (nextOf_sq_end hh (((h2.xb hs₁.extBut D.i2z).xb hs₂.extBut D.i12.symm).xb hs₃.extBut D.TOi2.symm) (((hl2.xb hs₁.extBut D.l2z).xb hs₂.extBut D.l2i1).xb hs₃.extBut D.l2TO) hy fun h₄ e hs₄ he => ?_)
    obtain ⟨oe, hoe, hce⟩ := he; have hz₄ : IsZip h₄ z TI TO .ellipsis := hs₄ _ _ D.i2z.symm <| hs₃.extBut _ _ D.TOz.symm <| hs₂.extBut _ _ D.i1z.symm hz₁
    have hez : e ≠ z := fun x => by { subst x; rw [hz₄] at hoe; cases hoe; simp at hce }
    exact wpAny_setField_rec hz₄ (by simp) fun h₅ _ hs₅ => hE h₅ e (fun c o c1 c2 c3 c4 x => hs₅.extBut _ _ c1 <| hs₄ _ _ c4 <| hs₃.extBut _ _ c2 <| hs₂.extBut _ _ c3 <| hs₁.extBut _ _ c1 x) ⟨oe, hs₅.extBut _ _ hez hoe, hce⟩
end
abbrev zs1 (t : Bool) (h : Heap) (l1 : Addr) : Heap := h.push { cls := .type (itName t), data := .fields #[.ref l1, .int 0 0] }
abbrev zs2 (t u : Bool) (h : Heap) (l1 l2 : Addr) : Heap := (zs1 t h l1).push { cls := .type (itName u), data := .fields #[.ref l2, .int 0 0] }
abbrev zs3 (t u : Bool) (h : Heap) (l1 l2 : Addr) : Heap := (zs2 t u h l1 l2).push { cls := .type "tuple", data := .seq #[.ref h.objs.size, .ref (zs1 t h l1).objs.size] }
abbrev zs4 (t u : Bool) (h : Heap) (l1 l2 : Addr) : Heap := (zs3 t u h l1 l2).push { cls := .type "tuple", data := .seq #[.none, .none] }
abbrev zs5 (t u : Bool) (h : Heap) (l1 l2 : Addr) : Heap := (zs4 t u h l1 l2).push { cls := .type "zip", data := .fields #[.none, .bool false, .bool false, .ref (zs2 t u h l1 l2).objs.size, .ref (zs3 t u h l1 l2).objs.size] }
theorem meets_zipS (t u : Bool) (l1 l2 : Addr) (xs ys : Array Value) : Meets (Builtin.«zip.__new__» ⟨[.type "zip", .ref l1, .ref l2], []⟩) (fun _ R s => SqOf t s.heap l1 xs ∧ SqOf u s.heap l2 ys ∧ R (.ok (.ret (.ref (zs4 t u s.heap l1 l2).objs.size))) { s with heap := zs5 t u s.heap l1 l2 }) :=
  .of_wp fun prog w A R s h => by
    obtain ⟨hp, g, d, tk, os⟩ := s
    obtain ⟨hl1, hl2, h⟩ := h; have hsub := sub_zip
    have hL1 : SqOf t (Shared.heap ⟨hp, g, d, tk, os⟩) l1 xs := hl1
    have hL2 : SqOf u (Shared.heap ⟨hp.push { cls := .type (itName t), data := .fields #[.ref l1, .int 0 0] }, g, d, tk, os⟩) l2 ys := hl2.at fun o e => Heap.get?_push_of_some _ e
    wp_walk using pyIter_sq hL1, pyIter_sq hL2
    exact ⟨_, rfl, h⟩
theorem SqIt.new {t : Bool} {h : Heap} {i l : Addr} (e : h.get? i = some { cls := .type (itName t), data := .fields #[.ref l, .int 0 0] }) : SqIt t h i l 0 := by
  cases t with
  | true => exact ⟨_, e, rfl, rfl⟩
  | false => exact ⟨_, e, rfl, rfl⟩
theorem call_zipS {prog : Program} {w : World} {A : Around} {E : Value → Shared → Prop} {s : Shared} {t u : Bool} {l1 l2 : Addr} {xs ys : Array Value} {Q : Value → Shared → Prop} (hl1 : SqOf t s.heap l1 xs) (hl2 : SqOf u s.heap l2 ys)
    (h : ∀ h', IsZip h' (s.heap.objs.size + 4) (s.heap.objs.size + 2) (s.heap.objs.size + 3) .none → IsPair h' (s.heap.objs.size + 2) (.ref s.heap.objs.size) (.ref (s.heap.objs.size + 1)) → IsPair h' (s.heap.objs.size + 3) .none .none →
      SqIt t h' s.heap.objs.size l1 0 → SqIt u h' (s.heap.objs.size + 1) l2 0 → (∀ c o, s.heap.get? c = some o → h'.get? c = some o) → Q (.ref (s.heap.objs.size + 4)) { s with heap := h' }) : wpAny (model prog w) A (call (.type "zip") [.ref l1, .ref l2]) Q E s := by
  refine callType_new F.called_zip (by decide) (F.typeCall_zip_2 _ _) (F.newCall_zip_2 _ _) (fun obj => F.args_object_init_3 obj _ _) F.entry_zip_new (meets_zipS t u l1 l2 xs ys) ⟨hl1, hl2, ?_⟩
  have z1 : (zs1 t s.heap l1).objs.size = s.heap.objs.size + 1 := Heap.size_push ..
  have z2 : (zs2 t u s.heap l1 l2).objs.size = s.heap.objs.size + 2 := (Heap.size_push ..).trans (congrArg (· + 1) z1)
  have z3 : (zs3 t u s.heap l1 l2).objs.size = s.heap.objs.size + 3 := (Heap.size_push ..).trans (congrArg (· + 1) z2)
  have z4 : (zs4 t u s.heap l1 l2).objs.size = s.heap.objs.size + 4 := (Heap.size_push ..).trans (congrArg (· + 1) z3)
  have g5 : (zs5 t u s.heap l1 l2).get? (zs4 t u s.heap l1 l2).objs.size = some _ := Heap.get?_push_size _ rfl
  have g4 : (zs5 t u s.heap l1 l2).get? (zs3 t u s.heap l1 l2).objs.size = some _ := Heap.get?_push_of_some _ (Heap.get?_push_size _ rfl)
  have g3 : (zs5 t u s.heap l1 l2).get? (zs2 t u s.heap l1 l2).objs.size = some _ := Heap.get?_push_of_some _ <| Heap.get?_push_of_some _ (Heap.get?_push_size _ rfl)
  have g2 : (zs5 t u s.heap l1 l2).get? (zs1 t s.heap l1).objs.size = some _ := Heap.get?_push_of_some _ <| Heap.get?_push_of_some _ <| Heap.get?_push_of_some _ (Heap.get?_push_size _ rfl)
  have g1 : (zs5 t u s.heap l1 l2).get? s.heap.objs.size = some _ := Heap.get?_push_of_some _ <| Heap.get?_push_of_some _ <| Heap.get?_push_of_some _ <| Heap.get?_push_of_some _ (Heap.get?_push_size _ rfl)
  show _ ∧ _
  rw [z2, z3, z4] at g5; rw [z1, z2] at g3; rw [z3] at g4; rw [z1] at g2; rw [z4]
  exact ⟨⟨_, g5, rfl⟩, h _ g5 g3 g4 (SqIt.new g1) (SqIt.new g2) fun c o x => Heap.get?_push_of_some _ <| Heap.get?_push_of_some _ <| Heap.get?_push_of_some _ <| Heap.get?_push_of_some _ <| Heap.get?_push_of_some _ x⟩
end PySem
namespace L2
open PySem PySem.Spec PyProof.Rows
def SqX (t : Bool) (K : PySem.W.Frag) (H : Hp) (a : Addr) (xs : List V) : Prop := cond t (SqT K H a xs) (SqL K H a xs)
theorem Inv.sqx {X : Cx} {pins : List (Addr × Obj)} {σ : L2.St} {H : Hp} {s : Shared} {t : Bool} {a : Addr} {xs : List V} (I : Inv X pins σ H s) (h : SqX t X.K H a xs) : ∃ its : List Value, Vals xs its ∧ SqOf t s.heap a its.toArray := by
  cases t with
  | true => obtain ⟨its, r, p, _⟩ := I.tuple h; exact ⟨its, r, p⟩
  | false => obtain ⟨its, r, p, _⟩ := I.list h; exact ⟨its, r, p.isList⟩
theorem Inv.sqx_inj {X : Cx} {pins : List (Addr × Obj)} {σ : L2.St} {H : Hp} {s : Shared} {t : Bool} {a : Addr} {xs ys : List V} (I : Inv X pins σ H s) (h : SqX t X.K H a xs) (h' : SqX t X.K H a ys) : xs = ys := by
  cases t with
  | true => exact I.tuple_inj h h'
  | false => exact I.list_inj h h'
def Itz (K : PySem.W.Frag) (t u : Bool) (a b : Addr) : It :=
  ⟨fun i H => ∃ xs ys x y, SqX t K H a xs ∧ SqX u K H b ys ∧ xs[i]? = some x ∧ ys[i]? = some y,
   fun i H v H' => ∃ p x y, H p = none ∧ v = .ref p ∧ (∀ xs, SqX t K H a xs → xs[i]? = some x) ∧ (∀ ys, SqX u K H b ys → ys[i]? = some y) ∧ H' = upd H p (.tup [x, y]),
   fun i H => ∃ xs ys, SqX t K H a xs ∧ SqX u K H b ys ∧ (xs.length ≤ i ∨ ys.length ≤ i)⟩
theorem turn_zip {P : Program} {w : World} {K : PySem.W.Frag} {elts : List Expr} {k : Nat} {pos : Pos} {t u : Bool} {z TI TO i1 i2 a b : Addr} (D : ZipApart z TI TO i1 i2 a b) : Turn P w K (.Tuple elts k pos) (Itz K t u a b) [z, TI, TO, i1, i2] z
    (fun i h => IsZip h z TI TO .none ∧ IsPair h TI (.ref i1) (.ref i2) ∧ (∃ x y, IsPair h TO x y) ∧ SqIt t h i1 a i ∧ SqIt u h i2 b i) where
  mem := by simp
  obj := fun i h st c hc => by
    obtain ⟨hz, hTI, ⟨x, y, hTO⟩, h1, h2⟩ := st
    simp only [List.mem_cons, List.not_mem_nil, or_false] at hc
    rcases hc with rfl | rfl | rfl | rfl | rfl
    · exact ⟨_, hz, fun v z => by cases z⟩
    · exact ⟨_, hTI, fun v z => by cases z⟩
    · exact ⟨_, hTO, fun v z => by cases z⟩
    · exact h1.ob
    · exact h2.ob
  keep := fun i h h' st k => by
    obtain ⟨hz, hTI, ⟨x, y, hTO⟩, h1, h2⟩ := st
    exact ⟨k z (by simp) _ hz, k TI (by simp) _ hTI, ⟨x, y, k TO (by simp) _ hTO⟩, h1.at fun o e => k i1 (by simp) o e, h2.at fun o e => k i2 (by simp) o e⟩
  item := by
    intro X hP hw hK hc i pins s σ H E I hf st hg
    subst hP hw hK
    obtain ⟨xs, ys, x, y, hq, hr, hx, hy⟩ := hg
    obtain ⟨its, rv, p⟩ := I.sqx hq
    obtain ⟨jts, rw', p'⟩ := I.sqx hr
    obtain ⟨ux, hu, ru⟩ := rv.get hx
    obtain ⟨uy, hu', ru'⟩ := rw'.get hy
    obtain ⟨hz, hTI, ⟨a0, b0, hTO⟩, h1, h2⟩ := st
    have hT : s.TypeIs (.ref z) "zip" := ⟨_, hz, rfl⟩
    unfold pyNext
    refine wpAny_bind (wpAny_attempt (wpAny_callSpecial?_slot (name := Str.ofString "__next__") hT F.slot_zip_next (wpAny_call_entry F.slot_zip_next hT F.entry_zip_next (zipS_item D hz hTI hTO h1 h2 p p' (x := ux) (y := uy) (by simpa using hu) (by simpa using hu') fun h₁ a1 a2 a3 a4 a5 a6 hk₁ => wpAny_pure ?_) (F.args_zip_next_1 _))))
    refine ⟨_, rfl, wpAny_letOwnedTupleGo_zip a1 fun h₂ hz₂ hs₂ => ?_⟩
    replace hs₂ : Heap.SameBut z h₁ h₂ := hs₂
    have hzl : z < s.heap.objs.size := Heap.lt_size hz
    have ht₂ : h₂.get? s.heap.objs.size = some { cls := .type "tuple", data := .seq #[ux, uy] } := (hs₂.2 _ (Nat.ne_of_gt hzl)).trans a5
    have kk : ∀ b o, b ≠ z → b ≠ TO → b ≠ i1 → b ≠ i2 → s.heap.get? b = some o → h₂.get? b = some o := fun b o c1 c2 c3 c4 q => (hs₂.2 b c1).trans (hk₁ b o c1 c2 c3 c4 q)
    have hn : H s.heap.objs.size = none := I.fresh
    have sm : Same H (upd H s.heap.objs.size (.tup [x, y])) := same_upd hn
    have f0 : ∀ c ∈ [z, TI, TO, i1, i2], H c = none := fun c hc => (hf c hc).1
    have nit : ∀ b o, H b = some o → b ≠ z ∧ b ≠ TO ∧ b ≠ i1 ∧ b ≠ i2 := fun b o q => by
      refine ⟨fun e => ?_, fun e => ?_, fun e => ?_, fun e => ?_⟩
      · rw [e, f0 z (by simp)] at q; cases q
      · rw [e, f0 TO (by simp)] at q; cases q
      · rw [e, f0 i1 (by simp)] at q; cases q
      · rw [e, f0 i2 (by simp)] at q; cases q
    have kH : ∀ b o q, H b = some q → s.heap.get? b = some o → h₂.get? b = some o := fun b o q hb e => let ⟨c1, c2, c3, c4⟩ := nit b q hb; kk b o c1 c2 c3 c4 e
    have hok : HOk X.prog X.w (upd H s.heap.objs.size (.tup [x, y])) h₂ := fun b ob q => by
      by_cases hb : b = s.heap.objs.size
      · subst hb
        rw [upd_same] at q
        cases q
        exact ⟨by show 2 ≤ sizeLine; decide, [ux, uy], .cons ru (.cons ru' .nil), ⟨_, ht₂, rfl, _, rfl⟩⟩
      · rw [upd_ne hb] at q
        refine (I.hok b ob q).stay (fun c v hc e => ?_) (fun c e => sm c _ e) fun c ys e => sm c _ e
        rcases hc with rfl | hc
        · exact kH c v _ q e
        · exact kH c v _ hc e
    have nch : ∀ b, b ∉ [z, TI, TO, i1, i2] → b ≠ z ∧ b ≠ TO ∧ b ≠ i1 ∧ b ≠ i2 := fun b hb => ⟨fun e => hb (by simp [e]), fun e => hb (by simp [e]), fun e => hb (by simp [e]), fun e => hb (by simp [e])⟩
    have kc : ∀ b o, b ∉ [z, TI, TO, i1, i2] → s.heap.get? b = some o → h₂.get? b = some o := fun b o hb e => let ⟨c1, c2, c3, c4⟩ := nch b hb; kk b o c1 c2 c3 c4 e
    have I2 : Inv X pins σ (upd H s.heap.objs.size (.tup [x, y])) { s with heap := h₂, toks := s.toks } := by
      refine I.step (g' := s.gens) (d' := s.drawn) (ch := [z, TI, TO, i1, i2]) (fun b hb => ?_) (fun b o _ _ hb q _ => kc b o hb q) (fun b o _ _ hb q _ => ⟨o.slots, kc b o hb q⟩)
        (fun b o hb q n => by rw [upd_ne (Nat.ne_of_lt (Heap.lt_size q))]; exact n) (fun b o hb q => ⟨o, kc b o hb q⟩) (fun b ys e => sm b _ e) (fun b o u e => sm b _ e) (fun b ps e => ⟨#[], by rw [sm b _ e]; simp⟩) (fun m hm => ?_) hok I.bare
      · obtain ⟨g0, g1, g2, g3, g4, g5⟩ := hf b hb
        exact ⟨g3, g1, g4, g5⟩
      · obtain ⟨o, es, ep, ho, r⟩ := hm
        refine ⟨o, es, ep, kc _ o (fun hb => ?_) ho, r⟩
        exact (hf _ hb).2.1 rfl
    have up : ∀ c, c ≠ z → ∀ o, h₁.get? c = some o → h₂.get? c = some o := fun c hc o e => (hs₂.2 c hc).trans e
    refine ⟨.ref s.heap.objs.size, _, I2, rfl, ⟨s.heap.objs.size, x, y, hn, rfl, fun zs hy' => (by rw [I.sqx_inj hy' hq]; exact hx), fun zs hy' => (by rw [I.sqx_inj hy' hr]; exact hy), rfl⟩,
      ⟨hz₂, up _ D.TIz _ (hk₁ TI _ D.TIz D.TITO D.TIi1 D.TIi2 hTI), ⟨_, _, up _ D.TOz _ a2⟩, a3.at fun o e => up _ D.i1z o e, a4.at fun o e => up _ D.i2z o e⟩, fun c hc => ?_⟩
    have hlt : c < s.heap.objs.size := by
      simp only [List.mem_cons, List.not_mem_nil, or_false] at hc
      rcases hc with rfl | rfl | rfl | rfl | rfl
      · exact hzl
      · exact Heap.lt_size hTI
      · exact Heap.lt_size hTO
      · exact h1.lt
      · exact h2.lt
    rw [upd_ne (Nat.ne_of_lt hlt)]
    exact f0 c hc
  done := by
    intro X hP hw hK hc i pins s σ H E I hf st hg
    subst hP hw hK
    obtain ⟨xs, ys, hq, hr, hl⟩ := hg
    obtain ⟨its, rv, p⟩ := I.sqx hq
    obtain ⟨jts, rw', p'⟩ := I.sqx hr
    obtain ⟨hz, hTI, ⟨a0, b0, hTO⟩, h1, h2⟩ := st
    have hT : s.TypeIs (.ref z) "zip" := ⟨_, hz, rfl⟩
    have l1 := rv.length
    have l2 := rw'.length
    unfold pyNext
    refine wpAny_bind (wpAny_attempt (wpAny_callSpecial?_slot (name := Str.ofString "__next__") hT F.slot_zip_next (wpAny_call_entry F.slot_zip_next hT F.entry_zip_next (zipS_end (I.ok.hd hc) D hz hTI hTO h1 h2 p p' ?_ fun h' e hk he => ?_) (F.args_zip_next_1 _))))
    · rcases hl with hl | hl
      · exact .inl (by simp; omega)
      · exact .inr (by simp; omega)
    obtain ⟨o, ho, hcl⟩ := he
    refine wpAny_bind (wpAny_isInstance (T := "StopIteration") (b := true) ⟨o, ho, hcl⟩ isSubtype_stop ?_)
    have nch : ∀ b, b ∉ [z, TI, TO, i1, i2] → b ≠ z ∧ b ≠ TO ∧ b ≠ i1 ∧ b ≠ i2 := fun b hb => ⟨fun e => hb (by simp [e]), fun e => hb (by simp [e]), fun e => hb (by simp [e]), fun e => hb (by simp [e])⟩
    have kc : ∀ b o, b ∉ [z, TI, TO, i1, i2] → s.heap.get? b = some o → h'.get? b = some o := fun b o hb e => let ⟨c1, c2, c3, c4⟩ := nch b hb; hk b o c1 c2 c3 c4 e
    have f0 : ∀ c ∈ [z, TI, TO, i1, i2], H c = none := fun c hc => (hf c hc).1
    have kH : ∀ b o q, H b = some q → s.heap.get? b = some o → h'.get? b = some o := fun b o q hb e => kc b o (fun z => by rw [f0 b z] at hb; cases hb) e
    refine wpAny_pure ⟨rfl, ?_⟩
    refine I.step (h' := h') (H' := H) (g' := s.gens) (d' := s.drawn) (t' := s.toks) (ch := [z, TI, TO, i1, i2]) (fun b hb => ?_) (fun b o _ _ hb q _ => kc b o hb q) (fun b o _ _ hb q _ => ⟨o.slots, kc b o hb q⟩)
      (fun b o hb q n => n) (fun b o hb q => ⟨o, kc b o hb q⟩) (fun b ys e => e) (fun b o u e => e) (fun b ps e => ⟨#[], by rw [e]; simp⟩) (fun m hm => ?_) (fun b ob q => ?_) I.bare
    · obtain ⟨g0, g1, g2, g3, g4, g5⟩ := hf b hb
      exact ⟨g3, g1, g4, g5⟩
    · obtain ⟨o, es, ep, ho, r⟩ := hm
      refine ⟨o, es, ep, kc _ o (fun hb => ?_) ho, r⟩
      exact (hf _ hb).2.1 rfl
    · refine (I.hok b ob q).stay (fun c v hc e => ?_) (fun c e => e) fun c ys e => e
      rcases hc with rfl | hc
      · exact kH c v _ q e
      · exact kH c v _ hc e
  self := fun A i s Q E st h => wpAny_pyIter_zip st.1 h
section
variable {X : Cx}
def zipD (ds es : List D) : List D := (ds.zip es).map fun p => .tup [p.1, p.2]
def seqD? : D → Option (List D)
  | .lst ds => some ds
  | .tup ds => some ds
  | _ => none
def itZip (f g : FD) : DEnv → R (List D) := fun δ => (f δ).bind fun d => (g δ).bind fun e => match seqD? d, seqD? e with | some ds, some es => .ok (zipD ds es) | _, _ => .no
theorem Rep.sqx {K : PySem.W.Frag} {B : List Addr} {H : Hp} {d : D} {v : V} {ds : List D} (r : Rep K B H d v) (h : seqD? d = some ds) : ∃ t a xs, v = .ref a ∧ (∀ B' H', Pres B H B' H' → SqX t K H' a xs ∧ Reps K B' H' ds xs) := by
  cases d with
  | lst es =>
    cases h
    obtain ⟨a, xs, rfl, l, rs⟩ := Rep.lst.mp r
    exact ⟨false, a, xs, rfl, fun B' H' p => ⟨(l.pres p).sq, rs.pres p⟩⟩
  | tup es =>
    cases h
    obtain ⟨a, xs, rfl, l, rs⟩ := Rep.tup.mp r
    refine ⟨true, a, xs, rfl, fun B' H' p => ⟨?_, rs.pres p⟩⟩
    have l' : TpF K B' H' a xs := l.elim (fun z => .inl ⟨(p.rd z.2 z.1).2, (p.rd z.2 z.1).1⟩) .inr
    exact l'.sq
  | _ => cases h
/-! isinstance of two types -/
def eIsG2 (T U : String) (f : FD) : FD := fun δ => (f δ).bind fun d => match d with | .dct _ _ => .no | _ => .ok (.bl (isTy (tyName d) T || isTy (tyName d) U))
/-! range with step -1 -/
def Itd (lo : Int) (n : Nat) : It := ⟨fun i _ => i < n, fun i H x H' => H' = H ∧ x = .int (lo - i), fun i _ => n ≤ i⟩
def dwnD (lo : Int) (n : Nat) : List D := (List.range n).map fun (i : Nat) => D.int (lo - i)
def itDwn (f g h : FD) : DEnv → R (List D) := fun δ => (f δ).bind fun d => (g δ).bind fun e => (h δ).bind fun k => match d, e, k with
  | .int i, .int j, .int m => R.when (decide (m = -1 ∧ -(2 ^ 60) ≤ i ∧ i < 2 ^ 60 ∧ -(2 ^ 60) ≤ j ∧ j < 2 ^ 60)) (.ok (dwnD i (i - j).toNat)) | _, _, _ => .no
/-! all, any of a list of truths -/
def bls? : List D → Option (List Bool)
  | [] => some []
  | .bl b :: ds => (bls? ds).map (b :: ·)
  | _ :: _ => none
def cAll : List D → R D
  | [.lst ds] => (match bls? ds with | some bs => .ok (.bl (bs.all id)) | none => .no)
  | _ => .no
def cAny : List D → R D
  | [.lst ds] => (match bls? ds with | some bs => .ok (.bl (bs.any id)) | none => .no)
  | _ => .no
end
end L2

end
section
set_option maxRecDepth 100000
set_option maxHeartbeats 4000000
/-! ## THE STORE LAYER: new lists of the store by comprehensions, extend, calls whose word is dropped, statements that are never reached (own) -/
namespace L2
open PySem PySem.Spec PyProof.Rows
section
variable {X : Cx}
def sNo : FS := fun _ => .no
def sDrop (f : FD) : FS := fun δ => (f δ).bind fun _ => .ok (.nx δ)
end
end L2
namespace L3
open PySem PySem.Spec PyProof.Rows L2
section
variable {X : Cx} {cl : Nat → Addr}
def zNo : FZ := fun _ _ => .no
/-- a new list of the store, its items of lists of the store too -/
def xNewT (f : DEnv → R (List D)) : FX := fun δ S => (R3.of (f (downT S δ)) S).bind fun ds S => R3.when (tupDs ds) (.ok (.loc S.length) (S ++ [.lst ds]))
/-! x.extend(e) -/
def zExt (i : Nat) (f : FX) : FZ := fun δ S => match locAt δ i with
  | none => .no
  | some k => match lstAt S k with
    | none => .no
    | some _ => (f δ S).bind fun v S1 => match v with
      | .d (.lst es) => (match lstAt S1 k with
        | some ds => R3.when (decide (ds.length + es.length ≤ sizeLine)) (.ok (.nx δ) (S1.set k (.lst (ds ++ es))))
        | none => .no)
      | _ => .no
end
end L3

end
section
set_option maxRecDepth 100000
set_option maxHeartbeats 4000000
/-! ## tuples put together, enumerate of either kind, reversed, zip with deeds, methods (own) -/
namespace L2
open PySem PySem.Spec PyProof.Rows
section
variable {X : Cx}
theorem catT_any {prog : Program} {w : World} {A : Around} {E : Value → Shared → Prop} {s : Shared} {t b : Addr} {vs ws : List Value} {Q : Value → Shared → Prop} (ht : IsTup s.heap t vs.toArray) (hb : IsTup s.heap b ws.toArray)
    (h0 : vs = [] → Q (.ref b) s) (h1 : vs ≠ [] → ws = [] → Q (.ref t) s) (h2 : vs ≠ [] → ws ≠ [] → Q (.ref s.heap.objs.size) { s with heap := s.heap.push { cls := .type "tuple", data := .seq (vs ++ ws).toArray } })
    (hsz : vs.length + ws.length ≤ sizeLine) : wpAny (model prog w) A (binaryOp .Add (.ref t) (.ref b)) Q E s := by
  by_cases hv : vs = []
  · obtain ⟨⟨cls, dd, data, sl⟩, ho, hc, n, hd⟩ := id ht; obtain ⟨⟨cls2, dd2, data2, sl2⟩, ho2, hc2, n2, hd2⟩ := id hb
    simp only at hc hd hc2 hd2; subst hc hd hc2 hd2
    exact concat_meets ⟨_, ho, rfl⟩ ⟨_, ho2, rfl⟩ noFill_tuple_add seq_tuple_add PySem.F.slot_tuple_add PySem.F.entry_tuple_add (PySem.F.args_tuple_add_2 _ _) (tuple_addW0 t b vs.toArray ws.toArray n n2 dd dd2 sl sl2 (by simp [hv])) ⟨ho, ho2, h0 hv⟩
  · exact HT.cat_tup ht hb hv (h1 hv) (h2 hv) hsz
def dAddX (d e : D) : R D := match d, e with
  | .tup a, .tup b => R.when (decide (a.length + b.length ≤ sizeLine)) (.ok (.tup (a ++ b)))
  | d, e => dAdd d e
theorem TpF.fresh {K : PySem.W.Frag} {B : List Addr} {H : Hp} {p : Addr} {xs : List V} (hb : ∀ a ∈ B, ∃ o, H a = some o) (hp : H p = none) : TpF K B (upd H p (.tup xs)) p xs := .inl ⟨fun ha => (by obtain ⟨o, ho⟩ := hb p ha; rw [hp] at ho; cases ho), .inl upd_same⟩
theorem o_addX : OpD X (binaryOp .Add) dAddX := by
  intro pins s σ H B da db d x y v u I hb rx ry ra rb hg
  by_cases ht : ∃ a b, da = .tup a ∧ db = .tup b
  · obtain ⟨a, b, rfl, rfl⟩ := ht
    have hg : R.when (decide (a.length + b.length ≤ sizeLine)) (.ok (.tup (a ++ b))) = .ok d := hg
    obtain ⟨h1, h2⟩ := R.when_ok hg
    cases h2
    have h1 := of_decide_eq_true h1
    have ra' := ra
    have rb' := rb
    obtain ⟨a1, xs1, rfl, l1, r1⟩ := Rep.tup.mp ra
    obtain ⟨a2, xs2, rfl, l2, r2⟩ := Rep.tup.mp rb
    cases rx
    cases ry
    obtain ⟨its, rv1, p1, _⟩ := I.tuple l1.sq
    obtain ⟨its2, rv2, p2, _⟩ := I.tuple l2.sq
    have e1 := rv1.length
    have e2 := rv2.length
    have e3 := r1.length
    have e4 := r2.length
    refine catT_any p1 p2 (fun z => ⟨.ref a2, H, I, rfl, Same.refl H, ?_⟩) (fun _ z => ⟨.ref a1, H, I, rfl, Same.refl H, ?_⟩) (fun _ _ => ?_) (by omega)
    · obtain rfl : a = [] := List.eq_nil_of_length_eq_zero (by rw [e3, e1, z]; rfl)
      exact rb'
    · obtain rfl : b = [] := List.eq_nil_of_length_eq_zero (by rw [e4, e2, z]; rfl)
      rw [List.append_nil]; exact ra'
    · have hp : H s.heap.objs.size = none := I.hok.fresh (Nat.le_refl _)
      refine ⟨.ref s.heap.objs.size, _, I.laid (t' := s.toks) (o := .tup (xs1 ++ xs2)) (fun b ob q => Heap.get?_push_of_some _ q) (Nat.le_refl _) ⟨by rw [List.length_append]; omega, _, rv1.append rv2, IsTup.new _ _⟩, rfl, same_upd hp, Rep.tup.mpr ⟨_, _, rfl, TpF.fresh hb hp, (r1.append r2).same (same_upd hp)⟩⟩
  · have hg : dAdd da db = .ok d := by
      unfold dAddX at hg
      split at hg
      · exact absurd ⟨_, _, rfl, rfl⟩ ht
      · exact hg
    exact o_add pins s σ H B da db d x y v u I hb rx ry ra rb hg
def itEnumG (f : FD) : DEnv → R (List D) := fun δ => (f δ).bind fun d => match d with | .lst ds => .ok (enumD ds) | .tup ds => .ok (enumD ds) | _ => .no
/-! reversed of a list -/
def Itv (K : PySem.W.Frag) (a : Addr) (n : Nat) : It :=
  ⟨fun i H => ∃ xs x, SqL K H a xs ∧ xs.length = n ∧ i < n ∧ xs[n - 1 - i]? = some x, fun i H v H' => H' = H ∧ ∀ xs, SqL K H a xs → xs[n - 1 - i]? = some v, fun i H => (∃ xs, SqL K H a xs) ∧ i = n⟩
theorem turn_rev {P : Program} {w : World} {K : PySem.W.Frag} {tg : Expr} (a it : Addr) (n : Nat) : Turn P w K tg (Itv K a n) [it] it (fun i h => h.IsRevIter it a ((n : Int) - 1 - (i : Int))) where
  mem := by simp
  obj := fun i h st b hb => by
    have e : b = it := by simpa using hb
    subst e
    obtain ⟨o, e, c, d⟩ := st
    exact ⟨o, e, fun v z => by rw [d] at z; cases z⟩
  keep := fun i h h' st k => st.at fun o e => k it (by simp) o e
  item := by
    intro X hP hw hK hc i pins s σ H E I hf st hg
    subst hP hw hK
    obtain ⟨xs, x, hq, hn, hi, hx⟩ := hg
    obtain ⟨its, rv, p, hz⟩ := I.list hq
    obtain ⟨u, hu, ru⟩ := rv.get hx
    obtain ⟨f0, f1, f2, f3, f4, f5⟩ := hf it (by simp)
    have e0 : (n : Int) - 1 - (i : Int) = ((n - 1 - i : Nat) : Int) := by omega
    rw [e0] at st
    refine wpAny_pyNext_rev_item st p.isList (x := u) (by simpa using hu) fun h' st' sb => ?_
    have I1 : Inv X pins σ H { s with heap := h' } := I.turned (t' := s.toks) (fun b o hb e => (sb.2 b hb).trans e) f0 f1 f3 f4 f5
    have st2 : h'.IsRevIter it a ((n : Int) - 1 - ((i + 1 : Nat) : Int)) := by
      rw [show ((n - 1 - i : Nat) : Int) - 1 = (n : Int) - 1 - ((i + 1 : Nat) : Int) by omega] at st'; exact st'
    obtain ⟨o, e, c, d⟩ := id st2
    exact ⟨u, rfl, go_of (s := { s with heap := h' }) e c d (by decide) ⟨x, H, I1, ru, ⟨rfl, fun ys hy => by rw [I.list_inj hy hq]; exact hx⟩, st2, fun b hb => (hf b hb).1⟩⟩
  done := by
    intro X hP hw hK hc i pins s σ H E I hf st hg
    subst hP hw hK
    obtain ⟨_, rfl⟩ := hg
    obtain ⟨f0, f1, f2, f3, f4, f5⟩ := hf it (by simp)
    rw [show (i : Int) - 1 - (i : Int) = -1 by omega] at st
    exact wpAny_pyNext_rev_end (I.ok.hd hc) st fun h' eb => ⟨rfl, I.turned (t' := s.toks) (fun b o hb e => eb b o hb e) f0 f1 f3 f4 f5⟩
  self := fun _ _ _ _ _ st h => wpAny_pyIter_revIter st h
def itRev (f : FD) : DEnv → R (List D) := fun δ => (f δ).bind fun d => match d with | .lst ds => .ok ds.reverse | _ => .no
theorem qpit_rev {tg a : Expr} {f : FD} {p pos : Pos} (h : QD X a f) (hg : Gl X "reversed") (hm : X.mg "reversed" = none) (hs : starEach [a] X.env = [(false, eval a X.env)] := by rfl) : QIt X tg (.Call (.Name "reversed" p) [a] [] pos) (itRev f) := by
  refine ⟨?_⟩
  intro pins s σ H RR I ⟨Z, B, δ, ds, E, hf, q⟩
  obtain ⟨d, h1, h2⟩ := R.bind_ok hf
  have hA := pa_cons h.1 pa_nil hs pos pins s σ H (fun vs H1 => Same H H1 ∧ ∃ v, vs = [v] ∧ Rep X.K B H1 d v) I ⟨Z, B, δ, d, E, h1, fun v H1 s1 r1 => ⟨s1, v, rfl, r1⟩⟩
  refine Call_ (ld_blt I hg hm boot_reversed (PyProof.Rows.callWith_type1 (thn hA fun us s1 ⟨vs, H1, I1, r1, ss, v, ev, rr⟩ => ?_) hs rfl))
  subst ev
  obtain ⟨u, rfl, ru⟩ := vals1 r1
  cases d with
  | lst es =>
    cases h2
    obtain ⟨b, xs, rfl, l, rs⟩ := Rep.lst.mp rr
    cases ru
    obtain ⟨its, rv, pl, hz⟩ := I1.list l.sq
    have e1 := rv.length
    have e2 := rs.length
    refine call_reversed_list pl.isList (wpAny_pyIter_revIter (i := (its.toArray.size : Int) - 1) ⟨_, Heap.get?_push_size _ rfl, rfl, rfl⟩ ?_)
    refine ⟨s1.heap.objs.size, [s1.heap.objs.size], _, _, H1, rfl, I1.kept (t' := s1.toks) fun b o e => Heap.get?_push_of_some _ e, turn_rev b _ es.length, ?_, fun c hc => ?_, q _ H1 ss fun B' H' pr => ?_⟩
    · refine ⟨_, Heap.get?_push_size _ rfl, rfl, ?_⟩
      show Data.fields #[.ref b, rawInt ((its.toArray.size : Int) - 1)] = Data.fields #[.ref b, rawInt ((es.length : Int) - 1 - ((0 : Nat) : Int))]
      rw [List.size_toArray, ← e1, ← e2, show ((es.length : Nat) : Int) - 1 - ((0 : Nat) : Int) = (es.length : Int) - 1 by omega]
    · have e : c = s1.heap.objs.size := by simpa using hc
      subst e
      exact I1.fpOk (Nat.le_refl _) (I1.hok.fresh (Nat.le_refl _))
    · have l' : LsF X.K B' H' b xs := l.pres pr
      have rs' := rs.pres pr
      refine ⟨fun i d hd => ?_, ⟨xs, l'.sq⟩, by rw [List.length_reverse]⟩
      have hi : i < es.length := by have := (List.getElem?_eq_some_iff.mp hd).1; rwa [List.length_reverse] at this
      rw [List.getElem?_reverse hi] at hd
      obtain ⟨x, hx, rx⟩ := rs'.get hd
      refine ⟨⟨xs, x, l'.sq, e2.symm, hi, hx⟩, fun v H'' yl hB' => ?_⟩
      obtain ⟨rfl, hy⟩ := yl
      have hy2 := hy xs l'.sq
      rw [hx] at hy2
      cases hy2
      exact ⟨Same.refl _, rx⟩
  | _ => cases h2
/-- a method of the text; its making def -/
def DefM (K : PySem.W.Frag) (C : Addr) (m qual : Str) (st : Stmt) : Prop := ∃ f fd, Fun K m qual st f fd ∧ Meth K C m f
def DefI (K : PySem.W.Frag) (C : Addr) (m qual : Str) (st : Stmt) : Prop := ∃ f fd, Fun K m qual st f fd ∧ Mk K C f
end
end L2
namespace L3
open PySem PySem.Spec PyProof.Rows L2
section
variable {X : Cx} {cl : Nat → Addr}
theorem MethX.p {P : Program} {w : World} {K : PySem.W.Frag} {mg : Str → Option Value} {base : Heap} {cl : Nat → Addr} {k c : Nat} {m : Str} {n : Nat} {N : List Str} {F : FZ} (C : MethX P w K mg base cl k c m n (fnK N F)) : MethX P w K mg base cl k c m n (fnP N F) :=
  let ⟨f, fd, ps, c1, c2, F, h⟩ := C; ⟨f, fd, ps, c1, c2, F.imp fun _ _ _ _ h => fnP_of h, h⟩
end
end L3

end
section
set_option maxRecDepth 100000
set_option maxHeartbeats 4000000
/-! ## list(range(..)), xs[::-1] (own) -/
namespace L2
open PySem PySem.Spec PyProof.Rows
section
variable {X : Cx}
def nRng (f : FD) : DEnv → R (List D) := fun δ => (f δ).bind fun d => match d with | .int j => R.when (decide (-(2 ^ 62) ≤ j ∧ j < 16777216)) (.ok (rngD 0 j.toNat)) | _ => .no
/-! xs[::-1] -/
def eRev (f : FD) : FD := fun δ => (f δ).bind fun d => match d with | .lst ds => .ok (.lst ds.reverse) | _ => .no
end
end L2

end
section
set_option maxRecDepth 100000
set_option maxHeartbeats 4000000
/-! ## zip with deeds; a list taken apart; stores with objects (own) -/
namespace L2
open PySem PySem.Spec PyProof.Rows
section
variable {X : Cx}
def gLst (K : PySem.W.Frag) (n : Nat) (t : TGs) : TG := fun v σ H Q => ∃ a xs, v = .ref a ∧ SqL K H a xs ∧ xs.length = n ∧ t xs σ H Q
theorem pg_lst {es : List Expr} {k : Nat} {t : TGs} {n : Nat} {pos : Pos} (hc : X.calm = true) (h : PGs X es t)
    (hn : (assignEach es X.env).length = n := by rfl) (hst : (assignEach es X.env).findIdx? (·.1) = none := by rfl) : PG X (.Tuple es k pos) (gLst X.K n t) := by
  intro pins s σ H v u Q I r hw
  obtain ⟨a, xs, e1, hq, hl, hw⟩ := hw
  subst e1
  cases r
  obtain ⟨its, rv, ht, hz⟩ := I.list hq
  rw [assign_Tuple]
  refine wpAny_bind (wpAny_standAt ?_)
  unfold unpack
  have hln : its.toArray.size = (assignEach es X.env).length := by simp [hn, ← hl, rv.length]
  rw [hst]
  refine wpAny_bind (wpAny_holding ?_)
  rw [← hln]
  refine PySem.W.kun_itemsOf (I.ok.hd hc) ht.isList fun h' hx => ?_
  have I1 : Inv X pins σ H { s with heap := h' } := I.kept (t' := s.toks) fun b o e => hx b o (Nat.ne_of_lt (Heap.lt_size e)) e
  exact h pins _ σ H xs _ Q I1 (by simpa using rv) hw
end
end L2
namespace L3
open PySem PySem.Spec PyProof.Rows L2
section
variable {X : Cx} {cl : Nat → Addr}
/-- (a, b, ..) = a list of that length -/
def gLs (n : Nat) (t : FGs) : FG := fun d δ => match d with
  | .d (.lst ds) => if ds.length = n then t (ds.map .d) δ else none
  | .lst vs => if vs.length = n then t vs δ else none
  | _ => none
theorem pxg_lst {es : List Expr} {k : Nat} {t : FGs} {n : Nat} {pos : Pos} (hc : X.calm = true) (h : PXGs X cl es t) (hn : (assignEach es X.env).length = n := by rfl) (hst : (assignEach es X.env).findIdx? (·.1) = none := by rfl) : PXG X cl (.Tuple es k pos) (gLs n t) :=
  ⟨(pg_lst hc h.1 hn hst).imp fun v σ H Q ⟨ρ, S, δ, d, δ', E, r, ht, q⟩ => by
    have key : ∃ vs a xs, v = .ref a ∧ LsF X.K ρ.b H a xs ∧ Reps3 X.K ρ H vs xs ∧ vs.length = n ∧ t vs δ = some δ' := by
      unfold gLs at ht
      split at ht
      · rename_i ds
        split at ht
        · rename_i hl
          unfold Rep3 Rep at r
          obtain ⟨a, xs, e, l, r⟩ := r
          exact ⟨ds.map .d, a, xs, e, l, Reps3.of r, by rw [List.length_map]; exact hl, ht⟩
        · cases ht
      · rename_i vs
        split at ht
        · rename_i hl
          unfold Rep3 at r
          obtain ⟨a, xs, e, l, r⟩ := r
          exact ⟨vs, a, xs, e, l, r, hl, ht⟩
        · cases ht
      · cases ht
    obtain ⟨vs, a, xs, rfl, l, r, hl, ht⟩ := key
    exact ⟨a, xs, rfl, l.sq, by rw [← r.length]; exact hl, ρ, S, δ, vs, δ', E, r, ht, q⟩⟩
/-- zip(a, b) with deeds in a and b -/
def iZip (f g : FX) : FA := fun δ S => (xCons f (xCons g xNil) δ S).bind fun vs S1 => match vs with
  | [.d d, .d e] => (match seqD? d, seqD? e with | some ds, some es => .ok ((zipD ds es).map .d) S1 | _, _ => .no)
  | _ => .no
theorem pxi_zip {elts : List Expr} {k : Nat} {tpos : Pos} {a b : Expr} {f g : FX} {p pos : Pos} (h : PX X cl a f) (h' : PX X cl b g) (hg : Gl X "zip") (hm : X.mg "zip" = none) (hs : starEach [a, b] X.env = [(false, eval a X.env), (false, eval b X.env)] := by rfl) (hs2 : starEach [b] X.env = [(false, eval b X.env)] := by rfl) :
    PXI X cl (.Tuple elts k tpos) (.Call (.Name "zip" p) [a, b] [] pos) (iZip f g) := by
  refine ⟨?_⟩
  intro pins s σ H RR I ⟨ρ, S, δ, vs, S', E, hf, q⟩
  obtain ⟨ws, S1, h1, h2⟩ := R3.bind_ok hf
  have hA := (pxa_cons h (pxa_cons h' pxa_nil hs2) (by rw [hs, hs2])).1 pos pins s σ H (fun us H1 => ∃ ρ1, Pre ρ H ρ1 H1 ∧ SW X.K cl ρ1 H1 S1 ∧ Reps3 X.K ρ1 H1 ws us) I
    ⟨ρ, S, δ, ws, S1, E, h1, fun us ρ1 H1 p1 w1 r1 => ⟨ρ1, p1, w1, r1⟩⟩
  refine Call_ (ld_blt I hg hm boot_zip (PyProof.Rows.callWith_type1 (thn hA fun us s1 ⟨xs, H1, I1, r1, ρ1, p1, w1, rr⟩ => ?_) (by rw [hs, hs2]) (by rw [hs2]; rfl)))
  rcases hsh : ws with _ | ⟨w0, _ | ⟨w2, _ | ⟨w3, wr⟩⟩⟩ <;> subst hsh
  · cases h2
  · cases w0 <;> cases h2
  · rcases w0 with d | _ | _ | _ <;> rcases w2 with e | _ | _ | _ <;> try (cases h2; done)
    have h2 : (match seqD? d, seqD? e with | some ds, some es => R3.ok ((zipD ds es).map V3.d) S1 | _, _ => .no) = .ok vs S' := h2
    cases e1 : seqD? d with
    | none => rw [e1] at h2; cases h2
    | some ls =>
      cases e2 : seqD? e with
      | none => rw [e1, e2] at h2; cases h2
      | some ms =>
        rw [e1, e2] at h2
        cases h2
        obtain ⟨v, ys, ev, ra, rr⟩ := rr.uncons
        obtain ⟨v', zs, ev', rb, rr⟩ := rr.uncons
        unfold Reps3 at rr
        subst rr ev' ev
        obtain ⟨u, u', rfl, ru, ru'⟩ := vals2 r1
        unfold Rep3 at ra rb
        obtain ⟨t, a, xs, rfl, k1⟩ := ra.sqx e1
        obtain ⟨w, b, ys, rfl, k2⟩ := rb.sqx e2
        cases ru
        cases ru'
        obtain ⟨its, rv, pp⟩ := I1.sqx (k1 ρ1.b H1 (Pres.refl _ H1)).1
        obtain ⟨jts, rw', pp'⟩ := I1.sqx (k2 ρ1.b H1 (Pres.refl _ H1)).1
        have la := pp.lt
        have lb := pp'.lt
        refine call_zipS pp pp' fun h₂ hz hTI hTO hi1 hi2 kk => wpAny_pyIter_zip hz ?_
        have I2 : Inv X pins σ H1 { s1 with heap := h₂ } := I1.kept (t' := s1.toks) kk
        refine ⟨s1.heap.objs.size + 4, [s1.heap.objs.size + 4, s1.heap.objs.size + 2, s1.heap.objs.size + 3, s1.heap.objs.size, s1.heap.objs.size + 1], _, _, H1, rfl, I2, turn_zip (t := t) (u := w) (zipApart_new la lb), ⟨hz, hTI, ⟨_, _, hTO⟩, hi1, hi2⟩, fun c hc => ?_, q _ ρ1 H1 p1 w1 (ItX.of fun B' H' pr => ?_)⟩
        · have hle : s1.heap.objs.size ≤ c := by
            simp only [List.mem_cons, List.not_mem_nil, or_false] at hc
            rcases hc with rfl | rfl | rfl | rfl | rfl <;> omega
          exact I1.fpOk hle (I1.hok.fresh hle)
        · obtain ⟨l1, rs1⟩ := k1 B' H' pr
          obtain ⟨l2, rs2⟩ := k2 B' H' pr
          refine ⟨fun i d hd => ?_, ⟨xs, ys, l1, l2, ?_⟩⟩
          · unfold zipD at hd
            rw [List.getElem?_map] at hd
            cases ez : (ls.zip ms)[i]? with
            | none => rw [ez] at hd; cases hd
            | some pr' =>
              rw [ez] at hd
              have hd : D.tup [pr'.1, pr'.2] = d := Option.some.inj hd
              obtain ⟨ea, eb⟩ := List.getElem?_zip_eq_some.mp ez
              obtain ⟨x, hx, rx⟩ := rs1.get ea
              obtain ⟨y, hy, ry⟩ := rs2.get eb
              refine ⟨⟨xs, ys, x, y, l1, l2, hx, hy⟩, fun v H'' yl hB' => ?_⟩
              obtain ⟨p, x2, y2, hp, rfl, hx2, hy2, rfl⟩ := yl
              refine ⟨same_upd hp, ?_⟩
              subst hd
              have hx2 := hx2 xs l1
              have hy2 := hy2 ys l2
              rw [hx] at hx2; cases hx2
              rw [hy] at hy2; cases hy2
              refine Rep.tup.mpr ⟨p, _, rfl, .inl ⟨fun ha => ?_, .inl upd_same⟩, Reps.cons (rx.same (same_upd hp)) (Reps.cons (ry.same (same_upd hp)) Reps.nil)⟩
              obtain ⟨o, ho⟩ := hB' p ha
              rw [hp] at ho; cases ho
          · rw [← rs1.length, ← rs2.length]
            unfold zipD
            rw [List.length_map, List.length_zip]
            omega
  · cases w0 <;> cases w2 <;> cases h2
theorem w_zip {f g : FX} {δ : DE} {S : Sto} {Q : List V3 → Sto → Prop} (h : W3 (f δ S) fun v S1 => W3 (g δ S1) fun w S2 => ∃ d e ds es, v = .d d ∧ w = .d e ∧ seqD? d = some ds ∧ seqD? e = some es ∧ Q ((zipD ds es).map .d) S2) : W3 (iZip f g δ S) Q :=
  W3.bind (W3.bind (h.mono fun v S1 h2 => W3.bind (W3.bind (h2.mono fun w S2 ⟨d, e, ds, es, e1, e2', e3, e4, q⟩ => by
    subst e1 e2'
    exact W3.bind (W3.ok (W3.ok (W3.ok (by simp only [e3, e4]; exact W3.ok q))))))))
/-! stores with objects: every place that is held is there -/
def Clo (S : Sto) : Prop := ∀ o ∈ S, soOk S.length o = true
theorem Flat.clo {S : Sto} (h : Flat S) : Clo S := fun o ho => h o ho _
theorem w_PnC {N : List Str} {F : FZ} {vs : List V3} {S : Sto} {QV : V3 → Sto → Prop} (h : W3 (fnK N F vs S) fun v S1 => (∀ o ∈ S1.take S.length, soOk S.length o = true) ∧ geOk S.length v = true ∧ ∃ d, res S1 v = some d ∧ QV (.d d) (S1.take S.length)) : W3 (fnP N F vs S) QV :=
  W3.bind (h.mono fun v S1 ⟨hl, hg, d, e, q⟩ => by
    rw [e]
    exact W3.wh (by rw [List.all_eq_true.mpr hl, hg]; rfl) (W3.ok q))
/-- what is put behind a store goes with the call -/
theorem w_PnA {N : List Str} {F : FZ} {vs : List V3} {S : Sto} {QV : V3 → Sto → Prop} (hS : Clo S) (h : W3 (fnK N F vs S) fun v S1 => geOk S.length v = true ∧ (∃ T, S1 = S ++ T) ∧ ∃ d, res S1 v = some d ∧ QV (.d d) S) : W3 (fnP N F vs S) QV :=
  w_PnC (h.mono fun v S1 ⟨hg, ⟨T, e1⟩, d, e, q⟩ => by
    subst e1
    rw [List.take_append_of_le_length (Nat.le_refl _), List.take_length]
    exact ⟨hS, hg, d, e, q⟩)
end
end L3

end
section
set_option maxRecDepth 100000
set_option maxHeartbeats 4000000
/-! ## NETS: what the laws' nets are (own) -/
namespace NT
def mx (f : Nat → Nat) (w : List Nat) : Nat := (w.map f).foldl max 0
/-- the places of a walk backwards: what is known of the behinds, all of them; M: how deep -/
structure BA (f : Nat → Nat) (M : Nat) (bs : List Int) : Prop where
  a : ∀ (z : Nat) (v : Int), bs[z]? = some v → v = -1 ∨ (0 ≤ v ∧ v + f z ≤ M)
def BB (f : Nat → Nat) (M : Nat) (bs : List Int) (n : Nat) : Prop := ∃ (z : Nat) (v : Int), z < n ∧ bs[z]? = some v ∧ 0 ≤ v ∧ (M : Int) ≤ v + f z
/-- no place falls -/
def Up (bs bs' : List Int) : Prop := bs'.length = bs.length ∧ ∀ (z : Nat) (v : Int), bs[z]? = some v → ∃ v', bs'[z]? = some v' ∧ v ≤ v'
end NT
namespace NT
open PySem PySem.Spec PyProof.Rows L2 L3
structure Gt where
  k : Str
  w : List Nat
  s : Bool
def nN (z : Nat) : D := .int z
def wN (w : List Nat) : D := .tup (w.map nN)
def gN (g : Gt) : D := .tup [.str g.k, wN g.w, .bl g.s]
def iN (x : Str × Nat) : D := .tup [.str x.1, .int x.2]
def oN (x : Str × List Nat) : D := .tup [.str x.1, wN x.2]
structure Net where
  i : List (Str × Nat)
  g : List Gt
  o : List (Str × List Nat)
def Net.d (n : Net) : D := .tup [.lst (n.i.map iN), .lst (n.g.map gN), .lst (n.o.map oN)]
def Net.first (n : Net) : Nat := (n.i.map (·.2)).sum
structure WOk (n : Nat) (w : List Nat) : Prop where
  ne : w ≠ []
  le : w.length ≤ 3
  lt : ∀ z ∈ w, z < n
structure Net.Ok (n : Net) : Prop where
  i1 : 1 ≤ n.i.length
  i6 : n.i.length ≤ 6
  iw : ∀ x ∈ n.i, 1 ≤ x.2 ∧ x.2 ≤ 3
  is : ∀ x ∈ n.i, Fit 0 (.str x.1)
  g60 : n.g.length ≤ 60
  gw : ∀ (p : Nat) (g : Gt), n.g[p]? = some g → WOk (n.first + p) g.w
  gs : ∀ g ∈ n.g, Fit 0 (.str g.k)
  o1 : 1 ≤ n.o.length
  o6 : n.o.length ≤ 6
  ow : ∀ x ∈ n.o, WOk (n.first + n.g.length) x.2
  os : ∀ x ∈ n.o, Fit 0 (.str x.1)
/-- a datum held against itself by the laws' own words -/
inductive Sm : Nat → D → Prop where
  | int (n : Nat) (i : Int) : Sm n (.int i)
  | bl (n : Nat) (b : Bool) : Sm n (.bl b)
  | str (n : Nat) (s : Str) : Sm n (.str s)
  | lst {n : Nat} {ds : List D} (h : ∀ d ∈ ds, Sm n d) (hl : ds.length ≤ 1000000) : Sm (n + 1) (.lst ds)
  | tup {n : Nat} {ds : List D} (h : ∀ d ∈ ds, Sm n d) (hl : ds.length ≤ 1000000) : Sm (n + 1) (.tup ds)
theorem sSeq_rt {F G : FS} {δ : DEnv} {d : D} (h : F δ = .ok (.rt d)) : sSeq F G δ = .ok (.rt d) := by unfold sSeq; rw [h]; rfl
theorem rng_at {m i : Nat} {v : V3} (h : ((rngD 0 m).map V3.d)[i]? = some v) : i < m ∧ v = .d (.int i) := by
  rw [List.getElem?_map, rngD, List.getElem?_map] at h
  cases q : (List.range m)[i]? with
  | none => rw [q] at h; cases h
  | some j =>
    rw [q] at h; cases h
    obtain ⟨q1, q2⟩ := List.getElem?_eq_some_iff.mp q
    rw [List.getElem_range] at q2
    rw [List.length_range] at q1
    subst q2
    exact ⟨q1, by simp⟩
theorem map_at {α : Type} {l : List α} {f : α → D} {i : Nat} {v : V3} (h : ((l.map f).map V3.d)[i]? = some v) : ∃ x, l[i]? = some x ∧ v = .d (f x) := by
  rw [List.getElem?_map, List.getElem?_map] at h
  cases q : l[i]? with
  | none => rw [q] at h; cases h
  | some x => rw [q] at h; cases h; exact ⟨x, rfl, rfl⟩
theorem map_atD {α : Type} {l : List α} {f : α → D} {i : Nat} {v : D} (h : (l.map f)[i]? = some v) : ∃ x, l[i]? = some x ∧ v = f x := by
  rw [List.getElem?_map] at h
  cases q : l[i]? with
  | none => rw [q] at h; cases h
  | some x => rw [q] at h; cases h; exact ⟨x, rfl, rfl⟩
theorem compL_list {α : Type} {t : FT} {c : DEnv → R Bool} {f : FD} {δ : DEnv} (a b : α → D) : ∀ {xs : List α}, (∀ x ∈ xs, ∃ δ1, t (a x) δ = .ok δ1 ∧ c δ1 = .ok true ∧ f δ1 = .ok (b x)) → compL t c f δ (xs.map a) = .ok (xs.map b)
  | [], _ => rfl
  | x :: xs, h => by
    obtain ⟨δ1, h1, h2, h3⟩ := h x List.mem_cons_self
    have ih := compL_list (t := t) (c := c) (f := f) (δ := δ) a b (xs := xs) fun y hy => h y (List.mem_cons_of_mem _ hy)
    rw [List.map_cons]
    unfold compL
    rw [h1, R.ok_bind, h2, R.ok_bind, if_pos rfl, h3, R.ok_bind, ih]
    rfl
theorem compL_some {α : Type} {t : FT} {c : DEnv → R Bool} {f : FD} {δ : DEnv} (p : α → Bool) (a b : α → D) : ∀ {xs : List α}, (∀ x ∈ xs, ∃ δ1, t (a x) δ = .ok δ1 ∧ c δ1 = .ok (p x) ∧ (p x = true → f δ1 = .ok (b x))) → compL t c f δ (xs.map a) = .ok ((xs.filter p).map b)
  | [], _ => rfl
  | x :: xs, h => by
    obtain ⟨δ1, h1, h2, h3⟩ := h x List.mem_cons_self
    have ih := compL_some (t := t) (c := c) (f := f) (δ := δ) p a b (xs := xs) fun y hy => h y (List.mem_cons_of_mem _ hy)
    rw [List.map_cons]
    unfold compL
    rw [h1, R.ok_bind, h2, R.ok_bind]
    cases e : p x with
    | true => rw [if_pos rfl, h3 e, R.ok_bind, ih, List.filter_cons, if_pos e]; rfl
    | false => rw [if_neg (by decide), ih, List.filter_cons, if_neg (by rw [e]; decide)]
theorem ixN_nat {n z : Nat} (h : z < n) : ixN n (z : Int) = some z := by
  unfold ixN
  rw [if_pos (by omega), if_pos (by omega)]
  simp
theorem atI_nat' {α : Type} {xs : List α} {z : Nat} {x : α} (h : xs[z]? = some x) : atI xs (z : Int) = some x := by
  have hl := (List.getElem?_eq_some_iff.mp h).1
  unfold atI
  rw [ixN_nat hl]
  exact h
theorem ixL_nat {ds : List D} {z : Nat} {x : D} (h : ds[z]? = some x) : ixD (.lst ds) (.int z) = .ok x := ixL_of (atI_nat' h)
end NT

end
section
set_option maxRecDepth 100000
set_option maxHeartbeats 4000000
/-! ## MASKS: a whole number as a row of bits (own) -/
namespace MT
open PySem PySem.Spec PyProof.Rows L2 L3
abbrev M := Nat → Bool
/-- a def that ends without a return -/
theorem w_K0 {N : List Str} {F : FZ} {vs : List V3} {δ : DE} {S : Sto} {QV : V3 → Sto → Prop} (e : xStart N vs = δ) (h : W3 (F δ S) fun o S1 => ∃ δ', o = .nx δ' ∧ QV (.d .non) S1) : W3 (fnK N F vs S) QV := by
  subst e
  exact W3.bind (h.mono fun _ _ ⟨_, e, q⟩ => by subst e; exact W3.ok q)
def mkN : Nat → M → Nat
  | 0, _ => 0
  | N + 1, f => (if f 0 then 1 else 0) + 2 * mkN N (fun i => f (i + 1))
theorem mkN_bit : ∀ (N : Nat) (f : M) (i : Nat), (mkN N f).testBit i = (decide (i < N) && f i)
  | 0, f, i => by unfold mkN; simp
  | N + 1, f, 0 => by
    unfold mkN
    rw [Nat.testBit_zero]
    cases f 0 <;> simp <;> omega
  | N + 1, f, i + 1 => by
    unfold mkN
    rw [Nat.testBit_succ]
    have : ((if f 0 = true then 1 else 0) + 2 * mkN N fun i => f (i + 1)) / 2 = mkN N fun i => f (i + 1) := by split <;> omega
    rw [this, mkN_bit N _ i]
    simp
theorem mkN_congr : ∀ {N : Nat} {f g : M}, (∀ i, i < N → f i = g i) → mkN N f = mkN N g
  | 0, _, _, _ => rfl
  | N + 1, f, g, h => by
    unfold mkN
    rw [h 0 (by omega), mkN_congr (N := N) fun i hi => h (i + 1) (by omega)]
theorem mkN_and (N : Nat) (f g : M) : mkN N f &&& mkN N g = mkN N fun i => f i && g i := by
  refine Nat.eq_of_testBit_eq fun i => ?_
  rw [Nat.testBit_and, mkN_bit, mkN_bit, mkN_bit]
  cases decide (i < N) <;> simp
theorem mkN_or (N : Nat) (f g : M) : mkN N f ||| mkN N g = mkN N fun i => f i || g i := by
  refine Nat.eq_of_testBit_eq fun i => ?_
  rw [Nat.testBit_or, mkN_bit, mkN_bit, mkN_bit]
  cases decide (i < N) <;> simp
theorem mkN_xor : ∀ (N : Nat) (f g : M), ((mkN N fun i => f i || g i : Nat) : Int) - (mkN N fun i => f i && g i : Nat) = (mkN N fun i => f i != g i : Nat)
  | 0, f, g => rfl
  | N + 1, f, g => by
    have ih := mkN_xor N (fun i => f (i + 1)) (fun i => g (i + 1))
    have e : ∀ h : M, mkN (N + 1) h = (if h 0 then 1 else 0) + 2 * mkN N (fun i => h (i + 1)) := fun _ => rfl
    rw [e, e, e]
    generalize mkN N (fun i => f (i + 1) || g (i + 1)) = a at ih ⊢
    generalize mkN N (fun i => f (i + 1) && g (i + 1)) = b at ih ⊢
    generalize mkN N (fun i => f (i + 1) != g (i + 1)) = c at ih ⊢
    show (((if (f 0 || g 0) then 1 else 0) + 2 * a : Nat) : Int) - ((if (f 0 && g 0) then 1 else 0) + 2 * b : Nat) = ((if (f 0 != g 0) then 1 else 0) + 2 * c : Nat)
    cases f 0 <;> cases g 0 <;> simp <;> omega
theorem bAnd_nat (x y : Nat) : Builtin.bitAnd (x : Int) (y : Int) = ((x &&& y : Nat) : Int) := by
  unfold Builtin.bitAnd
  rw [decide_eq_true (by omega : (0 : Int) ≤ x), decide_eq_true (by omega : (0 : Int) ≤ y)]
  simp
theorem bOr_nat (x y : Nat) : Builtin.bitOr (x : Int) (y : Int) = ((x ||| y : Nat) : Int) := by
  unfold Builtin.bitOr Builtin.bitAnd Builtin.bitNot
  rw [decide_eq_false (by omega : ¬ (0 : Int) ≤ -(x : Int) - 1), decide_eq_false (by omega : ¬ (0 : Int) ≤ -(y : Int) - 1)]
  show -(-(((-(-(x : Int) - 1) - 1).toNat ||| (-(-(y : Int) - 1) - 1).toNat : Nat) : Int) - 1) - 1 = _
  rw [show (-(-(x : Int) - 1) - 1).toNat = x by omega, show (-(-(y : Int) - 1) - 1).toNat = y by omega]
  omega
def mI (N : Nat) (f : M) : D := .int (mkN N f : Nat)
theorem mI_congr {N : Nat} {f g : M} (h : ∀ i, i < N → f i = g i) : mI N f = mI N g := by unfold mI; rw [mkN_congr h]
theorem m_and (N : Nat) (f g : M) : dBa (mI N f) (mI N g) = .ok (mI N fun i => f i && g i) := by
  show R.ok (D.int (Builtin.bitAnd (mkN N f : Int) (mkN N g : Int))) = _
  rw [bAnd_nat, mkN_and]; rfl
theorem m_or (N : Nat) (f g : M) : dBo (mI N f) (mI N g) = .ok (mI N fun i => f i || g i) := by
  show R.ok (D.int (Builtin.bitOr (mkN N f : Int) (mkN N g : Int))) = _
  rw [bOr_nat, mkN_or]; rfl
theorem m_xor (N : Nat) (f g : M) : dBx (mI N f) (mI N g) = .ok (mI N fun i => f i != g i) := by
  show R.ok (D.int (Builtin.bitOr (mkN N f : Int) (mkN N g : Int) - Builtin.bitAnd (mkN N f : Int) (mkN N g : Int))) = _
  rw [bOr_nat, bAnd_nat, mkN_or, mkN_and, mkN_xor]; rfl
def one : M := fun _ => true
theorem m_not (N : Nat) (f : M) : dBx (mI N one) (mI N f) = .ok (mI N fun i => !f i) := by
  rw [m_xor]
  have : (fun i => one i != f i) = fun i => !f i := by funext i; unfold one; simp
  rw [this]
/-- turned or not -/
theorem m_turn (N : Nat) (f : M) (c : Bool) : (if c then dBx (mI N one) (mI N f) else .ok (mI N f)) = .ok (mI N fun i => f i != c) := by
  cases c with
  | true =>
    rw [if_pos rfl, m_not]
    have : (fun i => !f i) = fun i => f i != true := by funext i; cases f i <;> rfl
    rw [this]
  | false =>
    rw [if_neg (by decide)]
    have : f = fun i => f i != false := by funext i; cases f i <;> rfl
    rw [← this]
theorem mkN_zero {N : Nat} {f : M} : mkN N f = 0 ↔ ∀ i, i < N → f i = false := by
  constructor
  · intro h i hi
    have := mkN_bit N f i
    rw [h, Nat.zero_testBit, decide_eq_true hi, Bool.true_and] at this
    exact this.symm
  · intro h
    refine Nat.eq_of_testBit_eq fun i => ?_
    rw [mkN_bit, Nat.zero_testBit]
    by_cases q : i < N
    · rw [h i q]; simp
    · rw [decide_eq_false q]; rfl
/-- mask >> n & 1 -/
theorem m_bit (N : Nat) (f : M) (n : Nat) : (dShr (mI N f) (.int n)).bind (fun d => dBa d (.int 1)) = .ok (.int (if decide (n < N) && f n then 1 else 0)) := by
  have h1 : dShr (mI N f) (.int n) = .ok (.int ((mkN N f / 2 ^ n : Nat) : Int)) := by
    show R.when (decide ((0 : Int) ≤ n)) (.ok (D.int ((mkN N f : Int) / 2 ^ ((n : Int)).toNat))) = _
    rw [when_of _ (by omega), Int.toNat_natCast]
    congr 2
  rw [h1, R.ok_bind]
  show R.ok (D.int (Builtin.bitAnd ((mkN N f / 2 ^ n : Nat) : Int) ((1 : Nat) : Int))) = _
  rw [bAnd_nat, Nat.and_one_is_mod, ← mkN_bit]
  congr 2
  unfold Nat.testBit
  rw [Nat.shiftRight_eq_div_pow, Nat.one_and_eq_mod_two]
  have : mkN N f / 2 ^ n % 2 = 0 ∨ mkN N f / 2 ^ n % 2 = 1 := by omega
  rcases this with q | q <;> rw [q] <;> rfl
/-- the bits in a row -/
def bI (b : Bool) : D := .int (if b then 1 else 0)
def mkL : List Bool → Nat
  | [] => 0
  | b :: bs => (if b then 1 else 0) + 2 * mkL bs
theorem mkL_N : ∀ bs : List Bool, mkL bs = mkN bs.length fun i => bs.getD i false
  | [] => rfl
  | b :: bs => by
    unfold mkL
    rw [mkL_N bs]
    rfl
/-! gates -/
def nI (n : Nat) : D := .int (n : Int)
def kS : Nat → Str | 0 => Str.ofString "not" | 1 => Str.ofString "and" | 2 => Str.ofString "or" | 3 => Str.ofString "xor" | _ => Str.ofString "vote"
def ar : Nat → Nat | 0 => 1 | 4 => 3 | _ => 2
theorem ar_le (k : Nat) : ar k ≤ 3 := by unfold ar; split <;> omega
def gv : Nat → List Bool → Bool
  | 0, [a] => !a
  | 1, [a, b] => a && b
  | 2, [a, b] => a || b
  | 3, [a, b] => a != b
  | 4, [a, b, c] => (a && b) || (a && c) || (b && c)
  | _, _ => false
def rdF (ws : List M) (n : Nat) : M := ws.getD n fun _ => false
theorem rdF_app {ws : List M} {b : M} {n : Nat} (h : n < ws.length) : rdF (ws ++ [b]) n = rdF ws n := by
  unfold rdF
  rw [List.getD_eq_getElem?_getD, List.getElem?_append_left h, List.getD_eq_getElem?_getD]
theorem rdF_last (ws : List M) (b : M) : rdF (ws ++ [b]) ws.length = b := by
  unfold rdF
  rw [List.getD_eq_getElem?_getD, List.getElem?_append_right (Nat.le_refl _), Nat.sub_self]
  rfl
abbrev Gt := Nat × List Nat × Bool
def gtD (g : Gt) : D := .tup [.str (kS g.1), .tup (g.2.1.map nI), .bl g.2.2]
def GtOk (n : Nat) (g : Gt) : Prop := g.1 ≤ 4 ∧ g.2.1.length = ar g.1 ∧ ∀ w ∈ g.2.1, w < n
def inD (x : Str × Nat) : D := .tup [.str x.1, nI x.2]
def ouD (x : Str × List Nat) : D := .tup [.str x.1, .tup (x.2.map nI)]
def netD (ins : List (Str × Nat)) (gs : List Gt) (os : List (Str × List Nat)) : D := .tup [.lst (ins.map inD), .lst (gs.map gtD), .lst (os.map ouD)]
def wid (ins : List (Str × Nat)) : Nat := (ins.map (·.2)).sum
/-- what a gate gives, over all -/
def gF (g : Gt) (ws : List M) : M := fun p => gv g.1 (g.2.1.map fun n => rdF ws n p)
def inRow (bad : List Int) (b : M) : Nat → List M → List M
  | 0, ws => ws
  | n + 1, ws => inRow bad b n ws ++ [fun p => b p != bad.contains ((inRow bad b n ws).length : Int)]
theorem inRow_len (bad : List Int) (b : M) : ∀ n ws, (inRow bad b n ws).length = ws.length + n
  | 0, ws => rfl
  | n + 1, ws => by unfold inRow; rw [List.length_append, inRow_len bad b n ws]; rfl
def inUp (ins : List (Str × Nat)) (bits : List M) (bad : List Int) : Nat → List M
  | 0 => []
  | i + 1 => match ins[i]?, bits[i]? with | some x, some b => inRow bad b x.2 (inUp ins bits bad i) | _, _ => inUp ins bits bad i
theorem inUp_len {ins : List (Str × Nat)} {bits : List M} {bad : List Int} (hb : bits.length = ins.length) : ∀ i, i ≤ ins.length → (inUp ins bits bad i).length = wid (ins.take i)
  | 0, _ => rfl
  | i + 1, hi => by
    have h1 : ins[i]? = some ins[i] := List.getElem?_eq_getElem (by omega)
    have h2 : bits[i]? = some bits[i] := List.getElem?_eq_getElem (by omega)
    unfold inUp
    rw [h1, h2]
    show (inRow bad bits[i] ins[i].2 (inUp ins bits bad i)).length = _
    rw [inRow_len, inUp_len hb i (by omega), List.take_add_one, h1]
    unfold wid
    simp only [Option.toList_some, List.map_append, List.sum_append, List.map_cons, List.map_nil, List.sum_cons, List.sum_nil]
    omega
def gUp (gs : List Gt) (turned : List Int) (w0 : List M) : Nat → List M
  | 0 => w0
  | i + 1 => match gs[i]? with | some g => gUp gs turned w0 i ++ [fun p => gF g (gUp gs turned w0 i) p != turned.contains (i : Int)] | none => gUp gs turned w0 i
theorem gUp_len {gs : List Gt} {turned : List Int} {w0 : List M} : ∀ i, i ≤ gs.length → (gUp gs turned w0 i).length = w0.length + i
  | 0, _ => rfl
  | i + 1, hi => by
    have h1 : gs[i]? = some gs[i] := List.getElem?_eq_getElem (by omega)
    unfold gUp
    rw [h1]
    show (gUp gs turned w0 i ++ [_]).length = _
    rw [List.length_append, gUp_len i (by omega)]
    rfl
structure NetOk (ins : List (Str × Nat)) (gs : List Gt) (os : List (Str × List Nat)) : Prop where
  hi : ins.length < 100
  hw : ∀ x ∈ ins, x.2 < 100
  hg : gs.length < 1000
  g : ∀ (i : Nat) (x : Gt), gs[i]? = some x → GtOk (wid ins + i) x
  ho : os.length < 1000
  o : ∀ x ∈ os, x.2.length < 1000 ∧ ∀ w ∈ x.2, w < wid ins + gs.length
def allW (ins : List (Str × Nat)) (gs : List Gt) (bits : List M) (turned bad : List Int) : List M := gUp gs turned (inUp ins bits bad ins.length) gs.length
theorem wid_le : ∀ {l : List (Str × Nat)}, (∀ x ∈ l, x.2 < 100) → wid l ≤ 100 * l.length
  | [], _ => by simp [wid]
  | x :: l, h => by
    have ih := wid_le (l := l) fun y hy => h y (List.mem_cons_of_mem _ hy)
    have := h x List.mem_cons_self
    unfold wid at ih ⊢
    rw [List.map_cons, List.sum_cons, List.length_cons]
    omega
theorem allW_len {ins : List (Str × Nat)} {gs : List Gt} {bits : List M} {turned bad : List Int} (hb : bits.length = ins.length) : (allW ins gs bits turned bad).length = wid ins + gs.length := by unfold allW; rw [gUp_len _ (Nat.le_refl _), inUp_len hb _ (Nat.le_refl _), List.take_length]
/-- the wires that an out tells -/
def tell (ws : List M) (x : Str × List Nat) : List M := x.2.map (rdF ws)
/-- an out read: surely off, surely on -/
def rd2 : List Bool → Bool × Bool
  | [a] => (!a, a)
  | [a, b] => (!(a || b), a && b)
  | [a, b, c] => let v := (a && b) || (a && c) || (b && c); (!v, v)
  | _ => (false, false)
def brk (safe : Bool) (x y : Bool × Bool) : Bool := if safe then (x.1 && y.2) || (x.2 && y.1) else (x.1 != y.1) || (x.2 != y.2)
theorem in_ints (i : Int) (ps : List Int) : dIn (.int i) (.tup (ps.map .int)) = .ok (.bl (ps.contains i)) := by
  show ((match ints? (ps.map D.int) with | some ss => R.ok (ss.contains i) | none => .no)).bind (fun b => R.ok (D.bl b)) = _
  rw [L2.ints_map]; rfl
theorem enum_at {ds : List D} {i : Nat} {v : V3} (h : ((enumD ds).map V3.d)[i]? = some v) : ∃ d, ds[i]? = some d ∧ v = .d (.tup [.int i, d]) := by
  rw [List.getElem?_map, enumD, List.getElem?_map, List.getElem?_zipIdx] at h
  cases q : ds[i]? with
  | none => rw [q] at h; cases h
  | some d =>
    rw [q] at h
    simp at h
    exact ⟨d, rfl, h.symm⟩
theorem eif_ok {c : DEnv → R Bool} {f g : FD} {δ : DEnv} {b : Bool} {r : R D} (h : c δ = .ok b) (h2 : (if b then f δ else g δ) = r) : eIf c f g δ = r := by unfold eIf; rw [h, R.ok_bind]; exact h2
theorem set_last (S : Sto) (x y : SO) : (S ++ [x]).set S.length y = S ++ [y] := by
  rw [List.set_append_right _ _ (Nat.le_refl _), Nat.sub_self]; rfl
theorem get_last (S : Sto) (x : SO) : (S ++ [x])[S.length]? = some x := by rw [List.getElem?_append_right (Nat.le_refl _), Nat.sub_self]; rfl
theorem rdF_ix {N : Nat} {ws : List M} {n : Nat} (h : n < ws.length) : ixD (.lst (ws.map (mI N))) (nI n) = .ok (mI N (rdF ws n)) := by
  refine NT.ixL_nat ?_
  rw [List.getElem?_map, List.getElem?_eq_getElem h]
  unfold rdF
  rw [List.getD_eq_getElem?_getD, List.getElem?_eq_getElem h]
  rfl
end MT
namespace MT
open PySem PySem.Spec PyProof.Rows L2 L3
/-- a walk that may end with an answer; the store stays -/
theorem loopX_some {α : Type} {t : FG} {body : FZ} {S : Sto} (g : α → V3) (f : α → Option V3) (E : DE → Prop) : ∀ {xs : List α} {δ : DE}, E δ →
    (∀ x ∈ xs, ∀ δ, E δ → ∃ δ1, t (g x) δ = some δ1 ∧ W3 (body δ1 S) fun o S1 => S1 = S ∧ (match f x with | some v => o = .rt v | none => ∃ δ2, o = .nx δ2 ∧ E δ2)) →
    W3 (loopX t body (xs.map g) δ S) fun o S1 => S1 = S ∧ (match xs.findSome? f with | some v => o = .rt v | none => ∃ δ2, o = .nx δ2 ∧ E δ2)
  | [], δ, h0, _ => W3.ok ⟨rfl, δ, rfl, h0⟩
  | x :: xs, δ, h0, hs => by
    obtain ⟨δ1, e1, o, S1, e2, rfl, h2⟩ := hs x List.mem_cons_self δ h0
    rw [List.map_cons]
    unfold loopX
    rw [e1]
    refine W3.bind ⟨_, _, e2, ?_⟩
    rw [List.findSome?_cons]
    cases hf : f x with
    | some v => rw [hf] at h2; subst h2; exact W3.ok ⟨rfl, rfl⟩
    | none =>
      rw [hf] at h2
      obtain ⟨δ2, rfl, h2⟩ := h2
      exact loopX_some g f E h2 fun y hy => hs y (List.mem_cons_of_mem _ hy)
/-- the same over data -/
theorem loopD_some {α : Type} {t : FT} {body : FS} (g : α → D) (f : α → Option D) (E : DEnv → Prop) : ∀ {xs : List α} {δ : DEnv}, E δ →
    (∀ x ∈ xs, ∀ δ, E δ → ∃ o, ((t (g x) δ).bind body) = .ok o ∧ (match f x with | some v => o = .rt v | none => ∃ δ2, o = .nx δ2 ∧ E δ2)) →
    ∃ o, loopD t body (xs.map g) δ = .ok o ∧ (match xs.findSome? f with | some v => o = .rt v | none => ∃ δ2, o = .nx δ2 ∧ E δ2)
  | [], δ, h0, _ => ⟨_, rfl, δ, rfl, h0⟩
  | x :: xs, δ, h0, hs => by
    obtain ⟨o, e2, h2⟩ := hs x List.mem_cons_self δ h0
    rw [List.map_cons]
    unfold loopD
    cases e3 : t (g x) δ with
    | no => rw [e3] at e2; cases e2
    | ex _ => rw [e3] at e2; cases e2
    | ok δ1 =>
      rw [e3, R.ok_bind] at e2
      rw [R.ok_bind, e2, R.ok_bind, List.findSome?_cons]
      cases hf : f x with
      | some v => rw [hf] at h2; subst h2; exact ⟨_, rfl, rfl⟩
      | none =>
        rw [hf] at h2
        obtain ⟨δ2, rfl, h2⟩ := h2
        exact loopD_some g f E h2 fun y hy => hs y (List.mem_cons_of_mem _ hy)
/-! choices -/
def chs : List Nat → Nat → List (List Nat)
  | _, 0 => [[]]
  | ps, s + 1 => (List.range ps.length).flatMap fun a => (chs (ps.drop (a + 1)) s).map (ps.getD a 0 :: ·)
theorem chs_in : ∀ {s : Nat} {ps T : List Nat}, T ∈ chs ps s → T.length = s ∧ ∀ x ∈ T, x ∈ ps
  | 0, ps, T, h => by unfold chs at h; rw [List.mem_singleton.mp h]; simp
  | s + 1, ps, T, h => by
    unfold chs at h
    obtain ⟨a, ha, h⟩ := List.mem_flatMap.mp h
    obtain ⟨R, hR, rfl⟩ := List.mem_map.mp h
    rw [List.mem_range] at ha
    obtain ⟨h1, h2⟩ := chs_in hR
    refine ⟨by simp [h1], fun x hx => ?_⟩
    rcases List.mem_cons.mp hx with rfl | hx
    · rw [List.getD_eq_getElem?_getD, List.getElem?_eq_getElem ha]; exact List.getElem_mem ha
    · exact List.mem_of_mem_drop (h2 x hx)
theorem sum_le : ∀ {l : List Nat} {m : Nat}, (∀ x ∈ l, x ≤ m) → l.sum ≤ l.length * m
  | [], _, _ => by simp
  | x :: l, m, h => by
    have := sum_le (l := l) (m := m) fun y hy => h y (List.mem_cons_of_mem _ hy)
    have h0 := h x List.mem_cons_self
    rw [List.sum_cons, List.length_cons, Nat.add_mul]
    omega
theorem chs_len : ∀ {s : Nat} {ps : List Nat} {n : Nat}, ps.length ≤ n → (chs ps s).length ≤ n ^ s
  | 0, ps, n, _ => by unfold chs; simp
  | s + 1, ps, n, h => by
    unfold chs
    rw [List.length_flatMap, Nat.pow_succ]
    refine Nat.le_trans (sum_le (m := n ^ s) fun x hx => ?_) ?_
    · obtain ⟨a, _, rfl⟩ := List.mem_map.mp hx
      rw [List.length_map]
      exact chs_len (by rw [List.length_drop]; omega)
    · rw [List.length_map, List.length_range, Nat.mul_comm]
      exact Nat.mul_le_mul_left _ h
theorem w_seqO {F G : FZ} {δ : DE} {S : Sto} {QO : Ou → Sto → Prop} (h : W3 (F δ S) fun o S1 => match o with | .nx δ1 => W3 (G δ1 S1) QO | .rt v => QO (.rt v) S1) : W3 (zSeq F G δ S) QO :=
  W3.bind (h.mono fun o S1 q => by cases o with | nx δ1 => exact q | rt v => exact W3.ok q)
end MT

end
section
set_option Elab.async false
set_option linter.all false
set_option maxRecDepth 100000
set_option maxHeartbeats 4000000
namespace K20
open PySem PySem.Spec PyProof.Rows L2 L3
/-! ### the text by places -/
noncomputable def top (i : Nat) : Stmt := PySem.Challenge.pw_bearfaults_k20_chains_of_nots.main.body.getD i (.Pass ⟨0, 0, 0, 0⟩)
structure Tp (K : PySem.W.Frag) (mg : Str → Option Value) (cl : Nat → Addr) : Prop where
  z_enumerate : mg (Str.ofString "enumerate") = none
  z_range : mg (Str.ofString "range") = none
  z_len : mg (Str.ofString "len") = none
  z_tuple : mg (Str.ofString "tuple") = none
  z_reversed : mg (Str.ofString "reversed") = none
  z_zip : mg (Str.ofString "zip") = none
  z_abs : mg (Str.ofString "abs") = none
  z_isinstance : mg (Str.ofString "isinstance") = none
  z_bool : mg (Str.ofString "bool") = none
  z_int : mg (Str.ofString "int") = none
  z_str : mg (Str.ofString "str") = none
  z_list : mg (Str.ofString "list") = none
  C_Bench : Cls K (cl 0)
  N_Bench_net : NoAttr K (cl 0) (Str.ofString "net")
  N_Bench_many_inputs : NoAttr K (cl 0) (Str.ofString "many_inputs")
  N_Bench_full : NoAttr K (cl 0) (Str.ofString "full")
  N_Bench_in_masks : NoAttr K (cl 0) (Str.ofString "in_masks")
  M_Bench : mg (Str.ofString "Bench") = some (.ref (cl 0))
  C_Trial : Cls K (cl 1)
  N_Trial_bench : NoAttr K (cl 1) (Str.ofString "bench")
  N_Trial_plain : NoAttr K (cl 1) (Str.ofString "plain")
  N_Trial_unsure : NoAttr K (cl 1) (Str.ofString "unsure")
  M_Trial : mg (Str.ofString "Trial") = some (.ref (cl 1))
/-! ### vote_of -/
abbrev s_vote_of : Stmt := top 2
abbrev N_vote_of : List Str := [(Str.ofString "masks")]
def bd_vote_of : {b : List Stmt // defBody s_vote_of = b} := by
  have e : defBody s_vote_of = defBody s_vote_of := rfl
  conv at e => rhs; whnf
  exact ⟨_, e⟩
def sc_vote_of : {b : Scope // defScope s_vote_of = b} := by
  have e : defScope s_vote_of = defScope s_vote_of := rfl
  conv at e => rhs; whnf
  exact ⟨_, e⟩
theorem S_vote_of : FnScope N_vote_of [(Str.ofString "masks")] sc_vote_of.1 := ⟨rfl, rfl, rfl, by decide +kernel, rfl, by decide +kernel, by decide +kernel⟩
def F_vote_of : FS := (sRet (e2 dBo (e2 dBo (e2 dBa (e2 ixD (eVar 0) (eC (.int 0))) (e2 ixD (eVar 0) (eC (.int 1)))) (e2 dBa (e2 ixD (eVar 0) (eC (.int 0))) (e2 ixD (eVar 0) (eC (.int 2))))) (e2 dBa (e2 ixD (eVar 0) (eC (.int 1))) (e2 ixD (eVar 0) (eC (.int 2))))))
def d_vote_of : List D → R D := fnD N_vote_of F_vote_of
theorem c_vote_of {P : Program} {w : World} {K : PySem.W.Frag} {mg : Str → Option Value} {base : Heap} {cl : Nat → Addr} (T : Tp K mg cl) (h : Def K mg (Str.ofString "vote_of") s_vote_of)  : Callee P w K mg base 1 (Str.ofString "vote_of") 1 d_vote_of := by
  obtain ⟨f, fd, F, hm⟩ := h
  exact ⟨f, fd, _, qfn_pureB (k := 0) bd_vote_of.2 sc_vote_of.2 F S_vote_of (fun cdv A outer s H E hr => (qpds_one (qpds_ret (qpd_op o_bo (qpd_op o_bo (qpd_op o_ba (qpd_ix (qpd_var 0) qpd_int (fun _ _ => rfl)) (qpd_ix (qpd_var 0) qpd_int (fun _ _ => rfl))) (qpd_op o_ba (qpd_ix (qpd_var 0) qpd_int (fun _ _ => rfl)) (qpd_ix (qpd_var 0) qpd_int (fun _ _ => rfl)))) (qpd_op o_ba (qpd_ix (qpd_var 0) qpd_int (fun _ _ => rfl)) (qpd_ix (qpd_var 0) qpd_int (fun _ _ => rfl))))))), hm, F.kp, F.binds fun _ _ _ _ _ _ us hl => match us, hl with | [_], _ => rfl⟩
/-! ### gate_mask -/
abbrev s_gate_mask : Stmt := top 3
abbrev N_gate_mask : List Str := [(Str.ofString "kind"), (Str.ofString "masks"), (Str.ofString "full")]
def bd_gate_mask : {b : List Stmt // defBody s_gate_mask = b} := by
  have e : defBody s_gate_mask = defBody s_gate_mask := rfl
  conv at e => rhs; whnf
  exact ⟨_, e⟩
def sc_gate_mask : {b : Scope // defScope s_gate_mask = b} := by
  have e : defScope s_gate_mask = defScope s_gate_mask := rfl
  conv at e => rhs; whnf
  exact ⟨_, e⟩
theorem S_gate_mask : FnScope N_gate_mask [(Str.ofString "kind"), (Str.ofString "masks"), (Str.ofString "full")] sc_gate_mask.1 := ⟨rfl, rfl, rfl, by decide +kernel, rfl, by decide +kernel, by decide +kernel⟩
def F_gate_mask : FS := (sSeq (sIf (b2 dEq (eVar 0) (eC (.str (Str.ofString "not")))) (sRet (e2 dBx (eVar 2) (e2 ixD (eVar 1) (eC (.int 0))))) sNil) (sSeq (sIf (b2 dEq (eVar 0) (eC (.str (Str.ofString "and")))) (sRet (e2 dBa (e2 ixD (eVar 1) (eC (.int 0))) (e2 ixD (eVar 1) (eC (.int 1))))) sNil) (sSeq (sIf (b2 dEq (eVar 0) (eC (.str (Str.ofString "or")))) (sRet (e2 dBo (e2 ixD (eVar 1) (eC (.int 0))) (e2 ixD (eVar 1) (eC (.int 1))))) sNil) (sSeq (sIf (b2 dEq (eVar 0) (eC (.str (Str.ofString "xor")))) (sRet (e2 dBx (e2 ixD (eVar 1) (eC (.int 0))) (e2 ixD (eVar 1) (eC (.int 1))))) sNil) (sRet (eCall d_vote_of (aCons (eVar 1) aNil)))))))
def d_gate_mask : List D → R D := fnD N_gate_mask F_gate_mask
theorem c_gate_mask {P : Program} {w : World} {K : PySem.W.Frag} {mg : Str → Option Value} {base : Heap} {cl : Nat → Addr} (T : Tp K mg cl) (h : Def K mg (Str.ofString "gate_mask") s_gate_mask) (C_vote_of : Callee P w K mg base 1 (Str.ofString "vote_of") 1 d_vote_of) : Callee P w K mg base 2 (Str.ofString "gate_mask") 3 d_gate_mask := by
  obtain ⟨f, fd, F, hm⟩ := h
  exact ⟨f, fd, _, qfn_pureB (k := 1) bd_gate_mask.2 sc_gate_mask.2 F S_gate_mask (fun cdv A outer s H E hr => (qpds_cons (qpds_if (qpb_cmp (o_eq hr.units) (qpd_var 0) qpd_str (nomark _)) (qpds_one (qpds_ret (qpd_op o_bx (qpd_var 2) (qpd_ix (qpd_var 1) qpd_int (fun _ _ => rfl))))) qpds_nil) (qpds_cons (qpds_if (qpb_cmp (o_eq hr.units) (qpd_var 0) qpd_str (nomark _)) (qpds_one (qpds_ret (qpd_op o_ba (qpd_ix (qpd_var 1) qpd_int (fun _ _ => rfl)) (qpd_ix (qpd_var 1) qpd_int (fun _ _ => rfl))))) qpds_nil) (qpds_cons (qpds_if (qpb_cmp (o_eq hr.units) (qpd_var 0) qpd_str (nomark _)) (qpds_one (qpds_ret (qpd_op o_bo (qpd_ix (qpd_var 1) qpd_int (fun _ _ => rfl)) (qpd_ix (qpd_var 1) qpd_int (fun _ _ => rfl))))) qpds_nil) (qpds_cons (qpds_if (qpb_cmp (o_eq hr.units) (qpd_var 0) qpd_str (nomark _)) (qpds_one (qpds_ret (qpd_op o_bx (qpd_ix (qpd_var 1) qpd_int (fun _ _ => rfl)) (qpd_ix (qpd_var 1) qpd_int (fun _ _ => rfl))))) qpds_nil) (qpds_one (qpds_ret (qpd_callC C_vote_of hr (by decide) rfl (qpas_cons (qpd_var 1) qpas_nil) (alen_cons alen_nil))))))))), hm, F.kp, F.binds fun _ _ _ _ _ _ us hl => match us, hl with | [_, _, _], _ => rfl⟩
/-! ### in_wire_masks -/
abbrev s_in_wire_masks : Stmt := top 4
abbrev N_in_wire_masks : List Str := [(Str.ofString "ins"), (Str.ofString "in_masks"), (Str.ofString "full"), (Str.ofString "bad"), (Str.ofString "wires"), (Str.ofString "place"), (Str.ofString "mask"), (Str.ofString "figure")]
def bd_in_wire_masks : {b : List Stmt // defBody s_in_wire_masks = b} := by
  have e : defBody s_in_wire_masks = defBody s_in_wire_masks := rfl
  conv at e => rhs; whnf
  exact ⟨_, e⟩
def sc_in_wire_masks : {b : Scope // defScope s_in_wire_masks = b} := by
  have e : defScope s_in_wire_masks = defScope s_in_wire_masks := rfl
  conv at e => rhs; whnf
  exact ⟨_, e⟩
theorem S_in_wire_masks : FnScope N_in_wire_masks [(Str.ofString "ins"), (Str.ofString "in_masks"), (Str.ofString "full"), (Str.ofString "bad")] sc_in_wire_masks.1 := ⟨rfl, rfl, rfl, by decide +kernel, rfl, by decide +kernel, by decide +kernel⟩
def B_in_wire_masks_0 : FZ := (zApp 4 (xT (eIf (b2 dIn (eCall cLen (aCons (eVar 4) aNil)) (eVar 3)) (e2 dBx (eVar 2) (eVar 6)) (eVar 6))))
def B_in_wire_masks_1 : FZ := (zFor (iP (itRng1 (e2 ixD (e2 ixD (eVar 0) (eVar 5)) (eC (.int 1))))) (gNm 7) B_in_wire_masks_0)
def F_in_wire_masks : FZ := (zSeq (zSet 4 (xNew (nLst aNil))) (zSeq (zFor (iP (itEnum (eVar 1))) (gTp 2 (gCn (gNm 5) (gCn (gNm 6) gNl))) B_in_wire_masks_1) (zRet (xVar 4))))
def dK_in_wire_masks : List V3 → Sto → R3 V3 := fnK N_in_wire_masks F_in_wire_masks
def dP_in_wire_masks : List V3 → Sto → R3 V3 := fnP N_in_wire_masks F_in_wire_masks
theorem c_in_wire_masks {P : Program} {w : World} {K : PySem.W.Frag} {mg : Str → Option Value} {base : Heap} {cl : Nat → Addr} (T : Tp K mg cl) (h : Def K mg (Str.ofString "in_wire_masks") s_in_wire_masks)  : CalleeX P w K mg base cl 1 (Str.ofString "in_wire_masks") 4 dK_in_wire_masks := by
  obtain ⟨f, fd, F, hm⟩ := h
  exact ⟨f, fd, _, fn_keepB (k := 0) bd_in_wire_masks.2 sc_in_wire_masks.2 F S_in_wire_masks (fun cdv A outer s H E hr => (pzs_cons (pz_set S_in_wire_masks.nd rfl (Or.inl rfl) (px_new (qpn_lst qpas_nil))) (pzs_cons (pz_for PassesOwn.never rfl (pxi_pure (qpit_enum (qpd_var 1) rfl T.z_enumerate)) (pxg_tup rfl (pxgs_cons (pxg_name S_in_wire_masks.nd rfl (Or.inl rfl)) (pxgs_cons (pxg_name S_in_wire_masks.nd rfl (Or.inl rfl)) pxgs_nil))) (pzs_one (pz_for PassesOwn.never rfl (pxi_pure (qpit_range1 (qpd_ix (qpd_ix (qpd_var 0) (qpd_var 5) (fun _ _ => rfl)) qpd_int (fun _ _ => rfl)) rfl T.z_range)) (pxg_name S_in_wire_masks.nd rfl (Or.inl rfl)) (pzs_one (pz_app rfl (Or.inl rfl) (px_thaw (qpd_if (qpb_cmp o_in (qpd_callB c_len rfl T.z_len PySem.boot_len (qpas_cons (qpd_var 4) qpas_nil)) (qpd_var 3) (by with_unfolding_all rfl)) (qpd_op o_bx (qpd_var 2) (qpd_var 6)) (qpd_var 6)))))))) (pzs_one (pz_ret (px_var 4)))))), hm, F.kp, F.binds fun _ _ _ _ _ _ us hl => match us, hl with | [_, _, _, _], _ => rfl⟩
/-! ### masks_at -/
abbrev s_masks_at : Stmt := top 5
abbrev N_masks_at : List Str := [(Str.ofString "wires"), (Str.ofString "numbers")]
def bd_masks_at : {b : List Stmt // defBody s_masks_at = b} := by
  have e : defBody s_masks_at = defBody s_masks_at := rfl
  conv at e => rhs; whnf
  exact ⟨_, e⟩
def sc_masks_at : {b : Scope // defScope s_masks_at = b} := by
  have e : defScope s_masks_at = defScope s_masks_at := rfl
  conv at e => rhs; whnf
  exact ⟨_, e⟩
theorem S_masks_at : FnScope N_masks_at [(Str.ofString "wires"), (Str.ofString "numbers")] sc_masks_at.1 := ⟨rfl, rfl, rfl, by decide +kernel, rfl, by decide +kernel, by decide +kernel⟩
def F_masks_at : FS := (sRet (eCall cTuple (aCons (eNew (nComp (itSeq (eVar 1)) (gNameD 0) cYes (e2 ixD (eVar 1) (eVar 0)) [(Str.ofString "number")] [0])) aNil)))
def d_masks_at : List D → R D := fnD N_masks_at F_masks_at
theorem c_masks_at {P : Program} {w : World} {K : PySem.W.Frag} {mg : Str → Option Value} {base : Heap} {cl : Nat → Addr} (T : Tp K mg cl) (h : Def K mg (Str.ofString "masks_at") s_masks_at)  : Callee P w K mg base 1 (Str.ofString "masks_at") 2 d_masks_at := by
  obtain ⟨f, fd, F, hm⟩ := h
  exact ⟨f, fd, _, qfn_pureB (k := 0) bd_masks_at.2 sc_masks_at.2 F S_masks_at (fun cdv A outer s H E hr => (qpds_one (qpds_ret (qpd_callTy c_tuple rfl T.z_tuple PyProof.Rows.boot_tuple (qpas_cons (qpd_new (qpn_comp rfl (CScope.of (own := [(Str.ofString "number")]) (kp := [0]) (kn := [(Str.ofString "wires")]) (sc := sc_masks_at.1) (N := N_masks_at) rfl rfl (by decide +kernel)) (qpit_seq (qpd_var 1)) (fun _ _ _ => (qptg_name (show List.Nodup [(Str.ofString "number"), (Str.ofString "wires")] from by decide +kernel) rfl (Or.inl rfl))) (fun _ _ _ => qpifs_yes) (fun _ _ _ => (qpd_ix (qpd_var 1) (qpd_var 0) (fun _ _ => rfl))))) qpas_nil))))), hm, F.kp, F.binds fun _ _ _ _ _ _ us hl => match us, hl with | [_, _], _ => rfl⟩
/-! ### wire_masks -/
abbrev s_wire_masks : Stmt := top 6
abbrev N_wire_masks : List Str := [(Str.ofString "net"), (Str.ofString "in_masks"), (Str.ofString "full"), (Str.ofString "turned"), (Str.ofString "bad"), (Str.ofString "wires"), (Str.ofString "place"), (Str.ofString "gate"), (Str.ofString "mask")]
def bd_wire_masks : {b : List Stmt // defBody s_wire_masks = b} := by
  have e : defBody s_wire_masks = defBody s_wire_masks := rfl
  conv at e => rhs; whnf
  exact ⟨_, e⟩
def sc_wire_masks : {b : Scope // defScope s_wire_masks = b} := by
  have e : defScope s_wire_masks = defScope s_wire_masks := rfl
  conv at e => rhs; whnf
  exact ⟨_, e⟩
theorem S_wire_masks : FnScope N_wire_masks [(Str.ofString "net"), (Str.ofString "in_masks"), (Str.ofString "full"), (Str.ofString "turned"), (Str.ofString "bad")] sc_wire_masks.1 := ⟨rfl, rfl, rfl, by decide +kernel, rfl, by decide +kernel, by decide +kernel⟩
def B_wire_masks_0 : FZ := (zSeq (zSet 8 (xT (eCall d_gate_mask (aCons (e2 ixD (eVar 7) (eC (.int 0))) (aCons (eCall d_masks_at (aCons (eVar 5) (aCons (e2 ixD (eVar 7) (eC (.int 1))) aNil))) (aCons (eVar 2) aNil)))))) (zApp 5 (xP (eIf (b2 dIn (eVar 6) (eVar 3)) (e2 dBx (eVar 2) (eVar 8)) (eVar 8)))))
def F_wire_masks : FZ := (zSeq (zSet 5 (xCall dK_in_wire_masks (xCons (xP (e2 ixD (eVar 0) (eC (.int 0)))) (xCons (xP (eVar 1)) (xCons (xP (eVar 2)) (xCons (xP (eVar 4)) xNil)))))) (zSeq (zFor (iP (itEnum (e2 ixD (eVar 0) (eC (.int 1))))) (gTp 2 (gCn (gNm 6) (gCn (gNm 7) gNl))) B_wire_masks_0) (zRet (xVar 5))))
def dK_wire_masks : List V3 → Sto → R3 V3 := fnK N_wire_masks F_wire_masks
def dP_wire_masks : List V3 → Sto → R3 V3 := fnP N_wire_masks F_wire_masks
theorem c_wire_masks {P : Program} {w : World} {K : PySem.W.Frag} {mg : Str → Option Value} {base : Heap} {cl : Nat → Addr} (T : Tp K mg cl) (h : Def K mg (Str.ofString "wire_masks") s_wire_masks) (C_masks_at : Callee P w K mg base 1 (Str.ofString "masks_at") 2 d_masks_at) (C_gate_mask : Callee P w K mg base 2 (Str.ofString "gate_mask") 3 d_gate_mask) (XK_in_wire_masks : CalleeX P w K mg base cl 1 (Str.ofString "in_wire_masks") 4 dK_in_wire_masks) : CalleeX P w K mg base cl 3 (Str.ofString "wire_masks") 5 dK_wire_masks := by
  obtain ⟨f, fd, F, hm⟩ := h
  exact ⟨f, fd, _, fn_keepB (k := 2) bd_wire_masks.2 sc_wire_masks.2 F S_wire_masks (fun cdv A outer s H E hr => (pzs_cons (pz_set S_wire_masks.nd rfl (Or.inl rfl) (px_call XK_in_wire_masks hr (by decide) rfl (pxa_cons (px_pure (qpd_ix (qpd_var 0) qpd_int (fun _ _ => rfl))) (pxa_cons (px_pure (qpd_var 1)) (pxa_cons (px_pure (qpd_var 2)) (pxa_cons (px_pure (qpd_var 4)) pxa_nil)))) (xlen_cons (xlen_cons (xlen_cons (xlen_cons xlen_nil)))))) (pzs_cons (pz_for PassesOwn.never rfl (pxi_pure (qpit_enum (qpd_ix (qpd_var 0) qpd_int (fun _ _ => rfl)) rfl T.z_enumerate)) (pxg_tup rfl (pxgs_cons (pxg_name S_wire_masks.nd rfl (Or.inl rfl)) (pxgs_cons (pxg_name S_wire_masks.nd rfl (Or.inl rfl)) pxgs_nil))) (pzs_cons (pz_set S_wire_masks.nd rfl (Or.inl rfl) (px_thaw (qpd_callC C_gate_mask hr (by decide) rfl (qpas_cons (qpd_ix (qpd_var 7) qpd_int (fun _ _ => rfl)) (qpas_cons (qpd_callC C_masks_at hr (by decide) rfl (qpas_cons (qpd_var 5) (qpas_cons (qpd_ix (qpd_var 7) qpd_int (fun _ _ => rfl)) qpas_nil)) (alen_cons (alen_cons alen_nil))) (qpas_cons (qpd_var 2) qpas_nil))) (alen_cons (alen_cons (alen_cons alen_nil)))))) (pzs_one (pz_app rfl (Or.inl rfl) (px_pure (qpd_if (qpb_cmp o_in (qpd_var 6) (qpd_var 3) (by with_unfolding_all rfl)) (qpd_op o_bx (qpd_var 2) (qpd_var 8)) (qpd_var 8))))))) (pzs_one (pz_ret (px_var 5)))))), hm, F.kp, F.binds fun _ _ _ _ _ _ us hl => match us, hl with | [_, _, _, _, _], _ => rfl⟩
/-! ### out_masks -/
abbrev s_out_masks : Stmt := top 7
abbrev N_out_masks : List Str := [(Str.ofString "net"), (Str.ofString "wires")]
def bd_out_masks : {b : List Stmt // defBody s_out_masks = b} := by
  have e : defBody s_out_masks = defBody s_out_masks := rfl
  conv at e => rhs; whnf
  exact ⟨_, e⟩
def sc_out_masks : {b : Scope // defScope s_out_masks = b} := by
  have e : defScope s_out_masks = defScope s_out_masks := rfl
  conv at e => rhs; whnf
  exact ⟨_, e⟩
theorem S_out_masks : FnScope N_out_masks [(Str.ofString "net"), (Str.ofString "wires")] sc_out_masks.1 := ⟨rfl, rfl, rfl, by decide +kernel, rfl, by decide +kernel, by decide +kernel⟩
def F_out_masks : FZ := (zRet (xNew (nComp (itSeq (e2 ixD (eVar 0) (eC (.int 2)))) (gTupD 2 (gConsD (gNameD 0) (gConsD (gNameD 1) gNilD))) cYes (eCall d_masks_at (aCons (eVar 2) (aCons (eVar 1) aNil))) [(Str.ofString "name"), (Str.ofString "numbers")] [1])))
def dK_out_masks : List V3 → Sto → R3 V3 := fnK N_out_masks F_out_masks
def dP_out_masks : List V3 → Sto → R3 V3 := fnP N_out_masks F_out_masks
theorem c_out_masks {P : Program} {w : World} {K : PySem.W.Frag} {mg : Str → Option Value} {base : Heap} {cl : Nat → Addr} (T : Tp K mg cl) (h : Def K mg (Str.ofString "out_masks") s_out_masks) (C_masks_at : Callee P w K mg base 1 (Str.ofString "masks_at") 2 d_masks_at) : CalleeX P w K mg base cl 2 (Str.ofString "out_masks") 2 dK_out_masks := by
  obtain ⟨f, fd, F, hm⟩ := h
  exact ⟨f, fd, _, fn_keepB (k := 1) bd_out_masks.2 sc_out_masks.2 F S_out_masks (fun cdv A outer s H E hr => (pzs_one (pz_ret (px_new (qpn_comp rfl (CScope.of (own := [(Str.ofString "name"), (Str.ofString "numbers")]) (kp := [1]) (kn := [(Str.ofString "wires")]) (sc := sc_out_masks.1) (N := N_out_masks) rfl rfl (by decide +kernel)) (qpit_seq (qpd_ix (qpd_var 0) qpd_int (fun _ _ => rfl))) (fun _ _ _ => (qptg_tup rfl (qptgs_cons (qptg_name (show List.Nodup [(Str.ofString "name"), (Str.ofString "numbers"), (Str.ofString "wires")] from by decide +kernel) rfl (Or.inl rfl)) (qptgs_cons (qptg_name (show List.Nodup [(Str.ofString "name"), (Str.ofString "numbers"), (Str.ofString "wires")] from by decide +kernel) rfl (Or.inl rfl)) qptgs_nil)))) (fun _ _ _ => qpifs_yes) (fun _ _ _ => (qpd_callC C_masks_at hr (by decide) rfl (qpas_cons (qpd_var 2) (qpas_cons (qpd_var 1) qpas_nil)) (alen_cons (alen_cons alen_nil))))))))), hm, F.kp, F.binds fun _ _ _ _ _ _ us hl => match us, hl with | [_, _], _ => rfl⟩
/-! ### reading -/
abbrev s_reading : Stmt := top 8
abbrev N_reading : List Str := [(Str.ofString "masks"), (Str.ofString "full"), (Str.ofString "ones")]
def bd_reading : {b : List Stmt // defBody s_reading = b} := by
  have e : defBody s_reading = defBody s_reading := rfl
  conv at e => rhs; whnf
  exact ⟨_, e⟩
def sc_reading : {b : Scope // defScope s_reading = b} := by
  have e : defScope s_reading = defScope s_reading := rfl
  conv at e => rhs; whnf
  exact ⟨_, e⟩
theorem S_reading : FnScope N_reading [(Str.ofString "masks"), (Str.ofString "full")] sc_reading.1 := ⟨rfl, rfl, rfl, by decide +kernel, rfl, by decide +kernel, by decide +kernel⟩
def F_reading : FS := (sSeq (sIf (b2 dEq (eCall cLen (aCons (eVar 0) aNil)) (eC (.int 2))) (sRet (eTup (aCons (e2 dBx (eVar 1) (e2 dBo (e2 ixD (eVar 0) (eC (.int 0))) (e2 ixD (eVar 0) (eC (.int 1))))) (aCons (e2 dBa (e2 ixD (eVar 0) (eC (.int 0))) (e2 ixD (eVar 0) (eC (.int 1)))) aNil)))) sNil) (sSeq (sSet 2 (eIf (b2 dEq (eCall cLen (aCons (eVar 0) aNil)) (eC (.int 1))) (e2 ixD (eVar 0) (eC (.int 0))) (eCall d_vote_of (aCons (eVar 0) aNil)))) (sRet (eTup (aCons (e2 dBx (eVar 1) (eVar 2)) (aCons (eVar 2) aNil))))))
def d_reading : List D → R D := fnD N_reading F_reading
theorem c_reading {P : Program} {w : World} {K : PySem.W.Frag} {mg : Str → Option Value} {base : Heap} {cl : Nat → Addr} (T : Tp K mg cl) (h : Def K mg (Str.ofString "reading") s_reading) (C_vote_of : Callee P w K mg base 1 (Str.ofString "vote_of") 1 d_vote_of) : Callee P w K mg base 2 (Str.ofString "reading") 2 d_reading := by
  obtain ⟨f, fd, F, hm⟩ := h
  exact ⟨f, fd, _, qfn_pureB (k := 1) bd_reading.2 sc_reading.2 F S_reading (fun cdv A outer s H E hr => (qpds_cons (qpds_if (qpb_cmp (o_eq hr.units) (qpd_callB c_len rfl T.z_len PySem.boot_len (qpas_cons (qpd_var 0) qpas_nil)) qpd_int (nomark _)) (qpds_one (qpds_ret (qpd_tup (qpas_cons (qpd_op o_bx (qpd_var 1) (qpd_op o_bo (qpd_ix (qpd_var 0) qpd_int (fun _ _ => rfl)) (qpd_ix (qpd_var 0) qpd_int (fun _ _ => rfl)))) (qpas_cons (qpd_op o_ba (qpd_ix (qpd_var 0) qpd_int (fun _ _ => rfl)) (qpd_ix (qpd_var 0) qpd_int (fun _ _ => rfl))) qpas_nil))))) qpds_nil) (qpds_cons (qpds_set S_reading.nd rfl (Or.inl rfl) (qpd_if (qpb_cmp (o_eq hr.units) (qpd_callB c_len rfl T.z_len PySem.boot_len (qpas_cons (qpd_var 0) qpas_nil)) qpd_int (nomark _)) (qpd_ix (qpd_var 0) qpd_int (fun _ _ => rfl)) (qpd_callC C_vote_of hr (by decide) rfl (qpas_cons (qpd_var 0) qpas_nil) (alen_cons alen_nil)))) (qpds_one (qpds_ret (qpd_tup (qpas_cons (qpd_op o_bx (qpd_var 1) (qpd_var 2)) (qpas_cons (qpd_var 2) qpas_nil)))))))), hm, F.kp, F.binds fun _ _ _ _ _ _ us hl => match us, hl with | [_, _], _ => rfl⟩
/-! ### bit_at -/
abbrev s_bit_at : Stmt := top 9
abbrev N_bit_at : List Str := [(Str.ofString "mask"), (Str.ofString "number")]
def bd_bit_at : {b : List Stmt // defBody s_bit_at = b} := by
  have e : defBody s_bit_at = defBody s_bit_at := rfl
  conv at e => rhs; whnf
  exact ⟨_, e⟩
def sc_bit_at : {b : Scope // defScope s_bit_at = b} := by
  have e : defScope s_bit_at = defScope s_bit_at := rfl
  conv at e => rhs; whnf
  exact ⟨_, e⟩
theorem S_bit_at : FnScope N_bit_at [(Str.ofString "mask"), (Str.ofString "number")] sc_bit_at.1 := ⟨rfl, rfl, rfl, by decide +kernel, rfl, by decide +kernel, by decide +kernel⟩
def F_bit_at : FS := (sRet (e2 dBa (e2 dShr (eVar 0) (eVar 1)) (eC (.int 1))))
def d_bit_at : List D → R D := fnD N_bit_at F_bit_at
theorem c_bit_at {P : Program} {w : World} {K : PySem.W.Frag} {mg : Str → Option Value} {base : Heap} {cl : Nat → Addr} (T : Tp K mg cl) (h : Def K mg (Str.ofString "bit_at") s_bit_at)  : Callee P w K mg base 1 (Str.ofString "bit_at") 2 d_bit_at := by
  obtain ⟨f, fd, F, hm⟩ := h
  exact ⟨f, fd, _, qfn_pureB (k := 0) bd_bit_at.2 sc_bit_at.2 F S_bit_at (fun cdv A outer s H E hr => (qpds_one (qpds_ret (qpd_op o_ba (qpd_op o_shr (qpd_var 0) (qpd_var 1)) qpd_int)))), hm, F.kp, F.binds fun _ _ _ _ _ _ us hl => match us, hl with | [_, _], _ => rfl⟩
/-! ### all_inputs -/
abbrev s_all_inputs : Stmt := top 10
abbrev N_all_inputs : List Str := [(Str.ofString "count"), (Str.ofString "inputs"), (Str.ofString "place"), (Str.ofString "longer"), (Str.ofString "bits")]
def bd_all_inputs : {b : List Stmt // defBody s_all_inputs = b} := by
  have e : defBody s_all_inputs = defBody s_all_inputs := rfl
  conv at e => rhs; whnf
  exact ⟨_, e⟩
def sc_all_inputs : {b : Scope // defScope s_all_inputs = b} := by
  have e : defScope s_all_inputs = defScope s_all_inputs := rfl
  conv at e => rhs; whnf
  exact ⟨_, e⟩
theorem S_all_inputs : FnScope N_all_inputs [(Str.ofString "count")] sc_all_inputs.1 := ⟨rfl, rfl, rfl, by decide +kernel, rfl, by decide +kernel, by decide +kernel⟩
def B_all_inputs_0 : FZ := (zSeq (zApp 3 (xP (e2 dAddX (eVar 4) (eTup (aCons (eC (.int 0)) aNil))))) (zApp 3 (xP (e2 dAddX (eVar 4) (eTup (aCons (eC (.int 1)) aNil))))))
def B_all_inputs_1 : FZ := (zFrz 1 (zSeq (zSet 3 (xNew (nLst aNil))) (zSeq (zFor (iP (itSeq (eVar 1))) (gNm 4) B_all_inputs_0) (zSet 1 (xVar 3)))))
def F_all_inputs : FZ := (zSeq (zSet 1 (xNew (nLst (aCons (eTup aNil) aNil)))) (zSeq (zFor (iP (itRng1 (eVar 0))) (gNm 2) B_all_inputs_1) (zRet (xVar 1))))
def dK_all_inputs : List V3 → Sto → R3 V3 := fnK N_all_inputs F_all_inputs
def dP_all_inputs : List V3 → Sto → R3 V3 := fnP N_all_inputs F_all_inputs
theorem c_all_inputs {P : Program} {w : World} {K : PySem.W.Frag} {mg : Str → Option Value} {base : Heap} {cl : Nat → Addr} (T : Tp K mg cl) (h : Def K mg (Str.ofString "all_inputs") s_all_inputs)  : CalleeX P w K mg base cl 1 (Str.ofString "all_inputs") 1 dK_all_inputs := by
  obtain ⟨f, fd, F, hm⟩ := h
  exact ⟨f, fd, _, fn_keepB (k := 0) bd_all_inputs.2 sc_all_inputs.2 F S_all_inputs (fun cdv A outer s H E hr => (pzs_cons (pz_set S_all_inputs.nd rfl (Or.inl rfl) (px_new (qpn_lst (qpas_cons (qpd_tup qpas_nil) qpas_nil)))) (pzs_cons (pz_for PassesOwn.never rfl (pxi_pure (qpit_range1 (qpd_var 0) rfl T.z_range)) (pxg_name S_all_inputs.nd rfl (Or.inl rfl)) (pzs_frz 1 (pzs_cons (pz_set S_all_inputs.nd rfl (Or.inl rfl) (px_new (qpn_lst qpas_nil))) (pzs_cons (pz_for PassesOwn.never rfl (pxi_pure (qpit_seq (qpd_var 1))) (pxg_name S_all_inputs.nd rfl (Or.inl rfl)) (pzs_cons (pz_app rfl (Or.inl rfl) (px_pure (qpd_op o_addX (qpd_var 4) (qpd_tup (qpas_cons qpd_int qpas_nil))))) (pzs_one (pz_app rfl (Or.inl rfl) (px_pure (qpd_op o_addX (qpd_var 4) (qpd_tup (qpas_cons qpd_int qpas_nil)))))))) (pzs_one (pz_set S_all_inputs.nd rfl (Or.inl rfl) (px_var 3))))))) (pzs_one (pz_ret (px_var 1)))))), hm, F.kp, F.binds fun _ _ _ _ _ _ us hl => match us, hl with | [_], _ => rfl⟩
/-! ### mask_of -/
abbrev s_mask_of : Stmt := top 11
abbrev N_mask_of : List Str := [(Str.ofString "bits"), (Str.ofString "mask"), (Str.ofString "bit")]
def bd_mask_of : {b : List Stmt // defBody s_mask_of = b} := by
  have e : defBody s_mask_of = defBody s_mask_of := rfl
  conv at e => rhs; whnf
  exact ⟨_, e⟩
def sc_mask_of : {b : Scope // defScope s_mask_of = b} := by
  have e : defScope s_mask_of = defScope s_mask_of := rfl
  conv at e => rhs; whnf
  exact ⟨_, e⟩
theorem S_mask_of : FnScope N_mask_of [(Str.ofString "bits")] sc_mask_of.1 := ⟨rfl, rfl, rfl, by decide +kernel, rfl, by decide +kernel, by decide +kernel⟩
def B_mask_of_0 : FS := (sSet 1 (e2 dAdd (e2 dMul (eVar 1) (eC (.int 2))) (eVar 2)))
def F_mask_of : FS := (sSeq (sSet 1 (eC (.int 0))) (sSeq (sFor (itRev (eVar 0)) (gNameD 2) B_mask_of_0) (sRet (eVar 1))))
def d_mask_of : List D → R D := fnD N_mask_of F_mask_of
theorem c_mask_of {P : Program} {w : World} {K : PySem.W.Frag} {mg : Str → Option Value} {base : Heap} {cl : Nat → Addr} (T : Tp K mg cl) (h : Def K mg (Str.ofString "mask_of") s_mask_of)  : Callee P w K mg base 1 (Str.ofString "mask_of") 1 d_mask_of := by
  obtain ⟨f, fd, F, hm⟩ := h
  exact ⟨f, fd, _, qfn_pureB (k := 0) bd_mask_of.2 sc_mask_of.2 F S_mask_of (fun cdv A outer s H E hr => (qpds_cons (qpds_set S_mask_of.nd rfl (Or.inl rfl) qpd_int) (qpds_cons (qpds_for PassesOwn.never rfl (qpit_rev (qpd_var 0) rfl T.z_reversed) (qptg_name S_mask_of.nd rfl (Or.inl rfl)) (qpds_one (qpds_set S_mask_of.nd rfl (Or.inl rfl) (qpd_op o_add (qpd_op o_mul (qpd_var 1) qpd_int) (qpd_var 2))))) (qpds_one (qpds_ret (qpd_var 1)))))), hm, F.kp, F.binds fun _ _ _ _ _ _ us hl => match us, hl with | [_], _ => rfl⟩
/-! ### in_mask -/
abbrev s_in_mask : Stmt := top 12
abbrev N_in_mask : List Str := [(Str.ofString "inputs"), (Str.ofString "place")]
def bd_in_mask : {b : List Stmt // defBody s_in_mask = b} := by
  have e : defBody s_in_mask = defBody s_in_mask := rfl
  conv at e => rhs; whnf
  exact ⟨_, e⟩
def sc_in_mask : {b : Scope // defScope s_in_mask = b} := by
  have e : defScope s_in_mask = defScope s_in_mask := rfl
  conv at e => rhs; whnf
  exact ⟨_, e⟩
theorem S_in_mask : FnScope N_in_mask [(Str.ofString "inputs"), (Str.ofString "place")] sc_in_mask.1 := ⟨rfl, rfl, rfl, by decide +kernel, rfl, by decide +kernel, by decide +kernel⟩
def F_in_mask : FS := (sRet (eCall d_mask_of (aCons (eNew (nComp (itSeq (eVar 0)) (gNameD 0) cYes (e2 ixD (eVar 0) (eVar 1)) [(Str.ofString "bits")] [1])) aNil)))
def d_in_mask : List D → R D := fnD N_in_mask F_in_mask
theorem c_in_mask {P : Program} {w : World} {K : PySem.W.Frag} {mg : Str → Option Value} {base : Heap} {cl : Nat → Addr} (T : Tp K mg cl) (h : Def K mg (Str.ofString "in_mask") s_in_mask) (C_mask_of : Callee P w K mg base 1 (Str.ofString "mask_of") 1 d_mask_of) : Callee P w K mg base 2 (Str.ofString "in_mask") 2 d_in_mask := by
  obtain ⟨f, fd, F, hm⟩ := h
  exact ⟨f, fd, _, qfn_pureB (k := 1) bd_in_mask.2 sc_in_mask.2 F S_in_mask (fun cdv A outer s H E hr => (qpds_one (qpds_ret (qpd_callC C_mask_of hr (by decide) rfl (qpas_cons (qpd_new (qpn_comp rfl (CScope.of (own := [(Str.ofString "bits")]) (kp := [1]) (kn := [(Str.ofString "place")]) (sc := sc_in_mask.1) (N := N_in_mask) rfl rfl (by decide +kernel)) (qpit_seq (qpd_var 0)) (fun _ _ _ => (qptg_name (show List.Nodup [(Str.ofString "bits"), (Str.ofString "place")] from by decide +kernel) rfl (Or.inl rfl))) (fun _ _ _ => qpifs_yes) (fun _ _ _ => (qpd_ix (qpd_var 0) (qpd_var 1) (fun _ _ => rfl))))) qpas_nil) (alen_cons alen_nil))))), hm, F.kp, F.binds fun _ _ _ _ _ _ us hl => match us, hl with | [_, _], _ => rfl⟩
/-! ### choices -/
abbrev s_choices : Stmt := top 15
abbrev N_choices : List Str := [(Str.ofString "places"), (Str.ofString "size"), (Str.ofString "found"), (Str.ofString "ahead"), (Str.ofString "place"), (Str.ofString "rest")]
def bd_choices : {b : List Stmt // defBody s_choices = b} := by
  have e : defBody s_choices = defBody s_choices := rfl
  conv at e => rhs; whnf
  exact ⟨_, e⟩
def sc_choices : {b : Scope // defScope s_choices = b} := by
  have e : defScope s_choices = defScope s_choices := rfl
  conv at e => rhs; whnf
  exact ⟨_, e⟩
theorem S_choices : FnScope N_choices [(Str.ofString "places"), (Str.ofString "size")] sc_choices.1 := ⟨rfl, rfl, rfl, by decide +kernel, rfl, by decide +kernel, by decide +kernel⟩
def B_choices_0 (self : List D → R D) : FS := (sApp 2 (e2 dAddX (eTup (aCons (eVar 4) aNil)) (eVar 5)))
def B_choices_1 (self : List D → R D) : FS := (sFor (itSeq (eCall self (aCons (eSl (eVar 0) (oSome (e2 dAddX (eVar 3) (eC (.int 1)))) oNone) (aCons (e2 dSub (eVar 1) (eC (.int 1))) aNil)))) (gNameD 5) (B_choices_0 self))
def F_choices (self : List D → R D) : FS := (sSeq (sIf (b2 dEq (eVar 1) (eC (.int 0))) (sRet (eNew (nLst (aCons (eTup aNil) aNil)))) sNil) (sSeq (sBld 2 (nLst aNil)) (sSeq (sFor (itEnum (eVar 0)) (gTupD 2 (gConsD (gNameD 3) (gConsD (gNameD 4) gNilD))) (B_choices_1 self)) (sFrz 2 (sRet (eVar 2))))))
def d_choices : Nat → List D → R D
  | 0 => fun _ => .no
  | n + 1 => fnD N_choices (F_choices (d_choices n))
theorem c_choices {P : Program} {w : World} {K : PySem.W.Frag} {mg : Str → Option Value} {base : Heap} {cl : Nat → Addr} (T : Tp K mg cl) (h : Def K mg (Str.ofString "choices") s_choices)  : ∀ n, Callee P w K mg base (1 + n) (Str.ofString "choices") 2 (d_choices n)
  | 0 => by
    obtain ⟨f, fd, F, hm⟩ := h
    exact ⟨f, fd, [(Str.ofString "places"), (Str.ofString "size")], fn_no, hm, F.kp, F.binds fun _ _ _ _ _ _ us hl => match us, hl with | [_, _], _ => rfl⟩
  | n + 1 => by
    have C_self := c_choices (P := P) (w := w) (K := K) (mg := mg) (base := base) T h  n
    obtain ⟨f, fd, F, hm⟩ := h
    exact ⟨f, fd, _, qfn_pureB (k := 1 + n) bd_choices.2 sc_choices.2 F S_choices (fun cdv A outer s H E hr => (qpds_cons (qpds_if (qpb_cmp (o_eq hr.units) (qpd_var 1) qpd_int (nomark _)) (qpds_one (qpds_ret (qpd_new (qpn_lst (qpas_cons (qpd_tup qpas_nil) qpas_nil))))) qpds_nil) (qpds_cons (qpds_bld S_choices.nd rfl (Or.inl rfl) (qpn_lst qpas_nil)) (qpds_cons (qpds_for PassesOwn.never rfl (qpit_enum (qpd_var 0) rfl T.z_enumerate) (qptg_tup rfl (qptgs_cons (qptg_name S_choices.nd rfl (Or.inl rfl)) (qptgs_cons (qptg_name S_choices.nd rfl (Or.inl rfl)) qptgs_nil))) (qpds_one (qpds_for PassesOwn.never rfl (qpit_seq (qpd_callC C_self hr (by omega) rfl (qpas_cons (qpd_sl (qpd_var 0) (qpp_some (qpd_op o_addX (qpd_var 3) qpd_int)) qpp_none) (qpas_cons (qpd_op o_sub (qpd_var 1) qpd_int) qpas_nil)) (alen_cons (alen_cons alen_nil)))) (qptg_name S_choices.nd rfl (Or.inl rfl)) (qpds_one (qpds_app rfl (Or.inl rfl) (qpd_op o_addX (qpd_tup (qpas_cons (qpd_var 4) qpas_nil)) (qpd_var 5))))))) (qpds_frz 2 (qpds_one (qpds_ret (qpd_var 2)))))))), hm, F.kp, F.binds fun _ _ _ _ _ _ us hl => match us, hl with | [_, _], _ => rfl⟩
/-! ### Bench___init__ -/
abbrev s_Bench___init__ : Stmt := inClass (top 13) 0
abbrev N_Bench___init__ : List Str := [(Str.ofString "self"), (Str.ofString "net"), (Str.ofString "inputs")]
def bd_Bench___init__ : {b : List Stmt // defBody s_Bench___init__ = b} := by
  have e : defBody s_Bench___init__ = defBody s_Bench___init__ := rfl
  conv at e => rhs; whnf
  exact ⟨_, e⟩
def sc_Bench___init__ : {b : Scope // defScope s_Bench___init__ = b} := by
  have e : defScope s_Bench___init__ = defScope s_Bench___init__ := rfl
  conv at e => rhs; whnf
  exact ⟨_, e⟩
theorem S_Bench___init__ : FnScope N_Bench___init__ [(Str.ofString "self"), (Str.ofString "net")] sc_Bench___init__.1 := ⟨rfl, rfl, rfl, by decide +kernel, rfl, by decide +kernel, by decide +kernel⟩
def F_Bench___init__ : FZ := (zSeq (zSet 2 (xCall dP_all_inputs (xCons (xP (eCall cLen (aCons (e2 ixD (eVar 1) (eC (.int 0))) aNil))) xNil))) (zSeq (zFld 0 (Str.ofString "net") (xVar 0) (xP (eVar 1))) (zSeq (zFld 0 (Str.ofString "many_inputs") (xVar 0) (xP (eCall cLen (aCons (eVar 2) aNil)))) (zSeq (zFld 0 (Str.ofString "full") (xVar 0) (xP (eCall d_mask_of (aCons (eNew (nComp (itSeq (eVar 2)) (gNameD 0) cYes (eC (.int 1)) [(Str.ofString "bits")] [])) aNil)))) (zFld 0 (Str.ofString "in_masks") (xVar 0) (xP (eNew (nComp (itRng1 (eCall cLen (aCons (e2 ixD (eVar 1) (eC (.int 0))) aNil))) (gNameD 0) cYes (eCall d_in_mask (aCons (eVar 1) (aCons (eVar 0) aNil))) [(Str.ofString "place")] [2]))))))))
def dK_Bench___init__ : List V3 → Sto → R3 V3 := fnK N_Bench___init__ F_Bench___init__
def dP_Bench___init__ : List V3 → Sto → R3 V3 := fnP N_Bench___init__ F_Bench___init__
theorem c_Bench___init__ {P : Program} {w : World} {K : PySem.W.Frag} {mg : Str → Option Value} {base : Heap} {cl : Nat → Addr} (T : Tp K mg cl) (h : DefI K (cl 0) (Str.ofString "__init__") (Str.ofString "Bench.__init__") s_Bench___init__) (C_mask_of : Callee P w K mg base 1 (Str.ofString "mask_of") 1 d_mask_of) (C_in_mask : Callee P w K mg base 2 (Str.ofString "in_mask") 2 d_in_mask) (XP_all_inputs : CalleeX P w K mg base cl 1 (Str.ofString "all_inputs") 1 dP_all_inputs) : MakeX P w K mg base cl 3 0 (Str.ofString "Bench") 1 dK_Bench___init__ := by
  obtain ⟨f, fd, F, hm⟩ := h
  exact ⟨f, fd, _, hm, fn_keepB (k := 2) bd_Bench___init__.2 sc_Bench___init__.2 F S_Bench___init__ (fun cdv A outer s H E hr => (pzs_cons (pz_set S_Bench___init__.nd rfl (Or.inr rfl) (px_call XP_all_inputs hr (by decide) rfl (pxa_cons (px_pure (qpd_callB c_len rfl T.z_len PySem.boot_len (qpas_cons (qpd_ix (qpd_var 1) qpd_int (fun _ _ => rfl)) qpas_nil))) pxa_nil) (xlen_cons xlen_nil))) (pzs_cons (pz_fld T.C_Bench T.N_Bench_net (px_var 0) (px_pure (qpd_var 1))) (pzs_cons (pz_fld T.C_Bench T.N_Bench_many_inputs (px_var 0) (px_pure (qpd_callB c_len rfl T.z_len PySem.boot_len (qpas_cons (qpd_var 2) qpas_nil)))) (pzs_cons (pz_fld T.C_Bench T.N_Bench_full (px_var 0) (px_pure (qpd_callC C_mask_of hr (by decide) rfl (qpas_cons (qpd_new (qpn_comp rfl (CScope.of (own := [(Str.ofString "bits")]) (kp := []) (kn := []) (sc := sc_Bench___init__.1) (N := N_Bench___init__) rfl rfl (by decide +kernel)) (qpit_seq (qpd_var 2)) (fun _ _ _ => (qptg_name (show List.Nodup [(Str.ofString "bits")] from by decide +kernel) rfl (Or.inl rfl))) (fun _ _ _ => qpifs_yes) (fun _ _ _ => qpd_int))) qpas_nil) (alen_cons alen_nil)))) (pzs_one (pz_fld T.C_Bench T.N_Bench_in_masks (px_var 0) (px_pure (qpd_new (qpn_comp rfl (CScope.of (own := [(Str.ofString "place")]) (kp := [2]) (kn := [(Str.ofString "inputs")]) (sc := sc_Bench___init__.1) (N := N_Bench___init__) rfl rfl (by decide +kernel)) (qpit_range1 (qpd_callB c_len rfl T.z_len PySem.boot_len (qpas_cons (qpd_ix (qpd_var 1) qpd_int (fun _ _ => rfl)) qpas_nil)) rfl T.z_range) (fun _ _ _ => (qptg_name (show List.Nodup [(Str.ofString "place"), (Str.ofString "inputs")] from by decide +kernel) rfl (Or.inl rfl))) (fun _ _ _ => qpifs_yes) (fun _ _ _ => (qpd_callC C_in_mask hr (by decide) rfl (qpas_cons (qpd_var 1) (qpas_cons (qpd_var 0) qpas_nil)) (alen_cons (alen_cons alen_nil)))))))))))))), T.M_Bench, F.binds fun _ _ _ _ _ _ us hl => match us, hl with | [_, _], _ => rfl⟩
/-! ### Bench_tells -/
abbrev s_Bench_tells : Stmt := inClass (top 13) 1
abbrev N_Bench_tells : List Str := [(Str.ofString "self"), (Str.ofString "turned"), (Str.ofString "bad")]
def bd_Bench_tells : {b : List Stmt // defBody s_Bench_tells = b} := by
  have e : defBody s_Bench_tells = defBody s_Bench_tells := rfl
  conv at e => rhs; whnf
  exact ⟨_, e⟩
def sc_Bench_tells : {b : Scope // defScope s_Bench_tells = b} := by
  have e : defScope s_Bench_tells = defScope s_Bench_tells := rfl
  conv at e => rhs; whnf
  exact ⟨_, e⟩
theorem S_Bench_tells : FnScope N_Bench_tells [(Str.ofString "self"), (Str.ofString "turned"), (Str.ofString "bad")] sc_Bench_tells.1 := ⟨rfl, rfl, rfl, by decide +kernel, rfl, by decide +kernel, by decide +kernel⟩
def F_Bench_tells : FZ := (zRet (xCall dP_out_masks (xCons (xFld 0 (Str.ofString "net") (xVar 0)) (xCons (xCall dP_wire_masks (xCons (xFld 0 (Str.ofString "net") (xVar 0)) (xCons (xFld 0 (Str.ofString "in_masks") (xVar 0)) (xCons (xFld 0 (Str.ofString "full") (xVar 0)) (xCons (xP (eVar 1)) (xCons (xP (eVar 2)) xNil)))))) xNil))))
def dK_Bench_tells : List V3 → Sto → R3 V3 := fnK N_Bench_tells F_Bench_tells
def dP_Bench_tells : List V3 → Sto → R3 V3 := fnP N_Bench_tells F_Bench_tells
theorem c_Bench_tells {P : Program} {w : World} {K : PySem.W.Frag} {mg : Str → Option Value} {base : Heap} {cl : Nat → Addr} (T : Tp K mg cl) (h : DefM K (cl 0) (Str.ofString "tells") (Str.ofString "Bench.tells") s_Bench_tells) (XP_out_masks : CalleeX P w K mg base cl 2 (Str.ofString "out_masks") 2 dP_out_masks) (XP_wire_masks : CalleeX P w K mg base cl 3 (Str.ofString "wire_masks") 5 dP_wire_masks) : MethX P w K mg base cl 4 0 (Str.ofString "tells") 2 dK_Bench_tells := by
  obtain ⟨f, fd, F, hm⟩ := h
  exact ⟨f, fd, _, T.C_Bench, hm, fn_keepB (k := 3) bd_Bench_tells.2 sc_Bench_tells.2 F S_Bench_tells (fun cdv A outer s H E hr => (pzs_one (pz_ret (px_call XP_out_masks hr (by decide) rfl (pxa_cons (px_fld T.C_Bench T.N_Bench_net (px_var 0)) (pxa_cons (px_call XP_wire_masks hr (by decide) rfl (pxa_cons (px_fld T.C_Bench T.N_Bench_net (px_var 0)) (pxa_cons (px_fld T.C_Bench T.N_Bench_in_masks (px_var 0)) (pxa_cons (px_fld T.C_Bench T.N_Bench_full (px_var 0)) (pxa_cons (px_pure (qpd_var 1)) (pxa_cons (px_pure (qpd_var 2)) pxa_nil))))) (xlen_cons (xlen_cons (xlen_cons (xlen_cons (xlen_cons xlen_nil)))))) pxa_nil)) (xlen_cons (xlen_cons xlen_nil)))))), F.binds fun _ _ _ _ _ _ us hl => match us, hl with | [_, _, _], _ => rfl⟩
/-! ### Bench_readings -/
abbrev s_Bench_readings : Stmt := inClass (top 13) 2
abbrev N_Bench_readings : List Str := [(Str.ofString "self"), (Str.ofString "turned")]
def bd_Bench_readings : {b : List Stmt // defBody s_Bench_readings = b} := by
  have e : defBody s_Bench_readings = defBody s_Bench_readings := rfl
  conv at e => rhs; whnf
  exact ⟨_, e⟩
def sc_Bench_readings : {b : Scope // defScope s_Bench_readings = b} := by
  have e : defScope s_Bench_readings = defScope s_Bench_readings := rfl
  conv at e => rhs; whnf
  exact ⟨_, e⟩
theorem S_Bench_readings : FnScope N_Bench_readings [(Str.ofString "self"), (Str.ofString "turned")] sc_Bench_readings.1 := ⟨rfl, rfl, rfl, by decide +kernel, rfl, by decide +kernel, by decide +kernel⟩
def F_Bench_readings : FZ := (zRet (xComp (iSeq (xMeth 0 (Str.ofString "tells") dP_Bench_tells (xVar 0) (xCons (xP (eVar 1)) (xCons (xP (eTup aNil)) xNil)))) (gNm 0) bYes (xCallB d_reading (xCons (xP (eVar 0)) (xCons (xFld 0 (Str.ofString "full") (xVar 1)) xNil))) [(Str.ofString "masks")] [0]))
def dK_Bench_readings : List V3 → Sto → R3 V3 := fnK N_Bench_readings F_Bench_readings
def dP_Bench_readings : List V3 → Sto → R3 V3 := fnP N_Bench_readings F_Bench_readings
theorem c_Bench_readings {P : Program} {w : World} {K : PySem.W.Frag} {mg : Str → Option Value} {base : Heap} {cl : Nat → Addr} (T : Tp K mg cl) (h : DefM K (cl 0) (Str.ofString "readings") (Str.ofString "Bench.readings") s_Bench_readings) (C_reading : Callee P w K mg base 2 (Str.ofString "reading") 2 d_reading) (XP_Bench_tells : MethX P w K mg base cl 4 0 (Str.ofString "tells") 2 dP_Bench_tells) : MethX P w K mg base cl 5 0 (Str.ofString "readings") 1 dK_Bench_readings := by
  obtain ⟨f, fd, F, hm⟩ := h
  exact ⟨f, fd, _, T.C_Bench, hm, fn_keepB (k := 4) bd_Bench_readings.2 sc_Bench_readings.2 F S_Bench_readings (fun cdv A outer s H E hr => (pzs_one (pz_ret (px_comp rfl (CScope.of (own := [(Str.ofString "masks")]) (kp := [0]) (kn := [(Str.ofString "self")]) (sc := sc_Bench_readings.1) (N := N_Bench_readings) rfl rfl (by decide +kernel)) (pxi_seq (px_meth XP_Bench_tells hr (by decide) (px_var 0) (pxa_cons (px_pure (qpd_var 1)) (pxa_cons (px_pure (qpd_tup qpas_nil)) pxa_nil)) (xlen_cons (xlen_cons xlen_nil)))) (fun _ _ _ => (pxg_name (show List.Nodup [(Str.ofString "masks"), (Str.ofString "self")] from by decide +kernel) rfl (Or.inl rfl))) (fun _ _ _ => pxifs_yes) (fun _ _ _ => (px_callC C_reading hr (by decide) rfl (pxa_cons (px_pure (qpd_var 0)) (pxa_cons (px_fld T.C_Bench T.N_Bench_full (px_var 1)) pxa_nil)) (xlen_cons (xlen_cons xlen_nil)))))))), F.binds fun _ _ _ _ _ _ us hl => match us, hl with | [_, _], _ => rfl⟩
/-! ### Trial___init__ -/
abbrev s_Trial___init__ : Stmt := inClass (top 16) 0
abbrev N_Trial___init__ : List Str := [(Str.ofString "self"), (Str.ofString "net")]
def bd_Trial___init__ : {b : List Stmt // defBody s_Trial___init__ = b} := by
  have e : defBody s_Trial___init__ = defBody s_Trial___init__ := rfl
  conv at e => rhs; whnf
  exact ⟨_, e⟩
def sc_Trial___init__ : {b : Scope // defScope s_Trial___init__ = b} := by
  have e : defScope s_Trial___init__ = defScope s_Trial___init__ := rfl
  conv at e => rhs; whnf
  exact ⟨_, e⟩
theorem S_Trial___init__ : FnScope N_Trial___init__ [(Str.ofString "self"), (Str.ofString "net")] sc_Trial___init__.1 := ⟨rfl, rfl, rfl, by decide +kernel, rfl, by decide +kernel, by decide +kernel⟩
def F_Trial___init__ : FZ := (zSeq (zFld 1 (Str.ofString "bench") (xVar 0) (xMake 0 dK_Bench___init__ (xCons (xP (eVar 1)) xNil))) (zSeq (zFld 1 (Str.ofString "plain") (xVar 0) (xMeth 0 (Str.ofString "readings") dP_Bench_readings (xFld 1 (Str.ofString "bench") (xVar 0)) (xCons (xP (eTup aNil)) xNil))) (zFld 1 (Str.ofString "unsure") (xVar 0) (xP (eNew (nComp (itEnum (e2 ixD (eVar 1) (eC (.int 1)))) (gTupD 2 (gConsD (gNameD 0) (gConsD (gNameD 1) gNilD))) (bNot (bTru (e2 ixD (eVar 1) (eC (.int 2))))) (eVar 0) [(Str.ofString "place"), (Str.ofString "gate")] []))))))
def dK_Trial___init__ : List V3 → Sto → R3 V3 := fnK N_Trial___init__ F_Trial___init__
def dP_Trial___init__ : List V3 → Sto → R3 V3 := fnP N_Trial___init__ F_Trial___init__
theorem c_Trial___init__ {P : Program} {w : World} {K : PySem.W.Frag} {mg : Str → Option Value} {base : Heap} {cl : Nat → Addr} (T : Tp K mg cl) (h : DefI K (cl 1) (Str.ofString "__init__") (Str.ofString "Trial.__init__") s_Trial___init__) (XK_Bench___init__ : MakeX P w K mg base cl 3 0 (Str.ofString "Bench") 1 dK_Bench___init__) (XP_Bench_readings : MethX P w K mg base cl 5 0 (Str.ofString "readings") 1 dP_Bench_readings) : MakeX P w K mg base cl 6 1 (Str.ofString "Trial") 1 dK_Trial___init__ := by
  obtain ⟨f, fd, F, hm⟩ := h
  exact ⟨f, fd, _, hm, fn_keepB (k := 5) bd_Trial___init__.2 sc_Trial___init__.2 F S_Trial___init__ (fun cdv A outer s H E hr => (pzs_cons (pz_fld T.C_Trial T.N_Trial_bench (px_var 0) (px_make XK_Bench___init__ hr (by decide) rfl (pxa_cons (px_pure (qpd_var 1)) pxa_nil) (xlen_cons xlen_nil))) (pzs_cons (pz_fld T.C_Trial T.N_Trial_plain (px_var 0) (px_meth XP_Bench_readings hr (by decide) (px_fld T.C_Trial T.N_Trial_bench (px_var 0)) (pxa_cons (px_pure (qpd_tup qpas_nil)) pxa_nil) (xlen_cons xlen_nil))) (pzs_one (pz_fld T.C_Trial T.N_Trial_unsure (px_var 0) (px_pure (qpd_new (qpn_comp rfl (CScope.of (own := [(Str.ofString "place"), (Str.ofString "gate")]) (kp := []) (kn := []) (sc := sc_Trial___init__.1) (N := N_Trial___init__) rfl rfl (by decide +kernel)) (qpit_enum (qpd_ix (qpd_var 1) qpd_int (fun _ _ => rfl)) rfl T.z_enumerate) (fun _ _ _ => (qptg_tup rfl (qptgs_cons (qptg_name (show List.Nodup [(Str.ofString "place"), (Str.ofString "gate")] from by decide +kernel) rfl (Or.inl rfl)) (qptgs_cons (qptg_name (show List.Nodup [(Str.ofString "place"), (Str.ofString "gate")] from by decide +kernel) rfl (Or.inl rfl)) qptgs_nil)))) (fun _ _ _ => (qpifs_if (qpb_not (qpb_tru (qpd_ix (qpd_var 1) qpd_int (fun _ _ => rfl)))))) (fun _ _ _ => (qpd_var 0)))))))))), T.M_Trial, F.binds fun _ _ _ _ _ _ us hl => match us, hl with | [_, _], _ => rfl⟩
/-! ### Trial_breaks_at -/
abbrev s_Trial_breaks_at : Stmt := inClass (top 16) 1
abbrev N_Trial_breaks_at : List Str := [(Str.ofString "self"), (Str.ofString "turned"), (Str.ofString "level"), (Str.ofString "mask"), (Str.ofString "before"), (Str.ofString "after")]
def bd_Trial_breaks_at : {b : List Stmt // defBody s_Trial_breaks_at = b} := by
  have e : defBody s_Trial_breaks_at = defBody s_Trial_breaks_at := rfl
  conv at e => rhs; whnf
  exact ⟨_, e⟩
def sc_Trial_breaks_at : {b : Scope // defScope s_Trial_breaks_at = b} := by
  have e : defScope s_Trial_breaks_at = defScope s_Trial_breaks_at := rfl
  conv at e => rhs; whnf
  exact ⟨_, e⟩
theorem S_Trial_breaks_at : FnScope N_Trial_breaks_at [(Str.ofString "self"), (Str.ofString "turned"), (Str.ofString "level")] sc_Trial_breaks_at.1 := ⟨rfl, rfl, rfl, by decide +kernel, rfl, by decide +kernel, by decide +kernel⟩
def B_Trial_breaks_at_0 : FZ := (zIf (bP (b2 dEq (eVar 2) (eC (.str (Str.ofString "safe"))))) (zSet 3 (xP (e2 dBo (e2 dBo (eVar 3) (e2 dBa (e2 ixD (eVar 4) (eC (.int 0))) (e2 ixD (eVar 5) (eC (.int 1))))) (e2 dBa (e2 ixD (eVar 4) (eC (.int 1))) (e2 ixD (eVar 5) (eC (.int 0))))))) (zSet 3 (xP (e2 dBo (e2 dBo (eVar 3) (e2 dBx (e2 ixD (eVar 4) (eC (.int 0))) (e2 ixD (eVar 5) (eC (.int 0))))) (e2 dBx (e2 ixD (eVar 4) (eC (.int 1))) (e2 ixD (eVar 5) (eC (.int 1))))))))
def F_Trial_breaks_at : FZ := (zSeq (zSet 3 (xP (eC (.int 0)))) (zSeq (zFor (iZip (xFld 1 (Str.ofString "plain") (xVar 0)) (xMeth 0 (Str.ofString "readings") dP_Bench_readings (xFld 1 (Str.ofString "bench") (xVar 0)) (xCons (xP (eVar 1)) xNil))) (gTp 2 (gCn (gNm 4) (gCn (gNm 5) gNl))) B_Trial_breaks_at_0) (zRet (xP (eVar 3)))))
def dK_Trial_breaks_at : List V3 → Sto → R3 V3 := fnK N_Trial_breaks_at F_Trial_breaks_at
def dP_Trial_breaks_at : List V3 → Sto → R3 V3 := fnP N_Trial_breaks_at F_Trial_breaks_at
theorem c_Trial_breaks_at {P : Program} {w : World} {K : PySem.W.Frag} {mg : Str → Option Value} {base : Heap} {cl : Nat → Addr} (T : Tp K mg cl) (h : DefM K (cl 1) (Str.ofString "breaks_at") (Str.ofString "Trial.breaks_at") s_Trial_breaks_at) (XP_Bench_readings : MethX P w K mg base cl 5 0 (Str.ofString "readings") 1 dP_Bench_readings) : MethX P w K mg base cl 6 1 (Str.ofString "breaks_at") 2 dK_Trial_breaks_at := by
  obtain ⟨f, fd, F, hm⟩ := h
  exact ⟨f, fd, _, T.C_Trial, hm, fn_keepB (k := 5) bd_Trial_breaks_at.2 sc_Trial_breaks_at.2 F S_Trial_breaks_at (fun cdv A outer s H E hr => (pzs_cons (pz_set S_Trial_breaks_at.nd rfl (Or.inl rfl) (px_pure qpd_int)) (pzs_cons (pz_for PassesOwn.never rfl (pxi_zip (px_fld T.C_Trial T.N_Trial_plain (px_var 0)) (px_meth XP_Bench_readings hr (by decide) (px_fld T.C_Trial T.N_Trial_bench (px_var 0)) (pxa_cons (px_pure (qpd_var 1)) pxa_nil) (xlen_cons xlen_nil)) rfl T.z_zip) (pxg_tup rfl (pxgs_cons (pxg_name S_Trial_breaks_at.nd rfl (Or.inl rfl)) (pxgs_cons (pxg_name S_Trial_breaks_at.nd rfl (Or.inl rfl)) pxgs_nil))) (pzs_one (pz_if (pxb_pure (qpb_cmp (o_eq hr.units) (qpd_var 2) qpd_str (nomark _))) (pzs_one (pz_set S_Trial_breaks_at.nd rfl (Or.inl rfl) (px_pure (qpd_op o_bo (qpd_op o_bo (qpd_var 3) (qpd_op o_ba (qpd_ix (qpd_var 4) qpd_int (fun _ _ => rfl)) (qpd_ix (qpd_var 5) qpd_int (fun _ _ => rfl)))) (qpd_op o_ba (qpd_ix (qpd_var 4) qpd_int (fun _ _ => rfl)) (qpd_ix (qpd_var 5) qpd_int (fun _ _ => rfl))))))) (pzs_one (pz_set S_Trial_breaks_at.nd rfl (Or.inl rfl) (px_pure (qpd_op o_bo (qpd_op o_bo (qpd_var 3) (qpd_op o_bx (qpd_ix (qpd_var 4) qpd_int (fun _ _ => rfl)) (qpd_ix (qpd_var 5) qpd_int (fun _ _ => rfl)))) (qpd_op o_bx (qpd_ix (qpd_var 4) qpd_int (fun _ _ => rfl)) (qpd_ix (qpd_var 5) qpd_int (fun _ _ => rfl)))))))))) (pzs_one (pz_ret (px_pure (qpd_var 3))))))), F.binds fun _ _ _ _ _ _ us hl => match us, hl with | [_, _, _], _ => rfl⟩
/-! ### Bench_inputs_in -/
abbrev s_Bench_inputs_in : Stmt := inClass (top 13) 4
abbrev N_Bench_inputs_in : List Str := [(Str.ofString "self"), (Str.ofString "mask")]
def bd_Bench_inputs_in : {b : List Stmt // defBody s_Bench_inputs_in = b} := by
  have e : defBody s_Bench_inputs_in = defBody s_Bench_inputs_in := rfl
  conv at e => rhs; whnf
  exact ⟨_, e⟩
def sc_Bench_inputs_in : {b : Scope // defScope s_Bench_inputs_in = b} := by
  have e : defScope s_Bench_inputs_in = defScope s_Bench_inputs_in := rfl
  conv at e => rhs; whnf
  exact ⟨_, e⟩
theorem S_Bench_inputs_in : FnScope N_Bench_inputs_in [(Str.ofString "self"), (Str.ofString "mask")] sc_Bench_inputs_in.1 := ⟨rfl, rfl, rfl, by decide +kernel, rfl, by decide +kernel, by decide +kernel⟩
def F_Bench_inputs_in : FZ := (zRet (xComp (iRng1 (xFld 0 (Str.ofString "many_inputs") (xVar 0))) (gNm 0) (bP (b2 dEq (eCall d_bit_at (aCons (eVar 1) (aCons (eVar 0) aNil))) (eC (.int 1)))) (xP (eVar 0)) [(Str.ofString "number")] [1]))
def dK_Bench_inputs_in : List V3 → Sto → R3 V3 := fnK N_Bench_inputs_in F_Bench_inputs_in
def dP_Bench_inputs_in : List V3 → Sto → R3 V3 := fnP N_Bench_inputs_in F_Bench_inputs_in
theorem c_Bench_inputs_in {P : Program} {w : World} {K : PySem.W.Frag} {mg : Str → Option Value} {base : Heap} {cl : Nat → Addr} (T : Tp K mg cl) (h : DefM K (cl 0) (Str.ofString "inputs_in") (Str.ofString "Bench.inputs_in") s_Bench_inputs_in) (C_bit_at : Callee P w K mg base 1 (Str.ofString "bit_at") 2 d_bit_at) : MethX P w K mg base cl 2 0 (Str.ofString "inputs_in") 1 dK_Bench_inputs_in := by
  obtain ⟨f, fd, F, hm⟩ := h
  exact ⟨f, fd, _, T.C_Bench, hm, fn_keepB (k := 1) bd_Bench_inputs_in.2 sc_Bench_inputs_in.2 F S_Bench_inputs_in (fun cdv A outer s H E hr => (pzs_one (pz_ret (px_comp rfl (CScope.of (own := [(Str.ofString "number")]) (kp := [1]) (kn := [(Str.ofString "mask")]) (sc := sc_Bench_inputs_in.1) (N := N_Bench_inputs_in) rfl rfl (by decide +kernel)) (pxi_range1 (px_fld T.C_Bench T.N_Bench_many_inputs (px_var 0)) rfl T.z_range) (fun _ _ _ => (pxg_name (show List.Nodup [(Str.ofString "number"), (Str.ofString "mask")] from by decide +kernel) rfl (Or.inl rfl))) (fun _ _ _ => (pxifs_if (pxb_pure (qpb_cmp (o_eq hr.units) (qpd_callC C_bit_at hr (by decide) rfl (qpas_cons (qpd_var 1) (qpas_cons (qpd_var 0) qpas_nil)) (alen_cons (alen_cons alen_nil))) qpd_int (nomark _))))) (fun _ _ _ => (px_pure (qpd_var 0))))))), F.binds fun _ _ _ _ _ _ us hl => match us, hl with | [_, _], _ => rfl⟩
/-! ### bears -/
abbrev s_bears : Stmt := top 17
abbrev N_bears : List Str := [(Str.ofString "net"), (Str.ofString "many"), (Str.ofString "level"), (Str.ofString "trial"), (Str.ofString "size"), (Str.ofString "turned"), (Str.ofString "mask")]
def bd_bears : {b : List Stmt // defBody s_bears = b} := by
  have e : defBody s_bears = defBody s_bears := rfl
  conv at e => rhs; whnf
  exact ⟨_, e⟩
def sc_bears : {b : Scope // defScope s_bears = b} := by
  have e : defScope s_bears = defScope s_bears := rfl
  conv at e => rhs; whnf
  exact ⟨_, e⟩
theorem S_bears : FnScope N_bears [(Str.ofString "net"), (Str.ofString "many"), (Str.ofString "level")] sc_bears.1 := ⟨rfl, rfl, rfl, by decide +kernel, rfl, by decide +kernel, by decide +kernel⟩
def B_bears_0 : FZ := (zSeq (zSet 6 (xMeth 1 (Str.ofString "breaks_at") dP_Trial_breaks_at (xVar 3) (xCons (xP (eVar 5)) (xCons (xP (eVar 2)) xNil)))) (zIf (bP (b2 dNe (eVar 6) (eC (.int 0)))) (zRet (xTup (xCons (xP (eC (.str (Str.ofString "breaks")))) (xCons (xP (eVar 5)) (xCons (xIx (xMeth 0 (Str.ofString "inputs_in") dP_Bench_inputs_in (xFld 1 (Str.ofString "bench") (xVar 3)) (xCons (xP (eVar 6)) xNil)) (xP (eC (.int 0)))) xNil))))) zNil))
def B_bears_1 : FZ := (zFor (iSeq (xCallB (d_choices 4) (xCons (xFld 1 (Str.ofString "unsure") (xVar 3)) (xCons (xP (eVar 4)) xNil)))) (gNm 5) B_bears_0)
def F_bears : FZ := (zSeq (zSet 3 (xMake 1 dK_Trial___init__ (xCons (xP (eVar 0)) xNil))) (zSeq (zFor (iP (itRng1 (e2 dAdd (eVar 1) (eC (.int 1))))) (gNm 4) B_bears_1) (zRet (xP (eTup (aCons (eC (.str (Str.ofString "bears"))) aNil))))))
def dK_bears : List V3 → Sto → R3 V3 := fnK N_bears F_bears
def dP_bears : List V3 → Sto → R3 V3 := fnP N_bears F_bears
theorem c_bears {P : Program} {w : World} {K : PySem.W.Frag} {mg : Str → Option Value} {base : Heap} {cl : Nat → Addr} (T : Tp K mg cl) (h : Def K mg (Str.ofString "bears") s_bears) (C_choices : Callee P w K mg base 5 (Str.ofString "choices") 2 (d_choices 4)) (XK_Trial___init__ : MakeX P w K mg base cl 6 1 (Str.ofString "Trial") 1 dK_Trial___init__) (XP_Trial_breaks_at : MethX P w K mg base cl 6 1 (Str.ofString "breaks_at") 2 dP_Trial_breaks_at) (XP_Bench_inputs_in : MethX P w K mg base cl 2 0 (Str.ofString "inputs_in") 1 dP_Bench_inputs_in) : CalleeX P w K mg base cl 8 (Str.ofString "bears") 3 dK_bears := by
  obtain ⟨f, fd, F, hm⟩ := h
  exact ⟨f, fd, _, fn_keepB (k := 7) bd_bears.2 sc_bears.2 F S_bears (fun cdv A outer s H E hr => (pzs_cons (pz_set S_bears.nd rfl (Or.inl rfl) (px_make XK_Trial___init__ hr (by decide) rfl (pxa_cons (px_pure (qpd_var 0)) pxa_nil) (xlen_cons xlen_nil))) (pzs_cons (pz_for PassesOwn.never rfl (pxi_pure (qpit_range1 (qpd_op o_add (qpd_var 1) qpd_int) rfl T.z_range)) (pxg_name S_bears.nd rfl (Or.inl rfl)) (pzs_one (pz_for PassesOwn.never rfl (pxi_seq (px_callC C_choices hr (by decide) rfl (pxa_cons (px_fld T.C_Trial T.N_Trial_unsure (px_var 3)) (pxa_cons (px_pure (qpd_var 4)) pxa_nil)) (xlen_cons (xlen_cons xlen_nil)))) (pxg_name S_bears.nd rfl (Or.inl rfl)) (pzs_cons (pz_set S_bears.nd rfl (Or.inl rfl) (px_meth XP_Trial_breaks_at hr (by decide) (px_var 3) (pxa_cons (px_pure (qpd_var 5)) (pxa_cons (px_pure (qpd_var 2)) pxa_nil)) (xlen_cons (xlen_cons xlen_nil)))) (pzs_one (pz_if (pxb_pure (qpb_cmp (o_ne hr.units) (qpd_var 6) qpd_int (nomark _))) (pzs_one (pz_ret (px_tup (pxa_cons (px_pure qpd_str) (pxa_cons (px_pure (qpd_var 5)) (pxa_cons (px_ix (px_meth XP_Bench_inputs_in hr (by decide) (px_fld T.C_Trial T.N_Trial_bench (px_var 3)) (pxa_cons (px_pure (qpd_var 6)) pxa_nil) (xlen_cons xlen_nil)) (px_pure qpd_int) (fun _ _ => rfl)) pxa_nil)))))) pzs_nil)))))) (pzs_one (pz_ret (px_pure (qpd_tup (qpas_cons qpd_str qpas_nil)))))))), hm, F.kp, F.binds fun _ _ _ _ _ _ us hl => match us, hl with | [_, _, _], _ => rfl⟩
/-! ### law_cell_at -/
abbrev s_law_cell_at : Stmt := top 19
abbrev N_law_cell_at : List Str := [(Str.ofString "script"), (Str.ofString "k")]
def bd_law_cell_at : {b : List Stmt // defBody s_law_cell_at = b} := by
  have e : defBody s_law_cell_at = defBody s_law_cell_at := rfl
  conv at e => rhs; whnf
  exact ⟨_, e⟩
def sc_law_cell_at : {b : Scope // defScope s_law_cell_at = b} := by
  have e : defScope s_law_cell_at = defScope s_law_cell_at := rfl
  conv at e => rhs; whnf
  exact ⟨_, e⟩
theorem S_law_cell_at : FnScope N_law_cell_at [(Str.ofString "script"), (Str.ofString "k")] sc_law_cell_at.1 := ⟨rfl, rfl, rfl, by decide +kernel, rfl, by decide +kernel, by decide +kernel⟩
def F_law_cell_at : FS := (sSeq (sIf (b2 dLt (eVar 1) (eCall cLen (aCons (eVar 0) aNil))) (sRet (e2 ixD (eVar 0) (eVar 1))) sNil) (sRet (eC (.int 0))))
def d_law_cell_at : List D → R D := fnD N_law_cell_at F_law_cell_at
theorem c_law_cell_at {P : Program} {w : World} {K : PySem.W.Frag} {mg : Str → Option Value} {base : Heap} {cl : Nat → Addr} (T : Tp K mg cl) (h : Def K mg (Str.ofString "_law_cell_at") s_law_cell_at)  : Callee P w K mg base 1 (Str.ofString "_law_cell_at") 2 d_law_cell_at := by
  obtain ⟨f, fd, F, hm⟩ := h
  exact ⟨f, fd, _, qfn_pureB (k := 0) bd_law_cell_at.2 sc_law_cell_at.2 F S_law_cell_at (fun cdv A outer s H E hr => (qpds_cons (qpds_if (qpb_cmp o_lt (qpd_var 1) (qpd_callB c_len rfl T.z_len PySem.boot_len (qpas_cons (qpd_var 0) qpas_nil)) (nomark _)) (qpds_one (qpds_ret (qpd_ix (qpd_var 0) (qpd_var 1) (fun _ _ => rfl)))) qpds_nil) (qpds_one (qpds_ret qpd_int)))), hm, F.kp, F.binds fun _ _ _ _ _ _ us hl => match us, hl with | [_, _], _ => rfl⟩
/-! ### law_reel -/
abbrev s_law_reel : Stmt := top 20
abbrev N_law_reel : List Str := [(Str.ofString "cell")]
def bd_law_reel : {b : List Stmt // defBody s_law_reel = b} := by
  have e : defBody s_law_reel = defBody s_law_reel := rfl
  conv at e => rhs; whnf
  exact ⟨_, e⟩
def sc_law_reel : {b : Scope // defScope s_law_reel = b} := by
  have e : defScope s_law_reel = defScope s_law_reel := rfl
  conv at e => rhs; whnf
  exact ⟨_, e⟩
theorem S_law_reel : FnScope N_law_reel [(Str.ofString "cell")] sc_law_reel.1 := ⟨rfl, rfl, rfl, by decide +kernel, rfl, by decide +kernel, by decide +kernel⟩
def F_law_reel : FZ := (zRet (xNew (nLst (aCons (eCall cAbs (aCons (eVar 0) aNil)) (aCons (e2 dMod (e2 dMul (e2 dAdd (e2 dMod (eVar 0) (eC (.int 2147483647))) (eC (.int 1))) (eC (.int 742938285))) (eC (.int 2147483647))) aNil)))))
def dK_law_reel : List V3 → Sto → R3 V3 := fnK N_law_reel F_law_reel
def dP_law_reel : List V3 → Sto → R3 V3 := fnP N_law_reel F_law_reel
theorem c_law_reel {P : Program} {w : World} {K : PySem.W.Frag} {mg : Str → Option Value} {base : Heap} {cl : Nat → Addr} (T : Tp K mg cl) (h : Def K mg (Str.ofString "_law_reel") s_law_reel)  : CalleeX P w K mg base cl 1 (Str.ofString "_law_reel") 1 dK_law_reel := by
  obtain ⟨f, fd, F, hm⟩ := h
  exact ⟨f, fd, _, fn_keepB (k := 0) bd_law_reel.2 sc_law_reel.2 F S_law_reel (fun cdv A outer s H E hr => (pzs_one (pz_ret (px_new (qpn_lst (qpas_cons (qpd_callB c_abs rfl T.z_abs PyProof.Rows.boot_abs (qpas_cons (qpd_var 0) qpas_nil)) (qpas_cons (qpd_op o_mod (qpd_op o_mul (qpd_op o_add (qpd_op o_mod (qpd_var 0) qpd_int) qpd_int) qpd_int) qpd_int) qpas_nil))))))), hm, F.kp, F.binds fun _ _ _ _ _ _ us hl => match us, hl with | [_], _ => rfl⟩
/-! ### law_take -/
abbrev s_law_take : Stmt := top 21
abbrev N_law_take : List Str := [(Str.ofString "reel"), (Str.ofString "many"), (Str.ofString "found"), (Str.ofString "stir")]
def bd_law_take : {b : List Stmt // defBody s_law_take = b} := by
  have e : defBody s_law_take = defBody s_law_take := rfl
  conv at e => rhs; whnf
  exact ⟨_, e⟩
def sc_law_take : {b : Scope // defScope s_law_take = b} := by
  have e : defScope s_law_take = defScope s_law_take := rfl
  conv at e => rhs; whnf
  exact ⟨_, e⟩
theorem S_law_take : FnScope N_law_take [(Str.ofString "reel"), (Str.ofString "many")] sc_law_take.1 := ⟨rfl, rfl, rfl, by decide +kernel, rfl, by decide +kernel, by decide +kernel⟩
def F_law_take : FZ := (zSeq (zIf (bT (b2 dGe (e2 ixD (eVar 0) (eC (.int 0))) (e2 dPow (eC (.int 10)) (eC (.int 18))))) (zSeq (zSet 2 (xT (e2 dMod (e2 ixD (eVar 0) (eC (.int 0))) (eVar 1)))) (zSeq (zPut (xVar 0) (xP (eC (.int 0))) (xT (e2 dFdvB (e2 ixD (eVar 0) (eC (.int 0))) (eVar 1)))) (zRet (xP (eVar 2))))) zNil) (zSeq (zPut (xVar 0) (xP (eC (.int 1))) (xT (e2 dMod (e2 dAdd (e2 dMul (e2 ixD (eVar 0) (eC (.int 1))) (eC (.int 48271))) (eC (.int 11))) (eC (.int 2147483647))))) (zSeq (zSet 3 (xT (e2 dMod (e2 dMul (e2 ixD (eVar 0) (eC (.int 1))) (e2 ixD (eVar 0) (eC (.int 1)))) (eC (.int 2147483629))))) (zRet (xP (e2 dMod (e2 dFdvB (e2 dMod (e2 dMul (eVar 3) (eC (.int 69621))) (eC (.int 2147483587))) (eC (.int 8))) (eVar 1)))))))
def dK_law_take : List V3 → Sto → R3 V3 := fnK N_law_take F_law_take
def dP_law_take : List V3 → Sto → R3 V3 := fnP N_law_take F_law_take
theorem c_law_take {P : Program} {w : World} {K : PySem.W.Frag} {mg : Str → Option Value} {base : Heap} {cl : Nat → Addr} (T : Tp K mg cl) (h : Def K mg (Str.ofString "_law_take") s_law_take)  : CalleeX P w K mg base cl 1 (Str.ofString "_law_take") 2 dK_law_take := by
  obtain ⟨f, fd, F, hm⟩ := h
  exact ⟨f, fd, _, fn_keepB (k := 0) bd_law_take.2 sc_law_take.2 F S_law_take (fun cdv A outer s H E hr => (pzs_cons (pz_if (pxb_thaw (qpb_cmp o_ge (qpd_ix (qpd_var 0) qpd_int (fun _ _ => rfl)) (qpd_op o_pow qpd_int qpd_int) (nomark _))) (pzs_cons (pz_set S_law_take.nd rfl (Or.inl rfl) (px_thaw (qpd_op o_mod (qpd_ix (qpd_var 0) qpd_int (fun _ _ => rfl)) (qpd_var 1)))) (pzs_cons (pz_put (px_thaw (qpd_op o_fdvB (qpd_ix (qpd_var 0) qpd_int (fun _ _ => rfl)) (qpd_var 1))) (pg_sub (PX.go (px_var 0)) (PX.go (px_pure qpd_int)) set_list)) (pzs_one (pz_ret (px_pure (qpd_var 2)))))) pzs_nil) (pzs_cons (pz_put (px_thaw (qpd_op o_mod (qpd_op o_add (qpd_op o_mul (qpd_ix (qpd_var 0) qpd_int (fun _ _ => rfl)) qpd_int) qpd_int) qpd_int)) (pg_sub (PX.go (px_var 0)) (PX.go (px_pure qpd_int)) set_list)) (pzs_cons (pz_set S_law_take.nd rfl (Or.inl rfl) (px_thaw (qpd_op o_mod (qpd_op o_mul (qpd_ix (qpd_var 0) qpd_int (fun _ _ => rfl)) (qpd_ix (qpd_var 0) qpd_int (fun _ _ => rfl))) qpd_int))) (pzs_one (pz_ret (px_pure (qpd_op o_mod (qpd_op o_fdvB (qpd_op o_mod (qpd_op o_mul (qpd_var 3) qpd_int) qpd_int) qpd_int) (qpd_var 1))))))))), hm, F.kp, F.binds fun _ _ _ _ _ _ us hl => match us, hl with | [_, _], _ => rfl⟩
/-! ### law_alike -/
abbrev s_law_alike : Stmt := top 22
abbrev N_law_alike : List Str := [(Str.ofString "found"), (Str.ofString "due"), (Str.ofString "k")]
def bd_law_alike : {b : List Stmt // defBody s_law_alike = b} := by
  have e : defBody s_law_alike = defBody s_law_alike := rfl
  conv at e => rhs; whnf
  exact ⟨_, e⟩
def sc_law_alike : {b : Scope // defScope s_law_alike = b} := by
  have e : defScope s_law_alike = defScope s_law_alike := rfl
  conv at e => rhs; whnf
  exact ⟨_, e⟩
theorem S_law_alike : FnScope N_law_alike [(Str.ofString "found"), (Str.ofString "due")] sc_law_alike.1 := ⟨rfl, rfl, rfl, by decide +kernel, rfl, by decide +kernel, by decide +kernel⟩
def B_law_alike_0 (self : List D → R D) : FS := (sIf (bNot (bTru (eCall self (aCons (e2 ixD (eVar 0) (eVar 2)) (aCons (e2 ixD (eVar 1) (eVar 2)) aNil))))) (sRet (eC (.bl false))) sNil)
def F_law_alike (self : List D → R D) : FS := (sSeq (sIf (b2 dIs (eVar 1) (eC .non)) (sRet (e2 dIs (eVar 0) (eC .non))) sNil) (sSeq (sIf (bTru (eIsG "bool" (eVar 1))) (sRet (eAnd (eIsG "bool" (eVar 0)) (e2 dEq (eVar 0) (eVar 1)))) sNil) (sSeq (sIf (bTru (eIsG "int" (eVar 1))) (sRet (eAnd (eIsG "int" (eVar 0)) (eAnd (eNot (eIsG "bool" (eVar 0))) (e2 dEq (eVar 0) (eVar 1))))) sNil) (sSeq (sIf (bTru (eIsG "str" (eVar 1))) (sRet (eAnd (eIsG "str" (eVar 0)) (e2 dEq (eVar 0) (eVar 1)))) sNil) (sSeq (sIf (bTru (eIsG "tuple" (eVar 1))) (sIf (bNot (bTru (eIsG "tuple" (eVar 0)))) (sRet (eC (.bl false))) sNil) (sIf (bNot (bTru (eIsG "list" (eVar 0)))) (sRet (eC (.bl false))) sNil)) (sSeq (sIf (b2 dNe (eCall cLen (aCons (eVar 0) aNil)) (eCall cLen (aCons (eVar 1) aNil))) (sRet (eC (.bl false))) sNil) (sSeq (sFor (itRng1 (eCall cLen (aCons (eVar 1) aNil))) (gNameD 2) (B_law_alike_0 self)) (sRet (eC (.bl true))))))))))
def d_law_alike : Nat → List D → R D
  | 0 => fun _ => .no
  | n + 1 => fnD N_law_alike (F_law_alike (d_law_alike n))
theorem c_law_alike {P : Program} {w : World} {K : PySem.W.Frag} {mg : Str → Option Value} {base : Heap} {cl : Nat → Addr} (T : Tp K mg cl) (h : Def K mg (Str.ofString "_law_alike") s_law_alike)  : ∀ n, Callee P w K mg base (1 + n) (Str.ofString "_law_alike") 2 (d_law_alike n)
  | 0 => by
    obtain ⟨f, fd, F, hm⟩ := h
    exact ⟨f, fd, [(Str.ofString "found"), (Str.ofString "due")], fn_no, hm, F.kp, F.binds fun _ _ _ _ _ _ us hl => match us, hl with | [_, _], _ => rfl⟩
  | n + 1 => by
    have C_self := c_law_alike (P := P) (w := w) (K := K) (mg := mg) (base := base) T h  n
    obtain ⟨f, fd, F, hm⟩ := h
    exact ⟨f, fd, _, qfn_pureB (k := 1 + n) bd_law_alike.2 sc_law_alike.2 F S_law_alike (fun cdv A outer s H E hr => (qpds_cons (qpds_if (qpb_cmp o_is (qpd_var 1) qpd_non (nomark _)) (qpds_one (qpds_ret (qpd_cmp o_is (qpd_var 0) qpd_non (nomark _)))) qpds_nil) (qpds_cons (qpds_if (qpb_tru (qpd_isG (qpd_var 1) (by decide) rfl T.z_isinstance rfl T.z_bool PyProof.Rows.boot_bool)) (qpds_one (qpds_ret (qpd_and (qpd_isG (qpd_var 0) (by decide) rfl T.z_isinstance rfl T.z_bool PyProof.Rows.boot_bool) (qpd_one (qpd_cmp (o_eq hr.units) (qpd_var 0) (qpd_var 1) (nomark _)))))) qpds_nil) (qpds_cons (qpds_if (qpb_tru (qpd_isG (qpd_var 1) (by decide) rfl T.z_isinstance rfl T.z_int PyProof.Rows.boot_int)) (qpds_one (qpds_ret (qpd_and (qpd_isG (qpd_var 0) (by decide) rfl T.z_isinstance rfl T.z_int PyProof.Rows.boot_int) (qpd_and (qpd_not (qpd_isG (qpd_var 0) (by decide) rfl T.z_isinstance rfl T.z_bool PyProof.Rows.boot_bool)) (qpd_one (qpd_cmp (o_eq hr.units) (qpd_var 0) (qpd_var 1) (nomark _))))))) qpds_nil) (qpds_cons (qpds_if (qpb_tru (qpd_isG (qpd_var 1) (by decide) rfl T.z_isinstance rfl T.z_str PyProof.Rows.boot_str)) (qpds_one (qpds_ret (qpd_and (qpd_isG (qpd_var 0) (by decide) rfl T.z_isinstance rfl T.z_str PyProof.Rows.boot_str) (qpd_one (qpd_cmp (o_eq hr.units) (qpd_var 0) (qpd_var 1) (nomark _)))))) qpds_nil) (qpds_cons (qpds_if (qpb_tru (qpd_isG (qpd_var 1) (by decide) rfl T.z_isinstance rfl T.z_tuple PyProof.Rows.boot_tuple)) (qpds_one (qpds_if (qpb_not (qpb_tru (qpd_isG (qpd_var 0) (by decide) rfl T.z_isinstance rfl T.z_tuple PyProof.Rows.boot_tuple))) (qpds_one (qpds_ret qpd_bl)) qpds_nil)) (qpds_one (qpds_if (qpb_not (qpb_tru (qpd_isG (qpd_var 0) (by decide) rfl T.z_isinstance rfl T.z_list PyProof.Rows.boot_list))) (qpds_one (qpds_ret qpd_bl)) qpds_nil))) (qpds_cons (qpds_if (qpb_cmp (o_ne hr.units) (qpd_callB c_len rfl T.z_len PySem.boot_len (qpas_cons (qpd_var 0) qpas_nil)) (qpd_callB c_len rfl T.z_len PySem.boot_len (qpas_cons (qpd_var 1) qpas_nil)) (nomark _)) (qpds_one (qpds_ret qpd_bl)) qpds_nil) (qpds_cons (qpds_for PassesOwn.never rfl (qpit_range1 (qpd_callB c_len rfl T.z_len PySem.boot_len (qpas_cons (qpd_var 1) qpas_nil)) rfl T.z_range) (qptg_name S_law_alike.nd rfl (Or.inl rfl)) (qpds_one (qpds_if (qpb_not (qpb_tru (qpd_callC C_self hr (by omega) rfl (qpas_cons (qpd_ix (qpd_var 0) (qpd_var 2) (fun _ _ => rfl)) (qpas_cons (qpd_ix (qpd_var 1) (qpd_var 2) (fun _ _ => rfl)) qpas_nil)) (alen_cons (alen_cons alen_nil))))) (qpds_one (qpds_ret qpd_bl)) qpds_nil))) (qpds_one (qpds_ret qpd_bl)))))))))), hm, F.kp, F.binds fun _ _ _ _ _ _ us hl => match us, hl with | [_, _], _ => rfl⟩
/-! ### law_chained -/
abbrev s_law_chained : Stmt := top 23
abbrev N_law_chained : List Str := [(Str.ofString "reel"), (Str.ofString "many"), (Str.ofString "deep"), (Str.ofString "most"), (Str.ofString "gates"), (Str.ofString "chains"), (Str.ofString "k"), (Str.ofString "chain"), (Str.ofString "wire"), (Str.ofString "ends")]
def bd_law_chained : {b : List Stmt // defBody s_law_chained = b} := by
  have e : defBody s_law_chained = defBody s_law_chained := rfl
  conv at e => rhs; whnf
  exact ⟨_, e⟩
def sc_law_chained : {b : Scope // defScope s_law_chained = b} := by
  have e : defScope s_law_chained = defScope s_law_chained := rfl
  conv at e => rhs; whnf
  exact ⟨_, e⟩
theorem S_law_chained : FnScope N_law_chained [(Str.ofString "reel"), (Str.ofString "many"), (Str.ofString "deep"), (Str.ofString "most")] sc_law_chained.1 := ⟨rfl, rfl, rfl, by decide +kernel, rfl, by decide +kernel, by decide +kernel⟩
def B_law_chained_0 : FZ := (zSeq (zSet 8 (xP (eVar 7))) (zSeq (zIf (bP (b2 dGt (eVar 6) (eC (.int 0)))) (zSet 8 (xT (e2 dSub (e2 dAdd (eVar 1) (eCall cLen (aCons (eVar 4) aNil))) (eVar 1)))) zNil) (zSeq (zApp 4 (xTup (xCons (xP (eC (.str (Str.ofString "not")))) (xCons (xP (eTup (aCons (eVar 8) aNil))) (xCons (x2 dLt (xCall dP_law_take (xCons (xVar 0) (xCons (xP (eC (.int 4))) xNil))) (xP (eVar 3))) xNil))))) (zApp 5 (xP (eVar 7))))))
def B_law_chained_1 : FZ := (zFor (iP (itRng1 (eVar 1))) (gNm 7) B_law_chained_0)
def F_law_chained : FZ := (zSeq (zSet 4 (xNew (nLst aNil))) (zSeq (zSet 5 (xNew (nLst aNil))) (zSeq (zFor (iP (itRng1 (eVar 2))) (gNm 6) B_law_chained_1) (zSeq (zSet 9 (xT (eCall cTuple (aCons (eNew (nComp (itRng1 (eVar 1)) (gNameD 0) cYes (e2 dAdd (e2 dSub (e2 dAdd (eVar 1) (eCall cLen (aCons (eVar 2) aNil))) (eVar 1)) (eVar 0)) [(Str.ofString "chain")] [1, 4])) aNil)))) (zRet (xLst (xCons (xTup (xCons (xNew (nLst (aCons (eTup (aCons (eC (.str (Str.ofString "way"))) (aCons (eVar 1) aNil))) aNil))) (xCons (xVar 4) (xCons (xNew (nLst (aCons (eTup (aCons (eC (.str (Str.ofString "end"))) (aCons (eVar 9) aNil))) aNil))) xNil)))) (xCons (xVar 5) xNil))))))))
def dK_law_chained : List V3 → Sto → R3 V3 := fnK N_law_chained F_law_chained
def dP_law_chained : List V3 → Sto → R3 V3 := fnP N_law_chained F_law_chained
theorem c_law_chained {P : Program} {w : World} {K : PySem.W.Frag} {mg : Str → Option Value} {base : Heap} {cl : Nat → Addr} (T : Tp K mg cl) (h : Def K mg (Str.ofString "_law_chained") s_law_chained) (XP_law_take : CalleeX P w K mg base cl 1 (Str.ofString "_law_take") 2 dP_law_take) : CalleeX P w K mg base cl 2 (Str.ofString "_law_chained") 4 dK_law_chained := by
  obtain ⟨f, fd, F, hm⟩ := h
  exact ⟨f, fd, _, fn_keepB (k := 1) bd_law_chained.2 sc_law_chained.2 F S_law_chained (fun cdv A outer s H E hr => (pzs_cons (pz_set S_law_chained.nd rfl (Or.inr rfl) (px_new (qpn_lst qpas_nil))) (pzs_cons (pz_set S_law_chained.nd rfl (Or.inl rfl) (px_new (qpn_lst qpas_nil))) (pzs_cons (pz_for PassesOwn.never rfl (pxi_pure (qpit_range1 (qpd_var 2) rfl T.z_range)) (pxg_name S_law_chained.nd rfl (Or.inl rfl)) (pzs_one (pz_for PassesOwn.never rfl (pxi_pure (qpit_range1 (qpd_var 1) rfl T.z_range)) (pxg_name S_law_chained.nd rfl (Or.inl rfl)) (pzs_cons (pz_set S_law_chained.nd rfl (Or.inl rfl) (px_pure (qpd_var 7))) (pzs_cons (pz_if (pxb_pure (qpb_cmp o_gt (qpd_var 6) qpd_int (nomark _))) (pzs_one (pz_set S_law_chained.nd rfl (Or.inl rfl) (px_thaw (qpd_op o_sub (qpd_op o_add (qpd_var 1) (qpd_callB c_len rfl T.z_len PySem.boot_len (qpas_cons (qpd_var 4) qpas_nil))) (qpd_var 1))))) pzs_nil) (pzs_cons (pz_app rfl (Or.inr (Or.inl rfl)) (px_tup (pxa_cons (px_pure qpd_str) (pxa_cons (px_pure (qpd_tup (qpas_cons (qpd_var 8) qpas_nil))) (pxa_cons (px_cmp o_lt (px_call XP_law_take hr (by decide) rfl (pxa_cons (px_var 0) (pxa_cons (px_pure qpd_int) pxa_nil)) (xlen_cons (xlen_cons xlen_nil))) (px_pure (qpd_var 3)) (nomark _)) pxa_nil))))) (pzs_one (pz_app rfl (Or.inl rfl) (px_pure (qpd_var 7)))))))))) (pzs_cons (pz_set S_law_chained.nd rfl (Or.inl rfl) (px_thaw (qpd_callTy c_tuple rfl T.z_tuple PyProof.Rows.boot_tuple (qpas_cons (qpd_new (qpn_comp rfl (CScope.of (own := [(Str.ofString "chain")]) (kp := [1, 4]) (kn := [(Str.ofString "many"), (Str.ofString "gates")]) (sc := sc_law_chained.1) (N := N_law_chained) rfl rfl (by decide +kernel)) (qpit_range1 (qpd_var 1) rfl T.z_range) (fun _ _ _ => (qptg_name (show List.Nodup [(Str.ofString "chain"), (Str.ofString "many"), (Str.ofString "gates")] from by decide +kernel) rfl (Or.inl rfl))) (fun _ _ _ => qpifs_yes) (fun _ _ _ => (qpd_op o_add (qpd_op o_sub (qpd_op o_add (qpd_var 1) (qpd_callB c_len rfl T.z_len PySem.boot_len (qpas_cons (qpd_var 2) qpas_nil))) (qpd_var 1)) (qpd_var 0))))) qpas_nil)))) (pzs_one (pz_ret (px_lst (pxa_cons (px_tup (pxa_cons (px_new (qpn_lst (qpas_cons (qpd_tup (qpas_cons qpd_str (qpas_cons (qpd_var 1) qpas_nil))) qpas_nil))) (pxa_cons (px_var 4) (pxa_cons (px_new (qpn_lst (qpas_cons (qpd_tup (qpas_cons qpd_str (qpas_cons (qpd_var 9) qpas_nil))) qpas_nil))) pxa_nil)))) (pxa_cons (px_var 5) pxa_nil)))))))))), hm, F.kp, F.binds fun _ _ _ _ _ _ us hl => match us, hl with | [_, _, _, _], _ => rfl⟩
/-! ### law_due -/
abbrev s_law_due : Stmt := top 24
abbrev N_law_due : List Str := [(Str.ofString "net"), (Str.ofString "chains"), (Str.ofString "many"), (Str.ofString "level"), (Str.ofString "most"), (Str.ofString "free"), (Str.ofString "one"), (Str.ofString "other")]
def bd_law_due : {b : List Stmt // defBody s_law_due = b} := by
  have e : defBody s_law_due = defBody s_law_due := rfl
  conv at e => rhs; whnf
  exact ⟨_, e⟩
def sc_law_due : {b : Scope // defScope s_law_due = b} := by
  have e : defScope s_law_due = defScope s_law_due := rfl
  conv at e => rhs; whnf
  exact ⟨_, e⟩
theorem S_law_due : FnScope N_law_due [(Str.ofString "net"), (Str.ofString "chains"), (Str.ofString "many"), (Str.ofString "level"), (Str.ofString "most")] sc_law_due.1 := ⟨rfl, rfl, rfl, by decide +kernel, rfl, by decide +kernel, by decide +kernel⟩
def B_law_due_0 : FS := (sIf (bAnd (b2 dGt (eVar 7) (eVar 6)) (bAnd (b2 dNe (e2 ixD (eVar 1) (eVar 7)) (e2 ixD (eVar 1) (eVar 6))) (b2 dGt (eVar 4) (eC (.int 1))))) (sRet (eTup (aCons (eC (.str (Str.ofString "breaks"))) (aCons (eTup (aCons (eVar 6) (aCons (eVar 7) aNil))) (aCons (eC (.int 0)) aNil))))) sNil)
def B_law_due_1 : FS := (sFor (itSeq (eVar 5)) (gNameD 7) B_law_due_0)
def F_law_due : FS := (sSeq (sSet 5 (eNew (nComp (itRng1 (eCall cLen (aCons (eVar 1) aNil))) (gNameD 0) (bNot (bTru (e2 ixD (e2 ixD (e2 ixD (eVar 1) (eC (.int 1))) (eVar 0)) (eC (.int 2))))) (eVar 0) [(Str.ofString "k")] [0]))) (sSeq (sIf (bOr (b2 dEq (eVar 5) (eNew (nLst aNil))) (b2 dEq (eVar 4) (eC (.int 0)))) (sRet (eTup (aCons (eC (.str (Str.ofString "bears"))) aNil))) sNil) (sSeq (sIf (bOr (b2 dEq (eVar 2) (eC (.int 1))) (bAnd (b2 dEq (eVar 2) (eC (.int 2))) (b2 dEq (eVar 3) (eC (.str (Str.ofString "right")))))) (sRet (eTup (aCons (eC (.str (Str.ofString "breaks"))) (aCons (eTup (aCons (e2 ixD (eVar 5) (eC (.int 0))) aNil)) (aCons (eC (.int 0)) aNil))))) sNil) (sSeq (sFor (itSeq (eVar 5)) (gNameD 6) B_law_due_1) (sRet (eTup (aCons (eC (.str (Str.ofString "bears"))) aNil)))))))
def d_law_due : List D → R D := fnD N_law_due F_law_due
theorem c_law_due {P : Program} {w : World} {K : PySem.W.Frag} {mg : Str → Option Value} {base : Heap} {cl : Nat → Addr} (T : Tp K mg cl) (h : Def K mg (Str.ofString "_law_due") s_law_due)  : Callee P w K mg base 1 (Str.ofString "_law_due") 5 d_law_due := by
  obtain ⟨f, fd, F, hm⟩ := h
  exact ⟨f, fd, _, qfn_pureB (k := 0) bd_law_due.2 sc_law_due.2 F S_law_due (fun cdv A outer s H E hr => (qpds_cons (qpds_setComp rfl S_law_due.nd rfl rfl (CScope.of (own := [(Str.ofString "k")]) (kp := [0]) (kn := [(Str.ofString "net")]) (sc := sc_law_due.1) (N := N_law_due) rfl rfl (by decide +kernel)) (qpit_range1 (qpd_callB c_len rfl T.z_len PySem.boot_len (qpas_cons (qpd_var 1) qpas_nil)) rfl T.z_range) (fun _ _ _ => (qptg_name (show List.Nodup [(Str.ofString "k"), (Str.ofString "net")] from by decide +kernel) rfl (Or.inl rfl))) (fun _ _ _ => (qpifs_if (qpb_not (qpb_tru (qpd_ix (qpd_ix (qpd_ix (qpd_var 1) qpd_int (fun _ _ => rfl)) (qpd_var 0) (fun _ _ => rfl)) qpd_int (fun _ _ => rfl)))))) (fun _ _ _ => (qpd_var 0))) (qpds_cons (qpds_if (qPBW_pb (qpbw_or (qpb_cmp (o_eq hr.units) (qpd_var 5) (qpd_new (qpn_lst qpas_nil)) (nomark _)) (qpbw_or1 (qpb_cmp (o_eq hr.units) (qpd_var 4) qpd_int (nomark _))))) (qpds_one (qpds_ret (qpd_tup (qpas_cons qpd_str qpas_nil)))) qpds_nil) (qpds_cons (qpds_if (qPBW_pb (qpbw_or (qpb_cmp (o_eq hr.units) (qpd_var 2) qpd_int (nomark _)) (qpbw_or1 (qPBW_pb (qpbw_and (qpb_cmp (o_eq hr.units) (qpd_var 2) qpd_int (nomark _)) (qpbw_and1 (qpb_cmp (o_eq hr.units) (qpd_var 3) qpd_str (nomark _)))))))) (qpds_one (qpds_ret (qpd_tup (qpas_cons qpd_str (qpas_cons (qpd_tup (qpas_cons (qpd_ix (qpd_var 5) qpd_int (fun _ _ => rfl)) qpas_nil)) (qpas_cons qpd_int qpas_nil)))))) qpds_nil) (qpds_cons (qpds_for PassesOwn.never rfl (qpit_seq (qpd_var 5)) (qptg_name S_law_due.nd rfl (Or.inl rfl)) (qpds_one (qpds_for PassesOwn.never rfl (qpit_seq (qpd_var 5)) (qptg_name S_law_due.nd rfl (Or.inl rfl)) (qpds_one (qpds_if (qPBW_pb (qpbw_and (qpb_cmp o_gt (qpd_var 7) (qpd_var 6) (nomark _)) (qpbw_and (qpb_cmp (o_ne hr.units) (qpd_ix (qpd_var 1) (qpd_var 7) (fun _ _ => rfl)) (qpd_ix (qpd_var 1) (qpd_var 6) (fun _ _ => rfl)) (nomark _)) (qpbw_and1 (qpb_cmp o_gt (qpd_var 4) qpd_int (nomark _)))))) (qpds_one (qpds_ret (qpd_tup (qpas_cons qpd_str (qpas_cons (qpd_tup (qpas_cons (qpd_var 6) (qpas_cons (qpd_var 7) qpas_nil))) (qpas_cons qpd_int qpas_nil)))))) qpds_nil))))) (qpds_one (qpds_ret (qpd_tup (qpas_cons qpd_str qpas_nil))))))))), hm, F.kp, F.binds fun _ _ _ _ _ _ us hl => match us, hl with | [_, _, _, _, _], _ => rfl⟩
/-! ### law -/
abbrev s_law : Stmt := top 25
abbrev N_law : List Str := [(Str.ofString "script"), (Str.ofString "reel"), (Str.ofString "many"), (Str.ofString "deep"), (Str.ofString "most"), (Str.ofString "net"), (Str.ofString "chains"), (Str.ofString "faults"), (Str.ofString "level"), (Str.ofString "due")]
def bd_law : {b : List Stmt // defBody s_law = b} := by
  have e : defBody s_law = defBody s_law := rfl
  conv at e => rhs; whnf
  exact ⟨_, e⟩
def sc_law : {b : Scope // defScope s_law = b} := by
  have e : defScope s_law = defScope s_law := rfl
  conv at e => rhs; whnf
  exact ⟨_, e⟩
theorem S_law : FnScope N_law [(Str.ofString "script")] sc_law.1 := ⟨rfl, rfl, rfl, by decide +kernel, rfl, by decide +kernel, by decide +kernel⟩
def B_law_0 : FZ := (zSeq (zSet 9 (xP (eCall d_law_due (aCons (eVar 5) (aCons (eVar 6) (aCons (eVar 2) (aCons (eVar 8) (aCons (eVar 7) aNil)))))))) (zIf (yNot (yTru (xCallB (d_law_alike 5) (xCons (xCall dP_bears (xCons (xP (eVar 5)) (xCons (xP (eVar 7)) (xCons (xP (eVar 8)) xNil)))) (xCons (xP (eVar 9)) xNil))))) (zRet (xP (eC (.bl false)))) zNil))
def B_law_1 : FZ := (zFor (iP (itSeq (eNew (nLst (aCons (eC (.str (Str.ofString "right"))) (aCons (eC (.str (Str.ofString "safe"))) aNil)))))) (gNm 8) B_law_0)
def F_law : FZ := (zSeq (zSet 1 (xCall dK_law_reel (xCons (xP (eCall d_law_cell_at (aCons (eVar 0) (aCons (eC (.int 0)) aNil)))) xNil))) (zSeq (zSet 2 (x2 dAdd (xP (eC (.int 1))) (xCall dP_law_take (xCons (xVar 1) (xCons (xP (eC (.int 3))) xNil))))) (zSeq (zSet 3 (x2 dAdd (xP (eC (.int 1))) (xCall dP_law_take (xCons (xVar 1) (xCons (xP (eC (.int 7))) xNil))))) (zSeq (zSet 4 (xP (eC (.int 3)))) (zSeq (zIf (xb2 dEq (xCall dP_law_take (xCons (xVar 1) (xCons (xP (eC (.int 3))) xNil))) (xP (eC (.int 0)))) (zSeq (zSet 3 (x2 dAdd (xP (eC (.int 8))) (xCall dP_law_take (xCons (xVar 1) (xCons (xP (eC (.int 13))) xNil))))) (zSet 4 (xP (eC (.int 2))))) zNil) (zSeq (zAsg (xCall dP_law_chained (xCons (xCall dK_law_reel (xCons (xP (eCall d_law_cell_at (aCons (eVar 0) (aCons (eC (.int 1)) aNil)))) xNil)) (xCons (xP (eVar 2)) (xCons (xP (eVar 3)) (xCons (xIx (xP (eNew (nLst (aCons (eC (.int 1)) (aCons (eC (.int 2)) (aCons (eC (.int 3)) (aCons (eC (.int 4)) (aCons (eC (.int 0)) aNil)))))))) (xCall dP_law_take (xCons (xVar 1) (xCons (xP (eC (.int 5))) xNil)))) xNil))))) (gLs 2 (gCn (gNm 5) (gCn (gNm 6) gNl)))) (zSeq (zFor (iP (itRng1 (e2 dAdd (eVar 4) (eC (.int 1))))) (gNm 7) B_law_1) (zRet (xP (eC (.bl true)))))))))))
def dK_law : List V3 → Sto → R3 V3 := fnK N_law F_law
def dP_law : List V3 → Sto → R3 V3 := fnP N_law F_law
def d_law : List D → R D := fnL N_law F_law
structure Cf (K : PySem.W.Frag) (mg : Str → Option Value) (cl : Nat → Addr) : Prop where
  C_Bench : Cls K (cl 0)
  N_Bench_net : NoAttr K (cl 0) (Str.ofString "net")
  N_Bench_many_inputs : NoAttr K (cl 0) (Str.ofString "many_inputs")
  N_Bench_full : NoAttr K (cl 0) (Str.ofString "full")
  N_Bench_in_masks : NoAttr K (cl 0) (Str.ofString "in_masks")
  M_Bench : mg (Str.ofString "Bench") = some (.ref (cl 0))
  C_Trial : Cls K (cl 1)
  N_Trial_bench : NoAttr K (cl 1) (Str.ofString "bench")
  N_Trial_plain : NoAttr K (cl 1) (Str.ofString "plain")
  N_Trial_unsure : NoAttr K (cl 1) (Str.ofString "unsure")
  M_Trial : mg (Str.ofString "Trial") = some (.ref (cl 1))
  D_Bench___init__ : DefI K (cl 0) (Str.ofString "__init__") (Str.ofString "Bench.__init__") s_Bench___init__
  D_Bench_tells : DefM K (cl 0) (Str.ofString "tells") (Str.ofString "Bench.tells") s_Bench_tells
  D_Bench_readings : DefM K (cl 0) (Str.ofString "readings") (Str.ofString "Bench.readings") s_Bench_readings
  D_Trial___init__ : DefI K (cl 1) (Str.ofString "__init__") (Str.ofString "Trial.__init__") s_Trial___init__
  D_Trial_breaks_at : DefM K (cl 1) (Str.ofString "breaks_at") (Str.ofString "Trial.breaks_at") s_Trial_breaks_at
  D_Bench_inputs_in : DefM K (cl 0) (Str.ofString "inputs_in") (Str.ofString "Bench.inputs_in") s_Bench_inputs_in
theorem cf_mk {K : PySem.W.Frag} {h : Heap} {mg : Str → Option Value} (X : K.In h) (G : h.Ns mainGlobals mg) {C0 : Addr} {C1 : Addr} {f0 : Addr} {od0 an0 : Option Addr} {sl0 : Array (Option Value)} {oc0 kV0 dc0 pm0 cd0 ct0 : Value} {f1 : Addr} {od1 an1 : Option Addr} {sl1 : Array (Option Value)} {oc1 kV1 dc1 pm1 cd1 ct1 : Value} {f2 : Addr} {od2 an2 : Option Addr} {sl2 : Array (Option Value)} {oc2 kV2 dc2 pm2 cd2 ct2 : Value} {f3 : Addr} {od3 an3 : Option Addr} {sl3 : Array (Option Value)} {oc3 kV3 dc3 pm3 cd3 ct3 : Value} {f4 : Addr} {od4 an4 : Option Addr} {sl4 : Array (Option Value)} {oc4 kV4 dc4 pm4 cd4 ct4 : Value} {f5 : Addr} {od5 an5 : Option Addr} {sl5 : Array (Option Value)} {oc5 kV5 dc5 pm5 cd5 ct5 : Value} (aC0 : PySem.W.nsIn K mainGlobals (Str.ofString "Bench") = some (some (.ref C0))) (pg0 : PySem.W.plainGet K C0 Str.empty = true) (hd0 : PySem.W.hasDictIn K C0 = true) (po0 : PySem.W.plainOver K C0 = true) (sa0 : PySem.W.findIn K (.ref C0) "__setattr__" = some (some (.builtin "object.__setattr__"))) (mk0 : PySem.W.makesIn K C0 = true) (kc0 : PySem.W.keepIn K (.ref C0) = true) (n0_net : PySem.W.findIn K (.ref C0) (Str.ofString "net") = some none) (n0_many_inputs : PySem.W.findIn K (.ref C0) (Str.ofString "many_inputs") = some none) (n0_full : PySem.W.findIn K (.ref C0) (Str.ofString "full") = some none) (n0_in_masks : PySem.W.findIn K (.ref C0) (Str.ofString "in_masks") = some none) (aC1 : PySem.W.nsIn K mainGlobals (Str.ofString "Trial") = some (some (.ref C1))) (pg1 : PySem.W.plainGet K C1 Str.empty = true) (hd1 : PySem.W.hasDictIn K C1 = true) (po1 : PySem.W.plainOver K C1 = true) (sa1 : PySem.W.findIn K (.ref C1) "__setattr__" = some (some (.builtin "object.__setattr__"))) (mk1 : PySem.W.makesIn K C1 = true) (kc1 : PySem.W.keepIn K (.ref C1) = true) (n1_bench : PySem.W.findIn K (.ref C1) (Str.ofString "bench") = some none) (n1_plain : PySem.W.findIn K (.ref C1) (Str.ofString "plain") = some none) (n1_unsure : PySem.W.findIn K (.ref C1) (Str.ofString "unsure") = some none) (a_Bench___init__ : PySem.W.findIn K (.ref C0) (Str.ofString "__init__") = some (some (.ref f0))) (i_Bench___init__ : PySem.W.isFn K (.ref f0) = true) (l_Bench___init__ : K.lookup f0 = some ⟨oc0, od0, .func (PySem.W.fnOf (Str.ofString "__init__") (Str.ofString "Bench.__init__") (defArgs s_Bench___init__) (defBody s_Bench___init__) (defScope s_Bench___init__) .none kV0 dc0 pm0 an0 cd0 ct0), sl0⟩) (c_Bench___init__ : PySem.W.codeIn K cd0 (Str.ofString "Bench.__init__") = true) (k_Bench___init__ : PySem.W.keepIn K (.ref f0) = true) (a_Bench_tells : PySem.W.findIn K (.ref C0) (Str.ofString "tells") = some (some (.ref f1))) (i_Bench_tells : PySem.W.isFn K (.ref f1) = true) (l_Bench_tells : K.lookup f1 = some ⟨oc1, od1, .func (PySem.W.fnOf (Str.ofString "tells") (Str.ofString "Bench.tells") (defArgs s_Bench_tells) (defBody s_Bench_tells) (defScope s_Bench_tells) .none kV1 dc1 pm1 an1 cd1 ct1), sl1⟩) (c_Bench_tells : PySem.W.codeIn K cd1 (Str.ofString "Bench.tells") = true) (k_Bench_tells : PySem.W.keepIn K (.ref f1) = true) (a_Bench_readings : PySem.W.findIn K (.ref C0) (Str.ofString "readings") = some (some (.ref f2))) (i_Bench_readings : PySem.W.isFn K (.ref f2) = true) (l_Bench_readings : K.lookup f2 = some ⟨oc2, od2, .func (PySem.W.fnOf (Str.ofString "readings") (Str.ofString "Bench.readings") (defArgs s_Bench_readings) (defBody s_Bench_readings) (defScope s_Bench_readings) .none kV2 dc2 pm2 an2 cd2 ct2), sl2⟩) (c_Bench_readings : PySem.W.codeIn K cd2 (Str.ofString "Bench.readings") = true) (k_Bench_readings : PySem.W.keepIn K (.ref f2) = true) (a_Trial___init__ : PySem.W.findIn K (.ref C1) (Str.ofString "__init__") = some (some (.ref f3))) (i_Trial___init__ : PySem.W.isFn K (.ref f3) = true) (l_Trial___init__ : K.lookup f3 = some ⟨oc3, od3, .func (PySem.W.fnOf (Str.ofString "__init__") (Str.ofString "Trial.__init__") (defArgs s_Trial___init__) (defBody s_Trial___init__) (defScope s_Trial___init__) .none kV3 dc3 pm3 an3 cd3 ct3), sl3⟩) (c_Trial___init__ : PySem.W.codeIn K cd3 (Str.ofString "Trial.__init__") = true) (k_Trial___init__ : PySem.W.keepIn K (.ref f3) = true) (a_Trial_breaks_at : PySem.W.findIn K (.ref C1) (Str.ofString "breaks_at") = some (some (.ref f4))) (i_Trial_breaks_at : PySem.W.isFn K (.ref f4) = true) (l_Trial_breaks_at : K.lookup f4 = some ⟨oc4, od4, .func (PySem.W.fnOf (Str.ofString "breaks_at") (Str.ofString "Trial.breaks_at") (defArgs s_Trial_breaks_at) (defBody s_Trial_breaks_at) (defScope s_Trial_breaks_at) .none kV4 dc4 pm4 an4 cd4 ct4), sl4⟩) (c_Trial_breaks_at : PySem.W.codeIn K cd4 (Str.ofString "Trial.breaks_at") = true) (k_Trial_breaks_at : PySem.W.keepIn K (.ref f4) = true) (a_Bench_inputs_in : PySem.W.findIn K (.ref C0) (Str.ofString "inputs_in") = some (some (.ref f5))) (i_Bench_inputs_in : PySem.W.isFn K (.ref f5) = true) (l_Bench_inputs_in : K.lookup f5 = some ⟨oc5, od5, .func (PySem.W.fnOf (Str.ofString "inputs_in") (Str.ofString "Bench.inputs_in") (defArgs s_Bench_inputs_in) (defBody s_Bench_inputs_in) (defScope s_Bench_inputs_in) .none kV5 dc5 pm5 an5 cd5 ct5), sl5⟩) (c_Bench_inputs_in : PySem.W.codeIn K cd5 (Str.ofString "Bench.inputs_in") = true) (k_Bench_inputs_in : PySem.W.keepIn K (.ref f5) = true) : ∃ cl, Cf K mg cl := by
  exact ⟨fun n => if n = 0 then C0 else C1, ⟨pg0, hd0, po0, sa0⟩, n0_net, n0_many_inputs, n0_full, n0_in_masks, PySem.W.mg_of X G aC0, ⟨pg1, hd1, po1, sa1⟩, n1_bench, n1_plain, n1_unsure, PySem.W.mg_of X G aC1, ⟨_, _, fun_mk (st := s_Bench___init__) l_Bench___init__ c_Bench___init__ k_Bench___init__, ⟨mk0, a_Bench___init__, i_Bench___init__, kc0⟩⟩, ⟨_, _, fun_mk (st := s_Bench_tells) l_Bench_tells c_Bench_tells k_Bench_tells, ⟨a_Bench_tells, i_Bench_tells, k_Bench_tells⟩⟩, ⟨_, _, fun_mk (st := s_Bench_readings) l_Bench_readings c_Bench_readings k_Bench_readings, ⟨a_Bench_readings, i_Bench_readings, k_Bench_readings⟩⟩, ⟨_, _, fun_mk (st := s_Trial___init__) l_Trial___init__ c_Trial___init__ k_Trial___init__, ⟨mk1, a_Trial___init__, i_Trial___init__, kc1⟩⟩, ⟨_, _, fun_mk (st := s_Trial_breaks_at) l_Trial_breaks_at c_Trial_breaks_at k_Trial_breaks_at, ⟨a_Trial_breaks_at, i_Trial_breaks_at, k_Trial_breaks_at⟩⟩, ⟨_, _, fun_mk (st := s_Bench_inputs_in) l_Bench_inputs_in c_Bench_inputs_in k_Bench_inputs_in, ⟨a_Bench_inputs_in, i_Bench_inputs_in, k_Bench_inputs_in⟩⟩⟩
/-! ### the law -/
theorem law_ok {P : Program} {w : World} {K : PySem.W.Frag} {mg : Str → Option Value} {base : Heap} {f : Addr} {fd : FuncData} {cl : Nat → Addr} (T : Tp K mg cl) (D_vote_of : Def K mg (Str.ofString "vote_of") s_vote_of) (D_gate_mask : Def K mg (Str.ofString "gate_mask") s_gate_mask) (D_in_wire_masks : Def K mg (Str.ofString "in_wire_masks") s_in_wire_masks) (D_masks_at : Def K mg (Str.ofString "masks_at") s_masks_at) (D_wire_masks : Def K mg (Str.ofString "wire_masks") s_wire_masks) (D_out_masks : Def K mg (Str.ofString "out_masks") s_out_masks) (D_reading : Def K mg (Str.ofString "reading") s_reading) (D_bit_at : Def K mg (Str.ofString "bit_at") s_bit_at) (D_all_inputs : Def K mg (Str.ofString "all_inputs") s_all_inputs) (D_mask_of : Def K mg (Str.ofString "mask_of") s_mask_of) (D_in_mask : Def K mg (Str.ofString "in_mask") s_in_mask) (D_choices : Def K mg (Str.ofString "choices") s_choices) (D_Bench___init__ : DefI K (cl 0) (Str.ofString "__init__") (Str.ofString "Bench.__init__") s_Bench___init__) (D_Bench_tells : DefM K (cl 0) (Str.ofString "tells") (Str.ofString "Bench.tells") s_Bench_tells) (D_Bench_readings : DefM K (cl 0) (Str.ofString "readings") (Str.ofString "Bench.readings") s_Bench_readings) (D_Trial___init__ : DefI K (cl 1) (Str.ofString "__init__") (Str.ofString "Trial.__init__") s_Trial___init__) (D_Trial_breaks_at : DefM K (cl 1) (Str.ofString "breaks_at") (Str.ofString "Trial.breaks_at") s_Trial_breaks_at) (D_Bench_inputs_in : DefM K (cl 0) (Str.ofString "inputs_in") (Str.ofString "Bench.inputs_in") s_Bench_inputs_in) (D_bears : Def K mg (Str.ofString "bears") s_bears) (D_law_cell_at : Def K mg (Str.ofString "_law_cell_at") s_law_cell_at) (D_law_reel : Def K mg (Str.ofString "_law_reel") s_law_reel) (D_law_take : Def K mg (Str.ofString "_law_take") s_law_take) (D_law_alike : Def K mg (Str.ofString "_law_alike") s_law_alike) (D_law_chained : Def K mg (Str.ofString "_law_chained") s_law_chained) (D_law_due : Def K mg (Str.ofString "_law_due") s_law_due) (F : Fun K (Str.ofString "law") (Str.ofString "law") s_law f fd) : FnOk P w K mg base CX0 9 f fd [Str.ofString "script"] (spD K 1 d_law) := by
  have C_vote_of : Callee P w K mg base 1 (Str.ofString "vote_of") 1 d_vote_of := c_vote_of T D_vote_of 
  have C_gate_mask : Callee P w K mg base 2 (Str.ofString "gate_mask") 3 d_gate_mask := c_gate_mask T D_gate_mask C_vote_of
  have XK_in_wire_masks : CalleeX P w K mg base cl 1 (Str.ofString "in_wire_masks") 4 dK_in_wire_masks := c_in_wire_masks T D_in_wire_masks 
  have XP_in_wire_masks : CalleeX P w K mg base cl 1 (Str.ofString "in_wire_masks") 4 dP_in_wire_masks := XK_in_wire_masks.p
  have C_masks_at : Callee P w K mg base 1 (Str.ofString "masks_at") 2 d_masks_at := c_masks_at T D_masks_at 
  have XK_wire_masks : CalleeX P w K mg base cl 3 (Str.ofString "wire_masks") 5 dK_wire_masks := c_wire_masks T D_wire_masks C_masks_at C_gate_mask XK_in_wire_masks
  have XP_wire_masks : CalleeX P w K mg base cl 3 (Str.ofString "wire_masks") 5 dP_wire_masks := XK_wire_masks.p
  have XK_out_masks : CalleeX P w K mg base cl 2 (Str.ofString "out_masks") 2 dK_out_masks := c_out_masks T D_out_masks C_masks_at
  have XP_out_masks : CalleeX P w K mg base cl 2 (Str.ofString "out_masks") 2 dP_out_masks := XK_out_masks.p
  have C_reading : Callee P w K mg base 2 (Str.ofString "reading") 2 d_reading := c_reading T D_reading C_vote_of
  have C_bit_at : Callee P w K mg base 1 (Str.ofString "bit_at") 2 d_bit_at := c_bit_at T D_bit_at 
  have XK_all_inputs : CalleeX P w K mg base cl 1 (Str.ofString "all_inputs") 1 dK_all_inputs := c_all_inputs T D_all_inputs 
  have XP_all_inputs : CalleeX P w K mg base cl 1 (Str.ofString "all_inputs") 1 dP_all_inputs := XK_all_inputs.p
  have C_mask_of : Callee P w K mg base 1 (Str.ofString "mask_of") 1 d_mask_of := c_mask_of T D_mask_of 
  have C_in_mask : Callee P w K mg base 2 (Str.ofString "in_mask") 2 d_in_mask := c_in_mask T D_in_mask C_mask_of
  have C_choices : Callee P w K mg base 5 (Str.ofString "choices") 2 (d_choices 4) := c_choices T D_choices  4
  have XK_Bench___init__ : MakeX P w K mg base cl 3 0 (Str.ofString "Bench") 1 dK_Bench___init__ := c_Bench___init__ T D_Bench___init__ C_mask_of C_in_mask XP_all_inputs
  have XK_Bench_tells : MethX P w K mg base cl 4 0 (Str.ofString "tells") 2 dK_Bench_tells := c_Bench_tells T D_Bench_tells XP_out_masks XP_wire_masks
  have XP_Bench_tells : MethX P w K mg base cl 4 0 (Str.ofString "tells") 2 dP_Bench_tells := XK_Bench_tells.p
  have XK_Bench_readings : MethX P w K mg base cl 5 0 (Str.ofString "readings") 1 dK_Bench_readings := c_Bench_readings T D_Bench_readings C_reading XP_Bench_tells
  have XP_Bench_readings : MethX P w K mg base cl 5 0 (Str.ofString "readings") 1 dP_Bench_readings := XK_Bench_readings.p
  have XK_Trial___init__ : MakeX P w K mg base cl 6 1 (Str.ofString "Trial") 1 dK_Trial___init__ := c_Trial___init__ T D_Trial___init__ XK_Bench___init__ XP_Bench_readings
  have XK_Trial_breaks_at : MethX P w K mg base cl 6 1 (Str.ofString "breaks_at") 2 dK_Trial_breaks_at := c_Trial_breaks_at T D_Trial_breaks_at XP_Bench_readings
  have XP_Trial_breaks_at : MethX P w K mg base cl 6 1 (Str.ofString "breaks_at") 2 dP_Trial_breaks_at := XK_Trial_breaks_at.p
  have XK_Bench_inputs_in : MethX P w K mg base cl 2 0 (Str.ofString "inputs_in") 1 dK_Bench_inputs_in := c_Bench_inputs_in T D_Bench_inputs_in C_bit_at
  have XP_Bench_inputs_in : MethX P w K mg base cl 2 0 (Str.ofString "inputs_in") 1 dP_Bench_inputs_in := XK_Bench_inputs_in.p
  have XK_bears : CalleeX P w K mg base cl 8 (Str.ofString "bears") 3 dK_bears := c_bears T D_bears C_choices XK_Trial___init__ XP_Trial_breaks_at XP_Bench_inputs_in
  have XP_bears : CalleeX P w K mg base cl 8 (Str.ofString "bears") 3 dP_bears := XK_bears.p
  have C_law_cell_at : Callee P w K mg base 1 (Str.ofString "_law_cell_at") 2 d_law_cell_at := c_law_cell_at T D_law_cell_at 
  have XK_law_reel : CalleeX P w K mg base cl 1 (Str.ofString "_law_reel") 1 dK_law_reel := c_law_reel T D_law_reel 
  have XP_law_reel : CalleeX P w K mg base cl 1 (Str.ofString "_law_reel") 1 dP_law_reel := XK_law_reel.p
  have XK_law_take : CalleeX P w K mg base cl 1 (Str.ofString "_law_take") 2 dK_law_take := c_law_take T D_law_take 
  have XP_law_take : CalleeX P w K mg base cl 1 (Str.ofString "_law_take") 2 dP_law_take := XK_law_take.p
  have C_law_alike : Callee P w K mg base 6 (Str.ofString "_law_alike") 2 (d_law_alike 5) := c_law_alike T D_law_alike  5
  have XK_law_chained : CalleeX P w K mg base cl 2 (Str.ofString "_law_chained") 4 dK_law_chained := c_law_chained T D_law_chained XP_law_take
  have XP_law_chained : CalleeX P w K mg base cl 2 (Str.ofString "_law_chained") 4 dP_law_chained := XK_law_chained.p
  have C_law_due : Callee P w K mg base 1 (Str.ofString "_law_due") 5 d_law_due := c_law_due T D_law_due 
  exact (fn_keepB (cl := cl) (N := N_law) (F := F_law) (k := 8) bd_law.2 sc_law.2 F S_law (fun cdv A outer s H E hr => (pzs_cons (pz_set S_law.nd rfl (Or.inl rfl) (px_call XK_law_reel hr (by decide) rfl (pxa_cons (px_pure (qpd_callC C_law_cell_at hr (by decide) rfl (qpas_cons (qpd_var 0) (qpas_cons qpd_int qpas_nil)) (alen_cons (alen_cons alen_nil)))) pxa_nil) (xlen_cons xlen_nil))) (pzs_cons (pz_set S_law.nd rfl (Or.inl rfl) (px_op o_add (px_pure qpd_int) (px_call XP_law_take hr (by decide) rfl (pxa_cons (px_var 1) (pxa_cons (px_pure qpd_int) pxa_nil)) (xlen_cons (xlen_cons xlen_nil))))) (pzs_cons (pz_set S_law.nd rfl (Or.inl rfl) (px_op o_add (px_pure qpd_int) (px_call XP_law_take hr (by decide) rfl (pxa_cons (px_var 1) (pxa_cons (px_pure qpd_int) pxa_nil)) (xlen_cons (xlen_cons xlen_nil))))) (pzs_cons (pz_set S_law.nd rfl (Or.inl rfl) (px_pure qpd_int)) (pzs_cons (pz_if (pxb_cmp (o_eq hr.units) (px_call XP_law_take hr (by decide) rfl (pxa_cons (px_var 1) (pxa_cons (px_pure qpd_int) pxa_nil)) (xlen_cons (xlen_cons xlen_nil))) (px_pure qpd_int) (nomark _)) (pzs_cons (pz_set S_law.nd rfl (Or.inl rfl) (px_op o_add (px_pure qpd_int) (px_call XP_law_take hr (by decide) rfl (pxa_cons (px_var 1) (pxa_cons (px_pure qpd_int) pxa_nil)) (xlen_cons (xlen_cons xlen_nil))))) (pzs_one (pz_set S_law.nd rfl (Or.inl rfl) (px_pure qpd_int)))) pzs_nil) (pzs_cons (pz_asg (px_call XP_law_chained hr (by decide) rfl (pxa_cons (px_call XK_law_reel hr (by decide) rfl (pxa_cons (px_pure (qpd_callC C_law_cell_at hr (by decide) rfl (qpas_cons (qpd_var 0) (qpas_cons qpd_int qpas_nil)) (alen_cons (alen_cons alen_nil)))) pxa_nil) (xlen_cons xlen_nil)) (pxa_cons (px_pure (qpd_var 2)) (pxa_cons (px_pure (qpd_var 3)) (pxa_cons (px_ix (px_pure (qpd_new (qpn_lst (qpas_cons qpd_int (qpas_cons qpd_int (qpas_cons qpd_int (qpas_cons qpd_int (qpas_cons qpd_int qpas_nil)))))))) (px_call XP_law_take hr (by decide) rfl (pxa_cons (px_var 1) (pxa_cons (px_pure qpd_int) pxa_nil)) (xlen_cons (xlen_cons xlen_nil))) (fun _ _ => rfl)) pxa_nil)))) (xlen_cons (xlen_cons (xlen_cons (xlen_cons xlen_nil))))) (pxg_lst rfl (pxgs_cons (pxg_name S_law.nd rfl (Or.inl rfl)) (pxgs_cons (pxg_name S_law.nd rfl (Or.inl rfl)) pxgs_nil)))) (pzs_cons (pz_for PassesOwn.never rfl (pxi_pure (qpit_range1 (qpd_op o_add (qpd_var 4) qpd_int) rfl T.z_range)) (pxg_name S_law.nd rfl (Or.inl rfl)) (pzs_one (pz_for PassesOwn.never rfl (pxi_pure (qpit_seq (qpd_new (qpn_lst (qpas_cons qpd_str (qpas_cons qpd_str qpas_nil)))))) (pxg_name S_law.nd rfl (Or.inl rfl)) (pzs_cons (pz_set S_law.nd rfl (Or.inl rfl) (px_pure (qpd_callC C_law_due hr (by decide) rfl (qpas_cons (qpd_var 5) (qpas_cons (qpd_var 6) (qpas_cons (qpd_var 2) (qpas_cons (qpd_var 8) (qpas_cons (qpd_var 7) qpas_nil))))) (alen_cons (alen_cons (alen_cons (alen_cons (alen_cons alen_nil)))))))) (pzs_one (pz_if (pxb_not (pxb_truG (px_callC C_law_alike hr (by decide) rfl (pxa_cons (px_call XP_bears hr (by decide) rfl (pxa_cons (px_pure (qpd_var 5)) (pxa_cons (px_pure (qpd_var 7)) (pxa_cons (px_pure (qpd_var 8)) pxa_nil))) (xlen_cons (xlen_cons (xlen_cons xlen_nil)))) (pxa_cons (px_pure (qpd_var 9)) pxa_nil)) (xlen_cons (xlen_cons xlen_nil))))) (pzs_one (pz_ret (px_pure qpd_bl))) pzs_nil)))))) (pzs_one (pz_ret (px_pure qpd_bl)))))))))))).imp fun _ _ _ _ h => fnL_of h
end K20

end
section
set_option maxRecDepth 100000
set_option maxHeartbeats 4000000
namespace K20
open PySem PySem.Spec PyProof.Rows L2 L3
theorem set_get {S : Sto} {k : Nat} {o x : SO} (h : S[k]? = some x) : (S.set k o)[k]? = some o := by
  obtain ⟨h1, _⟩ := List.getElem?_eq_some_iff.mp h
  rw [List.getElem?_set_self h1]
/-- the reel at place k -/
def Pot (k : Nat) (S : Sto) : Prop := Flat S ∧ ∃ a c, S[k]? = some (.lst [.int a, .int c])
/-- the store goes on, the reel alone changed -/
structure Ev (k : Nat) (S S1 : Sto) : Prop where
  p : Pot k S1
  len : S1.length = S.length
  oth : ∀ j, j ≠ k → S1[j]? = S[j]?
theorem Ev.refl {k : Nat} {S : Sto} (p : Pot k S) : Ev k S S := ⟨p, rfl, fun _ _ => rfl⟩
theorem Ev.trans {k : Nat} {S S1 S2 : Sto} (a : Ev k S S1) (b : Ev k S1 S2) : Ev k S S2 := ⟨b.p, b.len.trans a.len, fun j h => (b.oth j h).trans (a.oth j h)⟩
theorem Pot.lt {k : Nat} {S : Sto} (p : Pot k S) : k < S.length := by
  obtain ⟨_, a, c, e⟩ := p
  exact (List.getElem?_eq_some_iff.mp e).1
theorem flatL (ds : List D) : ∀ n, soOk n (.lst ds) = true := fun _ => rfl
theorem flatZ : ∀ n, soOk n .frz = true := fun _ => rfl
theorem fdvB_ok {a b : Int} (h : 0 < b) (h2 : b.natAbs.log2 < 9000) : dFdvB (.int a) (.int b) = .ok (.int (a / b)) := by unfold dFdvB dII; exact when_of _ ⟨h, h2⟩
theorem small_log {m : Int} (h0 : 0 < m) (h : m < 1000000) : m.natAbs.log2 < 9000 := by
  have h1 : m.natAbs ≠ 0 := by omega
  have : m.natAbs.log2 < 20 := (Nat.log2_lt h1).mpr (by omega)
  omega
theorem take_ok {S : Sto} {k : Nat} {m : Int} (p : Pot k S) (hm : 0 < m) (hm2 : m.natAbs.log2 < 9000) {Q : V3 → Sto → Prop}
    (h : ∀ (r : Int) S1, 0 ≤ r → r < m → Ev k S S1 → Q (.d (.int r)) S1) : W3 (dP_law_take [.loc k, .d (.int m)] S) Q := by
  obtain ⟨hL, a, c, e⟩ := p
  have fin : ∀ (r : Int) S2, 0 ≤ r → r < m → Ev k S S2 → Flat S2 ∧ geOk S.length (.d (.int r)) = true ∧ ∃ d, res S2 (.d (.int r)) = some d ∧ Q (.d d) (S2.take S.length) := fun r S2 h1 h2 v => by
    refine ⟨v.p.1, by unfold geOk; rfl, .int r, by unfold res; rfl, ?_⟩
    rw [List.take_of_length_le (by have := v.len; omega)]
    exact h r S2 h1 h2 v
  have h0 : ixD (.lst [.int a, .int c]) (.int 0) = .ok (.int a) := rfl
  have h1 : ixD (.lst [.int a, .int c]) (.int 1) = .ok (.int c) := rfl
  unfold dP_law_take
  refine w_PnF (w_K rfl ?_)
  simp only [xStart, N_law_take, List.map_cons, List.map_nil, List.length_cons, List.length_nil, List.replicate, List.cons_append, List.nil_append, Nat.reduceAdd, Nat.reduceSub]
  unfold F_law_take
  by_cases hc : (1000000000000000000 : Int) ≤ a
  · refine w_seqR (w_if (w_bT (b := true) ?_ ?_))
    · simp (implicitDefEqProofs := false) (disch := first | omega | decide) only [fnD, dStart, sSeq, sSet, sBld, sApp, sExtV, sExt, sFrz, sRet, sIf, sNil, sAsg, eVar, eC, e2, eNew, eThaw, eCall, eTup, eIf, eSl, eMt, eJoined, eFmt, eAnd, eOr, eNot, eIsT, eIsG, isTy, asB, b2, bThaw, bAnd, bOr, bNot, bTru, nLst, nList, aNil, aCons, jNil, jCons, oNone, oSome, dAdd, dSub, dFdiv, dMod, dPow, dShr, dLt, dLe, dGt, dGe, dII0, dII, dIB, dMul, dEq, dNe, dIn, dNotIn, cInt, cStr, cMin, cTuple, cList, cLen, fmtD, truD, gNameD, gTupD, gConsD, gNilD, bldAt, frz, thaw, D.atom, tyName, R.ok_bind, R.when_true, List.map_cons, List.map_nil, List.map_append, List.set_cons_zero, List.set_cons_succ, List.getElem?_cons_zero, List.getElem?_cons_succ, List.length_cons, List.length_nil, List.nil_append, List.cons_append, List.append_nil, List.length_map, List.length_append, List.replicate, Nat.reduceAdd, Nat.reduceSub, Nat.zero_add, decide_true, decide_false, Nat.lt_add_one, Nat.reduceLT, Nat.reduceLeDiff, Nat.reduceEqDiff, if_true, if_false, Bool.false_eq_true, ite_true, ite_false, Bool.true_or, Bool.or_true, Bool.true_and, Bool.and_true, beq_self_eq_true, down, downT, res, ress, xStart, cEnvX, kX, gNm, gTp, gCn, gNl, Option.map_some, Option.bind_some, locAt, lstAt, ixN, mkTup, mkLst, allD, when_of, decide_eq_true_eq, Int.reduceToNat, e, h0]
      simp [hc]
    rw [if_pos rfl]
    refine w_seq (w_set (by simp only [List.length_cons, List.length_nil, List.length_set]; omega) (w_T (d := .int (a % m)) ?_ rfl ⟨_, rfl, ?_⟩))
    · simp (implicitDefEqProofs := false) (disch := first | omega | decide) only [fnD, dStart, sSeq, sSet, sBld, sApp, sExtV, sExt, sFrz, sRet, sIf, sNil, sAsg, eVar, eC, e2, eNew, eThaw, eCall, eTup, eIf, eSl, eMt, eJoined, eFmt, eAnd, eOr, eNot, eIsT, eIsG, isTy, asB, b2, bThaw, bAnd, bOr, bNot, bTru, nLst, nList, aNil, aCons, jNil, jCons, oNone, oSome, dAdd, dSub, dFdiv, dMod, dPow, dShr, dLt, dLe, dGt, dGe, dII0, dII, dIB, dMul, dEq, dNe, dIn, dNotIn, cInt, cStr, cMin, cTuple, cList, cLen, fmtD, truD, gNameD, gTupD, gConsD, gNilD, bldAt, frz, thaw, D.atom, tyName, R.ok_bind, R.when_true, List.map_cons, List.map_nil, List.map_append, List.set_cons_zero, List.set_cons_succ, List.getElem?_cons_zero, List.getElem?_cons_succ, List.length_cons, List.length_nil, List.nil_append, List.cons_append, List.append_nil, List.length_map, List.length_append, List.replicate, Nat.reduceAdd, Nat.reduceSub, Nat.zero_add, decide_true, decide_false, Nat.lt_add_one, Nat.reduceLT, Nat.reduceLeDiff, Nat.reduceEqDiff, if_true, if_false, Bool.false_eq_true, ite_true, ite_false, Bool.true_or, Bool.or_true, Bool.true_and, Bool.and_true, beq_self_eq_true, down, downT, res, ress, xStart, cEnvX, kX, gNm, gTp, gCn, gNl, Option.map_some, Option.bind_some, locAt, lstAt, ixN, mkTup, mkLst, allD, when_of, decide_eq_true_eq, Int.reduceToNat, e, h0]
    simp only [List.set_cons_succ, List.set_cons_zero]
    refine w_seq (w_put (w_T (d := .int (a / m)) ?_ rfl (w_var (v := .loc k) rfl (w_P (d := .int 0) rfl ⟨_, k, 0, _, 0, rfl, rfl, rfl, e, rfl, _, rfl, ?_⟩))))
    · refine e2_ok (a := .int a) (b := .int m) ?_ rfl (fdvB_ok hm hm2)
      simp (implicitDefEqProofs := false) (disch := first | omega | decide) only [fnD, dStart, sSeq, sSet, sBld, sApp, sExtV, sExt, sFrz, sRet, sIf, sNil, sAsg, eVar, eC, e2, eNew, eThaw, eCall, eTup, eIf, eSl, eMt, eJoined, eFmt, eAnd, eOr, eNot, eIsT, eIsG, isTy, asB, b2, bThaw, bAnd, bOr, bNot, bTru, nLst, nList, aNil, aCons, jNil, jCons, oNone, oSome, dAdd, dSub, dFdiv, dMod, dPow, dShr, dLt, dLe, dGt, dGe, dII0, dII, dIB, dMul, dEq, dNe, dIn, dNotIn, cInt, cStr, cMin, cTuple, cList, cLen, fmtD, truD, gNameD, gTupD, gConsD, gNilD, bldAt, frz, thaw, D.atom, tyName, R.ok_bind, R.when_true, List.map_cons, List.map_nil, List.map_append, List.set_cons_zero, List.set_cons_succ, List.getElem?_cons_zero, List.getElem?_cons_succ, List.length_cons, List.length_nil, List.nil_append, List.cons_append, List.append_nil, List.length_map, List.length_append, List.replicate, Nat.reduceAdd, Nat.reduceSub, Nat.zero_add, decide_true, decide_false, Nat.lt_add_one, Nat.reduceLT, Nat.reduceLeDiff, Nat.reduceEqDiff, if_true, if_false, Bool.false_eq_true, ite_true, ite_false, Bool.true_or, Bool.or_true, Bool.true_and, Bool.and_true, beq_self_eq_true, down, downT, res, ress, xStart, cEnvX, kX, gNm, gTp, gCn, gNl, Option.map_some, Option.bind_some, locAt, lstAt, ixN, mkTup, mkLst, allD, when_of, decide_eq_true_eq, Int.reduceToNat, e, h0]
    refine w_ret (w_P (d := .int (a % m)) rfl ⟨_, rfl, _, rfl, ?_⟩)
    exact fin _ _ (Int.emod_nonneg _ (by omega)) (Int.emod_lt_of_pos _ hm) ⟨⟨hL.set _ (flatL _), _, _, set_get e⟩, List.length_set, fun j hj => List.getElem?_set_ne (Ne.symm hj)⟩
  · refine w_seq (w_if (w_bT (b := false) ?_ ?_))
    · simp (implicitDefEqProofs := false) (disch := first | omega | decide) only [fnD, dStart, sSeq, sSet, sBld, sApp, sExtV, sExt, sFrz, sRet, sIf, sNil, sAsg, eVar, eC, e2, eNew, eThaw, eCall, eTup, eIf, eSl, eMt, eJoined, eFmt, eAnd, eOr, eNot, eIsT, eIsG, isTy, asB, b2, bThaw, bAnd, bOr, bNot, bTru, nLst, nList, aNil, aCons, jNil, jCons, oNone, oSome, dAdd, dSub, dFdiv, dMod, dPow, dShr, dLt, dLe, dGt, dGe, dII0, dII, dIB, dMul, dEq, dNe, dIn, dNotIn, cInt, cStr, cMin, cTuple, cList, cLen, fmtD, truD, gNameD, gTupD, gConsD, gNilD, bldAt, frz, thaw, D.atom, tyName, R.ok_bind, R.when_true, List.map_cons, List.map_nil, List.map_append, List.set_cons_zero, List.set_cons_succ, List.getElem?_cons_zero, List.getElem?_cons_succ, List.length_cons, List.length_nil, List.nil_append, List.cons_append, List.append_nil, List.length_map, List.length_append, List.replicate, Nat.reduceAdd, Nat.reduceSub, Nat.zero_add, decide_true, decide_false, Nat.lt_add_one, Nat.reduceLT, Nat.reduceLeDiff, Nat.reduceEqDiff, if_true, if_false, Bool.false_eq_true, ite_true, ite_false, Bool.true_or, Bool.or_true, Bool.true_and, Bool.and_true, beq_self_eq_true, down, downT, res, ress, xStart, cEnvX, kX, gNm, gTp, gCn, gNl, Option.map_some, Option.bind_some, locAt, lstAt, ixN, mkTup, mkLst, allD, when_of, decide_eq_true_eq, Int.reduceToNat, e, h0]
      simp [hc]
    rw [if_neg (by decide)]
    refine w_znil ⟨_, rfl, ?_⟩
    refine w_seq (w_put (w_T (d := .int ((c * 48271 + 11) % 2147483647)) ?_ rfl (w_var (v := .loc k) rfl (w_P (d := .int 1) rfl ⟨_, k, 1, _, 1, rfl, rfl, rfl, e, rfl, _, rfl, ?_⟩))))
    · simp (implicitDefEqProofs := false) (disch := first | omega | decide) only [fnD, dStart, sSeq, sSet, sBld, sApp, sExtV, sExt, sFrz, sRet, sIf, sNil, sAsg, eVar, eC, e2, eNew, eThaw, eCall, eTup, eIf, eSl, eMt, eJoined, eFmt, eAnd, eOr, eNot, eIsT, eIsG, isTy, asB, b2, bThaw, bAnd, bOr, bNot, bTru, nLst, nList, aNil, aCons, jNil, jCons, oNone, oSome, dAdd, dSub, dFdiv, dMod, dPow, dShr, dLt, dLe, dGt, dGe, dII0, dII, dIB, dMul, dEq, dNe, dIn, dNotIn, cInt, cStr, cMin, cTuple, cList, cLen, fmtD, truD, gNameD, gTupD, gConsD, gNilD, bldAt, frz, thaw, D.atom, tyName, R.ok_bind, R.when_true, List.map_cons, List.map_nil, List.map_append, List.set_cons_zero, List.set_cons_succ, List.getElem?_cons_zero, List.getElem?_cons_succ, List.length_cons, List.length_nil, List.nil_append, List.cons_append, List.append_nil, List.length_map, List.length_append, List.replicate, Nat.reduceAdd, Nat.reduceSub, Nat.zero_add, decide_true, decide_false, Nat.lt_add_one, Nat.reduceLT, Nat.reduceLeDiff, Nat.reduceEqDiff, if_true, if_false, Bool.false_eq_true, ite_true, ite_false, Bool.true_or, Bool.or_true, Bool.true_and, Bool.and_true, beq_self_eq_true, down, downT, res, ress, xStart, cEnvX, kX, gNm, gTp, gCn, gNl, Option.map_some, Option.bind_some, locAt, lstAt, ixN, mkTup, mkLst, allD, when_of, decide_eq_true_eq, Int.reduceToNat, e, h1]
    have hx1 : 0 ≤ (c * 48271 + 11) % 2147483647 := Int.emod_nonneg _ (by omega)
    have hx2 : (c * 48271 + 11) % 2147483647 < 2147483647 := Int.emod_lt_of_pos _ (by omega)
    generalize (c * 48271 + 11) % 2147483647 = x at hx1 hx2
    simp only [List.set_cons_succ, List.set_cons_zero]
    have e1 : (S.set k (.lst [.int a, .int x]))[k]? = some (.lst [.int a, .int x]) := set_get e
    have v1 : Ev k S (S.set k (.lst [.int a, .int x])) := ⟨⟨hL.set _ (flatL _), _, _, e1⟩, List.length_set, fun j hj => List.getElem?_set_ne (Ne.symm hj)⟩
    generalize S.set k (.lst [.int a, .int x]) = S1 at e1 v1
    refine w_seq (w_set (by simp only [List.length_cons, List.length_nil, List.length_set]; omega) (w_T (d := .int (x * x % 2147483629)) ?_ rfl ⟨_, rfl, ?_⟩))
    · have h2 : ixD (.lst [.int a, .int x]) (.int 1) = .ok (.int x) := rfl
      simp (implicitDefEqProofs := false) (disch := first | omega | decide) only [fnD, dStart, sSeq, sSet, sBld, sApp, sExtV, sExt, sFrz, sRet, sIf, sNil, sAsg, eVar, eC, e2, eNew, eThaw, eCall, eTup, eIf, eSl, eMt, eJoined, eFmt, eAnd, eOr, eNot, eIsT, eIsG, isTy, asB, b2, bThaw, bAnd, bOr, bNot, bTru, nLst, nList, aNil, aCons, jNil, jCons, oNone, oSome, dAdd, dSub, dFdiv, dMod, dPow, dShr, dLt, dLe, dGt, dGe, dII0, dII, dIB, dMul, dEq, dNe, dIn, dNotIn, cInt, cStr, cMin, cTuple, cList, cLen, fmtD, truD, gNameD, gTupD, gConsD, gNilD, bldAt, frz, thaw, D.atom, tyName, R.ok_bind, R.when_true, List.map_cons, List.map_nil, List.map_append, List.set_cons_zero, List.set_cons_succ, List.getElem?_cons_zero, List.getElem?_cons_succ, List.length_cons, List.length_nil, List.nil_append, List.cons_append, List.append_nil, List.length_map, List.length_append, List.replicate, Nat.reduceAdd, Nat.reduceSub, Nat.zero_add, decide_true, decide_false, Nat.lt_add_one, Nat.reduceLT, Nat.reduceLeDiff, Nat.reduceEqDiff, if_true, if_false, Bool.false_eq_true, ite_true, ite_false, Bool.true_or, Bool.or_true, Bool.true_and, Bool.and_true, beq_self_eq_true, down, downT, res, ress, xStart, cEnvX, kX, gNm, gTp, gCn, gNl, Option.map_some, Option.bind_some, locAt, lstAt, ixN, mkTup, mkLst, allD, when_of, decide_eq_true_eq, Int.reduceToNat, e1, h2]
    simp only [List.set_cons_succ, List.set_cons_zero]
    generalize x * x % 2147483629 = y
    refine w_ret (w_P (d := .int (y * 69621 % 2147483587 / 8 % m)) ?_ ⟨_, rfl, ?_⟩)
    · refine e2_ok (a := .int (y * 69621 % 2147483587 / 8)) (b := .int m) (e2_ok (a := .int (y * 69621 % 2147483587)) (b := .int 8) ?_ rfl (fdvB_ok (by omega) (by decide))) rfl (mod_ok hm)
      simp (implicitDefEqProofs := false) (disch := first | omega | decide) only [fnD, dStart, sSeq, sSet, sBld, sApp, sExtV, sExt, sFrz, sRet, sIf, sNil, sAsg, eVar, eC, e2, eNew, eThaw, eCall, eTup, eIf, eSl, eMt, eJoined, eFmt, eAnd, eOr, eNot, eIsT, eIsG, isTy, asB, b2, bThaw, bAnd, bOr, bNot, bTru, nLst, nList, aNil, aCons, jNil, jCons, oNone, oSome, dAdd, dSub, dFdiv, dMod, dPow, dShr, dLt, dLe, dGt, dGe, dII0, dII, dIB, dMul, dEq, dNe, dIn, dNotIn, cInt, cStr, cMin, cTuple, cList, cLen, fmtD, truD, gNameD, gTupD, gConsD, gNilD, bldAt, frz, thaw, D.atom, tyName, R.ok_bind, R.when_true, List.map_cons, List.map_nil, List.map_append, List.set_cons_zero, List.set_cons_succ, List.getElem?_cons_zero, List.getElem?_cons_succ, List.length_cons, List.length_nil, List.nil_append, List.cons_append, List.append_nil, List.length_map, List.length_append, List.replicate, Nat.reduceAdd, Nat.reduceSub, Nat.zero_add, decide_true, decide_false, Nat.lt_add_one, Nat.reduceLT, Nat.reduceLeDiff, Nat.reduceEqDiff, if_true, if_false, Bool.false_eq_true, ite_true, ite_false, Bool.true_or, Bool.or_true, Bool.true_and, Bool.and_true, beq_self_eq_true, down, downT, res, ress, xStart, cEnvX, kX, gNm, gTp, gCn, gNl, Option.map_some, Option.bind_some, locAt, lstAt, ixN, mkTup, mkLst, allD, when_of, decide_eq_true_eq, Int.reduceToNat]
    exact fin _ _ (Int.emod_nonneg _ (by omega)) (Int.emod_lt_of_pos _ hm) v1
section
variable {S : Sto} {δ : DE} {k i : Nat}
theorem draw {Q : V3 → Sto → Prop} {f : FD} {m : Int} (hv : δ[i]? = some (some (.loc k))) (p : Pot k S) (hf : f (down δ) = .ok (.int m)) (hm : 0 < m) (hm2 : m < 1000000)
    (h : ∀ (r : Int) S1, 0 ≤ r → r < m → Ev k S S1 → Q (.d (.int r)) S1) : W3 (xCall dP_law_take (xCons (xVar i) (xCons (xP f) xNil)) δ S) Q :=
  w_call (w_cons (w_var hv (w_cons (w_P hf (w_nil (take_ok p hm (small_log hm hm2) h))))))
theorem draw1 {Q : V3 → Sto → Prop} {m : Int} (hv : δ[i]? = some (some (.loc k))) (p : Pot k S) (hm : 0 < m) (hm2 : m < 1000000)
    (h : ∀ (r : Nat) S1, 1 ≤ r → (r : Int) ≤ m → Ev k S S1 → Q (.d (.int r)) S1) : W3 (x2 dAdd (xP (eC (.int 1))) (xCall dP_law_take (xCons (xVar i) (xCons (xP (eC (.int m))) xNil))) δ S) Q :=
  w_2 (w_P rfl (draw hv p rfl hm hm2 fun r S1 h1 h2 v => ⟨_, _, .int ((1 + r).toNat : Nat), rfl, rfl, by rw [Int.toNat_of_nonneg (by omega)]; rfl, h _ S1 (by omega) (by omega) v⟩))
end
theorem reel_ok (c : Int) {S : Sto} {Q : V3 → Sto → Prop} (hS : Flat S) (h : ∀ S1, Pot S.length S1 → S1.length = S.length + 1 → (∀ j, j < S.length → S1[j]? = S[j]?) → Q (.loc S.length) S1) : W3 (dK_law_reel [.d (.int c)] S) Q := by
  have hz : sizeLine = 16777216 := sizeLine_eq
  unfold dK_law_reel
  refine w_K rfl ?_
  simp only [xStart, N_law_reel, List.map_cons, List.map_nil, List.length_cons, List.length_nil, List.replicate, List.cons_append, List.nil_append, Nat.reduceAdd, Nat.reduceSub]
  unfold F_law_reel
  refine w_ret (w_new (ds := [.int (if c < 0 then -c else c), .int ((c % 2147483647 + 1) * 742938285 % 2147483647)]) ?_ ⟨_, rfl, ?_⟩)
  · simp (implicitDefEqProofs := false) (disch := first | omega | decide) only [fnD, dStart, sSeq, sSet, sBld, sApp, sExtV, sExt, sFrz, sRet, sIf, sNil, sAsg, eVar, eC, e2, eNew, eThaw, eCall, eTup, eIf, eSl, eMt, eJoined, eFmt, eAnd, eOr, eNot, eIsT, eIsG, isTy, asB, b2, bThaw, bAnd, bOr, bNot, bTru, nLst, nList, aNil, aCons, jNil, jCons, oNone, oSome, dAdd, dSub, dFdiv, dMod, dPow, dShr, dLt, dLe, dGt, dGe, dII0, dII, dIB, dMul, dEq, dNe, dIn, dNotIn, cInt, cStr, cMin, cTuple, cList, cLen, fmtD, truD, gNameD, gTupD, gConsD, gNilD, bldAt, frz, thaw, D.atom, tyName, R.ok_bind, R.when_true, List.map_cons, List.map_nil, List.map_append, List.set_cons_zero, List.set_cons_succ, List.getElem?_cons_zero, List.getElem?_cons_succ, List.length_cons, List.length_nil, List.nil_append, List.cons_append, List.append_nil, List.length_map, List.length_append, List.replicate, Nat.reduceAdd, Nat.reduceSub, Nat.zero_add, decide_true, decide_false, Nat.lt_add_one, Nat.reduceLT, Nat.reduceLeDiff, Nat.reduceEqDiff, if_true, if_false, Bool.false_eq_true, ite_true, ite_false, Bool.true_or, Bool.or_true, Bool.true_and, Bool.and_true, beq_self_eq_true, down, downT, res, ress, xStart, cEnvX, kX, gNm, gTp, gCn, gNl, Option.map_some, Option.bind_some, locAt, lstAt, ixN, mkTup, mkLst, allD, when_of, decide_eq_true_eq, Int.reduceToNat, cAbs]
  refine h _ ⟨hS.push (flatL _), _, _, by rw [List.getElem?_append_right (Nat.le_refl _), Nat.sub_self]; rfl⟩ (by simp) fun j hj => List.getElem?_append_left hj
end K20

end
section
set_option maxRecDepth 100000
set_option maxHeartbeats 4000000
namespace K20
open PySem PySem.Spec PyProof.Rows L2 L3 MT
theorem ix0 {a : D} {r : List D} : ixD (.tup (a :: r)) (.int 0) = .ok a := ixT_of (by rw [atI_of (by omega) (by simp)]; rfl)
theorem ix1 {a b : D} {r : List D} : ixD (.tup (a :: b :: r)) (.int 1) = .ok b := ixT_of (by rw [atI_of (by omega) (by simp)]; rfl)
theorem ix2 {a b c : D} {r : List D} : ixD (.tup (a :: b :: c :: r)) (.int 2) = .ok c := ixT_of (by rw [atI_of (by omega) (by simp)]; rfl)
theorem vote_ok {N : Nat} {a b c : M} : d_vote_of [.tup [mI N a, mI N b, mI N c]] = .ok (mI N fun p => (a p && b p) || (a p && c p) || (b p && c p)) := by
  unfold d_vote_of F_vote_of
  refine fnD_ok (sRet_ok ?_)
  exact e2_ok (e2_ok (e2_ok (e2_ok rfl rfl ix0) (e2_ok rfl rfl ix1) (m_and N a b)) (e2_ok (e2_ok rfl rfl ix0) (e2_ok rfl rfl ix2) (m_and N a c)) (m_or N _ _)) (e2_ok (e2_ok rfl rfl ix1) (e2_ok rfl rfl ix2) (m_and N b c)) (m_or N _ _)
theorem kS_eq (k j : Nat) (hk : k ≤ 4) (hj : j ≤ 4) : dEq (.str (kS k)) (.str (kS j)) = .ok (.bl (decide (k = j))) := by
  show R.ok (D.bl (kS k == kS j)) = _
  congr 2
  revert hk hj
  have : ∀ a ∈ List.range 5, ∀ b ∈ List.range 5, (kS a == kS b) = decide (a = b) := by decide +kernel
  intro hk hj
  exact this k (by rw [List.mem_range]; omega) j (by rw [List.mem_range]; omega)
theorem mask_ok {N kd : Nat} {xs : List M} (hk : kd ≤ 4) (hx : xs.length = ar kd) : d_gate_mask [.str (kS kd), .tup (xs.map (mI N)), mI N one] = .ok (mI N fun p => gv kd (xs.map (· p))) := by
  unfold d_gate_mask F_gate_mask
  have q : ∀ j, j ≤ 4 → b2 dEq (eVar 0) (eC (.str (kS j))) (dStart N_gate_mask [.str (kS kd), .tup (xs.map (mI N)), mI N one]) = .ok (decide (kd = j)) := fun j hj => b2_ok (a := .str (kS kd)) (b := .str (kS j)) rfl rfl (kS_eq kd j hk hj)
  have q0 := q 0 (by omega)
  have q1 := q 1 (by omega)
  have q2 := q 2 (by omega)
  have q3 := q 3 (by omega)
  match kd, hk, xs, hx with
  | 0, _, [a], _ =>
    refine fnD_ok (NT.sSeq_rt (sIf_t q0 (sRet_ok (e2_ok (a := mI N one) (b := mI N a) rfl (e2_ok rfl rfl ix0) (m_not N a)))))
  | 1, _, [a, b], _ =>
    refine fnD_ok (sSeq_ok (sIf_f q0 rfl) (NT.sSeq_rt (sIf_t q1 (sRet_ok (e2_ok (e2_ok rfl rfl ix0) (e2_ok rfl rfl ix1) (m_and N a b))))))
  | 2, _, [a, b], _ =>
    refine fnD_ok (sSeq_ok (sIf_f q0 rfl) (sSeq_ok (sIf_f q1 rfl) (NT.sSeq_rt (sIf_t q2 (sRet_ok (e2_ok (e2_ok rfl rfl ix0) (e2_ok rfl rfl ix1) (m_or N a b)))))))
  | 3, _, [a, b], _ =>
    refine fnD_ok (sSeq_ok (sIf_f q0 rfl) (sSeq_ok (sIf_f q1 rfl) (sSeq_ok (sIf_f q2 rfl) (NT.sSeq_rt (sIf_t q3 (sRet_ok (e2_ok (e2_ok rfl rfl ix0) (e2_ok rfl rfl ix1) (m_xor N a b))))))))
  | 4, _, [a, b, c], _ =>
    refine fnD_ok (sSeq_ok (sIf_f q0 rfl) (sSeq_ok (sIf_f q1 rfl) (sSeq_ok (sIf_f q2 rfl) (sSeq_ok (sIf_f q3 rfl) (sRet_ok (eCall_ok (ds := [.tup [mI N a, mI N b, mI N c]]) rfl vote_ok))))))
theorem at_ok {N : Nat} {ws : List M} {ns : List Nat} (hn : ∀ n ∈ ns, n < ws.length) (hl : ns.length < 1000) : d_masks_at [.lst (ws.map (mI N)), .tup (ns.map nI)] = .ok (.tup ((ns.map (rdF ws)).map (mI N))) := by
  have hz : sizeLine = 16777216 := sizeLine_eq
  unfold d_masks_at F_masks_at
  refine fnD_ok (sRet_ok (eCall_ok (ds := [.lst ((ns.map (rdF ws)).map (mI N))]) (aCons_ok (eNew_ok (nComp_ok (ds := ns.map nI) (itT_ok rfl) (by rw [List.length_map]; omega) ?_)) rfl) rfl))
  rw [List.map_map]
  exact NT.compL_list nI _ fun n hn' => ⟨[.val (nI n), .val (.lst (ws.map (mI N)))], rfl, rfl, e2_ok (a := .lst (ws.map (mI N))) (b := nI n) rfl rfl (rdF_ix (hn n hn'))⟩
/-! the wires of the ins -/
def wEnv (N : Nat) (S : Sto) (insD bitsD badD : D) (a5 a6 a7 : Option V3) : DE := [some (.d insD), some (.d bitsD), some (.d (mI N one)), some (.d badD), some (.loc S.length), a5, a6, a7]
theorem row_step {N : Nat} {S : Sto} {insD bitsD : D} {bad : List Int} {a5 a7 : Option V3} {b : M} {ws : List M} (hl : ws.length < 10000) :
    W3 (B_in_wire_masks_0 (wEnv N S insD bitsD (.tup (bad.map .int)) a5 (some (.d (mI N b))) a7) (S ++ [.lst (ws.map (mI N))])) fun o S1 => o = .nx (wEnv N S insD bitsD (.tup (bad.map .int)) a5 (some (.d (mI N b))) a7) ∧ S1 = S ++ [SO.lst ((ws ++ [fun p => b p != bad.contains (ws.length : Int)]).map (mI N))] := by
  have hz : sizeLine = 16777216 := sizeLine_eq
  unfold B_in_wire_masks_0
  refine w_app (k := S.length) rfl ⟨_, get_last _ _⟩ (w_T (d := mI N fun p => b p != bad.contains (ws.length : Int)) ?_ rfl ⟨_, _, rfl, get_last _ _, by rw [List.length_map]; omega, rfl, ?_⟩)
  · have h4 : (downT (S ++ [.lst (ws.map (mI N))]) (wEnv N S insD bitsD (.tup (bad.map .int)) a5 (some (.d (mI N b))) a7))[4]? = some (.val (.lst (ws.map (mI N)))) := by
      unfold downT wEnv
      show some (match res (S ++ [.lst (ws.map (mI N))]) (.loc S.length) with | some d => Sl.val d | none => .un) = _
      unfold res
      rw [get_last]
    refine eif_ok (b := bad.contains (ws.length : Int)) (b2_ok (a := .int ws.length) (b := .tup (bad.map .int)) (eCall_ok (ds := [.lst (ws.map (mI N))]) (aCons_ok (by unfold eVar; rw [h4]) rfl) (by rw [lenL, List.length_map])) rfl (in_ints _ _)) ?_
    rw [← m_turn]
    rfl
  · rw [set_last, List.map_append]; rfl
theorem in_wires_ok {N : Nat} {S : Sto} {ins : List (Str × Nat)} {bits : List M} {bad : List Int} (hb : bits.length = ins.length) (hi : ins.length < 100) (hw : ∀ x ∈ ins, x.2 < 100) {Q : V3 → Sto → Prop}
    (h : Q (.loc S.length) (S ++ [.lst ((inUp ins bits bad ins.length).map (mI N))])) :
    W3 (dK_in_wire_masks [.d (.lst (ins.map inD)), .d (.lst (bits.map (mI N))), .d (mI N one), .d (.tup (bad.map .int))] S) Q := by
  have hz : sizeLine = 16777216 := sizeLine_eq
  unfold dK_in_wire_masks
  refine w_K rfl ?_
  simp only [xStart, N_in_wire_masks, List.map_cons, List.map_nil, List.length_cons, List.length_nil, List.replicate, List.cons_append, List.nil_append, Nat.reduceAdd, Nat.reduceSub]
  unfold F_in_wire_masks
  refine w_seq (w_set (by simp only [List.length_cons, List.length_nil, List.length_set]; omega) (w_new (ds := []) rfl ⟨_, rfl, ?_⟩))
  simp only [List.set_cons_succ, List.set_cons_zero]
  refine w_seq (w_for (w_iP (ds := enumD (bits.map (mI N))) rfl ?_))
  have big : ∀ i, i ≤ ins.length → (inUp ins bits bad i).length ≤ 100 * i := by
    intro i hi'
    induction i with
    | zero => simp [inUp]
    | succ i ih =>
      have ih := ih (by omega)
      have h1 : ins[i]? = some ins[i] := List.getElem?_eq_getElem (by omega)
      have h2 : bits[i]? = some bits[i] := List.getElem?_eq_getElem (by omega)
      unfold inUp
      rw [h1, h2]
      show (inRow bad bits[i] ins[i].2 (inUp ins bits bad i)).length ≤ _
      rw [inRow_len]
      have := hw ins[i] (List.getElem_mem _)
      omega
  refine (loopX_inv (fun i δ S2 => (∃ a b c, δ = wEnv N S (.lst (ins.map inD)) (.lst (bits.map (mI N))) (.tup (bad.map .int)) a b c) ∧ S2 = S ++ [SO.lst ((inUp ins bits bad i).map (mI N))])
    ⟨⟨_, _, _, rfl⟩, rfl⟩ ?_).mono fun o S2 ⟨δ2, e2', ⟨a, b, c, hδ⟩, hS⟩ => ⟨δ2, e2', ?_⟩
  · rintro i v δ S2 hv ⟨⟨a, b, c, rfl⟩, rfl⟩
    obtain ⟨d, hd, rfl⟩ := enum_at hv
    rw [List.getElem?_map] at hd
    have hib : i < bits.length := by
      have := (List.getElem?_eq_some_iff.mp hv).1
      simpa [enumD] using this
    have h1 : ins[i]? = some ins[i] := List.getElem?_eq_getElem (by omega)
    have h2 : bits[i]? = some bits[i] := List.getElem?_eq_getElem hib
    rw [h2] at hd
    cases hd
    refine ⟨wEnv N S (.lst (ins.map inD)) (.lst (bits.map (mI N))) (.tup (bad.map .int)) (some (.d (.int i))) (some (.d (mI N bits[i]))) c, rfl, ?_⟩
    unfold B_in_wire_masks_1
    have hwi := hw ins[i] (List.getElem_mem _)
    refine w_for (w_iP (rng1_ok (n := ins[i].2) ?_ (by omega)) ?_)
    · refine e2_ok (a := inD ins[i]) (b := .int 1) (e2_ok (a := .lst (ins.map inD)) (b := .int i) rfl rfl (ixL_of ?_)) rfl rfl
      rw [atI_of (by omega) (by rw [List.length_map, Int.toNat_natCast]; omega)]
      simp
    refine (loopX_inv (fun j δ S3 => (∃ c, δ = wEnv N S (.lst (ins.map inD)) (.lst (bits.map (mI N))) (.tup (bad.map .int)) (some (.d (.int i))) (some (.d (mI N bits[i]))) c) ∧ S3 = S ++ [SO.lst ((inRow bad bits[i] j (inUp ins bits bad i)).map (mI N))])
      ⟨⟨_, rfl⟩, rfl⟩ ?_).mono fun o S3 ⟨δ3, e3, ⟨c3, hδ3⟩, hS3⟩ => ⟨δ3, e3, ⟨_, _, c3, hδ3⟩, ?_⟩
    · rintro j v δ S3 hv ⟨⟨c3, rfl⟩, rfl⟩
      refine ⟨_, rfl, ?_⟩
      have hj : j < ins[i].2 := by
        have := (List.getElem?_eq_some_iff.mp hv).1
        rwa [List.length_map, rngD, List.length_map, List.length_range] at this
      refine (row_step ?_).mono fun o S4 ⟨e4, e5⟩ => ⟨_, e4, ⟨_, rfl⟩, e5⟩
      rw [inRow_len]
      have := big i (by omega)
      omega
    · rw [hS3, List.length_map, rngD, List.length_map, List.length_range]
      show _ = S ++ [SO.lst ((match ins[i]?, bits[i]? with | some x, some b => inRow bad b x.2 (inUp ins bits bad i) | _, _ => inUp ins bits bad i).map (mI N))]
      rw [h1, h2]
  have hlen : ((enumD (bits.map (mI N))).map V3.d).length = ins.length := by simp [enumD, hb]
  rw [hlen] at hS
  subst hδ hS
  exact w_ret (w_var rfl ⟨_, rfl, h⟩)
/-! all wires -/
section
variable {N : Nat} {ins : List (Str × Nat)} {gs : List Gt} {os : List (Str × List Nat)} {bits : List M} {turned bad : List Int}
def mEnv (N : Nat) (S : Sto) (nt bitsD tD bD : D) (a6 a7 a8 : Option V3) : DE := [some (.d nt), some (.d bitsD), some (.d (mI N one)), some (.d tD), some (.d bD), some (.loc S.length), a6, a7, a8]
theorem gate_step {S : Sto} {nt bitsD bD : D} {a8 : Option V3} {g : Gt} {i : Nat} {ws : List M} (hg : GtOk ws.length g) (hl : ws.length < 20000) :
    W3 (B_wire_masks_0 (mEnv N S nt bitsD (.tup (turned.map .int)) bD (some (.d (.int i))) (some (.d (gtD g))) a8) (S ++ [.lst (ws.map (mI N))])) fun o S1 => (∃ c, o = .nx (mEnv N S nt bitsD (.tup (turned.map .int)) bD (some (.d (.int i))) (some (.d (gtD g))) c)) ∧ S1 = S ++ [SO.lst ((ws ++ [fun p => gF g ws p != turned.contains (i : Int)]).map (mI N))] := by
  have hz : sizeLine = 16777216 := sizeLine_eq
  have ha := ar_le g.1
  unfold B_wire_masks_0
  refine w_seq (w_set (by unfold mEnv; simp only [List.length_cons, List.length_nil]; omega) (w_T (d := mI N (gF g ws)) ?_ rfl ⟨_, rfl, ?_⟩))
  · have h5 : (downT (S ++ [.lst (ws.map (mI N))]) (mEnv N S nt bitsD (.tup (turned.map .int)) bD (some (.d (.int i))) (some (.d (gtD g))) a8))[5]? = some (.val (.lst (ws.map (mI N)))) := by
      unfold downT mEnv
      show some (match res (S ++ [.lst (ws.map (mI N))]) (.loc S.length) with | some d => Sl.val d | none => .un) = _
      unfold res
      rw [get_last]
    refine (eCall_ok (ds := [.str (kS g.1), .tup ((g.2.1.map (rdF ws)).map (mI N)), mI N one]) (aCons_ok (e2_ok (a := gtD g) (b := .int 0) rfl rfl rfl) (aCons_ok ?_ (aCons_ok rfl rfl))) (mask_ok hg.1 (by rw [List.length_map]; exact hg.2.1))).trans ?_
    · exact eCall_ok (ds := [.lst (ws.map (mI N)), .tup (g.2.1.map nI)]) (aCons_ok (by unfold eVar; rw [h5]) (aCons_ok (e2_ok (a := gtD g) (b := .int 1) rfl rfl rfl) rfl)) (at_ok hg.2.2 (by rw [hg.2.1]; omega))
    · have : (fun p => gv g.1 ((g.2.1.map (rdF ws)).map (· p))) = gF g ws := by funext p; unfold gF; rw [List.map_map]; rfl
      rw [this]
  · show W3 (zApp 5 _ (mEnv N S nt bitsD (.tup (turned.map .int)) bD (some (.d (.int i))) (some (.d (gtD g))) (some (.d (mI N (gF g ws))))) _) _
    refine w_app (k := S.length) rfl ⟨_, get_last _ _⟩ (w_P (d := mI N fun p => gF g ws p != turned.contains (i : Int)) ?_ ⟨_, _, rfl, get_last _ _, by rw [List.length_map]; omega, ⟨_, rfl⟩, ?_⟩)
    · refine eif_ok (b := turned.contains (i : Int)) (b2_ok (a := .int i) (b := .tup (turned.map .int)) rfl rfl (in_ints _ _)) ?_
      rw [← m_turn]
      rfl
    · rw [set_last, List.map_append]; rfl
theorem wires_ok {S : Sto} (NO : NetOk ins gs os) (hb : bits.length = ins.length) (hS : Clo S) {Q : V3 → Sto → Prop} (h : Q (.d (.lst ((allW ins gs bits turned bad).map (mI N)))) S) :
    W3 (dP_wire_masks [.d (netD ins gs os), .d (.lst (bits.map (mI N))), .d (mI N one), .d (.tup (turned.map .int)), .d (.tup (bad.map .int))] S) Q := by
  have hz : sizeLine = 16777216 := sizeLine_eq
  unfold dP_wire_masks
  refine w_PnA hS (w_K rfl ?_)
  simp only [xStart, N_wire_masks, List.map_cons, List.map_nil, List.length_cons, List.length_nil, List.replicate, List.cons_append, List.nil_append, Nat.reduceAdd, Nat.reduceSub]
  unfold F_wire_masks
  refine w_seq <| w_set (by simp only [List.length_cons, List.length_nil, List.length_set]; omega) <| w_call <| w_cons <| w_P (d := .lst (ins.map inD)) rfl <| w_cons <| w_P (d := .lst (bits.map (mI N))) rfl <| w_cons <| w_P (d := mI N one) rfl <| w_cons <| w_P (d := .tup (bad.map .int)) rfl <| w_nil <| in_wires_ok hb NO.hi NO.hw ⟨_, rfl, ?_⟩
  simp only [List.set_cons_succ, List.set_cons_zero]
  have hwd := wid_le NO.hw
  have hN := NO.hi
  have hG := NO.hg
  refine w_seq (w_for (w_iP (ds := enumD (gs.map gtD)) rfl ?_))
  refine (loopX_inv (fun i δ S2 => (∃ a b c, δ = mEnv N S (netD ins gs os) (.lst (bits.map (mI N))) (.tup (turned.map .int)) (.tup (bad.map .int)) a b c) ∧ S2 = S ++ [SO.lst ((gUp gs turned (inUp ins bits bad ins.length) i).map (mI N))])
    ⟨⟨_, _, _, rfl⟩, rfl⟩ ?_).mono fun o S2 ⟨δ2, e2', ⟨a, b, c, hδ⟩, hS2⟩ => ⟨δ2, e2', ?_⟩
  · rintro i v δ S2 hv ⟨⟨a, b, c, rfl⟩, rfl⟩
    obtain ⟨d, hd, rfl⟩ := enum_at hv
    rw [List.getElem?_map] at hd
    cases q : gs[i]? with
    | none => rw [q] at hd; cases hd
    | some g =>
      rw [q] at hd
      cases hd
      have hi : i < gs.length := (List.getElem?_eq_some_iff.mp q).1
      have hl : (gUp gs turned (inUp ins bits bad ins.length) i).length = wid ins + i := by rw [gUp_len _ (by omega), inUp_len hb _ (Nat.le_refl _), List.take_length]
      refine ⟨mEnv N S (netD ins gs os) (.lst (bits.map (mI N))) (.tup (turned.map .int)) (.tup (bad.map .int)) (some (.d (.int i))) (some (.d (gtD g))) c, rfl, ?_⟩
      refine (gate_step (by rw [hl]; exact NO.g i g q) (by rw [hl]; omega)).mono fun o S4 ⟨⟨c4, e4⟩, e5⟩ => ⟨_, e4, ⟨_, _, _, rfl⟩, ?_⟩
      rw [e5]
      show _ = S ++ [SO.lst ((match gs[i]? with | some g => gUp gs turned (inUp ins bits bad ins.length) i ++ [fun p => gF g (gUp gs turned (inUp ins bits bad ins.length) i) p != turned.contains (i : Int)] | none => gUp gs turned (inUp ins bits bad ins.length) i).map (mI N))]
      rw [q]
  have hlen : ((enumD (gs.map gtD)).map V3.d).length = gs.length := by simp [enumD]
  rw [hlen] at hS2
  subst hδ hS2
  exact w_ret (w_var rfl ⟨_, rfl, by unfold geOk; exact decide_eq_true (Nat.le_refl _), ⟨_, rfl⟩, _, by unfold res; rw [get_last]; rfl, h⟩)
def tellsD (N : Nat) (os : List (Str × List Nat)) (ws : List M) : List D := os.map fun x => .tup ((tell ws x).map (mI N))
theorem outs_ok {S : Sto} {ws : List M} (hO : os.length < 1000) (ho : ∀ x ∈ os, x.2.length < 1000 ∧ ∀ w ∈ x.2, w < ws.length) (hS : Clo S) {Q : V3 → Sto → Prop} (h : Q (.d (.lst (tellsD N os ws))) S) :
    W3 (dP_out_masks [.d (netD ins gs os), .d (.lst (ws.map (mI N)))] S) Q := by
  have hz : sizeLine = 16777216 := sizeLine_eq
  unfold dP_out_masks
  refine w_PnA hS (w_K rfl ?_)
  simp only [xStart, N_out_masks, List.map_cons, List.map_nil, List.length_cons, List.length_nil, List.replicate, List.cons_append, List.nil_append, Nat.reduceAdd, Nat.reduceSub]
  unfold F_out_masks
  refine w_ret (w_new (ds := tellsD N os ws) ?_ ⟨_, rfl, by unfold geOk; exact decide_eq_true (Nat.le_refl _), ⟨_, rfl⟩, _, by unfold res; rw [get_last], h⟩)
  refine nComp_ok (ds := os.map ouD) (itL_ok (e2_ok (a := netD ins gs os) (b := .int 2) rfl rfl rfl)) (by rw [List.length_map]; omega) ?_
  unfold tellsD
  refine NT.compL_list ouD _ fun (x : Str × List Nat) hx => ⟨[.val (.str x.1), .val (.tup (x.2.map nI)), .val (.lst (ws.map (mI N)))], rfl, rfl, ?_⟩
  exact eCall_ok (ds := [.lst (ws.map (mI N)), .tup (x.2.map nI)]) rfl (at_ok (ho x hx).2 (ho x hx).1)
end
end K20

end
section
set_option maxRecDepth 100000
set_option maxHeartbeats 4000000
namespace K20
open PySem PySem.Spec PyProof.Rows L2 L3 MT
/-! reading -/
def r0 (xs : List M) : M := fun p => (rd2 (xs.map (· p))).1
def r1 (xs : List M) : M := fun p => (rd2 (xs.map (· p))).2
theorem len_is {n : Nat} {ds : List D} {δ : DEnv} {j : Int} (h : eVar 0 δ = .ok (.tup ds)) (hl : ds.length = n) : b2 dEq (eCall cLen (aCons (eVar 0) aNil)) (eC (.int j)) δ = .ok (decide ((n : Int) = j)) := by
  refine b2_ok (a := .int n) (b := .int j) (eCall_ok (ds := [.tup ds]) (aCons_ok h rfl) ?_) rfl ?_
  · show R.ok (D.int ds.length) = _
    rw [hl]
  · show R.ok (D.bl ((n : Int) == j)) = _
    congr 2
theorem reading_ok {N : Nat} {xs : List M} (h : 1 ≤ xs.length ∧ xs.length ≤ 3) : d_reading [.tup (xs.map (mI N)), mI N one] = .ok (.tup [mI N (r0 xs), mI N (r1 xs)]) := by
  have hz : sizeLine = 16777216 := sizeLine_eq
  unfold d_reading F_reading
  match xs, h with
  | [a], _ =>
    refine fnD_ok (sSeq_ok (sIf_f (len_is (n := 1) rfl rfl) rfl) (sSeq_ok (sSet_ok (d := mI N a) (eif_ok (len_is (n := 1) rfl rfl) (e2_ok (a := .tup [mI N a]) (b := .int 0) rfl rfl ix0)) (by simp [dStart, N_reading])) (sRet_ok ?_)))
    exact eTup_ok (aCons_ok (e2_ok (a := mI N one) (b := mI N a) rfl rfl (m_not N a)) (aCons_ok rfl rfl)) (by simp; omega)
  | [a, b], _ =>
    refine fnD_ok (NT.sSeq_rt (sIf_t (len_is (n := 2) rfl rfl) (sRet_ok ?_)))
    exact eTup_ok (aCons_ok (e2_ok (a := mI N one) (b := mI N fun p => a p || b p) rfl (e2_ok (e2_ok rfl rfl ix0) (e2_ok rfl rfl ix1) (m_or N a b)) (m_not N _)) (aCons_ok (e2_ok (e2_ok rfl rfl ix0) (e2_ok rfl rfl ix1) (m_and N a b)) rfl)) (by simp; omega)
  | [a, b, c], _ =>
    refine fnD_ok (sSeq_ok (sIf_f (len_is (n := 3) rfl rfl) rfl) (sSeq_ok (sSet_ok (d := mI N fun p => (a p && b p) || (a p && c p) || (b p && c p)) (eif_ok (len_is (n := 3) rfl rfl) (eCall_ok (ds := [.tup [mI N a, mI N b, mI N c]]) rfl vote_ok)) (by simp [dStart, N_reading])) (sRet_ok ?_)))
    exact eTup_ok (aCons_ok (e2_ok (a := mI N one) (b := mI N fun p => (a p && b p) || (a p && c p) || (b p && c p)) rfl rfl (m_not N _)) (aCons_ok rfl rfl)) (by simp; omega)
theorem bit_ok {N n : Nat} {f : M} : d_bit_at [mI N f, .int n] = .ok (.int (if decide (n < N) && f n then 1 else 0)) := by
  unfold d_bit_at F_bit_at
  refine fnD_ok (sRet_ok ?_)
  have h := m_bit N f n
  show (R.bind (R.bind (R.ok (mI N f)) fun d => R.bind (R.ok (D.int n)) fun e => dShr d e) fun d => R.bind (R.ok (D.int 1)) fun e => dBa d e) = _
  exact h
/-! masks of bits -/
theorem mask_of_ok {bs : List Bool} (hl : bs.length < 100000) : d_mask_of [.lst (bs.map bI)] = .ok (.int (mkL bs)) := by
  unfold d_mask_of F_mask_of
  refine fnD_ok (sSeq_ok (sSet_ok (d := .int 0) rfl (by simp [dStart, N_mask_of])) ?_)
  obtain ⟨δ1, e1, a2, hδ1⟩ := loopD_inv (t := gNameD 2) (body := B_mask_of_0) (ds := (bs.map bI).reverse)
    (fun i δ => ∃ a2, δ = [.val (.lst (bs.map bI)), .val (.int (mkL (bs.drop (bs.length - i)))), a2]) (δ := [.val (.lst (bs.map bI)), .val (.int 0), .un]) ⟨.un, by simp [mkL]⟩ (by
      rintro i d δ hd ⟨a2, rfl⟩
      have hi : i < bs.length := by
        have := (List.getElem?_eq_some_iff.mp hd).1
        rwa [List.length_reverse, List.length_map] at this
      rw [List.getElem?_reverse (by rw [List.length_map]; exact hi), List.length_map, List.getElem?_map, List.getElem?_eq_getElem (by omega : bs.length - 1 - i < bs.length)] at hd
      cases hd
      have hdr : bs.drop (bs.length - (i + 1)) = bs[bs.length - 1 - i] :: bs.drop (bs.length - i) := by
        rw [show bs.length - (i + 1) = bs.length - 1 - i by omega, List.drop_eq_getElem_cons (by omega : bs.length - 1 - i < bs.length), show bs.length - 1 - i + 1 = bs.length - i by omega]
      refine ⟨_, ?_, ⟨.val (bI bs[bs.length - 1 - i]), rfl⟩⟩
      have hm : (mkL (bs.drop (bs.length - (i + 1))) : Int) = (mkL (bs.drop (bs.length - i)) : Int) * 2 + (if bs[bs.length - 1 - i] then 1 else 0) := by
        rw [hdr]
        show (((if bs[bs.length - 1 - i] then 1 else 0) + 2 * mkL (bs.drop (bs.length - i)) : Nat) : Int) = _
        cases bs[bs.length - 1 - i] <;> simp <;> omega
      rw [hm]
      generalize (mkL (bs.drop (bs.length - i)) : Int) = m
      generalize bs[bs.length - 1 - i] = x
      generalize D.lst (bs.map bI) = y
      rw [show gNameD 2 (bI x) [.val y, .val (.int m), a2] = .ok [.val y, .val (.int m), .val (bI x)] from rfl, R.ok_bind]
      unfold B_mask_of_0
      exact sSet_ok (e2_ok (a := .int (m * 2)) (b := bI x) (e2_ok (a := .int m) (b := .int 2) rfl rfl (when_of _ (.inr ⟨by omega, by omega⟩))) rfl rfl) (by simp))
  refine sSeq_ok (sFor_ok (ds := (bs.map bI).reverse) rfl e1) ?_
  rw [List.length_reverse, List.length_map, Nat.sub_self, List.drop_zero] at hδ1
  subst hδ1
  exact sRet_ok rfl
/-! all inputs -/
def allIn : Nat → List (List Bool)
  | 0 => [[]]
  | c + 1 => (allIn c).flatMap fun b => [b ++ [false], b ++ [true]]
theorem allIn_len : ∀ c, (allIn c).length = 2 ^ c
  | 0 => rfl
  | c + 1 => by
    unfold allIn
    rw [List.length_flatMap]
    have : (allIn c).map (fun b => [b ++ [false], b ++ [true]].length) = (allIn c).map fun _ => 2 := rfl
    rw [this, List.map_const', List.sum_replicate_nat, allIn_len c]
    omega
theorem allIn_row : ∀ c, ∀ b ∈ allIn c, b.length = c
  | 0, b, h => by unfold allIn at h; rw [List.mem_singleton.mp h]; rfl
  | c + 1, b, h => by
    unfold allIn at h
    obtain ⟨a, ha, hb⟩ := List.mem_flatMap.mp h
    have := allIn_row c a ha
    simp only [List.mem_cons, List.not_mem_nil, or_false] at hb
    rcases hb with rfl | rfl <;> simp [this]
def rowD (b : List Bool) : D := .tup (b.map bI)
def aE (c : Nat) (inp : Option V3) (a2 a3 a4 : Option V3) : DE := [some (.d (nI c)), inp, a2, a3, a4]
theorem frzOk (n : Nat) : soOk n .frz = true := rfl
theorem all_inputs_ok {c : Nat} {S : Sto} (hc : c ≤ 10) (hS : Clo S) {Q : V3 → Sto → Prop} (h : Q (.d (.lst ((allIn c).map rowD))) S) : W3 (dP_all_inputs [.d (nI c)] S) Q := by
  have hz : sizeLine = 16777216 := sizeLine_eq
  unfold dP_all_inputs
  refine w_PnA hS (w_K rfl ?_)
  simp only [xStart, N_all_inputs, List.map_cons, List.map_nil, List.length_cons, List.length_nil, List.replicate, List.cons_append, List.nil_append, Nat.reduceAdd, Nat.reduceSub]
  unfold F_all_inputs
  refine w_seq <| w_set (by simp only [List.length_cons, List.length_nil, List.length_set]; omega) <| w_new (ds := (allIn 0).map rowD) rfl ⟨_, rfl, ?_⟩
  simp only [List.set_cons_succ, List.set_cons_zero]
  refine w_seq <| w_for <| w_iP (rng1_ok (n := c) rfl (by omega)) ?_
  refine (loopX_inv (fun i δ S2 => ∃ (T : Sto) (a2 a3 a4 : Option V3), S2 = S ++ T ++ [.lst ((allIn i).map rowD)] ∧ δ = aE c (some (.loc (S ++ T).length)) a2 a3 a4)
    ⟨[], none, none, none, by simp, by simp [aE]⟩ ?_).mono fun o S2 ⟨δ2, e2', T, a2, a3, a4, hS2, hδ⟩ => ⟨δ2, e2', ?_⟩
  · rintro i v δ S2 hv ⟨T, a2, a3, a4, rfl, rfl⟩
    have hi : i < c := by
      have := (List.getElem?_eq_some_iff.mp hv).1
      rwa [List.length_map, rngD, List.length_map, List.length_range] at this
    have hpow : (allIn i).length ≤ 1024 := by
      rw [allIn_len]
      exact Nat.pow_le_pow_right (by omega) (by omega : i ≤ 10)
    refine ⟨aE c (some (.loc (S ++ T).length)) (some v) a3 a4, rfl, ?_⟩
    unfold B_all_inputs_1 aE
    refine w_frz (i := 1) rfl (get_last _ _) ?_
    rw [set_last]
    simp only [List.set_cons_succ, List.set_cons_zero]
    refine w_seq <| w_set (by simp only [List.length_cons, List.length_nil, List.length_set]; omega) <| w_new (ds := []) rfl ⟨_, rfl, ?_⟩
    simp only [List.set_cons_succ, List.set_cons_zero]
    generalize hU : S ++ T ++ [SO.frz] = U
    refine w_seq <| w_for <| w_iP (ds := (allIn i).map rowD) rfl ?_
    refine (loopX_inv (fun j δ S3 => (∃ b4, δ = [some (.d (nI c)), some (.d (.lst ((allIn i).map rowD))), some v, some (.loc U.length), b4]) ∧ S3 = U ++ [.lst ((((allIn i).take j).flatMap fun b => [b ++ [false], b ++ [true]]).map rowD)])
      ⟨⟨_, rfl⟩, by simp⟩ ?_).mono fun o S3 ⟨δ3, e3, ⟨b4, hδ3⟩, hS3⟩ => ⟨δ3, e3, ?_⟩
    · rintro j v3 δ S3 hv3 ⟨⟨b4, rfl⟩, rfl⟩
      obtain ⟨b, hb, rfl⟩ := NT.map_at hv3
      have hj := (List.getElem?_eq_some_iff.mp hb).1
      have hbl := allIn_row i b (List.mem_of_getElem? hb)
      refine ⟨[some (.d (nI c)), some (.d (.lst ((allIn i).map rowD))), some v, some (.loc U.length), some (.d (rowD b))], rfl, ?_⟩
      unfold B_all_inputs_0
      generalize hL : ((((allIn i).take j).flatMap fun b => [b ++ [false], b ++ [true]]).map rowD) = L
      have hLl : L.length ≤ 2048 := by
        rw [← hL, List.length_map, List.length_flatMap]
        have : ((allIn i).take j).map (fun b => [b ++ [false], b ++ [true]].length) = ((allIn i).take j).map fun _ => 2 := rfl
        rw [this, List.map_const', List.sum_replicate_nat, List.length_take]
        omega
      have add : ∀ (x : Bool) (δ : DEnv), eVar 4 δ = .ok (rowD b) → e2 dAddX (eVar 4) (eTup (aCons (eC (bI x)) aNil)) δ = .ok (rowD (b ++ [x])) := fun x δ h4 => by
        refine e2_ok (a := rowD b) (b := .tup [bI x]) h4 (eTup_ok rfl (by simp; omega)) ?_
        show R.when (decide ((b.map bI).length + [bI x].length ≤ sizeLine)) _ = _
        rw [when_of _ (by rw [List.length_map]; simp; omega)]
        unfold rowD
        rw [List.map_append]; rfl
      refine w_seq <| w_app (k := U.length) rfl ⟨_, get_last _ _⟩ <| w_P (d := rowD (b ++ [false])) (add false _ rfl) ⟨_, _, rfl, get_last _ _, by omega, _, rfl, ?_⟩
      rw [set_last]
      refine w_app (k := U.length) rfl ⟨_, get_last _ _⟩ <| w_P (d := rowD (b ++ [true])) (add true _ rfl) ⟨_, _, rfl, get_last _ _, by rw [List.length_append]; simp; omega, _, rfl, ⟨_, rfl⟩, ?_⟩
      rw [set_last, List.take_add_one, hb, List.flatMap_append, List.map_append, hL]
      simp
    rw [List.length_map, List.length_map, List.take_length] at hS3
    subst hδ3 hS3
    refine w_set (by simp only [List.length_cons, List.length_nil, List.length_set]; omega) <| w_var (v := .loc U.length) rfl ⟨_, rfl, T ++ [SO.frz], some v, some (.loc U.length), b4, ?_, ?_⟩
    · rw [← hU, List.append_assoc S]; rfl
    · rw [← hU, List.append_assoc S]; rfl
  have hlen : ((rngD 0 c).map V3.d).length = c := by simp [rngD]
  rw [hlen] at hS2
  subst hδ hS2
  unfold aE
  refine w_ret (w_var rfl ⟨_, rfl, by unfold geOk; exact decide_eq_true (by rw [List.length_append]; omega), ⟨T ++ [.lst ((allIn c).map rowD)], by rw [List.append_assoc]⟩, _, by unfold res; rw [get_last], h⟩)
end K20

end
section
set_option maxRecDepth 100000
set_option maxHeartbeats 4000000
namespace K20
open PySem PySem.Spec PyProof.Rows L2 L3 MT
/-- the bit of input p at place j -/
def inM (c j : Nat) : M := fun p => ((allIn c).getD p []).getD j false
def inMs (c : Nat) : List M := (List.range c).map (inM c)
theorem row_ix {b : List Bool} {j : Nat} (h : j < b.length) : ixD (rowD b) (.int j) = .ok (bI (b.getD j false)) := by
  refine ixT_of ?_
  rw [atI_of (by omega) (by rw [List.length_map, Int.toNat_natCast]; exact h)]
  rw [List.getD_eq_getElem?_getD, List.getElem?_eq_getElem h]
  simp
theorem in_mask_ok {c j : Nat} (hc : c ≤ 10) (hj : j < c) : d_in_mask [.lst ((allIn c).map rowD), .int j] = .ok (mI (2 ^ c) (inM c j)) := by
  have hz : sizeLine = 16777216 := sizeLine_eq
  have hp : 2 ^ c ≤ 1024 := Nat.pow_le_pow_right (by omega) hc
  unfold d_in_mask F_in_mask
  refine fnD_ok (sRet_ok (eCall_ok (ds := [.lst (((allIn c).map fun b => b.getD j false).map bI)]) (aCons_ok (eNew_ok (nComp_ok (ds := (allIn c).map rowD) rfl (by rw [List.length_map, allIn_len]; omega) ?_)) rfl) ?_))
  · rw [List.map_map]
    exact NT.compL_list rowD _ fun b hb => ⟨[.val (rowD b), .val (.int j)], rfl, rfl, e2_ok (a := rowD b) (b := .int j) rfl rfl (row_ix (by rw [allIn_row c b hb]; exact hj))⟩
  · rw [mask_of_ok (by rw [List.length_map, allIn_len]; omega), mkL_N, List.length_map, allIn_len]
    unfold mI
    congr 3
    refine mkN_congr fun p hp' => ?_
    unfold inM
    rw [List.getD_eq_getElem?_getD, List.getElem?_map, List.getD_eq_getElem?_getD (l := allIn c), List.getElem?_eq_getElem (by rw [allIn_len]; exact hp')]
    rfl
/-! the bench -/
section
variable {c : Nat} {ins : List (Str × Nat)} {gs : List Gt} {os : List (Str × List Nat)}
abbrev fNet := Str.ofString "net"
abbrev fMany := Str.ofString "many_inputs"
abbrev fFull := Str.ofString "full"
abbrev fMasks := Str.ofString "in_masks"
def benchF (c : Nat) (nt : D) : List (Str × V3) := [(fNet, .d nt), (fMany, .d (nI (2 ^ c))), (fFull, .d (mI (2 ^ c) one)), (fMasks, .d (.lst ((inMs c).map (mI (2 ^ c)))))]
theorem bench_K {S : Sto} (hc : ins.length = c) (hc1 : c ≤ 10) (hS : Clo (S ++ [.ins 0 []])) {Q : V3 → Sto → Prop} (h : Q (.d .non) (S ++ [.ins 0 (benchF c (netD ins gs os))])) :
    W3 (dK_Bench___init__ [.loc S.length, .d (netD ins gs os)] (S ++ [.ins 0 []])) Q := by
  have hz : sizeLine = 16777216 := sizeLine_eq
  have hp : 2 ^ c ≤ 1024 := Nat.pow_le_pow_right (by omega) hc1
  unfold dK_Bench___init__
  refine w_K0 rfl ?_
  simp only [xStart, N_Bench___init__, List.map_cons, List.map_nil, List.length_cons, List.length_nil, List.replicate, List.cons_append, List.nil_append, Nat.reduceAdd, Nat.reduceSub]
  unfold F_Bench___init__
  refine w_seq <| w_set (by simp only [List.length_cons, List.length_nil, List.length_set]; omega) <| w_call <| w_cons <| w_P (d := nI c) (eCall_ok (ds := [.lst (ins.map inD)]) rfl (by rw [lenL, List.length_map, hc]; rfl)) <| w_nil <| all_inputs_ok hc1 hS ⟨_, rfl, ?_⟩
  simp only [List.set_cons_succ, List.set_cons_zero]
  refine w_seq <| w_fldSet (k := S.length) <| w_P (d := netD ins gs os) rfl <| w_var (v := .loc S.length) rfl ⟨_, rfl, get_last _ _, by simp, _, rfl, ?_⟩
  rw [set_last]
  refine w_seq <| w_fldSet (k := S.length) <| w_P (d := nI (2 ^ c)) (eCall_ok (ds := [.lst ((allIn c).map rowD)]) rfl (by rw [lenL, List.length_map, allIn_len]; rfl)) <| w_var (v := .loc S.length) rfl ⟨_, rfl, get_last _ _, by unfold putX; simp, _, rfl, ?_⟩
  rw [set_last]
  refine w_seq <| w_fldSet (k := S.length) <| w_P (d := mI (2 ^ c) one) (eCall_ok (ds := [.lst (((allIn c).map fun _ => true).map bI)]) (aCons_ok (eNew_ok (nComp_ok (ds := (allIn c).map rowD) rfl (by rw [List.length_map, allIn_len]; omega) ?_)) rfl) ?_) <| w_var (v := .loc S.length) rfl ⟨_, rfl, get_last _ _, ?_, _, rfl, ?_⟩
  · rw [List.map_map]
    exact NT.compL_list rowD _ fun b hb => ⟨[.val (rowD b)], rfl, rfl, rfl⟩
  · rw [mask_of_ok (by rw [List.length_map, allIn_len]; omega), mkL_N, List.length_map, allIn_len]
    unfold mI
    congr 3
    refine mkN_congr fun p hp' => ?_
    rw [List.getD_eq_getElem?_getD, List.getElem?_map, List.getElem?_eq_getElem (by rw [allIn_len]; exact hp')]
    rfl
  · exact (by decide : 2 < 1000)
  rw [set_last]
  refine w_fldSet (k := S.length) <| w_P (d := .lst ((inMs c).map (mI (2 ^ c)))) (eNew_ok (nComp_ok (ds := rngD 0 c) (rng1_ok (n := c) (eCall_ok (ds := [.lst (ins.map inD)]) rfl (by rw [lenL, List.length_map, hc])) (by omega)) (by simp [rngD]; omega) ?_)) <| w_var (v := .loc S.length) rfl ⟨_, rfl, get_last _ _, ?_, _, rfl, ?_⟩
  · unfold inMs
    rw [List.map_map]
    unfold rngD
    refine NT.compL_list (fun i : Nat => D.int (0 + (i : Int))) _ fun j hj => ⟨[.val (.int (0 + (j : Int))), .val (.lst ((allIn c).map rowD))], rfl, rfl, eCall_ok (ds := [.lst ((allIn c).map rowD), .int j]) ?_ (in_mask_ok hc1 (List.mem_range.mp hj))⟩
    rw [Int.zero_add]
    rfl
  · exact (by decide : 3 < 1000)
  rw [set_last]
  exact h
end
end K20

end
section
set_option maxRecDepth 100000
set_option maxHeartbeats 4000000
namespace K20
open PySem PySem.Spec PyProof.Rows L2 L3 MT
section
variable {c : Nat} {ins : List (Str × Nat)} {gs : List Gt} {os : List (Str × List Nat)} {S : Sto} {k : Nat} {turned bad : List Int}
theorem nd1 : (fMany == fNet) = false := by decide +kernel
theorem nd2 : (fFull == fNet) = false := by decide +kernel
theorem nd3 : (fFull == fMany) = false := by decide +kernel
theorem nd4 : (fMasks == fNet) = false := by decide +kernel
theorem nd5 : (fMasks == fMany) = false := by decide +kernel
theorem nd6 : (fMasks == fFull) = false := by decide +kernel
theorem bf_net {nt : D} : (benchF c nt).lookup fNet = some (.d nt) := by unfold benchF; rw [List.lookup_cons, beq_self_eq_true]
theorem bf_many {nt : D} : (benchF c nt).lookup fMany = some (.d (nI (2 ^ c))) := by unfold benchF; rw [List.lookup_cons, nd1, List.lookup_cons, beq_self_eq_true]
theorem bf_full {nt : D} : (benchF c nt).lookup fFull = some (.d (mI (2 ^ c) one)) := by unfold benchF; rw [List.lookup_cons, nd2, List.lookup_cons, nd3, List.lookup_cons, beq_self_eq_true]
theorem bf_masks {nt : D} : (benchF c nt).lookup fMasks = some (.d (.lst ((inMs c).map (mI (2 ^ c))))) := by unfold benchF; rw [List.lookup_cons, nd4, List.lookup_cons, nd5, List.lookup_cons, nd6, List.lookup_cons, beq_self_eq_true]
theorem inMs_len : (inMs c).length = c := by unfold inMs; simp
abbrev Wd (c : Nat) (ins : List (Str × Nat)) (gs : List Gt) (turned bad : List Int) : List M := allW ins gs (inMs c) turned bad
theorem no_f (m : Str) (nt : D) (h1 : (m == fNet) = false) (h2 : (m == fMany) = false) (h3 : (m == fFull) = false) (h4 : (m == fMasks) = false) : (benchF c nt).lookup m = none := by unfold benchF; rw [List.lookup_cons, h1, List.lookup_cons, h2, List.lookup_cons, h3, List.lookup_cons, h4]; rfl
theorem tells_ok (NO : NetOk ins gs os) (hc : ins.length = c) (hS : Clo S) (hb : S[k]? = some (.ins 0 (benchF c (netD ins gs os)))) {Q : V3 → Sto → Prop} (h : Q (.d (.lst (tellsD (2 ^ c) os (Wd c ins gs turned bad)))) S) :
    W3 (dP_Bench_tells [.loc k, .d (.tup (turned.map .int)), .d (.tup (bad.map .int))] S) Q := by
  have hz : sizeLine = 16777216 := sizeLine_eq
  unfold dP_Bench_tells
  refine w_PnA hS (w_K rfl ?_)
  simp only [xStart, N_Bench_tells, List.map_cons, List.map_nil, List.length_cons, List.length_nil, List.replicate, List.cons_append, List.nil_append, Nat.reduceAdd, Nat.reduceSub]
  unfold F_Bench_tells
  have hl : (inMs c).length = ins.length := by rw [inMs_len, hc]
  refine w_ret <| w_call <| w_cons <| w_fld (k := k) <| w_var (v := .loc k) rfl ⟨_, _, rfl, hb, bf_net, ?_⟩
  refine w_cons <| w_call <| w_cons <| w_fld (k := k) <| w_var (v := .loc k) rfl ⟨_, _, rfl, hb, bf_net, ?_⟩
  refine w_cons <| w_fld (k := k) <| w_var (v := .loc k) rfl ⟨_, _, rfl, hb, bf_masks, ?_⟩
  refine w_cons <| w_fld (k := k) <| w_var (v := .loc k) rfl ⟨_, _, rfl, hb, bf_full, ?_⟩
  refine w_cons <| w_P (d := .tup (turned.map .int)) rfl <| w_cons <| w_P (d := .tup (bad.map .int)) rfl <| w_nil ?_
  refine wires_ok NO hl hS (w_nil ?_)
  refine outs_ok NO.ho (fun x hx => ⟨(NO.o x hx).1, fun w hw => by rw [allW_len hl]; exact (NO.o x hx).2 w hw⟩) hS ?_
  exact ⟨_, rfl, by unfold geOk; rfl, ⟨[], by simp⟩, _, by unfold res; rfl, h⟩
def rdD (N : Nat) (os : List (Str × List Nat)) (ws : List M) : List D := os.map fun x => .tup [mI N (r0 (tell ws x)), mI N (r1 (tell ws x))]
theorem readings_ok (NO : NetOk ins gs os) (hc : ins.length = c) (ho : ∀ x ∈ os, 1 ≤ x.2.length ∧ x.2.length ≤ 3) (hS : Clo S) (hb : S[k]? = some (.ins 0 (benchF c (netD ins gs os)))) {Q : V3 → Sto → Prop} (h : Q (.d (.lst (rdD (2 ^ c) os (Wd c ins gs turned [])))) S) :
    W3 (dP_Bench_readings [.loc k, .d (.tup (turned.map .int))] S) Q := by
  have hz : sizeLine = 16777216 := sizeLine_eq
  have hO := NO.ho
  unfold dP_Bench_readings
  refine w_PnA hS (w_K rfl ?_)
  simp only [xStart, N_Bench_readings, List.map_cons, List.map_nil, List.length_cons, List.length_nil, List.replicate, List.cons_append, List.nil_append, Nat.reduceAdd, Nat.reduceSub]
  unfold F_Bench_readings
  refine w_ret <| w_compD (fun j ds S2 => S2 = S ∧ ds = (rdD (2 ^ c) os (Wd c ins gs turned [])).take j) ?_
  refine w_iSeqD <| w_meth (k := k) <| w_var (v := .loc k) rfl ⟨_, rfl, hb, no_f _ _ (by decide +kernel) (by decide +kernel) (by decide +kernel) (by decide +kernel), ?_⟩
  refine w_cons <| w_P (d := .tup (turned.map .int)) rfl <| w_cons <| w_P (d := .tup (([] : List Int).map .int)) rfl <| w_nil ?_
  refine tells_ok NO hc hS hb ⟨_, rfl, ?_, ⟨rfl, by simp⟩, ?_, ?_⟩
  · rw [List.length_map, tellsD, List.length_map]; omega
  · rintro j v ds S2 hv ⟨rfl, rfl⟩
    rw [tellsD] at hv
    obtain ⟨x, hx, rfl⟩ := NT.map_at hv
    refine ⟨[some (.d (.tup ((tell (Wd c ins gs turned []) x).map (mI (2 ^ c))))), some (.loc k)], rfl, w_yes ?_⟩
    rw [if_pos rfl]
    refine w_callB <| w_cons <| w_P (d := .tup ((tell (Wd c ins gs turned []) x).map (mI (2 ^ c)))) rfl <| w_cons <| w_fld (k := k) <| w_var (v := .loc k) rfl ⟨_, _, rfl, hb, bf_full, w_nil ⟨[.tup ((tell (Wd c ins gs turned []) x).map (mI (2 ^ c))), mI (2 ^ c) one], _, rfl, reading_ok ?_, _, rfl, rfl, ?_⟩⟩
    · unfold tell; rw [List.length_map]; exact ho x (List.mem_of_getElem? hx)
    · unfold rdD
      rw [List.take_add_one, List.getElem?_map, hx]
      rfl
  · rintro ds S2 ⟨rfl, rfl⟩
    rw [List.length_map, tellsD, List.length_map, List.take_of_length_le (by rw [rdD, List.length_map]; exact Nat.le_refl _)]
    exact ⟨_, rfl, by unfold geOk; rfl, ⟨[], by simp⟩, _, by unfold res; rfl, h⟩
theorem inputs_in_ok {nt : D} {f : M} (hc : c ≤ 10) (hS : Clo S) (hb : S[k]? = some (.ins 0 (benchF c nt))) {Q : V3 → Sto → Prop} (h : Q (.d (.lst (((List.range (2 ^ c)).filter f).map nI))) S) :
    W3 (dP_Bench_inputs_in [.loc k, .d (mI (2 ^ c) f)] S) Q := by
  have hz : sizeLine = 16777216 := sizeLine_eq
  have hp : 2 ^ c ≤ 1024 := Nat.pow_le_pow_right (by omega) hc
  unfold dP_Bench_inputs_in
  refine w_PnA hS (w_K rfl ?_)
  simp only [xStart, N_Bench_inputs_in, List.map_cons, List.map_nil, List.length_cons, List.length_nil, List.replicate, List.cons_append, List.nil_append, Nat.reduceAdd, Nat.reduceSub]
  unfold F_Bench_inputs_in
  refine w_ret <| w_compD (fun j ds S2 => S2 = S ∧ ds = ((List.range j).filter f).map nI) ?_
  refine w_rng1 <| w_fld (k := k) <| w_var (v := .loc k) rfl ⟨_, _, rfl, hb, bf_many, 2 ^ c, rfl, by omega, ?_⟩
  have hlen : ((rngD 0 (2 ^ c)).map V3.d).length = 2 ^ c := by simp [rngD]
  rw [hlen]
  refine ⟨by omega, ⟨rfl, rfl⟩, ?_, ?_⟩
  · rintro j v ds S2 hv ⟨rfl, rfl⟩
    obtain ⟨hj, rfl⟩ := NT.rng_at hv
    refine ⟨[some (.d (.int j)), some (.d (mI (2 ^ c) f))], rfl, w_bP (b := f j) ?_ ?_⟩
    · refine b2_ok (a := .int (if decide (j < 2 ^ c) && f j then 1 else 0)) (b := .int 1) (eCall_ok (ds := [mI (2 ^ c) f, .int j]) rfl bit_ok) rfl ?_
      rw [decide_eq_true hj, Bool.true_and]
      cases f j <;> rfl
    · rw [List.range_succ, List.filter_append, List.map_append]
      cases hf : f j with
      | true => rw [if_pos rfl]; exact w_P (d := nI j) rfl ⟨_, rfl, rfl, by simp [hf]⟩
      | false => rw [if_neg (by decide)]; exact ⟨rfl, by simp [hf]⟩
  · rintro ds S2 ⟨rfl, rfl⟩
    exact ⟨_, rfl, by unfold geOk; rfl, ⟨[], by simp⟩, _, by unfold res; rfl, h⟩
end
end K20

end
section
set_option maxRecDepth 100000
set_option maxHeartbeats 4000000
namespace K20
open PySem PySem.Spec PyProof.Rows L2 L3 MT
theorem rng_nI (n : Nat) : rngD 0 n = (List.range n).map nI := by
  unfold rngD
  refine List.map_congr_left fun i _ => ?_
  show D.int (0 + (i : Int)) = D.int (i : Int)
  rw [Int.zero_add]
def tupN (T : List Nat) : D := .tup (T.map nI)
theorem drop_nI {ps : List Nat} {a : Nat} (ha : a < ps.length) : slD (.lst (ps.map nI)) (some ((a + 1 : Nat) : Int)) none = .ok (.lst ((ps.drop (a + 1)).map nI)) := by
  show R.ok (D.lst (L2.cutD (ps.map nI) (some ((a + 1 : Nat) : Int)) none)) = _
  congr 2
  unfold L2.cutD
  rw [List.length_map, HT.sIx_nat, HT.sIx_none, Nat.min_eq_left (by omega), ← List.map_drop, ← List.map_take, List.take_of_length_le (by rw [List.length_drop]; omega)]
theorem addXTt {ds es : List D} (h : ds.length + es.length ≤ sizeLine) : dAddX (.tup ds) (.tup es) = .ok (.tup (ds ++ es)) := when_of _ h
/-- choices(places, size) -/
theorem choices_ok : ∀ (n s : Nat) (ps : List Nat), s ≤ n → n ≤ 3 → ps.length ≤ 100 → d_choices (n + 1) [.lst (ps.map nI), .int s] = .ok (.lst ((chs ps s).map tupN))
  | n, 0, ps, _, _, _ => by
    show fnD N_choices (F_choices (d_choices n)) _ = _
    unfold F_choices
    exact fnD_ok (NT.sSeq_rt (sIf_t (b2_ok (a := .int 0) (b := .int 0) rfl rfl rfl) (sRet_ok rfl)))
  | 0, s + 1, ps, h, _, _ => by omega
  | n + 1, s + 1, ps, h, hn, hp => by
    have hz : sizeLine = 16777216 := sizeLine_eq
    show fnD N_choices (F_choices (d_choices (n + 1))) _ = _
    unfold F_choices
    have hcl : (chs ps (s + 1)).length ≤ 100 ^ (s + 1) := chs_len hp
    have hpow : ∀ m, m ≤ 3 → (100 : Nat) ^ m ≤ 1000000 := fun m hm => Nat.pow_le_pow_right (by omega) hm
    refine fnD_ok (sSeq_ok (sIf_f (b2_ok (a := .int (s + 1 : Nat)) (b := .int 0) (k := false) rfl rfl ?_) rfl) ?_)
    · show R.ok (D.bl (((s + 1 : Nat) : Int) == 0)) = _
      congr 2
    refine sSeq_ok (sBld_ok (ds := []) rfl (by simp [dStart, N_choices])) ?_
    let F : Nat → List (List Nat) := fun i => (List.range i).flatMap fun a => (chs (ps.drop (a + 1)) s).map (ps.getD a 0 :: ·)
    have hF : ∀ i, i ≤ ps.length → (F i).length ≤ i * 100 ^ s := fun i hi => by
      show ((List.range i).flatMap fun a => (chs (ps.drop (a + 1)) s).map (ps.getD a 0 :: ·)).length ≤ _
      rw [List.length_flatMap]
      refine Nat.le_trans (sum_le (m := 100 ^ s) fun x hx => ?_) (by rw [List.length_map, List.length_range]; exact Nat.le_refl _)
      obtain ⟨a, _, rfl⟩ := List.mem_map.mp hx
      rw [List.length_map]
      exact chs_len (by rw [List.length_drop]; omega)
    have hFs : ∀ i, F (i + 1) = F i ++ (chs (ps.drop (i + 1)) s).map (ps.getD i 0 :: ·) := fun i => by
      show (List.range (i + 1)).flatMap _ = _
      rw [List.range_succ, List.flatMap_append]
      simp [F]
    obtain ⟨δ1, e1, a3, a4, a5, hδ1⟩ := loopD_inv (t := gTupD 2 (gConsD (gNameD 3) (gConsD (gNameD 4) gNilD))) (body := B_choices_1 (d_choices (n + 1))) (ds := enumD (ps.map nI))
      (fun i δ => ∃ a3 a4 a5, δ = [.val (.lst (ps.map nI)), .val (.int (s + 1 : Nat)), .bld ((F i).map tupN), a3, a4, a5]) (δ := [.val (.lst (ps.map nI)), .val (.int (s + 1 : Nat)), .bld [], .un, .un, .un]) ⟨.un, .un, .un, by simp [F]⟩ (by
        rintro i d δ hd ⟨a3, a4, a5, rfl⟩
        have hv : ((enumD (ps.map nI)).map V3.d)[i]? = some (.d d) := by rw [List.getElem?_map, hd]; rfl
        obtain ⟨d0, hd0, ed⟩ := enum_at hv
        cases ed
        obtain ⟨x, hx, rfl⟩ := NT.map_atD hd0
        have hil := (List.getElem?_eq_some_iff.mp hx).1
        have hxd : ps.getD i 0 = x := by rw [List.getD_eq_getElem?_getD, hx]; rfl
        have hFi := hF i (by omega)
        have hFb : i * 100 ^ s ≤ 100 * 100 ^ s := Nat.mul_le_mul_right _ (by omega)
        have hp2 := hpow (s + 1) (by omega)
        rw [Nat.pow_succ, Nat.mul_comm] at hp2
        rw [show gTupD 2 (gConsD (gNameD 3) (gConsD (gNameD 4) gNilD)) (.tup [.int i, nI x]) [.val (.lst (ps.map nI)), .val (.int (s + 1 : Nat)), .bld ((F i).map tupN), a3, a4, a5] = .ok [.val (.lst (ps.map nI)), .val (.int (s + 1 : Nat)), .bld ((F i).map tupN), .val (.int i), .val (nI x), a5] from rfl, R.ok_bind]
        unfold B_choices_1
        have ihc := choices_ok n s (ps.drop (i + 1)) (by omega) (by omega) (by rw [List.length_drop]; omega)
        have hdl : (chs (ps.drop (i + 1)) s).length ≤ 100 ^ s := chs_len (by rw [List.length_drop]; omega)
        obtain ⟨δ2, e2', c5, hδ2⟩ := loopD_inv (t := gNameD 5) (body := B_choices_0 (d_choices (n + 1))) (ds := (chs (ps.drop (i + 1)) s).map tupN)
          (fun j δ => ∃ c5, δ = [.val (.lst (ps.map nI)), .val (.int (s + 1 : Nat)), .bld ((F i ++ ((chs (ps.drop (i + 1)) s).take j).map (x :: ·)).map tupN), .val (.int i), .val (nI x), c5]) (δ := [.val (.lst (ps.map nI)), .val (.int (s + 1 : Nat)), .bld ((F i).map tupN), .val (.int i), .val (nI x), a5]) ⟨a5, by simp⟩ (by
            rintro j d δ hd ⟨c5, rfl⟩
            obtain ⟨T, hT, rfl⟩ := NT.map_atD hd
            have hjl := (List.getElem?_eq_some_iff.mp hT).1
            have hTl := (chs_in (List.mem_of_getElem? hT)).1
            refine ⟨[.val (.lst (ps.map nI)), .val (.int (s + 1 : Nat)), .bld ((F i ++ ((chs (ps.drop (i + 1)) s).take (j + 1)).map (x :: ·)).map tupN), .val (.int i), .val (nI x), .val (tupN T)], ?_, ⟨_, rfl⟩⟩
            generalize hL : (F i ++ ((chs (ps.drop (i + 1)) s).take j).map (x :: ·)).map tupN = L
            have hLl : L.length < sizeLine := by
              rw [← hL, List.length_map, List.length_append, List.length_map, List.length_take]
              omega
            rw [show gNameD 5 (tupN T) [.val (.lst (ps.map nI)), .val (.int (s + 1 : Nat)), .bld L, .val (.int i), .val (nI x), c5] = .ok [.val (.lst (ps.map nI)), .val (.int (s + 1 : Nat)), .bld L, .val (.int i), .val (nI x), .val (tupN T)] from rfl, R.ok_bind]
            unfold B_choices_0
            rw [sApp_ok (d := tupN (x :: T)) (ds := L) (e2_ok (a := .tup [nI x]) (b := tupN T) (eTup_ok rfl (by simp; omega)) rfl (addXTt (by rw [List.length_map]; simp; omega))) rfl hLl, ← hL, List.take_add_one, hT]
            simp [tupN])
        refine ⟨_, sFor_ok (ds := (chs (ps.drop (i + 1)) s).map tupN) (itL_ok (eCall_ok (ds := [.lst ((ps.drop (i + 1)).map nI), .int s]) (aCons_ok (eSl_ok (d := .lst (ps.map nI)) (lo := some ((i + 1 : Nat) : Int)) (hi := none) rfl (oSome_ok (e2_ok (a := .int i) (b := .int 1) rfl rfl rfl)) rfl (drop_nI hil)) (aCons_ok (e2_ok (a := .int (s + 1 : Nat)) (b := .int 1) rfl rfl ?_) rfl)) ihc)) e2', ?_⟩
        · show R.ok (D.int (((s + 1 : Nat) : Int) - 1)) = _
          congr 2
          omega
        · rw [List.length_map, List.take_length] at hδ2
          refine ⟨.val (.int i), .val (nI x), c5, ?_⟩
          rw [hδ2, hFs, hxd])
    refine sSeq_ok (sFor_ok (ds := enumD (ps.map nI)) rfl e1) ?_
    have hlen : (enumD (ps.map nI)).length = ps.length := by simp [enumD]
    rw [hlen] at hδ1
    subst hδ1
    exact sRet_ok rfl
end K20

end
section
set_option maxRecDepth 100000
set_option maxHeartbeats 4000000
namespace K20
open PySem PySem.Spec PyProof.Rows L2 L3 MT
section
variable {c : Nat} {ins : List (Str × Nat)} {gs : List Gt} {os : List (Str × List Nat)} {S : Sto} {k : Nat} {turned : List Int} {safe : Bool}
abbrev fBench := Str.ofString "bench"
abbrev fPlain := Str.ofString "plain"
abbrev fUnsure := Str.ofString "unsure"
/-- the gates that are not sure -/
def uns (gs : List Gt) : List Nat := (List.range gs.length).filter fun i => match gs[i]? with | some g => !g.2.2 | none => false
def trialF (c : Nat) (ins : List (Str × Nat)) (gs : List Gt) (os : List (Str × List Nat)) (b : Nat) : List (Str × V3) := [(fBench, .loc b), (fPlain, .d (.lst (rdD (2 ^ c) os (Wd c ins gs [] [])))), (fUnsure, .d (.lst ((uns gs).map nI)))]
theorem td1 : (fPlain == fBench) = false := by decide +kernel
theorem td2 : (fUnsure == fBench) = false := by decide +kernel
theorem td3 : (fUnsure == fPlain) = false := by decide +kernel
theorem tf_bench {b : Nat} : (trialF c ins gs os b).lookup fBench = some (.loc b) := by unfold trialF; rw [List.lookup_cons, beq_self_eq_true]
theorem tf_plain {b : Nat} : (trialF c ins gs os b).lookup fPlain = some (.d (.lst (rdD (2 ^ c) os (Wd c ins gs [] [])))) := by unfold trialF; rw [List.lookup_cons, td1, List.lookup_cons, beq_self_eq_true]
theorem tf_uns {b : Nat} : (trialF c ins gs os b).lookup fUnsure = some (.d (.lst ((uns gs).map nI))) := by unfold trialF; rw [List.lookup_cons, td2, List.lookup_cons, td3, List.lookup_cons, beq_self_eq_true]
theorem tf_no {b : Nat} (m : Str) (h1 : (m == fBench) = false) (h2 : (m == fPlain) = false) (h3 : (m == fUnsure) = false) : (trialF c ins gs os b).lookup m = none := by unfold trialF; rw [List.lookup_cons, h1, List.lookup_cons, h2, List.lookup_cons, h3]; rfl
def TS (S : Sto) (c : Nat) (ins : List (Str × Nat)) (gs : List Gt) (os : List (Str × List Nat)) : Sto := S ++ [.ins 1 (trialF c ins gs os (S.length + 1)), .ins 0 (benchF c (netD ins gs os))]
theorem clo2 {S : Sto} (hS : Flat S) {x y : SO} (hx : soOk (S.length + 2) x = true) (hy : soOk (S.length + 2) y = true) : Clo (S ++ [x, y]) := fun o ho => by
  rw [show (S ++ [x, y]).length = S.length + 2 by simp]
  rcases List.mem_append.mp ho with q | q
  · exact hS o q _
  · simp only [List.mem_cons, List.not_mem_nil, or_false] at q
    rcases q with rfl | rfl
    · exact hx
    · exact hy
theorem uns_comp {δ : DEnv} (hg : gs.length < 1000) (h1 : eVar 1 δ = .ok (netD ins gs os)) : nComp (itEnum (e2 ixD (eVar 1) (eC (.int 1)))) (gTupD 2 (gConsD (gNameD 0) (gConsD (gNameD 1) gNilD))) (bNot (bTru (e2 ixD (eVar 1) (eC (.int 2))))) (eVar 0) [(Str.ofString "place"), (Str.ofString "gate")] [] δ = .ok ((uns gs).map nI) := by
  have hz : sizeLine = 16777216 := sizeLine_eq
  refine nComp_ok (ds := enumD (gs.map gtD)) (itE_ok (e2_ok (a := netD ins gs os) (b := .int 1) h1 rfl rfl)) (by simp [enumD]; omega) ?_
  have e : enumD (gs.map gtD) = (List.range gs.length).map fun i => .tup [.int i, gtD (gs.getD i (0, [], false))] := by
    refine List.ext_getElem? fun i => ?_
    rw [List.getElem?_map, enumD, List.getElem?_map, List.getElem?_zipIdx, List.getElem?_map]
    by_cases q : i < gs.length
    · rw [List.getElem?_eq_getElem q, List.getElem?_range q]
      show some (D.tup [.int ((0 + i : Nat) : Int), gtD gs[i]]) = some (D.tup [.int i, gtD (gs.getD i (0, [], false))])
      rw [Nat.zero_add, List.getD_eq_getElem?_getD, List.getElem?_eq_getElem q]; rfl
    · rw [List.getElem?_eq_none (by omega), List.getElem?_eq_none (by simp; omega)]; rfl
  rw [e]
  unfold uns
  refine NT.compL_some (fun i : Nat => match gs[i]? with | some g => !g.2.2 | none => false) (fun i : Nat => D.tup [.int i, gtD (gs.getD i (0, [], false))]) nI fun i hi => ?_
  rw [List.mem_range] at hi
  refine ⟨[.val (.int i), .val (gtD (gs.getD i (0, [], false)))], rfl, ?_, fun _ => rfl⟩
  rw [List.getElem?_eq_getElem hi, List.getD_eq_getElem?_getD, List.getElem?_eq_getElem hi]
  rfl
theorem trial_ok (NO : NetOk ins gs os) (hc : ins.length = c) (hc1 : c ≤ 10) (ho : ∀ x ∈ os, 1 ≤ x.2.length ∧ x.2.length ≤ 3) (hS : Flat S) {Q : V3 → Sto → Prop} (h : Q (.d .non) (TS S c ins gs os)) :
    W3 (dK_Trial___init__ [.loc S.length, .d (netD ins gs os)] (S ++ [.ins 1 []])) Q := by
  have hz : sizeLine = 16777216 := sizeLine_eq
  unfold dK_Trial___init__
  refine w_K0 rfl ?_
  simp only [xStart, N_Trial___init__, List.map_cons, List.map_nil, List.length_cons, List.length_nil, List.replicate, List.cons_append, List.nil_append, Nat.reduceAdd, Nat.reduceSub]
  unfold F_Trial___init__
  have l1 : (S ++ [SO.ins 1 []]).length = S.length + 1 := by simp
  have g0 : ∀ (x y : SO), (S ++ [x, y])[S.length]? = some x := fun x y => by rw [List.getElem?_append_right (Nat.le_refl _), Nat.sub_self]; rfl
  have g1 : ∀ (x y : SO), (S ++ [x, y])[S.length + 1]? = some y := fun x y => by rw [List.getElem?_append_right (by omega), show S.length + 1 - S.length = 1 by omega]; rfl
  have st : ∀ (x y z : SO), (S ++ [x, y]).set S.length z = S ++ [z, y] := fun x y z => by rw [List.set_append_right _ _ (Nat.le_refl _), Nat.sub_self]; rfl
  have ap : ∀ (x y : SO), S ++ [x] ++ [y] = S ++ [x, y] := fun x y => by simp
  refine w_seq <| w_fldSet (k := S.length) <| w_make <| w_cons <| w_P (d := netD ins gs os) rfl <| w_nil <| bench_K hc hc1 ?_ ⟨rfl, ?_⟩
  · rw [ap]; exact clo2 hS rfl rfl
  rw [ap]
  refine w_var (v := .loc S.length) rfl ⟨_, rfl, g0 _ _, by simp, _, rfl, ?_⟩
  rw [st, l1]
  have hcl : ∀ fs : List (Str × V3), locsOk (S.length + 2) (fs.map (·.2)) = true → Clo (S ++ [.ins 1 fs, .ins 0 (benchF c (netD ins gs os))]) := fun fs hf => clo2 hS hf rfl
  refine w_seq <| w_fldSet (k := S.length) <| w_meth (k := S.length + 1) <| w_fld (k := S.length) <| w_var (v := .loc S.length) rfl ⟨_, _, rfl, g0 _ _, (by show List.lookup fBench [(fBench, V3.loc (S.length + 1))] = _; rw [List.lookup_cons, beq_self_eq_true]), _, rfl, g1 _ _, no_f _ _ (by decide +kernel) (by decide +kernel) (by decide +kernel) (by decide +kernel), ?_⟩
  refine w_cons <| w_P (d := .tup (([] : List Int).map .int)) rfl <| w_nil <| readings_ok NO hc ho (hcl _ ?_) (g1 _ _) ?_
  · show (decide (S.length + 1 < S.length + 2) && true) = true
    rw [decide_eq_true (by omega)]; rfl
  refine w_var (v := .loc S.length) rfl ⟨_, rfl, g0 _ _, (by decide : 1 < 1000), _, rfl, ?_⟩
  rw [st]
  refine w_fldSet (k := S.length) <| w_P (d := .lst ((uns gs).map nI)) (eNew_ok (uns_comp NO.hg rfl)) <| w_var (v := .loc S.length) rfl ⟨_, rfl, g0 _ _, ?_, _, rfl, ?_⟩
  · exact (by decide : 2 < 1000)
  rw [st]
  exact h
/-! breaks -/
def lvS (safe : Bool) : Str := if safe then Str.ofString "safe" else Str.ofString "right"
def pt (ws : List M) (x : Str × List Nat) (p : Nat) : Bool × Bool := rd2 ((tell ws x).map (· p))
/-- where the outs break -/
def brF (safe : Bool) (c : Nat) (ins : List (Str × Nat)) (gs : List Gt) (os : List (Str × List Nat)) (turned : List Int) : M := fun p => os.any fun x => brk safe (pt (Wd c ins gs [] []) x p) (pt (Wd c ins gs turned []) x p)
theorem breaks_ok {b : Nat} (NO : NetOk ins gs os) (hc : ins.length = c) (ho : ∀ x ∈ os, 1 ≤ x.2.length ∧ x.2.length ≤ 3) (hS : Clo S) (hk : S[k]? = some (.ins 1 (trialF c ins gs os b))) (hb : S[b]? = some (.ins 0 (benchF c (netD ins gs os)))) {Q : V3 → Sto → Prop}
    (h : Q (.d (mI (2 ^ c) (brF safe c ins gs os turned))) S) : W3 (dP_Trial_breaks_at [.loc k, .d (.tup (turned.map .int)), .d (.str (lvS safe))] S) Q := by
  have hz : sizeLine = 16777216 := sizeLine_eq
  unfold dP_Trial_breaks_at
  refine w_PnA hS (w_K rfl ?_)
  simp only [xStart, N_Trial_breaks_at, List.map_cons, List.map_nil, List.length_cons, List.length_nil, List.replicate, List.cons_append, List.nil_append, Nat.reduceAdd, Nat.reduceSub]
  unfold F_Trial_breaks_at
  have h0 : D.int 0 = mI (2 ^ c) fun _ => false := by
    unfold mI
    rw [mkN_zero.mpr fun _ _ => rfl]; rfl
  refine w_seq <| w_set (by simp only [List.length_cons, List.length_nil, List.length_set]; omega) <| w_P (d := mI (2 ^ c) fun _ => false) (by rw [← h0]; rfl) ⟨_, rfl, ?_⟩
  simp only [List.set_cons_succ, List.set_cons_zero]
  refine w_seq <| w_for <| w_zip <| w_fld (k := k) <| w_var (v := .loc k) rfl ⟨_, _, rfl, hk, tf_plain, ?_⟩
  refine w_meth (k := b) <| w_fld (k := k) <| w_var (v := .loc k) rfl ⟨_, _, rfl, hk, tf_bench, _, rfl, hb, no_f _ _ (by decide +kernel) (by decide +kernel) (by decide +kernel) (by decide +kernel), ?_⟩
  refine w_cons <| w_P (d := .tup (turned.map .int)) rfl <| w_nil <| readings_ok NO hc ho hS hb ⟨_, _, _, _, rfl, rfl, rfl, rfl, ?_⟩
  have hzip : zipD (rdD (2 ^ c) os (Wd c ins gs [] [])) (rdD (2 ^ c) os (Wd c ins gs turned [])) = os.map fun x => .tup [.tup [mI (2 ^ c) (r0 (tell (Wd c ins gs [] []) x)), mI (2 ^ c) (r1 (tell (Wd c ins gs [] []) x))], .tup [mI (2 ^ c) (r0 (tell (Wd c ins gs turned []) x)), mI (2 ^ c) (r1 (tell (Wd c ins gs turned []) x))]] := by
    unfold zipD rdD
    rw [List.zip_map', List.map_map]; rfl
  rw [hzip]
  refine (loopX_inv (fun i δ S2 => S2 = S ∧ ∃ a4 a5, δ = [some (.loc k), some (.d (.tup (turned.map .int))), some (.d (.str (lvS safe))), some (.d (mI (2 ^ c) fun p => (os.take i).any fun x => brk safe (pt (Wd c ins gs [] []) x p) (pt (Wd c ins gs turned []) x p))), a4, a5])
    ⟨rfl, none, none, rfl⟩ ?_).mono fun o S2 ⟨δ2, e2', hS2, a4, a5, hδ⟩ => ⟨δ2, e2', ?_⟩
  · rintro i v δ S2 hv ⟨rfl, a4, a5, rfl⟩
    obtain ⟨x, hx, rfl⟩ := NT.map_at hv
    generalize hm : (fun p => (os.take i).any fun x => brk safe (pt (Wd c ins gs [] []) x p) (pt (Wd c ins gs turned []) x p)) = m
    have hnext : (fun p => (os.take (i + 1)).any fun x => brk safe (pt (Wd c ins gs [] []) x p) (pt (Wd c ins gs turned []) x p)) = fun p => m p || brk safe (pt (Wd c ins gs [] []) x p) (pt (Wd c ins gs turned []) x p) := by
      funext p
      rw [List.take_add_one, hx, List.any_append, ← hm]
      simp
    rw [hnext]
    refine ⟨[some (.loc k), some (.d (.tup (turned.map .int))), some (.d (.str (lvS safe))), some (.d (mI (2 ^ c) m)), some (.d (.tup [mI (2 ^ c) (r0 (tell (Wd c ins gs [] []) x)), mI (2 ^ c) (r1 (tell (Wd c ins gs [] []) x))])), some (.d (.tup [mI (2 ^ c) (r0 (tell (Wd c ins gs turned []) x)), mI (2 ^ c) (r1 (tell (Wd c ins gs turned []) x))]))], rfl, ?_⟩
    unfold B_Trial_breaks_at_0
    refine w_if <| w_bP (b := safe) (b2_ok (a := .str (lvS safe)) (b := .str (Str.ofString "safe")) rfl rfl ?_) ?_
    · show R.ok (D.bl (lvS safe == Str.ofString "safe")) = _
      congr 2
      cases safe <;> decide +kernel
    cases safe with
    | true =>
      rw [if_pos rfl]
      refine w_set (by simp only [List.length_cons, List.length_nil, List.length_set]; omega) <| w_P (e2_ok (e2_ok (a := mI (2 ^ c) m) rfl (e2_ok (e2_ok rfl rfl ix0) (e2_ok rfl rfl ix1) (m_and _ _ _)) (m_or _ _ _)) (e2_ok (e2_ok rfl rfl ix1) (e2_ok rfl rfl ix0) (m_and _ _ _)) (m_or _ _ _)) ⟨_, rfl, rfl, some (.d (.tup [mI (2 ^ c) (r0 (tell (Wd c ins gs [] []) x)), mI (2 ^ c) (r1 (tell (Wd c ins gs [] []) x))])), some (.d (.tup [mI (2 ^ c) (r0 (tell (Wd c ins gs turned []) x)), mI (2 ^ c) (r1 (tell (Wd c ins gs turned []) x))])), ?_⟩
      simp only [List.set_cons_succ, List.set_cons_zero]
      congr 6
      refine mI_congr fun p _ => ?_
      rw [Bool.or_assoc]; rfl
    | false =>
      rw [if_neg (by decide)]
      refine w_set (by simp only [List.length_cons, List.length_nil, List.length_set]; omega) <| w_P (e2_ok (e2_ok (a := mI (2 ^ c) m) rfl (e2_ok (e2_ok rfl rfl ix0) (e2_ok rfl rfl ix0) (m_xor _ _ _)) (m_or _ _ _)) (e2_ok (e2_ok rfl rfl ix1) (e2_ok rfl rfl ix1) (m_xor _ _ _)) (m_or _ _ _)) ⟨_, rfl, rfl, some (.d (.tup [mI (2 ^ c) (r0 (tell (Wd c ins gs [] []) x)), mI (2 ^ c) (r1 (tell (Wd c ins gs [] []) x))])), some (.d (.tup [mI (2 ^ c) (r0 (tell (Wd c ins gs turned []) x)), mI (2 ^ c) (r1 (tell (Wd c ins gs turned []) x))])), ?_⟩
      simp only [List.set_cons_succ, List.set_cons_zero]
      congr 6
      refine mI_congr fun p _ => ?_
      rw [Bool.or_assoc]; rfl
  rw [List.length_map, List.length_map, List.take_length] at hδ
  subst hδ hS2
  exact w_ret <| w_P (d := mI (2 ^ c) (brF safe c ins gs os turned)) rfl ⟨_, rfl, by unfold geOk; rfl, ⟨[], by simp⟩, _, by unfold res; rfl, h⟩
end
end K20

end
section
set_option maxRecDepth 100000
set_option maxHeartbeats 4000000
namespace K20
open PySem PySem.Spec PyProof.Rows L2 L3 MT
def nZ (ps : List Nat) : List Int := ps.map fun (n : Nat) => (n : Int)
theorem nZ_D (ps : List Nat) : (nZ ps).map D.int = ps.map nI := by unfold nZ; rw [List.map_map]; rfl
theorem nZ_has (ps : List Nat) (i : Nat) : (nZ ps).contains (i : Int) = ps.contains i := by
  rw [Bool.eq_iff_iff]
  unfold nZ
  simp only [List.contains_iff_mem, List.mem_map]
  exact ⟨fun ⟨a, ha, e⟩ => (by rw [← Int.ofNat_inj.mp e]; exact ha), fun h => ⟨i, h, rfl⟩⟩
section
variable {c : Nat} {ins : List (Str × Nat)} {gs : List Gt} {os : List (Str × List Nat)} {S : Sto} {k : Nat} {safe : Bool}
def brkD (T : List Nat) (p : Nat) : D := .tup [.str (Str.ofString "breaks"), tupN T, nI p]
def bearD : D := .tup [.str (Str.ofString "bears")]
/-- T tried -/
def tryT (safe : Bool) (c : Nat) (ins : List (Str × Nat)) (gs : List Gt) (os : List (Str × List Nat)) (T : List Nat) : Option D :=
  ((List.range (2 ^ c)).filter (brF safe c ins gs os (nZ T))).head?.map (brkD T)
def bears (safe : Bool) (c : Nat) (ins : List (Str × Nat)) (gs : List Gt) (os : List (Str × List Nat)) (m : Nat) : D :=
  ((List.range (m + 1)).findSome? fun s => (chs (uns gs) s).findSome? (tryT safe c ins gs os)).getD bearD
theorem uns_len : (uns gs).length ≤ gs.length := by
  unfold uns
  exact Nat.le_trans (List.length_filter_le _ _) (by rw [List.length_range]; exact Nat.le_refl _)
theorem head_none {f : M} {N : Nat} : mkN N f = 0 ↔ ((List.range N).filter f).head? = none := by
  rw [mkN_zero, List.head?_eq_none_iff, List.filter_eq_nil_iff]
  exact ⟨fun h i hi => by rw [h i (List.mem_range.mp hi)]; decide, fun h i hi => by have := h i (List.mem_range.mpr hi); cases hf : f i with | false => rfl | true => exact absurd hf this⟩
theorem try_step {net sz a6 : Option V3} {m : V3} {T : List Nat} (NO : NetOk ins gs os) (hc : ins.length = c) (hc1 : c ≤ 10) (ho : ∀ x ∈ os, 1 ≤ x.2.length ∧ x.2.length ≤ 3) (hS : Flat S) :
    W3 (B_bears_0 [net, some m, some (.d (.str (lvS safe))), some (.loc S.length), sz, some (.d (tupN T)), a6] (TS S c ins gs os)) fun o S1 => S1 = TS S c ins gs os ∧ (match (tryT safe c ins gs os T).map V3.d with | some v => o = .rt v | none => ∃ δ2, o = .nx δ2 ∧ ∃ b6, δ2 = [net, some m, some (.d (.str (lvS safe))), some (.loc S.length), sz, some (.d (tupN T)), b6]) := by
  have hz : sizeLine = 16777216 := sizeLine_eq
  have hk : (TS S c ins gs os)[S.length]? = some (.ins 1 (trialF c ins gs os (S.length + 1))) := by unfold TS; rw [List.getElem?_append_right (Nat.le_refl _), Nat.sub_self]; rfl
  have hb : (TS S c ins gs os)[S.length + 1]? = some (.ins 0 (benchF c (netD ins gs os))) := by unfold TS; rw [List.getElem?_append_right (by omega), show S.length + 1 - S.length = 1 by omega]; rfl
  have hcl : Clo (TS S c ins gs os) := clo2 hS (by
    show (decide (S.length + 1 < S.length + 2) && true) = true
    rw [decide_eq_true (by omega)]; rfl) rfl
  unfold B_bears_0
  refine w_seq <| w_set (by simp only [List.length_cons, List.length_nil, List.length_set]; omega) <| w_meth (k := S.length) <| w_var (v := .loc S.length) rfl ⟨_, rfl, hk, tf_no _ (by decide +kernel) (by decide +kernel) (by decide +kernel), ?_⟩
  refine w_cons <| w_P (d := .tup ((nZ T).map .int)) (by rw [nZ_D]; rfl) <| w_cons <| w_P (d := .str (lvS safe)) rfl <| w_nil <| breaks_ok NO hc ho hcl hk hb ⟨_, rfl, ?_⟩
  simp only [List.set_cons_succ, List.set_cons_zero]
  generalize hf : brF safe c ins gs os (nZ T) = f
  have htry : tryT safe c ins gs os T = ((List.range (2 ^ c)).filter f).head?.map (brkD T) := by unfold tryT; rw [hf]
  refine w_if <| w_bP (b := !(decide (mkN (2 ^ c) f = 0))) (b2_ok (a := mI (2 ^ c) f) (b := .int 0) rfl rfl ?_) ?_
  · show R.ok (D.bl (!((mkN (2 ^ c) f : Int) == 0))) = _
    congr 3
    by_cases q : mkN (2 ^ c) f = 0
    · rw [q]; rfl
    · rw [decide_eq_false q]; exact beq_eq_false_iff_ne.mpr (by omega)
  cases hh : ((List.range (2 ^ c)).filter f).head? with
  | none =>
    rw [htry, hh, decide_eq_true (head_none.mpr hh), if_neg (by decide)]
    exact w_znil ⟨rfl, _, rfl, _, rfl⟩
  | some p =>
    have hne : ¬ mkN (2 ^ c) f = 0 := fun q => by rw [head_none.mp q] at hh; cases hh
    rw [htry, hh, decide_eq_false hne, if_pos (by decide)]
    refine w_ret <| w_tup <| w_cons <| w_P (d := .str (Str.ofString "breaks")) rfl <| w_cons <| w_P (d := tupN T) rfl <| w_cons <| w_ix <| w_meth (k := S.length + 1) <| w_fld (k := S.length) <| w_var (v := .loc S.length) rfl ⟨_, _, rfl, hk, tf_bench, _, rfl, hb, no_f _ _ (by decide +kernel) (by decide +kernel) (by decide +kernel) (by decide +kernel), ?_⟩
    refine w_cons <| w_P (d := mI (2 ^ c) f) rfl <| w_nil <| inputs_in_ok hc1 hcl hb <| w_P (d := .int 0) rfl ⟨_, _, nI p, rfl, rfl, ?_, w_nil ⟨by simp; omega, rfl, rfl⟩⟩
    refine ixL_of ?_
    obtain ⟨r, hr⟩ : ∃ r, (List.range (2 ^ c)).filter f = p :: r := by
      cases q : (List.range (2 ^ c)).filter f with
      | nil => rw [q] at hh; cases hh
      | cons a r => rw [q] at hh; cases hh; exact ⟨r, rfl⟩
    rw [hr, atI_of (by omega) (by simp)]
    rfl
theorem bears_ok {m : Nat} (NO : NetOk ins gs os) (hc : ins.length = c) (hc1 : c ≤ 10) (ho : ∀ x ∈ os, 1 ≤ x.2.length ∧ x.2.length ≤ 3) (hg : gs.length ≤ 100) (hm : m ≤ 3) (hS : Flat S) {Q : V3 → Sto → Prop} (h : Q (.d (bears safe c ins gs os m)) S) :
    W3 (dP_bears [.d (netD ins gs os), .d (nI m), .d (.str (lvS safe))] S) Q := by
  have hz : sizeLine = 16777216 := sizeLine_eq
  have hk : (TS S c ins gs os)[S.length]? = some (.ins 1 (trialF c ins gs os (S.length + 1))) := by unfold TS; rw [List.getElem?_append_right (Nat.le_refl _), Nat.sub_self]; rfl
  unfold dP_bears
  refine w_PnA hS.clo (w_K rfl ?_)
  simp only [xStart, N_bears, List.map_cons, List.map_nil, List.length_cons, List.length_nil, List.replicate, List.cons_append, List.nil_append, Nat.reduceAdd, Nat.reduceSub]
  unfold F_bears
  refine w_seq <| w_set (by simp only [List.length_cons, List.length_nil, List.length_set]; omega) <| w_make <| w_cons <| w_P (d := netD ins gs os) rfl <| w_nil <| trial_ok NO hc hc1 ho hS ⟨rfl, _, rfl, ?_⟩
  simp only [List.set_cons_succ, List.set_cons_zero]
  refine w_seqO <| w_for <| w_iP (ds := (List.range (m + 1)).map nI) ?_ ?_
  · rw [← rng_nI]
    exact rng1_ok (n := m + 1) (e2_ok (a := nI m) (b := .int 1) rfl rfl rfl) (by omega)
  rw [List.map_map]
  refine (loopX_some (S := TS S c ins gs os) (V3.d ∘ nI) (fun s => ((chs (uns gs) s).findSome? (tryT safe c ins gs os)).map V3.d) (fun δ => ∃ a4 a5 a6, δ = [some (.d (netD ins gs os)), some (.d (nI m)), some (.d (.str (lvS safe))), some (.loc S.length), a4, a5, a6])
    ⟨_, _, _, rfl⟩ ?_).mono fun o S1 ⟨e1, h1⟩ => ?_
  · rintro s hs δ ⟨a4, a5, a6, rfl⟩
    rw [List.mem_range] at hs
    have hul : (uns gs).length ≤ 100 := Nat.le_trans uns_len hg
    have hcs : d_choices 4 [.lst ((uns gs).map nI), .int s] = .ok (.lst ((chs (uns gs) s).map tupN)) := choices_ok 3 s (uns gs) (by omega) (by omega) hul
    refine ⟨[some (.d (netD ins gs os)), some (.d (nI m)), some (.d (.str (lvS safe))), some (.loc S.length), some (.d (nI s)), a5, a6], rfl, ?_⟩
    unfold B_bears_1
    refine w_for <| w_iSeqD <| w_callB <| w_cons <| w_fld (k := S.length) <| w_var (v := .loc S.length) rfl ⟨_, _, rfl, hk, tf_uns, w_cons <| w_P (d := .int s) rfl <| w_nil ⟨[.lst ((uns gs).map nI), .int s], _, rfl, hcs, _, rfl, ?_⟩⟩
    rw [List.map_map]
    refine (loopX_some (S := TS S c ins gs os) (V3.d ∘ tupN) (fun T => (tryT safe c ins gs os T).map V3.d) (fun δ => ∃ a5 a6, δ = [some (.d (netD ins gs os)), some (.d (nI m)), some (.d (.str (lvS safe))), some (.loc S.length), some (.d (nI s)), a5, a6])
      ⟨_, _, rfl⟩ ?_).mono fun o S1 ⟨e1, h1⟩ => ⟨e1, ?_⟩
    · rintro T hT δ ⟨a5, a6, rfl⟩
      refine ⟨[some (.d (netD ins gs os)), some (.d (nI m)), some (.d (.str (lvS safe))), some (.loc S.length), some (.d (nI s)), some (.d (tupN T)), a6], rfl, ?_⟩
      refine (try_step NO hc hc1 ho hS).mono fun o S1 ⟨e1, h1⟩ => ⟨e1, ?_⟩
      cases htt : tryT safe c ins gs os T with
      | none => rw [htt] at h1; obtain ⟨δ2, e2', b6, e3⟩ := h1; exact ⟨δ2, e2', _, b6, e3⟩
      | some d => rw [htt] at h1; exact h1
    · have hfs : (chs (uns gs) s).findSome? (fun T => (tryT safe c ins gs os T).map V3.d) = ((chs (uns gs) s).findSome? (tryT safe c ins gs os)).map V3.d := by
        rw [List.map_findSome?]; rfl
      rw [hfs] at h1
      cases htt : (chs (uns gs) s).findSome? (tryT safe c ins gs os) with
      | none => rw [htt] at h1; obtain ⟨δ2, e2', b5, b6, e3⟩ := h1; exact ⟨δ2, e2', _, b5, b6, e3⟩
      | some d => rw [htt] at h1; exact h1
  · subst e1
    have hfs : (List.range (m + 1)).findSome? (fun s => ((chs (uns gs) s).findSome? (tryT safe c ins gs os)).map V3.d) = ((List.range (m + 1)).findSome? fun s => (chs (uns gs) s).findSome? (tryT safe c ins gs os)).map V3.d := by
      rw [List.map_findSome?]; rfl
    rw [hfs] at h1
    unfold bears at h
    cases htt : (List.range (m + 1)).findSome? fun s => (chs (uns gs) s).findSome? (tryT safe c ins gs os) with
    | none =>
      rw [htt] at h1 h
      obtain ⟨δ2, rfl, b4, b5, b6, rfl⟩ := h1
      exact w_ret <| w_P (d := bearD) rfl ⟨_, rfl, by unfold geOk; rfl, ⟨_, rfl⟩, _, by unfold res; rfl, h⟩
    | some d =>
      rw [htt] at h1 h
      subst h1
      exact ⟨_, rfl, by unfold geOk; rfl, ⟨_, rfl⟩, _, by unfold res; rfl, h⟩
end
end K20

end
section
set_option maxRecDepth 100000
set_option maxHeartbeats 4000000
namespace K20
open PySem PySem.Spec PyProof.Rows L2 L3 MT
/-! chains of nots -/
def chG (ss : List Bool) : List Gt := ss.zipIdx.map fun x => (0, [x.2], x.1)
theorem chG_at (ss : List Bool) (i : Nat) : (chG ss)[i]? = ss[i]?.map fun b => (0, [i], b) := by
  unfold chG
  rw [List.getElem?_map, List.getElem?_zipIdx]
  cases ss[i]? <;> simp
theorem chG_len (ss : List Bool) : (chG ss).length = ss.length := by unfold chG; simp
theorem chG_app (ss : List Bool) (b : Bool) : chG (ss ++ [b]) = chG ss ++ [(0, [ss.length], b)] := by
  unfold chG
  rw [List.zipIdx_append, List.map_append]
  simp
theorem gUp_pre {gs : List Gt} {t : List Int} {w0 : List M} {n : Nat} : ∀ {j i : Nat}, i ≤ j → j ≤ gs.length → n < w0.length + i → rdF (gUp gs t w0 j) n = rdF (gUp gs t w0 i) n
  | 0, i, h, _, _ => by rw [show i = 0 by omega]
  | j + 1, i, h, hj, hn => by
    by_cases q : i = j + 1
    · rw [q]
    · rw [← gUp_pre (j := j) (i := i) (by omega) (by omega) hn]
      conv => lhs; unfold gUp
      rw [List.getElem?_eq_getElem (by omega : j < gs.length)]
      show rdF (gUp gs t w0 j ++ [_]) n = _
      rw [rdF_app (by rw [gUp_len j (by omega)]; omega)]
section
variable {many : Nat} {ss : List Bool} {x0 : M} {w0 : List M}
/-- the wires of a chained net -/
def V (w0 : List M) (ss : List Bool) (T : List Nat) (p n : Nat) : Bool := rdF (gUp (chG ss) (nZ T) w0 (chG ss).length) n p
theorem V_in {T : List Nat} {p n : Nat} (h0 : w0.length = many) (hw : ∀ n, n < many → rdF w0 n = x0) (hn : n < many) : V w0 ss T p n = x0 p := by
  unfold V
  rw [gUp_pre (i := 0) (by omega) (Nat.le_refl _) (by omega)]
  show rdF w0 n p = _
  rw [hw n hn]
theorem V_gate {T : List Nat} {p i : Nat} (h0 : w0.length = many) (hm : 1 ≤ many) (hi : i < ss.length) : V w0 ss T p (many + i) = ((!V w0 ss T p i) != T.contains i) := by
  unfold V
  rw [gUp_pre (i := i + 1) (by rw [chG_len]; omega) (Nat.le_refl _) (by omega), gUp_pre (n := i) (i := i) (by rw [chG_len]; omega) (Nat.le_refl _) (by omega)]
  conv => lhs; unfold gUp
  rw [chG_at, List.getElem?_eq_getElem hi]
  show rdF (gUp (chG ss) (nZ T) w0 i ++ [fun p => gF (0, [i], ss[i]) (gUp (chG ss) (nZ T) w0 i) p != (nZ T).contains (i : Int)]) (many + i) p = _
  have hl := gUp_len (gs := chG ss) (turned := nZ T) (w0 := w0) i (by rw [chG_len]; omega)
  rw [show many + i = (gUp (chG ss) (nZ T) w0 i).length by omega, rdF_last, nZ_has]
  rfl
/-- what no turned gate is ahead of stays -/
theorem V_stay (h0 : w0.length = many) (hm : 1 ≤ many) (hw : ∀ n, n < many → rdF w0 n = x0) {T : List Nat} {p : Nat} : ∀ n, n < many + ss.length → (∀ i ∈ T, i % many = n % many → ¬ i + many ≤ n) → V w0 ss T p n = V w0 ss [] p n := fun n => by
  induction n using Nat.strongRecOn with
  | ind n ih =>
    intro hn hT
    by_cases q : n < many
    · rw [V_in h0 hw q, V_in h0 hw q]
    · obtain ⟨i, rfl⟩ : ∃ i, n = many + i := ⟨n - many, by omega⟩
      rw [V_gate h0 hm (by omega), V_gate h0 hm (by omega)]
      have hmod : (many + i) % many = i % many := Nat.add_mod_left many i
      rw [ih i (by omega) (by omega) fun j hj hjm => by have := hT j hj (by rw [hmod]; exact hjm); omega]
      have hc : T.contains i = false := by
        cases hc : T.contains i with
        | false => rfl
        | true => exact absurd (by omega) (hT i (by simpa using hc) hmod.symm)
      rw [hc]
      rfl
/-- one turned gate ahead: turned -/
theorem V_one (h0 : w0.length = many) (hm : 1 ≤ many) (hw : ∀ n, n < many → rdF w0 n = x0) {T : List Nat} {p i0 : Nat} (h1 : i0 ∈ T) : ∀ n, n < many + ss.length → i0 % many = n % many → i0 + many ≤ n → (∀ i ∈ T, i % many = n % many → i = i0) → V w0 ss T p n = !V w0 ss [] p n := fun n => by
  induction n using Nat.strongRecOn with
  | ind n ih =>
    intro hn hmn hle hT
    obtain ⟨i, rfl⟩ : ∃ i, n = many + i := ⟨n - many, by omega⟩
    rw [V_gate h0 hm (by omega), V_gate h0 hm (by omega)]
    have hmod : (many + i) % many = i % many := Nat.add_mod_left many i
    rw [hmod] at hmn hT
    by_cases q : i = i0
    · subst q
      rw [V_stay h0 hm hw i (by omega) fun j hj hjm => by have := hT j hj hjm; omega]
      have hc : T.contains i = true := by simpa using h1
      rw [hc]
      cases V w0 ss [] p i <;> rfl
    · have hge : i0 + many ≤ i := by
        have e1 := Nat.div_add_mod i0 many
        have e2 := Nat.div_add_mod i many
        have hlt : i0 / many + 1 ≤ i / many := by
          rcases Nat.lt_or_ge (i0 / many) (i / many) with z | z
          · exact z
          · have := Nat.mul_le_mul_left many z; omega
        have := Nat.mul_le_mul_left many hlt
        rw [Nat.mul_add, Nat.mul_one] at this
        omega
      rw [ih i (by omega) (by omega) hmn hge hT]
      have hc : T.contains i = false := by
        cases hc : T.contains i with
        | false => rfl
        | true => exact absurd (hT i (by simpa using hc) rfl) q
      rw [hc]
      cases V w0 ss [] p i <;> rfl
theorem V_row (h0 : w0.length = many) (hm : 1 ≤ many) (hw : ∀ n, n < many → rdF w0 n = x0) {p : Nat} : ∀ n n', n < many + ss.length → n' < many + ss.length → n / many = n' / many → V w0 ss [] p n = V w0 ss [] p n' := fun n => by
  induction n using Nat.strongRecOn with
  | ind n ih =>
    intro n' hn hn' e
    by_cases q : n < many
    · have q' : n' < many := by
        rw [Nat.div_eq_of_lt q] at e
        exact (Nat.div_eq_zero_iff_lt (by omega)).mp e.symm
      rw [V_in h0 hw q, V_in h0 hw q']
    · have q' : ¬ n' < many := fun z => by
        rw [Nat.div_eq_of_lt z] at e
        exact q ((Nat.div_eq_zero_iff_lt (by omega)).mp e)
      obtain ⟨i, rfl⟩ : ∃ i, n = many + i := ⟨n - many, by omega⟩
      obtain ⟨i', rfl⟩ : ∃ i, n' = many + i := ⟨n' - many, by omega⟩
      rw [V_gate h0 hm (by omega), V_gate h0 hm (by omega)]
      rw [Nat.add_div_left _ (by omega), Nat.add_div_left _ (by omega)] at e
      rw [ih i (by omega) i' (by omega) (by omega) (by omega)]
      rfl
end
end K20

end
section
set_option maxRecDepth 100000
set_option maxHeartbeats 4000000
namespace K20
open PySem PySem.Spec PyProof.Rows L2 L3 MT
abbrev wayS : Str := Str.ofString "way"
abbrev endS : Str := Str.ofString "end"
def cIns (many : Nat) : List (Str × Nat) := [(wayS, many)]
def cOs (many L : Nat) : List (Str × List Nat) := [(endS, (List.range many).map (L + ·))]
section
variable {many deep : Nat} {ss : List Bool} {safe : Bool}
def W0 (many : Nat) : List M := inUp (cIns many) (inMs 1) [] 1
theorem W0_eq (many : Nat) : W0 many = inRow [] (inM 1 0) many [] := rfl
theorem inRow_rd (b : M) : ∀ m n, n < m → rdF (inRow [] b m []) n = b
  | 0, n, h => by omega
  | m + 1, n, h => by
    have hl := inRow_len [] b m []
    unfold inRow
    by_cases q : n < m
    · rw [rdF_app (by rw [hl]; simp; omega)]; exact inRow_rd b m n q
    · have : n = (inRow [] b m []).length := by rw [hl]; simp; omega
      rw [this, rdF_last]
      funext p
      simp
theorem W0_len (many : Nat) : (W0 many).length = many := by rw [W0_eq, inRow_len]; simp
theorem W0_rd {n : Nat} (h : n < many) : rdF (W0 many) n = inM 1 0 := by rw [W0_eq]; exact inRow_rd _ _ _ h
theorem Wd_V {T : List Nat} {p n : Nat} : rdF (Wd 1 (cIns many) (chG ss) (nZ T) []) n p = V (W0 many) ss T p n := rfl
/-- the ends -/
def En (many L : Nat) (ss : List Bool) (T : List Nat) (p j : Nat) : Bool := V (W0 many) ss T p (L + j)
theorem pt_ends {T : List Nat} {p L : Nat} {x : Str × List Nat} (hx : x ∈ cOs many L) : pt (Wd 1 (cIns many) (chG ss) (nZ T) []) x p = rd2 ((List.range many).map (En many L ss T p)) := by
  unfold cOs at hx
  rw [List.mem_singleton] at hx
  subst hx
  unfold pt tell
  rw [List.map_map, List.map_map]
  rfl
theorem brF_ends {T : List Nat} {p L : Nat} : brF safe 1 (cIns many) (chG ss) (cOs many L) (nZ T) p = brk safe (rd2 ((List.range many).map (En many L ss [] p))) (rd2 ((List.range many).map (En many L ss T p))) := by
  unfold brF
  have h1 : ∀ x ∈ cOs many L, brk safe (pt (Wd 1 (cIns many) (chG ss) [] []) x p) (pt (Wd 1 (cIns many) (chG ss) (nZ T) []) x p) = brk safe (rd2 ((List.range many).map (En many L ss [] p))) (rd2 ((List.range many).map (En many L ss T p))) := fun x hx => by
    rw [pt_ends hx]
    have := pt_ends (many := many) (ss := ss) (T := []) (p := p) hx
    rw [show nZ [] = [] from rfl] at this
    rw [this]
  unfold cOs at h1 ⊢
  rw [List.any_cons, List.any_nil, Bool.or_false]
  exact h1 _ List.mem_cons_self
structure Ch (many deep L : Nat) (ss : List Bool) : Prop where
  m1 : 1 ≤ many
  d1 : 1 ≤ deep
  l : L = many * deep
  s : ss.length = L
theorem Ch.end_mod {L j : Nat} (h : Ch many deep L ss) (hj : j < many) : (L + j) % many = j := by rw [h.l, Nat.mul_add_mod, Nat.mod_eq_of_lt hj]
theorem Ch.end_lt {L j : Nat} (h : Ch many deep L ss) (hj : j < many) : L + j < many + ss.length := by have := h.s; omega
theorem Ch.ahead {L i : Nat} (h : Ch many deep L ss) (hi : i < L) : i + many ≤ L + i % many := by
  have e1 := Nat.div_add_mod i many
  have hm := h.m1
  have hlt : i / many + 1 ≤ deep := by
    rcases Nat.lt_or_ge (i / many) deep with z | z
    · exact z
    · have := Nat.mul_le_mul_left many z; rw [← h.l] at this; omega
  have := Nat.mul_le_mul_left many hlt
  rw [Nat.mul_add, Nat.mul_one, ← h.l] at this
  omega
theorem Ch.plain {L j p : Nat} (h : Ch many deep L ss) (hj : j < many) : En many L ss [] p j = En many L ss [] p 0 := by
  have hm := h.m1
  refine V_row (W0_len many) hm (fun n hn => W0_rd hn) _ _ (h.end_lt hj) (h.end_lt (by omega)) ?_
  rw [h.l, Nat.mul_add_div (by omega), Nat.mul_add_div (by omega), Nat.div_eq_of_lt hj, Nat.div_eq_of_lt (by omega)]
theorem Ch.stay {L j p : Nat} {T : List Nat} (h : Ch many deep L ss) (hj : j < many) (hT : ∀ i ∈ T, i % many ≠ j) : En many L ss T p j = En many L ss [] p 0 := by
  rw [← h.plain hj]
  exact V_stay (W0_len many) h.m1 (fun n hn => W0_rd hn) _ (h.end_lt hj) fun i hi e => by rw [h.end_mod hj] at e; exact absurd e (hT i hi)
theorem Ch.one {L j p i0 : Nat} {T : List Nat} (h : Ch many deep L ss) (hj : j < many) (h1 : i0 ∈ T) (hi : i0 < L) (hm : i0 % many = j) (hT : ∀ i ∈ T, i % many = j → i = i0) : En many L ss T p j = !En many L ss [] p 0 := by
  rw [← h.plain hj]
  have := h.ahead hi
  exact V_one (W0_len many) h.m1 (fun n hn => W0_rd hn) h1 _ (h.end_lt hj) (by rw [h.end_mod hj]; exact hm) (by omega) (by rw [h.end_mod hj]; exact hT)
/-- what breaks -/
theorem br_nil {L p : Nat} (h : Ch many deep L ss) (hm : many ≤ 3) : brF safe 1 (cIns many) (chG ss) (cOs many L) (nZ []) p = false := by
  rw [brF_ends]
  have h1 := h.m1
  obtain rfl | rfl | rfl : many = 1 ∨ many = 2 ∨ many = 3 := by omega
  · show brk safe (rd2 [En 1 L ss [] p 0]) (rd2 [En 1 L ss [] p 0]) = false
    cases En 1 L ss [] p 0 <;> cases safe <;> rfl
  · show brk safe (rd2 [En 2 L ss [] p 0, En 2 L ss [] p 1]) (rd2 [En 2 L ss [] p 0, En 2 L ss [] p 1]) = false
    cases En 2 L ss [] p 0 <;> cases En 2 L ss [] p 1 <;> cases safe <;> rfl
  · show brk safe (rd2 [En 3 L ss [] p 0, En 3 L ss [] p 1, En 3 L ss [] p 2]) (rd2 [En 3 L ss [] p 0, En 3 L ss [] p 1, En 3 L ss [] p 2]) = false
    cases En 3 L ss [] p 0 <;> cases En 3 L ss [] p 1 <;> cases En 3 L ss [] p 2 <;> cases safe <;> rfl
/-- many copies that bear one -/
def Bears1 (many : Nat) (safe : Bool) : Prop := many = 3 ∨ (many = 2 ∧ safe = true)
theorem br_same {L p j0 : Nat} {T : List Nat} (h : Ch many deep L ss) (hb : Bears1 many safe) (hT : ∀ i ∈ T, i % many = j0) : brF safe 1 (cIns many) (chG ss) (cOs many L) (nZ T) p = false := by
  rw [brF_ends]
  rcases hb with rfl | ⟨rfl, rfl⟩
  · show brk safe (rd2 [En 3 L ss [] p 0, En 3 L ss [] p 1, En 3 L ss [] p 2]) (rd2 [En 3 L ss T p 0, En 3 L ss T p 1, En 3 L ss T p 2]) = false
    rw [h.plain (j := 1) (by omega), h.plain (j := 2) (by omega)]
    have st : ∀ j, j < 3 → j ≠ j0 → En 3 L ss T p j = En 3 L ss [] p 0 := fun j hj hne => h.stay hj fun i hi e => hne (e.symm.trans (hT i hi))
    by_cases q0 : j0 = 0
    · rw [st 1 (by omega) (by omega), st 2 (by omega) (by omega)]
      cases En 3 L ss [] p 0 <;> cases En 3 L ss T p 0 <;> cases safe <;> rfl
    · by_cases q1 : j0 = 1
      · rw [st 0 (by omega) (by omega), st 2 (by omega) (by omega)]
        cases En 3 L ss [] p 0 <;> cases En 3 L ss T p 1 <;> cases safe <;> rfl
      · rw [st 0 (by omega) (by omega), st 1 (by omega) (by omega)]
        cases En 3 L ss [] p 0 <;> cases En 3 L ss T p 2 <;> cases safe <;> rfl
  · show brk true (rd2 [En 2 L ss [] p 0, En 2 L ss [] p 1]) (rd2 [En 2 L ss T p 0, En 2 L ss T p 1]) = false
    rw [h.plain (j := 1) (by omega)]
    have st : ∀ j, j < 2 → j ≠ j0 → En 2 L ss T p j = En 2 L ss [] p 0 := fun j hj hne => h.stay hj fun i hi e => hne (e.symm.trans (hT i hi))
    by_cases q0 : j0 = 0
    · rw [st 1 (by omega) (by omega)]
      cases En 2 L ss [] p 0 <;> cases En 2 L ss T p 0 <;> rfl
    · rw [st 0 (by omega) (by omega)]
      cases En 2 L ss [] p 0 <;> cases En 2 L ss T p 1 <;> rfl
theorem br_single {L p i : Nat} (h : Ch many deep L ss) (hb : many = 1 ∨ (many = 2 ∧ safe = false)) (hi : i < L) : brF safe 1 (cIns many) (chG ss) (cOs many L) (nZ [i]) p = true := by
  rw [brF_ends]
  rcases hb with rfl | ⟨rfl, rfl⟩
  · show brk safe (rd2 [En 1 L ss [] p 0]) (rd2 [En 1 L ss [i] p 0]) = true
    rw [h.one (T := [i]) (j := 0) (i0 := i) (by omega) (by simp) hi (by omega) (by simp)]
    cases En 1 L ss [] p 0 <;> cases safe <;> rfl
  · show brk false (rd2 [En 2 L ss [] p 0, En 2 L ss [] p 1]) (rd2 [En 2 L ss [i] p 0, En 2 L ss [i] p 1]) = true
    rw [h.plain (j := 1) (by omega)]
    by_cases q : i % 2 = 0
    · rw [h.one (T := [i]) (j := 0) (i0 := i) (by omega) (by simp) hi q (by simp), h.stay (T := [i]) (j := 1) (by omega) (fun z hz => by rw [List.mem_singleton] at hz; omega)]
      cases En 2 L ss [] p 0 <;> rfl
    · rw [h.one (T := [i]) (j := 1) (i0 := i) (by omega) (by simp) hi (by omega) (by simp), h.stay (T := [i]) (j := 0) (by omega) (fun z hz => by rw [List.mem_singleton] at hz; omega)]
      cases En 2 L ss [] p 0 <;> rfl
theorem br_pair {L p i j : Nat} (h : Ch many deep L ss) (hb : Bears1 many safe) (hi : i < L) (hj : j < L) (hne : i % many ≠ j % many) : brF safe 1 (cIns many) (chG ss) (cOs many L) (nZ [i, j]) p = true := by
  rw [brF_ends]
  have fi : ∀ a, i % many = a → En many L ss [i, j] p a = !En many L ss [] p 0 := fun a e => h.one (i0 := i) (by have := Nat.mod_lt i (show many > 0 from h.m1); omega) (by simp) hi e fun z hz ez => by
    simp only [List.mem_cons, List.not_mem_nil, or_false] at hz
    rcases hz with rfl | rfl
    · rfl
    · exact absurd (e.trans ez.symm) hne
  have fj : ∀ a, j % many = a → En many L ss [i, j] p a = !En many L ss [] p 0 := fun a e => h.one (i0 := j) (by have := Nat.mod_lt j (show many > 0 from h.m1); omega) (by simp) hj e fun z hz ez => by
    simp only [List.mem_cons, List.not_mem_nil, or_false] at hz
    rcases hz with rfl | rfl
    · exact absurd (ez.trans e.symm) hne
    · rfl
  rcases hb with rfl | ⟨rfl, rfl⟩
  · show brk safe (rd2 [En 3 L ss [] p 0, En 3 L ss [] p 1, En 3 L ss [] p 2]) (rd2 [En 3 L ss [i, j] p 0, En 3 L ss [i, j] p 1, En 3 L ss [i, j] p 2]) = true
    rw [h.plain (j := 1) (by omega), h.plain (j := 2) (by omega)]
    have hi3 := Nat.mod_lt i (by omega : 3 > 0)
    have hj3 := Nat.mod_lt j (by omega : 3 > 0)
    have cs : ∀ x y z a : Bool, (x = !a ∧ y = !a) ∨ (x = !a ∧ z = !a) ∨ (y = !a ∧ z = !a) → brk safe (rd2 [a, a, a]) (rd2 [x, y, z]) = true := by cases safe <;> decide
    refine cs _ _ _ _ ?_
    obtain q | q | q : i % 3 = 0 ∨ i % 3 = 1 ∨ i % 3 = 2 := by omega
    · obtain r | r : j % 3 = 1 ∨ j % 3 = 2 := by omega
      · exact .inl ⟨fi 0 q, fj 1 r⟩
      · exact .inr (.inl ⟨fi 0 q, fj 2 r⟩)
    · obtain r | r : j % 3 = 0 ∨ j % 3 = 2 := by omega
      · exact .inl ⟨fj 0 r, fi 1 q⟩
      · exact .inr (.inr ⟨fi 1 q, fj 2 r⟩)
    · obtain r | r : j % 3 = 0 ∨ j % 3 = 1 := by omega
      · exact .inr (.inl ⟨fj 0 r, fi 2 q⟩)
      · exact .inr (.inr ⟨fj 1 r, fi 2 q⟩)
  · show brk true (rd2 [En 2 L ss [] p 0, En 2 L ss [] p 1]) (rd2 [En 2 L ss [i, j] p 0, En 2 L ss [i, j] p 1]) = true
    rw [h.plain (j := 1) (by omega)]
    by_cases q : i % 2 = 0
    · rw [fi 0 q, fj 1 (by omega)]
      cases En 2 L ss [] p 0 <;> rfl
    · rw [fi 1 (by omega), fj 0 (by omega)]
      cases En 2 L ss [] p 0 <;> rfl
end
end K20

end
section
set_option maxRecDepth 100000
set_option maxHeartbeats 4000000
namespace K20
open PySem PySem.Spec PyProof.Rows L2 L3 MT
theorem findSome_flat {α β γ : Type} {f : α → List β} {g : β → Option γ} : ∀ xs : List α, (xs.flatMap f).findSome? g = xs.findSome? fun x => (f x).findSome? g
  | [] => rfl
  | x :: xs => by
    rw [List.flatMap_cons, List.findSome?_append, findSome_flat xs, List.findSome?_cons]
    cases (f x).findSome? g <;> rfl
theorem findSome_map {α β γ : Type} {f : α → β} {g : β → Option γ} : ∀ xs : List α, (xs.map f).findSome? g = xs.findSome? fun x => g (f x)
  | [] => rfl
  | x :: xs => by rw [List.map_cons, List.findSome?_cons, findSome_map xs, List.findSome?_cons]
theorem findSome_congr {α γ : Type} {f g : α → Option γ} : ∀ {xs : List α}, (∀ x ∈ xs, f x = g x) → xs.findSome? f = xs.findSome? g
  | [], _ => rfl
  | x :: xs, h => by rw [List.findSome?_cons, List.findSome?_cons, h x List.mem_cons_self, findSome_congr fun y hy => h y (List.mem_cons_of_mem _ hy)]
theorem findSome_no {α γ : Type} {f : α → Option γ} {xs : List α} (h : ∀ x ∈ xs, f x = none) : xs.findSome? f = none := List.findSome?_eq_none_iff.mpr h
theorem getD_range (ps : List Nat) : (List.range ps.length).map (fun a => ps.getD a 0) = ps := by
  refine List.ext_getElem? fun i => ?_
  rw [List.getElem?_map]
  by_cases q : i < ps.length
  · rw [List.getElem?_range q]
    show some (ps.getD i 0) = _
    rw [List.getD_eq_getElem?_getD, List.getElem?_eq_getElem q]; rfl
  · rw [List.getElem?_eq_none (by simp; omega), List.getElem?_eq_none (by omega)]; rfl
theorem flat_one {α β : Type} (f : α → β) : ∀ xs : List α, (xs.flatMap fun x => [f x]) = xs.map f
  | [] => rfl
  | x :: xs => by rw [List.flatMap_cons, flat_one f xs]; rfl
theorem chs_one (ps : List Nat) : chs ps 1 = ps.map fun x => [x] := by
  show ((List.range ps.length).flatMap fun a => (chs (ps.drop (a + 1)) 0).map (ps.getD a 0 :: ·)) = _
  have : (fun a => (chs (ps.drop (a + 1)) 0).map (ps.getD a 0 :: ·)) = fun a => [[ps.getD a 0]] := by funext a; rfl
  rw [this, flat_one]
  conv => rhs; rw [← getD_range ps]
  rw [List.map_map]; rfl
theorem chs_two (ps : List Nat) : chs ps 2 = (List.range ps.length).flatMap fun a => (ps.drop (a + 1)).map fun o => [ps.getD a 0, o] := by
  show ((List.range ps.length).flatMap fun a => (chs (ps.drop (a + 1)) 1).map (ps.getD a 0 :: ·)) = _
  congr 1
  funext a
  rw [chs_one, List.map_map]; rfl
/-- the law's own search -/
def dueP (many : Nat) (free : List Nat) (m : Nat) : Option D := free.findSome? fun one => free.findSome? fun other => if decide (other > one) && (decide (other % many ≠ one % many) && decide (m > 1)) then some (brkD [one, other] 0) else none
theorem inner_eq {γ : Type} {free : List Nat} (hs : free.Pairwise (· < ·)) {a : Nat} (ha : a < free.length) {c : Nat → Bool} {g : Nat → γ} :
    (free.findSome? fun o => if decide (o > free.getD a 0) && c o then some (g o) else none) = (free.drop (a + 1)).findSome? fun o => if c o then some (g o) else none := by
  have hga : free.getD a 0 = free[a] := by rw [List.getD_eq_getElem?_getD, List.getElem?_eq_getElem ha]; rfl
  rw [hga]
  generalize hx : free[a] = x at hga
  have e2 : free.findSome? (fun o => if decide (o > x) && c o then some (g o) else none) = (free.take (a + 1) ++ free.drop (a + 1)).findSome? (fun o => if decide (o > x) && c o then some (g o) else none) := by rw [List.take_append_drop]
  rw [e2, List.findSome?_append]
  subst hx
  have h1 : (free.take (a + 1)).findSome? (fun o => if decide (o > free[a]) && c o then some (g o) else none) = none := by
    refine findSome_no fun o ho => ?_
    obtain ⟨i, hi, rfl⟩ := List.mem_iff_getElem.mp ho
    rw [List.length_take] at hi
    rw [List.getElem_take]
    have hle : free[i]'(by omega) ≤ free[a] := by
      rcases Nat.lt_or_ge i a with z | z
      · exact Nat.le_of_lt (List.pairwise_iff_getElem.mp hs i a (by omega) ha z)
      · have : i = a := by omega
        subst this; exact Nat.le_refl _
    rw [decide_eq_false (by omega), Bool.false_and, if_neg (by decide)]
  rw [h1, Option.none_or]
  refine findSome_congr fun o ho => ?_
  obtain ⟨i, hi, rfl⟩ := List.mem_iff_getElem.mp ho
  rw [List.length_drop] at hi
  rw [List.getElem_drop]
  have : free[a] < free[a + 1 + i] := List.pairwise_iff_getElem.mp hs a (a + 1 + i) ha (by omega) (by omega)
  rw [decide_eq_true this, Bool.true_and]
theorem uns_sorted (gs : List Gt) : (uns gs).Pairwise (· < ·) := List.Pairwise.filter _ List.pairwise_lt_range
theorem uns_lt {gs : List Gt} {x : Nat} (h : x ∈ uns gs) : x < gs.length := List.mem_range.mp (List.mem_filter.mp h).1
section
variable {many deep L : Nat} {ss : List Bool} {safe : Bool}
abbrev tT (safe : Bool) (many L : Nat) (ss : List Bool) := tryT safe 1 (cIns many) (chG ss) (cOs many L)
theorem try_all {T : List Nat} (h : ∀ p, brF safe 1 (cIns many) (chG ss) (cOs many L) (nZ T) p = true) : tT safe many L ss T = some (brkD T 0) := by
  show ((List.range (2 ^ 1)).filter (brF safe 1 (cIns many) (chG ss) (cOs many L) (nZ T))).head?.map (brkD T) = _
  have : brF safe 1 (cIns many) (chG ss) (cOs many L) (nZ T) = fun _ => true := funext h
  rw [this]; rfl
theorem try_no {T : List Nat} (h : ∀ p, brF safe 1 (cIns many) (chG ss) (cOs many L) (nZ T) p = false) : tT safe many L ss T = none := by
  show ((List.range (2 ^ 1)).filter (brF safe 1 (cIns many) (chG ss) (cOs many L) (nZ T))).head?.map (brkD T) = _
  have : brF safe 1 (cIns many) (chG ss) (cOs many L) (nZ T) = fun _ => false := funext h
  rw [this]; rfl
/-- the law's due -/
def dueD (safe : Bool) (many : Nat) (free : List Nat) (m : Nat) : D :=
  if free = [] ∨ m = 0 then bearD else if many = 1 ∨ (many = 2 ∧ safe = false) then brkD [free.getD 0 0] 0 else (dueP many free m).getD bearD
theorem bears_due (h : Ch many deep L ss) (hm : many ≤ 3) {m : Nat} (hm3 : m ≤ 3) : bears safe 1 (cIns many) (chG ss) (cOs many L) m = dueD safe many (uns (chG ss)) m := by
  have hlt : ∀ x ∈ uns (chG ss), x < L := fun x hx => by have := uns_lt hx; rw [chG_len, h.s] at this; exact this
  have hso := uns_sorted (chG ss)
  unfold bears dueD
  generalize uns (chG ss) = free at hlt hso
  have t0 : (chs free 0).findSome? (tT safe many L ss) = none := by
    show ([[]] : List (List Nat)).findSome? _ = none
    rw [List.findSome?_cons, try_no fun p => br_nil h hm]; rfl
  by_cases hf : free = []
  · rw [if_pos (.inl hf)]
    subst hf
    rw [findSome_no (xs := List.range (m + 1))]
    · rfl
    · intro s _
      cases s with
      | zero => exact t0
      | succ s => rfl
  by_cases hm0 : m = 0
  · rw [if_pos (.inr hm0)]
    subst hm0
    show ([0].findSome? fun s => (chs free s).findSome? (tT safe many L ss)).getD bearD = _
    rw [List.findSome?_cons, t0]; rfl
  rw [if_neg (fun q => q.elim hf hm0)]
  have r1 : List.range (m + 1) = 0 :: 1 :: (List.range (m - 1)).map (· + 2) := by
    obtain ⟨k, rfl⟩ : ∃ k, m = k + 1 := ⟨m - 1, by omega⟩
    rw [List.range_succ_eq_map, List.range_succ_eq_map, List.map_cons, List.map_map]
    rfl
  by_cases hb : many = 1 ∨ (many = 2 ∧ safe = false)
  · rw [if_pos hb, r1]
    obtain ⟨f, r, rfl⟩ := List.exists_cons_of_ne_nil hf
    have t1 : (chs (f :: r) 1).findSome? (tT safe many L ss) = some (brkD [f] 0) := by
      rw [chs_one, List.map_cons, List.findSome?_cons, try_all fun p => br_single h hb (hlt f List.mem_cons_self)]
    rw [List.findSome?_cons, t0, List.findSome?_cons, t1]
    rfl
  · rw [if_neg hb]
    have hb1 : Bears1 many safe := by
      have := h.m1
      obtain q | q | q : many = 1 ∨ many = 2 ∨ many = 3 := by omega
      · exact absurd (.inl q) hb
      · cases hs : safe with
        | true => exact .inr ⟨q, rfl⟩
        | false => exact absurd (.inr ⟨q, hs⟩) hb
      · exact .inl q
    have t1 : (chs free 1).findSome? (tT safe many L ss) = none := by
      rw [chs_one, findSome_map]
      exact findSome_no fun x hx => try_no fun p => br_same (j0 := x % many) h hb1 (by simp)
    have t2 : (chs free 2).findSome? (tT safe many L ss) = dueP many free 2 := by
      rw [chs_two, findSome_flat]
      unfold dueP
      have : free.findSome? (fun one => free.findSome? fun other => if decide (other > one) && (decide (other % many ≠ one % many) && decide (2 > 1)) then some (brkD [one, other] 0) else none) = ((List.range free.length).map fun a => free.getD a 0).findSome? (fun one => free.findSome? fun other => if decide (other > one) && (decide (other % many ≠ one % many) && decide (2 > 1)) then some (brkD [one, other] 0) else none) := by rw [getD_range]
      rw [this, findSome_map]
      refine findSome_congr fun a ha => ?_
      rw [List.mem_range] at ha
      have hga : free.getD a 0 ∈ free := by rw [List.getD_eq_getElem?_getD, List.getElem?_eq_getElem ha]; exact List.getElem_mem ha
      rw [findSome_map, inner_eq hso ha (c := fun o => decide (o % many ≠ free.getD a 0 % many) && decide (2 > 1)) (g := fun o => brkD [free.getD a 0, o] 0)]
      refine findSome_congr fun o ho => ?_
      have hof := List.mem_of_mem_drop ho
      by_cases q : o % many = free.getD a 0 % many
      · rw [decide_eq_false (fun z => z q), Bool.false_and, if_neg (by decide)]
        refine try_no fun p => br_same (j0 := o % many) h hb1 fun i hi => ?_
        simp only [List.mem_cons, List.not_mem_nil, or_false] at hi
        rcases hi with rfl | rfl
        · exact q.symm
        · rfl
      · rw [decide_eq_true q, if_pos (by decide)]
        exact try_all fun p => br_pair h hb1 (hlt _ hga) (hlt o hof) fun z => q z.symm
    rw [r1, List.findSome?_cons, t0, List.findSome?_cons, t1]
    by_cases hm1 : m = 1
    · subst hm1
      have : dueP many free 1 = none := findSome_no fun one _ => findSome_no fun other _ => by rw [show decide (1 > 1) = false by decide, Bool.and_false, Bool.and_false, if_neg (by decide)]
      rw [this]; rfl
    · have hdm : dueP many free m = dueP many free 2 := by
        unfold dueP
        rw [decide_eq_true (by omega : m > 1), decide_eq_true (by omega : 2 > 1)]
      have r2 : (List.range (m - 1)).map (· + 2) = 2 :: (List.range (m - 2)).map (· + 3) := by
        obtain ⟨k, rfl⟩ : ∃ k, m = k + 2 := ⟨m - 2, by omega⟩
        show (List.range (k + 1)).map (· + 2) = _
        rw [List.range_succ_eq_map, List.map_cons, List.map_map]
        rfl
      rw [hdm, r2, List.findSome?_cons, t2]
      cases hd : dueP many free 2 with
      | some d => rfl
      | none =>
        have hsame : ∀ x ∈ free, ∀ y ∈ free, x % many = y % many := by
          have key : ∀ x ∈ free, ∀ y ∈ free, y > x → x % many = y % many := fun x hx y hy hyx => by
            have h1 := List.findSome?_eq_none_iff.mp hd x hx
            have h2 := List.findSome?_eq_none_iff.mp h1 y hy
            refine Classical.byContradiction fun q => ?_
            have hne : y % many ≠ x % many := fun z => q z.symm
            rw [decide_eq_true hyx, decide_eq_true hne, if_pos (by decide)] at h2
            cases h2
          intro x hx y hy
          rcases Nat.lt_trichotomy x y with z | z | z
          · exact key x hx y hy z
          · rw [z]
          · exact (key y hy x hx z).symm
        show (List.findSome? _ _).getD bearD = _
        rw [findSome_no (xs := (List.range (m - 2)).map (· + 3))]
        · intro s hs
          obtain ⟨f, r, rfl⟩ := List.exists_cons_of_ne_nil hf
          exact findSome_no fun T hT => try_no fun p => br_same (j0 := f % many) h hb1 fun i hi => hsame i ((chs_in hT).2 i hi) f List.mem_cons_self
end
end K20

end
section
set_option maxRecDepth 100000
set_option maxHeartbeats 4000000
namespace K20
open PySem PySem.Spec PyProof.Rows L2 L3 MT
theorem rng_atD {n i : Nat} {d : D} (h : (rngD 0 n)[i]? = some d) : i < n ∧ d = .int i := by
  have hv : ((rngD 0 n).map V3.d)[i]? = some (.d d) := by rw [List.getElem?_map, h]; rfl
  obtain ⟨h1, h2⟩ := NT.rng_at hv
  cases h2
  exact ⟨h1, rfl⟩
def Al (n : Nat) (d : D) : Prop := d_law_alike n [d, d] = .ok (.bl true)
theorem al_int (n : Nat) (i : Int) : Al (n + 1) (.int i) := by
  have : d_law_alike (n + 1) [.int i, .int i] = .ok (.bl (decide (i = i))) := rfl
  unfold Al
  rw [this, decide_eq_true rfl]
theorem al_str (n : Nat) (x : Str) : Al (n + 1) (.str x) := by
  have : d_law_alike (n + 1) [.str x, .str x] = .ok (.bl (decide (x = x))) := rfl
  unfold Al
  rw [this, decide_eq_true rfl]
theorem al_bl (n : Nat) (b : Bool) : Al (n + 1) (.bl b) := by
  have : d_law_alike (n + 1) [.bl b, .bl b] = .ok (.bl (decide (b = b))) := rfl
  unfold Al
  rw [this, decide_eq_true rfl]
theorem ne_int (n : Int) : dNe (.int n) (.int n) = .ok (.bl false) := by
  have : dNe (.int n) (.int n) = .ok (.bl (!decide (n = n))) := rfl
  rw [this, decide_eq_true rfl]; rfl
theorem al_loop {n : Nat} {d : D} {ds : List D} (hix : ∀ (i : Nat) (x : D), ds[i]? = some x → ixD d (.int i) = .ok x) (h : ∀ x ∈ ds, Al n x) : ∃ a, loopD (gNameD 2) (B_law_alike_0 (d_law_alike n)) (rngD 0 ds.length) [.val d, .val d, .un] = .ok (.nx [.val d, .val d, a]) := by
  obtain ⟨δ', e, a, hδ⟩ := loopD_inv (t := gNameD 2) (body := B_law_alike_0 (d_law_alike n)) (ds := rngD 0 ds.length) (fun i δ => ∃ a, δ = [.val d, .val d, a]) (δ := [.val d, .val d, .un]) ⟨.un, rfl⟩ (fun i x δ hx ⟨a, hδ⟩ => by
    subst hδ
    obtain ⟨hi, rfl⟩ := rng_atD hx
    have q : ds[i]? = some ds[i] := List.getElem?_eq_getElem hi
    refine ⟨[.val d, .val d, .val (.int i)], ?_, _, rfl⟩
    show B_law_alike_0 (d_law_alike n) [.val d, .val d, .val (.int i)] = _
    unfold B_law_alike_0
    refine sIf_f ?_ rfl
    have e1 : eCall (d_law_alike n) (aCons (e2 ixD (eVar 0) (eVar 2)) (aCons (e2 ixD (eVar 1) (eVar 2)) aNil)) [.val d, .val d, .val (.int i)] = .ok (.bl true) :=
      eCall_ok (ds := [ds[i], ds[i]]) (aCons_ok (e2_ok (a := d) (b := .int i) rfl rfl (hix i _ q)) (aCons_ok (e2_ok (a := d) (b := .int i) rfl rfl (hix i _ q)) rfl)) (h _ (List.getElem_mem hi))
    unfold bNot bTru
    rw [e1]; rfl)
  exact ⟨a, by rw [e, hδ]⟩
theorem seq_ix {ds : List D} {i : Nat} {x : D} (h : ds[i]? = some x) : atI ds (i : Int) = some x := by
  obtain ⟨h1, h2⟩ := List.getElem?_eq_some_iff.mp h
  rw [atI_of (by omega) (by rw [Int.toNat_natCast]; exact h1)]
  simp [h2]
theorem al_tup {n : Nat} {ds : List D} (hl : ds.length < 100000) (h : ∀ x ∈ ds, Al n x) : Al (n + 1) (.tup ds) := by
  obtain ⟨a, e⟩ := al_loop (d := .tup ds) (fun i x hx => ixT_of (seq_ix hx)) h
  unfold Al
  show fnD N_law_alike (F_law_alike (d_law_alike n)) [.tup ds, .tup ds] = _
  unfold F_law_alike
  refine fnD_ok (sSeq_ok (sIf_f rfl rfl) (sSeq_ok (sIf_f rfl rfl) (sSeq_ok (sIf_f rfl rfl) (sSeq_ok (sIf_f rfl rfl) (sSeq_ok (sIf_t rfl (sIf_f rfl rfl)) (sSeq_ok (sIf_f ?_ rfl) (sSeq_ok (sFor_ok (rng1_ok (n := ds.length) rfl (by omega)) e) (sRet_ok rfl))))))))
  exact b2_ok (a := .int ds.length) (b := .int ds.length) rfl rfl (ne_int _)
theorem al_due {T : List Nat} {p : Nat} (h : T.length < 1000) : Al 5 (brkD T p) := by
  unfold brkD
  refine al_tup (by simp) fun x hx => ?_
  simp only [List.mem_cons, List.not_mem_nil, or_false] at hx
  rcases hx with rfl | rfl | rfl
  · exact al_str _ _
  · unfold tupN
    exact al_tup (by rw [List.length_map]; omega) fun y hy => by obtain ⟨z, _, rfl⟩ := List.mem_map.mp hy; exact al_int _ _
  · exact al_int _ _
theorem al_bear : Al 5 bearD := by
  unfold bearD
  exact al_tup (by simp) fun x hx => by rw [List.mem_singleton.mp hx]; exact al_str _ _
theorem cell_ok (ns : List Int) (k : Nat) : ∃ c : Int, d_law_cell_at [.lst (ns.map .int), .int k] = .ok (.int c) := by
  by_cases h : k < ns.length
  · refine ⟨ns[k], ?_⟩
    unfold d_law_cell_at F_law_cell_at
    refine fnD_ok ?_
    have e : sIf (b2 dLt (eVar 1) (eCall cLen (aCons (eVar 0) aNil))) (sRet (e2 ixD (eVar 0) (eVar 1))) sNil (dStart N_law_cell_at [.lst (ns.map .int), .int k]) = .ok (.rt (.int ns[k])) := by
      refine sIf_t ?_ (sRet_ok (e2_ok (a := .lst (ns.map .int)) (b := .int k) rfl rfl (ixL_of (seq_ix (by rw [List.getElem?_map, List.getElem?_eq_getElem h]; rfl)))))
      refine b2_ok (a := .int k) (b := .int ns.length) rfl (eCall_ok (ds := [.lst (ns.map .int)]) rfl (by rw [lenL, List.length_map])) ?_
      show R.ok (D.bl (decide ((k : Int) < (ns.length : Int)))) = _
      rw [decide_eq_true (by omega)]
    unfold sSeq
    rw [e]; rfl
  · refine ⟨0, ?_⟩
    unfold d_law_cell_at F_law_cell_at
    refine fnD_ok (sSeq_ok (sIf_f ?_ rfl) rfl)
    refine b2_ok (a := .int k) (b := .int ns.length) rfl (eCall_ok (ds := [.lst (ns.map .int)]) rfl (by rw [lenL, List.length_map])) ?_
    show R.ok (D.bl (decide ((k : Int) < (ns.length : Int)))) = _
    rw [decide_eq_false (by omega)]

/-! the law's due -/
theorem eq_nil (ps : List Nat) : dEq (.lst (ps.map nI)) (.lst []) = .ok (.bl ps.isEmpty) := by
  have f : Fit 4 (.lst (ps.map nI)) := (Fit.lst (n := 0) fun d hd => by
    obtain ⟨g, h, rfl⟩ := List.mem_map.mp hd
    exact Fit.int _).mono (by omega)
  have e : eqD (.lst (ps.map nI)) (.lst []) = .ok ps.isEmpty := by
    rw [eqD_lt, f.pl, f.sh (by omega), (Fit.lst (n := 0) (ds := []) (by simp)).pl, (Fit.lst (n := 0) (ds := []) (by simp)).sh (by omega)]
    cases ps with
    | nil => rfl
    | cons a r => rfl
  unfold dEq
  rw [e]; rfl
theorem eq_int (a b : Int) : dEq (.int a) (.int b) = .ok (.bl (decide (a = b))) := rfl
theorem nat_int {a b : Nat} : decide ((a : Int) = (b : Int)) = decide (a = b) := by
  by_cases q : a = b
  · rw [decide_eq_true q, decide_eq_true (by omega)]
  · rw [decide_eq_false q, decide_eq_false (by omega)]
theorem bAnd_ok {f g : DEnv → R Bool} {δ : DEnv} {a b : Bool} (h1 : f δ = .ok a) (h2 : g δ = .ok b) : bAnd f g δ = .ok (a && b) := by
  unfold bAnd
  rw [h1, R.ok_bind]
  cases a with
  | true => rw [if_pos rfl, h2]; rfl
  | false => rw [if_neg (by decide)]; rfl
theorem bOr_ok {f g : DEnv → R Bool} {δ : DEnv} {a b : Bool} (h1 : f δ = .ok a) (h2 : g δ = .ok b) : bOr f g δ = .ok (a || b) := by
  unfold bOr
  rw [h1, R.ok_bind]
  cases a with
  | true => rw [if_pos rfl]; rfl
  | false => rw [if_neg (by decide), h2]; rfl
section
variable {many deep L : Nat} {ss : List Bool} {safe : Bool} {m : Nat}
def chD (many L : Nat) : D := .lst (((List.range L).map (· % many)).map nI)
theorem ch_ix {i : Nat} (h : i < L) : ixD (chD many L) (nI i) = .ok (nI (i % many)) := by
  refine NT.ixL_nat ?_
  rw [List.getElem?_map, List.getElem?_map, List.getElem?_range h]
  rfl
abbrev ntD (many L : Nat) (ss : List Bool) : D := netD (cIns many) (chG ss) (cOs many L)
def uE (many L : Nat) (ss : List Bool) (safe : Bool) (m : Nat) (free : List Nat) (a b : Sl) : DEnv := [.val (ntD many L ss), .val (chD many L), .val (nI many), .val (.str (lvS safe)), .val (nI m), .val (.lst (free.map nI)), a, b]
theorem due_in {free : List Nat} {one other : Nat} {δ : DEnv} (h1 : one < L) (h2 : other < L) (hδ : δ = uE many L ss safe m free (.val (nI one)) (.val (nI other))) :
    ∃ o, B_law_due_0 δ = .ok o ∧ (match (if decide (other > one) && (decide (other % many ≠ one % many) && decide (m > 1)) then some (brkD [one, other] 0) else none) with | some v => o = .rt v | none => ∃ δ2, o = .nx δ2 ∧ δ2 = δ) := by
  subst hδ
  have hz : sizeLine = 16777216 := sizeLine_eq
  unfold B_law_due_0
  have c1 : b2 dGt (eVar 7) (eVar 6) (uE many L ss safe m free (.val (nI one)) (.val (nI other))) = .ok (decide (other > one)) := by
    refine b2_ok (a := nI other) (b := nI one) rfl rfl ?_
    show R.ok (D.bl (decide ((other : Int) > (one : Int)))) = _
    congr 2
    by_cases q : other > one
    · rw [decide_eq_true q, decide_eq_true (by omega)]
    · rw [decide_eq_false q, decide_eq_false (by omega)]
  have c2 : b2 dNe (e2 ixD (eVar 1) (eVar 7)) (e2 ixD (eVar 1) (eVar 6)) (uE many L ss safe m free (.val (nI one)) (.val (nI other))) = .ok (decide (other % many ≠ one % many)) := by
    refine b2_ok (a := nI (other % many)) (b := nI (one % many)) (e2_ok (a := chD many L) (b := nI other) rfl rfl (ch_ix h2)) (e2_ok (a := chD many L) (b := nI one) rfl rfl (ch_ix h1)) ?_
    show R.ok (D.bl (!decide (((other % many : Nat) : Int) = ((one % many : Nat) : Int)))) = _
    rw [nat_int]
    congr 2
    by_cases q : other % many = one % many
    · rw [decide_eq_true q, decide_eq_false (fun z => z q)]; rfl
    · have : other % many ≠ one % many := q
      rw [decide_eq_false q, decide_eq_true this]; rfl
  have c3 : b2 dGt (eVar 4) (eC (.int 1)) (uE many L ss safe m free (.val (nI one)) (.val (nI other))) = .ok (decide (m > 1)) := by
    refine b2_ok (a := nI m) (b := .int 1) rfl rfl ?_
    show R.ok (D.bl (decide ((m : Int) > 1))) = _
    congr 2
    by_cases q : m > 1
    · rw [decide_eq_true q, decide_eq_true (by omega)]
    · rw [decide_eq_false q, decide_eq_false (by omega)]
  have cc := bAnd_ok c1 (bAnd_ok c2 c3)
  generalize (decide (other > one) && (decide (other % many ≠ one % many) && decide (m > 1))) = t at cc ⊢
  cases t with
  | true => exact ⟨_, sIf_t cc (sRet_ok (eTup_ok (aCons_ok rfl (aCons_ok (eTup_ok rfl (by simp; omega)) (aCons_ok rfl rfl))) (by simp; omega))), rfl⟩
  | false => exact ⟨_, sIf_f cc rfl, _, rfl, rfl⟩
theorem due_out {free : List Nat} (hlt : ∀ x ∈ free, x < L) {a b : Sl} :
    ∃ o, sFor (itSeq (eVar 5)) (gNameD 6) B_law_due_1 (uE many L ss safe m free a b) = .ok o ∧ (match dueP many free m with | some v => o = .rt v | none => ∃ δ2, o = .nx δ2 ∧ ∃ a b, δ2 = uE many L ss safe m free a b) := by
  obtain ⟨o, e, ho⟩ := loopD_some (t := gNameD 6) (body := B_law_due_1) nI (fun one => free.findSome? fun other => if decide (other > one) && (decide (other % many ≠ one % many) && decide (m > 1)) then some (brkD [one, other] 0) else none) (fun δ => ∃ a b, δ = uE many L ss safe m free a b) (xs := free) (δ := uE many L ss safe m free a b) ⟨a, b, rfl⟩ (by
    rintro one h1 δ ⟨a, b, rfl⟩
    rw [show gNameD 6 (nI one) (uE many L ss safe m free a b) = .ok (uE many L ss safe m free (.val (nI one)) b) from rfl, R.ok_bind]
    unfold B_law_due_1
    obtain ⟨o, e, ho⟩ := loopD_some (t := gNameD 7) (body := B_law_due_0) nI (fun other => if decide (other > one) && (decide (other % many ≠ one % many) && decide (m > 1)) then some (brkD [one, other] 0) else none) (fun δ => ∃ b, δ = uE many L ss safe m free (.val (nI one)) b) (xs := free) (δ := uE many L ss safe m free (.val (nI one)) b) ⟨b, rfl⟩ (by
      rintro other h2 δ ⟨b, rfl⟩
      rw [show gNameD 7 (nI other) (uE many L ss safe m free (.val (nI one)) b) = .ok (uE many L ss safe m free (.val (nI one)) (.val (nI other))) from rfl, R.ok_bind]
      obtain ⟨o, e, ho⟩ := due_in (many := many) (L := L) (ss := ss) (safe := safe) (m := m) (free := free) (hlt one h1) (hlt other h2) rfl
      refine ⟨o, e, ?_⟩
      generalize (if decide (other > one) && (decide (other % many ≠ one % many) && decide (m > 1)) then some (brkD [one, other] 0) else none) = t at ho ⊢
      cases t with
      | some v => exact ho
      | none => obtain ⟨δ2, e1, e2'⟩ := ho; exact ⟨δ2, e1, _, e2'⟩)
    refine ⟨o, sFor_ok (ds := free.map nI) (itL_ok rfl) e, ?_⟩
    generalize (free.findSome? fun other => if decide (other > one) && (decide (other % many ≠ one % many) && decide (m > 1)) then some (brkD [one, other] 0) else none) = t at ho ⊢
    cases t with
    | some v => exact ho
    | none => obtain ⟨δ2, e1, b, e2'⟩ := ho; exact ⟨δ2, e1, _, b, e2'⟩)
  exact ⟨o, sFor_ok (ds := free.map nI) (itL_ok rfl) e, ho⟩
theorem gate_sure {i : Nat} (h : i < ss.length) {δ : DEnv} (h0 : eVar 0 δ = .ok (nI i)) (h1 : eVar 1 δ = .ok (ntD many L ss)) : bNot (bTru (e2 ixD (e2 ixD (e2 ixD (eVar 1) (eC (.int 1))) (eVar 0)) (eC (.int 2)))) δ = .ok (match (chG ss)[i]? with | some g => !g.2.2 | none => false) := by
  have e : e2 ixD (e2 ixD (e2 ixD (eVar 1) (eC (.int 1))) (eVar 0)) (eC (.int 2)) δ = .ok (.bl ss[i]) := by
    refine e2_ok (a := gtD (0, [i], ss[i])) (b := .int 2) (e2_ok (a := .lst ((chG ss).map gtD)) (b := nI i) (e2_ok (a := ntD many L ss) (b := .int 1) h1 rfl rfl) h0 (NT.ixL_nat ?_)) rfl rfl
    rw [List.getElem?_map, chG_at, List.getElem?_eq_getElem h]
    rfl
  unfold bNot bTru
  rw [e, chG_at, List.getElem?_eq_getElem h]
  rfl
theorem due_ok (hC : Ch many deep L ss) (hL : L ≤ 100) : d_law_due [ntD many L ss, chD many L, nI many, .str (lvS safe), nI m] = .ok (dueD safe many (uns (chG ss)) m) := by
  have hz : sizeLine = 16777216 := sizeLine_eq
  have hlt : ∀ x ∈ uns (chG ss), x < L := fun x hx => by have := uns_lt hx; rw [chG_len, hC.s] at this; exact this
  unfold d_law_due F_law_due
  refine fnD_ok (sSeq_ok (sSet_ok (d := .lst ((uns (chG ss)).map nI)) (eNew_ok (nComp_ok (ds := (List.range L).map nI) ?_ (by simp; omega) ?_)) (by simp [dStart, N_law_due])) ?_)
  · rw [← rng_nI]
    refine rng1_ok (n := L) (eCall_ok (ds := [chD many L]) rfl ?_) (by omega)
    unfold chD
    rw [lenL]
    simp
  · unfold uns
    rw [chG_len, hC.s]
    refine NT.compL_some (fun i : Nat => match (chG ss)[i]? with | some g => !g.2.2 | none => false) nI nI fun i hi => ?_
    rw [List.mem_range] at hi
    exact ⟨[.val (nI i), .val (ntD many L ss)], rfl, gate_sure (by rw [hC.s]; exact hi) rfl rfl, fun _ => rfl⟩
  show sSeq _ _ (uE many L ss safe m (uns (chG ss)) .un .un) = _
  generalize uns (chG ss) = free at hlt
  unfold dueD
  have c1 : bOr (b2 dEq (eVar 5) (eNew (nLst aNil))) (b2 dEq (eVar 4) (eC (.int 0))) (uE many L ss safe m free .un .un) = .ok (free.isEmpty || decide (m = 0)) := by
    refine bOr_ok (b2_ok (a := .lst (free.map nI)) (b := .lst []) rfl rfl (eq_nil free)) (b2_ok (a := nI m) (b := .int 0) rfl rfl ?_)
    show R.ok (D.bl (decide ((m : Int) = ((0 : Nat) : Int)))) = _
    rw [nat_int]
  by_cases q1 : free = [] ∨ m = 0
  · rw [if_pos q1]
    refine NT.sSeq_rt (sIf_t (c1.trans ?_) (sRet_ok rfl))
    congr 1
    rcases q1 with rfl | rfl
    · rfl
    · simp
  rw [if_neg q1]
  have hfe : free ≠ [] := fun z => q1 (.inl z)
  refine sSeq_ok (sIf_f (c1.trans ?_) rfl) ?_
  · congr 1
    rw [decide_eq_false (fun z => q1 (.inr z)), Bool.or_false]
    cases free with
    | nil => exact absurd rfl hfe
    | cons a r => rfl
  have c2 : bOr (b2 dEq (eVar 2) (eC (.int 1))) (bAnd (b2 dEq (eVar 2) (eC (.int 2))) (b2 dEq (eVar 3) (eC (.str (Str.ofString "right"))))) (uE many L ss safe m free .un .un) = .ok (decide (many = 1) || (decide (many = 2) && !safe)) := by
    refine bOr_ok (b2_ok (a := nI many) (b := .int 1) rfl rfl ?_) (bAnd_ok (b2_ok (a := nI many) (b := .int 2) rfl rfl ?_) (b2_ok (a := .str (lvS safe)) (b := .str (Str.ofString "right")) rfl rfl ?_))
    · show R.ok (D.bl (decide ((many : Int) = ((1 : Nat) : Int)))) = _
      rw [nat_int]
    · show R.ok (D.bl (decide ((many : Int) = ((2 : Nat) : Int)))) = _
      rw [nat_int]
    · show R.ok (D.bl (lvS safe == Str.ofString "right")) = _
      congr 2
      cases safe <;> decide +kernel
  by_cases q2 : many = 1 ∨ (many = 2 ∧ safe = false)
  · rw [if_pos q2]
    refine NT.sSeq_rt (sIf_t (c2.trans ?_) (sRet_ok (eTup_ok (aCons_ok rfl (aCons_ok (eTup_ok (aCons_ok (d := nI (free.getD 0 0)) (e2_ok (a := .lst (free.map nI)) (b := nI 0) rfl rfl (NT.ixL_nat ?_)) rfl) (by simp; omega)) (aCons_ok rfl rfl))) (by simp; omega))))
    · congr 1
      rcases q2 with rfl | ⟨rfl, rfl⟩ <;> rfl
    · obtain ⟨f, r, rfl⟩ := List.exists_cons_of_ne_nil hfe
      rfl
  rw [if_neg q2]
  refine sSeq_ok (sIf_f (c2.trans ?_) rfl) ?_
  · congr 1
    rw [decide_eq_false (fun z => q2 (.inl z)), Bool.false_or]
    by_cases q3 : many = 2
    · cases hs : safe with
      | true => simp
      | false => exact absurd (.inr ⟨q3, hs⟩) q2
    · rw [decide_eq_false q3]; rfl
  obtain ⟨o, e, ho⟩ := due_out (many := many) (L := L) (ss := ss) (safe := safe) (m := m) hlt (a := .un) (b := .un)
  cases hd : dueP many free m with
  | some v =>
    rw [hd] at ho
    subst ho
    exact NT.sSeq_rt e
  | none =>
    rw [hd] at ho
    obtain ⟨δ2, rfl, a, b, rfl⟩ := ho
    exact sSeq_ok e (sRet_ok rfl)
end
end K20

end
section
set_option maxRecDepth 100000
set_option maxHeartbeats 4000000
namespace K20
open PySem PySem.Spec PyProof.Rows L2 L3 MT
/-- the reel at k changed, gates and chains behind -/
structure CE (k : Nat) (G C : List D) (S S1 : Sto) : Prop where
  p : Pot k S1
  len : S1.length = S.length + 2
  oth : ∀ j, j < S.length → j ≠ k → S1[j]? = S[j]?
  g : S1[S.length]? = some (.lst G)
  c : S1[S.length + 1]? = some (.lst C)
theorem CE.then {k : Nat} {G C : List D} {S S1 S2 : Sto} (a : CE k G C S S1) (hk : k < S.length) (b : Ev k S1 S2) : CE k G C S S2 :=
  ⟨b.p, by rw [b.len]; exact a.len, fun j h1 h2 => (b.oth j h2).trans (a.oth j h1 h2), (b.oth _ (by omega)).trans a.g, (b.oth _ (by omega)).trans a.c⟩
theorem CE.setG {k : Nat} {G C G' : List D} {S S1 : Sto} (a : CE k G C S S1) (hk : k < S.length) : CE k G' C S (S1.set S.length (.lst G')) := by
  obtain ⟨hL, x, c, e⟩ := a.p
  exact ⟨⟨hL.set _ (flatL _), x, c, by rw [List.getElem?_set_ne (by omega)]; exact e⟩, by rw [List.length_set]; exact a.len, fun j h1 h2 => by rw [List.getElem?_set_ne (by omega)]; exact a.oth j h1 h2, set_get a.g, by rw [List.getElem?_set_ne (by omega)]; exact a.c⟩
theorem CE.setC {k : Nat} {G C C' : List D} {S S1 : Sto} (a : CE k G C S S1) (hk : k < S.length) : CE k G C' S (S1.set (S.length + 1) (.lst C')) := by
  obtain ⟨hL, x, c, e⟩ := a.p
  exact ⟨⟨hL.set _ (flatL _), x, c, by rw [List.getElem?_set_ne (by omega)]; exact e⟩, by rw [List.length_set]; exact a.len, fun j h1 h2 => by rw [List.getElem?_set_ne (by omega)]; exact a.oth j h1 h2, by rw [List.getElem?_set_ne (by omega)]; exact a.g, set_get a.c⟩
section
variable {S S1 : Sto} {k many deep : Nat} {most : Int}
def cE (k many deep : Nat) (most : Int) (n : Nat) (a6 a7 a8 a9 : Option V3) : DE := [some (.loc k), some (.d (nI many)), some (.d (nI deep)), some (.d (.int most)), some (.loc n), some (.loc (n + 1)), a6, a7, a8, a9]
def chL (many t : Nat) : List D := ((List.range t).map (· % many)).map nI
theorem chL_app {many t : Nat} : chL many (t + 1) = chL many t ++ [nI (t % many)] := by unfold chL; rw [List.range_succ, List.map_append, List.map_append]; rfl
theorem chain_step {i j : Nat} {a8 a9 : Option V3} {ss : List Bool} (hk : k < S.length) (hj : j < many) (hm : many ≤ 3) (hi : i < 30) (hs : ss.length = many * i + j) (E : CE k ((chG ss).map gtD) (chL many ss.length) S S1) :
    W3 (B_law_chained_0 (cE k many deep most S.length (some (.d (.int i))) (some (.d (.int j))) a8 a9) S1) fun o S2 => ∃ δ2, o = .nx δ2 ∧ (∃ b8, δ2 = cE k many deep most S.length (some (.d (.int i))) (some (.d (.int j))) b8 a9) ∧ ∃ b : Bool, CE k ((chG (ss ++ [b])).map gtD) (chL many (ss ++ [b]).length) S S2 := by
  have hz : sizeLine = 16777216 := sizeLine_eq
  have hmi : many * i ≤ 3 * i := Nat.mul_le_mul_right _ hm
  unfold B_law_chained_0 cE
  refine w_seq <| w_set (by simp only [List.length_cons, List.length_nil, List.length_set]; omega) <| w_P (d := nI j) rfl ⟨_, rfl, ?_⟩
  simp only [List.set_cons_succ, List.set_cons_zero]
  refine w_seq ?_
  have key : W3 (zIf (bP (b2 dGt (eVar 6) (eC (.int 0)))) (zSet 8 (xT (e2 dSub (e2 dAdd (eVar 1) (eCall cLen (aCons (eVar 4) aNil))) (eVar 1)))) zNil [some (.loc k), some (.d (nI many)), some (.d (nI deep)), some (.d (.int most)), some (.loc S.length), some (.loc (S.length + 1)), some (.d (.int i)), some (.d (.int j)), some (.d (nI j)), a9] S1)
      fun o S2 => S2 = S1 ∧ o = .nx [some (.loc k), some (.d (nI many)), some (.d (nI deep)), some (.d (.int most)), some (.loc S.length), some (.loc (S.length + 1)), some (.d (.int i)), some (.d (.int j)), some (.d (nI ss.length)), a9] := by
    refine w_if <| w_bP (b := decide (i > 0)) (b2_ok (a := .int i) (b := .int 0) rfl rfl ?_) ?_
    · show R.ok (D.bl (decide ((i : Int) > 0))) = _
      congr 2
      by_cases q : i > 0
      · rw [decide_eq_true q, decide_eq_true (by omega)]
      · rw [decide_eq_false q, decide_eq_false (by omega)]
    · by_cases q : i > 0
      · rw [decide_eq_true q, if_pos rfl]
        refine w_set (by simp only [List.length_cons, List.length_nil, List.length_set]; omega) <| w_T (d := nI ss.length) ?_ rfl ⟨rfl, rfl⟩
        have eg := E.g
        have ec := E.c
        simp only [downT, List.map_cons, List.map_nil, res, eg, ec]
        refine e2_ok (a := .int ((many : Int) + ss.length)) (b := nI many) (e2_ok (a := nI many) (b := .int ss.length) rfl (eCall_ok (ds := [.lst ((chG ss).map gtD)]) rfl (by rw [lenL, List.length_map, chG_len])) rfl) rfl ?_
        show R.ok (D.int ((many : Int) + ss.length - many)) = R.ok (D.int (ss.length : Int))
        congr 2
        omega
      · rw [decide_eq_false q, if_neg (by decide)]
        have : ss.length = j := by rw [hs, show i = 0 by omega]; omega
        rw [this]
        exact w_znil ⟨rfl, rfl⟩
  refine key.mono fun o S2 ⟨e1, e2'⟩ => ⟨_, e2', ?_⟩
  subst e1
  refine w_seq <| w_app (k := S.length) rfl ⟨_, E.g⟩ <| w_tup <| w_cons <| w_P (d := .str (Str.ofString "not")) rfl <| w_cons <| w_P (d := .tup [nI ss.length]) (eTup_ok rfl (by simp; omega)) <| w_cons <| w_2 <| draw (k := k) rfl E.p rfl (by omega) (by omega) fun r S3 h1 h2 v3 => w_P (d := .int most) rfl ⟨_, _, .bl (decide (r < most)), rfl, rfl, rfl, w_nil ⟨by simp; omega, gtD (0, [ss.length], decide (r < most)), _, rfl, (E.then hk v3).g, by rw [List.length_map, chG_len]; omega, _, rfl, ?_⟩⟩
  have E3 := (E.then hk v3).setG (G' := (chG ss).map gtD ++ [gtD (0, [ss.length], decide (r < most))]) hk
  refine w_app (k := S.length + 1) rfl ⟨_, E3.c⟩ <| w_P (d := nI j) rfl ⟨_, _, rfl, E3.c, by unfold chL; simp; omega, _, rfl, ⟨_, rfl⟩, decide (r < most), ?_⟩
  have E4 := E3.setC (C' := chL many ss.length ++ [nI j]) hk
  have hjm : ss.length % many = j := by rw [hs, Nat.mul_add_mod, Nat.mod_eq_of_lt hj]
  rw [chG_app, List.map_append, List.length_append]
  show CE k ((chG ss).map gtD ++ [gtD (0, [ss.length], decide (r < most))]) (chL many (ss.length + 1)) S _
  rw [chL_app, hjm]
  exact E4
theorem chained_ok (p : Pot k S) (hm1 : 1 ≤ many) (hm : many ≤ 3) (hd1 : 1 ≤ deep) (hd : deep < 30) {Q : V3 → Sto → Prop} (h : ∀ ss S1, Ch many deep (many * deep) ss → Ev k S S1 → Q (.d (.lst [ntD many (many * deep) ss, chD many (many * deep)])) S1) :
    W3 (dP_law_chained [.loc k, .d (nI many), .d (nI deep), .d (.int most)] S) Q := by
  have hz : sizeLine = 16777216 := sizeLine_eq
  have hk := p.lt
  have hmd : many * deep ≤ 3 * deep := Nat.mul_le_mul_right _ hm
  unfold dP_law_chained
  refine w_PnF (w_K rfl ?_)
  simp only [xStart, N_law_chained, List.map_cons, List.map_nil, List.length_cons, List.length_nil, List.replicate, List.cons_append, List.nil_append, Nat.reduceAdd, Nat.reduceSub]
  unfold F_law_chained
  refine w_seq <| w_set (by simp only [List.length_cons, List.length_nil, List.length_set]; omega) <| w_new (ds := []) rfl ⟨_, rfl, ?_⟩
  simp only [List.set_cons_succ, List.set_cons_zero]
  refine w_seq <| w_set (by simp only [List.length_cons, List.length_nil, List.length_set]; omega) <| w_new (ds := []) rfl ⟨_, rfl, ?_⟩
  simp only [List.set_cons_succ, List.set_cons_zero]
  have l0 : (S ++ [SO.lst []]).length = S.length + 1 := by simp
  rw [l0]
  have E0 : CE k ((chG []).map gtD) (chL many ([] : List Bool).length) S (S ++ [.lst []] ++ [.lst []]) := by
    obtain ⟨hL, x, c, e⟩ := p
    refine ⟨⟨(hL.push (flatL _)).push (flatL _), x, c, by rw [List.getElem?_append_left (by simp; omega), List.getElem?_append_left hk]; exact e⟩, by simp, fun j h1 h2 => by rw [List.getElem?_append_left (by simp; omega), List.getElem?_append_left h1], ?_, ?_⟩
    · rw [List.getElem?_append_left (by simp)]; exact get_last _ _
    · have := get_last (S ++ [SO.lst []]) (SO.lst []); rw [l0] at this; exact this
  refine w_seq <| w_for <| w_iP (rng1_ok (n := deep) rfl (by omega)) ?_
  refine (loopX_inv (fun i δ S2 => (∃ a6 a7 a8, δ = cE k many deep most S.length a6 a7 a8 none) ∧ ∃ ss : List Bool, ss.length = many * i ∧ CE k ((chG ss).map gtD) (chL many ss.length) S S2)
    ⟨⟨_, _, _, rfl⟩, [], by simp, E0⟩ ?_).mono fun o S2 ⟨δ2, e2', ⟨a6, a7, a8, hδ⟩, ss, hss, E⟩ => ⟨δ2, e2', ?_⟩
  · rintro i v δ S2 hv ⟨⟨a6, a7, a8, rfl⟩, ss, hss, E⟩
    obtain ⟨hi, rfl⟩ := NT.rng_at hv
    refine ⟨cE k many deep most S.length (some (.d (.int i))) a7 a8 none, rfl, ?_⟩
    unfold B_law_chained_1
    refine w_for <| w_iP (rng1_ok (n := many) rfl (by omega)) ?_
    refine (loopX_inv (fun j δ S3 => (∃ a7 a8, δ = cE k many deep most S.length (some (.d (.int i))) a7 a8 none) ∧ ∃ ss : List Bool, ss.length = many * i + j ∧ CE k ((chG ss).map gtD) (chL many ss.length) S S3)
      ⟨⟨_, _, rfl⟩, ss, by omega, E⟩ ?_).mono fun o S3 ⟨δ3, e3, ⟨b7, b8, hδ3⟩, ss3, hss3, E3⟩ => ⟨δ3, e3, ⟨_, b7, b8, hδ3⟩, ss3, ?_, E3⟩
    · rintro j v δ S3 hv ⟨⟨b7, b8, rfl⟩, ss3, hss3, E3⟩
      obtain ⟨hj, rfl⟩ := NT.rng_at hv
      refine ⟨cE k many deep most S.length (some (.d (.int i))) (some (.d (.int j))) b8 none, rfl, ?_⟩
      exact (chain_step hk hj hm (by omega) hss3 E3).mono fun o S4 ⟨δ4, e4, ⟨b8', h4⟩, b, E4⟩ => ⟨δ4, e4, ⟨_, b8', h4⟩, ss3 ++ [b], by simp [hss3]; omega, E4⟩
    · have : ((rngD 0 many).map V3.d).length = many := by simp [rngD]
      rw [this] at hss3
      rw [hss3, Nat.mul_add, Nat.mul_one]
  have hlen : ((rngD 0 deep).map V3.d).length = deep := by simp [rngD]
  rw [hlen] at hss
  subst hδ
  unfold cE
  have hC : Ch many deep (many * deep) ss := ⟨hm1, hd1, rfl, hss⟩
  refine w_seq <| w_set (by simp only [List.length_cons, List.length_nil, List.length_set]; omega) <| w_T (d := .tup (((List.range many).map (many * deep + ·)).map nI)) ?_ ?_ ⟨_, rfl, ?_⟩
  · have eg := E.g
    have ec := E.c
    simp only [downT, List.map_cons, List.map_nil, res, eg, ec]
    refine eCall_ok (ds := [.lst (((List.range many).map (many * deep + ·)).map nI)]) (aCons_ok (eNew_ok (nComp_ok (ds := (List.range many).map nI) ?_ (by simp; omega) ?_)) rfl) rfl
    · rw [← rng_nI]; exact rng1_ok (n := many) rfl (by omega)
    · rw [List.map_map]
      refine NT.compL_list nI _ fun j hj => ⟨[.val (nI j), .val (nI many), .val (.lst ((chG ss).map gtD))], rfl, rfl, ?_⟩
      refine e2_ok (a := .int ((many : Int) + ss.length - many)) (b := nI j) (e2_ok (a := .int ((many : Int) + ss.length)) (b := nI many) (e2_ok (a := nI many) (b := .int ss.length) rfl (eCall_ok (ds := [.lst ((chG ss).map gtD)]) rfl (by rw [lenL, List.length_map, chG_len])) rfl) rfl rfl) rfl ?_
      show R.ok (D.int ((many : Int) + ss.length - many + j)) = R.ok (D.int ((many * deep + j : Nat) : Int))
      congr 2
      omega
  · have : ∀ l : List Nat, tupD (.tup (l.map nI)) = true := fun l => by
      unfold tupD
      induction l with
      | nil => unfold List.map tupDs; rfl
      | cons w ws ih => rw [List.map_cons]; unfold tupDs; rw [ih]; rfl
    exact this _
  simp only [List.set_cons_succ, List.set_cons_zero]
  refine w_ret <| w_lst <| w_cons <| w_tup <| w_cons <| w_new (ds := (cIns many).map inD) ?_ <| w_cons <| w_var (v := .loc S.length) rfl <| w_cons <| w_new (ds := (cOs many (many * deep)).map ouD) ?_ <| w_nil ⟨by simp; omega, ?_⟩
  · exact nLst_ok (ds := [inD (wayS, many)]) (aCons_ok (eTup_ok (ds := [.str wayS, nI many]) rfl (by simp; omega)) rfl) (by simp; omega)
  · exact nLst_ok (ds := [ouD (endS, (List.range many).map (many * deep + ·))]) (aCons_ok (eTup_ok (ds := [.str endS, .tup (((List.range many).map (many * deep + ·)).map nI)]) rfl (by simp; omega)) rfl) (by simp; omega)
  refine w_cons <| w_var (v := .loc (S.length + 1)) rfl <| w_nil ⟨by simp; omega, _, rfl, ?_⟩
  have hl2 := E.len
  have la : (S2 ++ [SO.lst ((cIns many).map inD)]).length = S.length + 3 := by simp; omega
  generalize hU : S2 ++ [SO.lst ((cIns many).map inD)] ++ [SO.lst ((cOs many (many * deep)).map ouD)] = U
  have u0 : U[S.length]? = some (.lst ((chG ss).map gtD)) := by rw [← hU, List.getElem?_append_left (by omega), List.getElem?_append_left (by omega)]; exact E.g
  have u1 : U[S.length + 1]? = some (.lst (chL many ss.length)) := by rw [← hU, List.getElem?_append_left (by omega), List.getElem?_append_left (by omega)]; exact E.c
  have u2 : U[S2.length]? = some (.lst ((cIns many).map inD)) := by rw [← hU, List.getElem?_append_left (by omega)]; exact get_last _ _
  have u3 : U[(S2 ++ [SO.lst ((cIns many).map inD)]).length]? = some (.lst ((cOs many (many * deep)).map ouD)) := by rw [← hU]; exact get_last _ _
  have hF : Flat U := by rw [← hU]; exact (E.p.1.push (flatL _)).push (flatL _)
  have hT : U.take S.length = S2.take S.length := by rw [← hU, List.append_assoc, List.take_append_of_le_length (by omega)]
  refine ⟨hF, ?_, .lst [ntD many (many * deep) ss, chD many (many * deep)], ?_, ?_⟩
  · show geOk S.length (.lst [.tup [.loc S2.length, .loc S.length, .loc (S2 ++ [SO.lst ((cIns many).map inD)]).length], .loc (S.length + 1)]) = true
    rw [la]
    simp [geOk, gesOk]; omega
  · show res U (.lst [.tup [.loc S2.length, .loc S.length, .loc (S2 ++ [SO.lst ((cIns many).map inD)]).length], .loc (S.length + 1)]) = _
    simp only [res, ress, u0, u1, u2, u3, hss]
    rfl
  · rw [hT]
    refine h ss _ hC ⟨⟨E.p.1.take _, ?_⟩, by rw [List.length_take]; omega, fun j hj => ?_⟩
    · obtain ⟨_, x, c, e⟩ := E.p
      exact ⟨x, c, by rw [List.getElem?_take_of_lt hk]; exact e⟩
    · by_cases hjl : j < S.length
      · rw [List.getElem?_take_of_lt hjl, E.oth j hjl hj]
      · rw [List.getElem?_eq_none (by rw [List.length_take]; omega), List.getElem?_eq_none (by omega)]
end
end K20

end
section
set_option maxRecDepth 100000
set_option maxHeartbeats 4000000
namespace K20
open PySem PySem.Spec PyProof.Rows L2 L3 MT
section
variable {many deep L : Nat} {ss : List Bool}
theorem net_Ok (h : Ch many deep L ss) (hm : many ≤ 3) (hL : L ≤ 100) : NetOk (cIns many) (chG ss) (cOs many L) := by
  have hm1 := h.m1
  have hw : wid (cIns many) = many := by simp [wid, cIns]
  refine ⟨by simp [cIns], fun x hx => ?_, by rw [chG_len, h.s]; omega, fun i g hg => ?_, by simp [cOs], fun x hx => ?_⟩
  · unfold cIns at hx; rw [List.mem_singleton.mp hx]; exact (by omega : many < 100)
  · rw [chG_at] at hg
    cases q : ss[i]? with
    | none => rw [q] at hg; cases hg
    | some b =>
      rw [q] at hg
      cases hg
      refine ⟨Nat.zero_le _, rfl, fun w hw' => ?_⟩
      rw [List.mem_singleton] at hw'
      rw [hw]
      omega
  · unfold cOs at hx
    rw [List.mem_singleton.mp hx]
    refine ⟨by simp; omega, fun w hw' => ?_⟩
    obtain ⟨j, hj, rfl⟩ := List.mem_map.mp hw'
    rw [List.mem_range] at hj
    rw [hw, chG_len, h.s]
    omega
theorem outs_13 (h : Ch many deep L ss) (hm : many ≤ 3) : ∀ x ∈ cOs many L, 1 ≤ x.2.length ∧ x.2.length ≤ 3 := fun x hx => by
  have := h.m1
  unfold cOs at hx
  rw [List.mem_singleton.mp hx]
  simp
  omega
end
theorem al_dueD {safe : Bool} {many : Nat} {free : List Nat} {m : Nat} : Al 5 (dueD safe many free m) := by
  unfold dueD
  split
  · exact al_bear
  split
  · exact al_due (by simp)
  cases hd : dueP many free m with
  | none => exact al_bear
  | some d =>
    obtain ⟨one, h1, h2⟩ := List.exists_of_findSome?_eq_some hd
    obtain ⟨other, h3, h4⟩ := List.exists_of_findSome?_eq_some h2
    split at h4
    · cases h4; exact al_due (by simp)
    · cases h4
def lE (sc nt ch : D) (k many deep most : Nat) (a7 a8 a9 : Option V3) : DE := [some (.d sc), some (.loc k), some (.d (nI many)), some (.d (nI deep)), some (.d (nI most)), some (.d nt), some (.d ch), a7, a8, a9]
theorem lv_list : [D.str (Str.ofString "right"), D.str (Str.ofString "safe")] = [false, true].map fun b => D.str (lvS b) := rfl
theorem law_true (ns : List Int) (hns : ns.length ≤ 63) : d_law [.lst (ns.map D.int)] = .ok (.bl true) := by
  have hz : sizeLine = 16777216 := sizeLine_eq
  have key : W3 (fnP N_law F_law [.d (.lst (ns.map .int))] []) fun v S1 => v = .d (.bl true) ∧ S1 = [] := by
    refine w_PnF (w_K rfl ?_)
    simp only [xStart, N_law, List.map_cons, List.map_nil, List.length_cons, List.length_nil, List.replicate, List.cons_append, List.nil_append, Nat.reduceAdd, Nat.reduceSub]
    unfold F_law
    obtain ⟨c0, ec0⟩ := cell_ok ns 0
    obtain ⟨c1, ec1⟩ := cell_ok ns 1
    refine w_seq <| w_set (by simp only [List.length_cons, List.length_nil, List.length_set]; omega) <| w_call <| w_cons <| w_P (d := .int c0) (eCall_ok (ds := [.lst (ns.map .int), .int 0]) rfl ec0) <| w_nil <| reel_ok c0 Flat.nil fun S1 p1 l1 _ => ⟨_, rfl, ?_⟩
    simp only [List.set_cons_succ, List.set_cons_zero]
    simp only [List.length_nil] at p1 l1 ⊢
    refine w_seq <| w_set (by simp only [List.length_cons, List.length_nil, List.length_set]; omega) <| draw1 (k := 0) rfl p1 (by omega) (by omega) fun many S2 hm1 hm v2 => ⟨_, rfl, ?_⟩
    simp only [List.set_cons_succ, List.set_cons_zero]
    refine w_seq <| w_set (by simp only [List.length_cons, List.length_nil, List.length_set]; omega) <| draw1 (k := 0) rfl v2.p (by omega) (by omega) fun deep S3 hd1 hd v3 => ⟨_, rfl, ?_⟩
    simp only [List.set_cons_succ, List.set_cons_zero]
    refine w_seq <| w_set (by simp only [List.length_cons, List.length_nil, List.length_set]; omega) <| w_P (d := .int 3) rfl ⟨_, rfl, ?_⟩
    simp only [List.set_cons_succ, List.set_cons_zero]
    refine w_seq ?_
    have kc : W3 (zIf (xb2 dEq (xCall dP_law_take (xCons (xVar 1) (xCons (xP (eC (.int 3))) xNil))) (xP (eC (.int 0)))) (zSeq (zSet 3 (x2 dAdd (xP (eC (.int 8))) (xCall dP_law_take (xCons (xVar 1) (xCons (xP (eC (.int 13))) xNil))))) (zSet 4 (xP (eC (.int 2))))) zNil
        [some (.d (.lst (ns.map .int))), some (.loc 0), some (.d (.int many)), some (.d (.int deep)), some (.d (.int 3)), none, none, none, none, none] S3)
        fun o S4 => Pot 0 S4 ∧ ∃ deep most : Nat, 1 ≤ deep ∧ deep < 30 ∧ most ≤ 3 ∧ o = .nx [some (.d (.lst (ns.map .int))), some (.loc 0), some (.d (nI many)), some (.d (nI deep)), some (.d (nI most)), none, none, none, none, none] := by
      refine w_if <| w_b2 <| draw (k := 0) rfl v3.p rfl (by omega) (by omega) fun r S4 h1 h2 v4 => w_P (d := .int 0) rfl ⟨_, _, decide (r = 0), rfl, rfl, rfl, ?_⟩
      cases decide (r = 0) with
      | true =>
        rw [if_pos rfl]
        refine w_seq <| w_set (by simp only [List.length_cons, List.length_nil, List.length_set]; omega) <| w_2 <| w_P (d := .int 8) rfl <| draw (k := 0) rfl v4.p rfl (by omega) (by omega) fun r5 S5 h3 h4 v5 => ⟨_, _, .int ((8 + r5).toNat : Nat), rfl, rfl, by rw [Int.toNat_of_nonneg (by omega)]; rfl, _, rfl, ?_⟩
        simp only [List.set_cons_succ, List.set_cons_zero]
        exact w_set (by simp only [List.length_cons, List.length_nil, List.length_set]; omega) <| w_P (d := .int 2) rfl ⟨v5.p, (8 + r5).toNat, 2, by omega, by omega, by omega, rfl⟩
      | false =>
        rw [if_neg (by decide)]
        exact w_znil ⟨v4.p, deep, 3, by omega, by omega, by omega, rfl⟩
    refine kc.mono fun o S4 ⟨p4, deep', most, hd1', hd', hmo, e4⟩ => ⟨_, e4, ?_⟩
    refine w_seq <| w_asg <| w_call <| w_cons <| w_call <| w_cons <| w_P (d := .int c1) (eCall_ok (ds := [.lst (ns.map .int), .int 1]) rfl ec1) <| w_nil <| reel_ok c1 p4.1 fun S5 p5 l5 o5 => ?_
    refine w_cons <| w_P (d := nI many) rfl <| w_cons <| w_P (d := nI deep') rfl <| w_cons <| w_ix <| w_P (d := .lst [.int 1, .int 2, .int 3, .int 4, .int 0]) rfl ?_
    have p5' : Pot 0 S5 := by
      obtain ⟨_, x, c, e⟩ := p4
      exact ⟨p5.1, x, c, by rw [o5 0 (List.getElem?_eq_some_iff.mp e).1]; exact e⟩
    refine draw (k := 0) rfl p5' rfl (by omega) (by omega) fun r S6 h1 h2 v6 => ?_
    have hmost : ∃ w : Int, ixD (.lst [.int 1, .int 2, .int 3, .int 4, .int 0]) (.int r) = .ok (.int w) := by
      obtain q | q | q | q | q : r = 0 ∨ r = 1 ∨ r = 2 ∨ r = 3 ∨ r = 4 := by omega
      all_goals subst q; exact ⟨_, rfl⟩
    obtain ⟨w, hw⟩ := hmost
    have h0lt : 0 < S4.length := p4.lt
    have p6 : Pot S4.length S6 := by
      obtain ⟨_, x, c, e⟩ := p5
      exact ⟨v6.p.1, x, c, by rw [v6.oth _ (by omega)]; exact e⟩
    refine ⟨_, _, _, rfl, rfl, hw, w_nil <| chained_ok p6 hm1 (by omega) hd1' hd' fun ss S7 hC v7 => ?_⟩
    refine ⟨lE (.lst (ns.map .int)) (ntD many (many * deep') ss) (chD many (many * deep')) 0 many deep' most none none none, rfl, _, rfl, ?_⟩
    have hm3 : many ≤ 3 := by omega
    have hL : many * deep' ≤ 100 := by
      have := Nat.mul_le_mul_right deep' hm3
      omega
    have NO := net_Ok hC hm3 hL
    have hF7 : Flat S7 := v7.p.1
    have hE : ∀ a7 a8 a9, lE (.lst (ns.map .int)) (ntD many (many * deep') ss) (chD many (many * deep')) 0 many deep' most a7 a8 a9 = [some (.d (.lst (ns.map .int))), some (.loc 0), some (.d (nI many)), some (.d (nI deep')), some (.d (nI most)), some (.d (ntD many (many * deep') ss)), some (.d (chD many (many * deep'))), a7, a8, a9] := fun _ _ _ => rfl
    refine w_seq <| w_for <| w_iP (ds := rngD 0 (most + 1)) ?_ ?_
    · exact rng1_ok (n := most + 1) (e2_ok (a := nI most) (b := .int 1) rfl rfl rfl) (by omega)
    refine (loopX_inv (fun i δ S8 => S8 = S7 ∧ ∃ a7 a8 a9, δ = lE (.lst (ns.map .int)) (ntD many (many * deep') ss) (chD many (many * deep')) 0 many deep' most a7 a8 a9) ⟨rfl, _, _, _, rfl⟩ ?_).mono fun o S8 ⟨δ8, e8, hS8, a7, a8, a9, hδ⟩ => ⟨δ8, e8, ?_⟩
    · rintro i v δ S8 hv ⟨rfl, a7, a8, a9, rfl⟩
      obtain ⟨hi, rfl⟩ := NT.rng_at hv
      refine ⟨lE (.lst (ns.map .int)) (ntD many (many * deep') ss) (chD many (many * deep')) 0 many deep' most (some (.d (nI i))) a8 a9, rfl, ?_⟩
      unfold B_law_1
      refine w_for <| w_iP (ds := [false, true].map fun b => D.str (lvS b)) rfl ?_
      refine (loopX_inv (fun j δ S9 => S9 = S8 ∧ ∃ a8 a9, δ = lE (.lst (ns.map .int)) (ntD many (many * deep') ss) (chD many (many * deep')) 0 many deep' most (some (.d (nI i))) a8 a9) ⟨rfl, _, _, rfl⟩ ?_).mono fun o S9 ⟨δ9, e9, hS9, b8, b9, hδ9⟩ => ⟨δ9, e9, hS9, _, b8, b9, hδ9⟩
      rintro j v δ S9 hv ⟨rfl, b8, b9, rfl⟩
      obtain ⟨safe, _, rfl⟩ := NT.map_at hv
      refine ⟨lE (.lst (ns.map .int)) (ntD many (many * deep') ss) (chD many (many * deep')) 0 many deep' most (some (.d (nI i))) (some (.d (.str (lvS safe)))) b9, rfl, ?_⟩
      unfold B_law_0 lE
      refine w_seq <| w_set (by simp only [List.length_cons, List.length_nil, List.length_set]; omega) <| w_P (d := dueD safe many (uns (chG ss)) i) (eCall_ok (ds := [ntD many (many * deep') ss, chD many (many * deep'), nI many, .str (lvS safe), nI i]) rfl (due_ok hC hL)) ⟨_, rfl, ?_⟩
      simp only [List.set_cons_succ, List.set_cons_zero]
      refine w_if <| w_not <| w_tru <| w_callB <| w_cons <| w_call <| w_cons <| w_P (d := ntD many (many * deep') ss) rfl <| w_cons <| w_P (d := nI i) rfl <| w_cons <| w_P (d := .str (lvS safe)) rfl <| w_nil <| bears_ok (c := 1) NO rfl (by omega) (outs_13 hC hm3) (by rw [chG_len, hC.s]; exact hL) (by omega) hF7 ?_
      rw [bears_due hC hm3 (by omega)]
      refine w_cons <| w_P (d := dueD safe many (uns (chG ss)) i) rfl <| w_nil ⟨[_, _], .bl true, rfl, al_dueD, _, true, rfl, rfl, ?_⟩
      rw [if_neg (by decide)]
      exact w_znil ⟨_, rfl, rfl, _, _, rfl⟩
    subst hδ hS8
    unfold lE
    exact w_ret (w_P (d := .bl true) rfl ⟨_, rfl, hF7, by unfold geOk; rfl, .bl true, by unfold res; rfl, rfl, rfl⟩)
  obtain ⟨v, S1, e, rfl, rfl⟩ := key
  unfold d_law fnL
  simp only [List.map_cons, List.map_nil]
  rw [e]
  rfl
end K20

end
open PySem PySem.W PyProof.Rows
set_option maxRecDepth 100000 in
set_option maxHeartbeats 0 in
theorem PySem.Challenge.cw_bearfaults_k20_chains_of_nots_holds : PySem.Challenge.rw_bearfaults_k20_chains_of_nots.Holds := by
  w_on; o_law; k_head; (case hw => w_witness2)
  k_fill
  refine L2.walkL (l := PySem.Challenge.rw_bearfaults_k20_chains_of_nots) (n := 63) (k := 9) (x := Str.ofString "script") (g := K20.d_law) rfl (by decide) rfl ⟨rfl, by decide, by decide⟩ (fun w h Y => PySem.W.kIn_of Y) ?F K20.law_true
  case F =>
    intro w mg fa h KX G hmg
    have D_vote_of : L2.Def (L2.KOf KX) mg (Str.ofString "vote_of") K20.s_vote_of := by
      dsimp only [L2.KOf]
      refine' L2.def_mk KX G ?a ?l ?c ?k
      (case a => k_is); (case l => k_is); (case c => k_is); (case k => k_is)
    have D_gate_mask : L2.Def (L2.KOf KX) mg (Str.ofString "gate_mask") K20.s_gate_mask := by
      dsimp only [L2.KOf]
      refine' L2.def_mk KX G ?a ?l ?c ?k
      (case a => k_is); (case l => k_is); (case c => k_is); (case k => k_is)
    have D_in_wire_masks : L2.Def (L2.KOf KX) mg (Str.ofString "in_wire_masks") K20.s_in_wire_masks := by
      dsimp only [L2.KOf]
      refine' L2.def_mk KX G ?a ?l ?c ?k
      (case a => k_is); (case l => k_is); (case c => k_is); (case k => k_is)
    have D_masks_at : L2.Def (L2.KOf KX) mg (Str.ofString "masks_at") K20.s_masks_at := by
      dsimp only [L2.KOf]
      refine' L2.def_mk KX G ?a ?l ?c ?k
      (case a => k_is); (case l => k_is); (case c => k_is); (case k => k_is)
    have D_wire_masks : L2.Def (L2.KOf KX) mg (Str.ofString "wire_masks") K20.s_wire_masks := by
      dsimp only [L2.KOf]
      refine' L2.def_mk KX G ?a ?l ?c ?k
      (case a => k_is); (case l => k_is); (case c => k_is); (case k => k_is)
    have D_out_masks : L2.Def (L2.KOf KX) mg (Str.ofString "out_masks") K20.s_out_masks := by
      dsimp only [L2.KOf]
      refine' L2.def_mk KX G ?a ?l ?c ?k
      (case a => k_is); (case l => k_is); (case c => k_is); (case k => k_is)
    have D_reading : L2.Def (L2.KOf KX) mg (Str.ofString "reading") K20.s_reading := by
      dsimp only [L2.KOf]
      refine' L2.def_mk KX G ?a ?l ?c ?k
      (case a => k_is); (case l => k_is); (case c => k_is); (case k => k_is)
    have D_bit_at : L2.Def (L2.KOf KX) mg (Str.ofString "bit_at") K20.s_bit_at := by
      dsimp only [L2.KOf]
      refine' L2.def_mk KX G ?a ?l ?c ?k
      (case a => k_is); (case l => k_is); (case c => k_is); (case k => k_is)
    have D_all_inputs : L2.Def (L2.KOf KX) mg (Str.ofString "all_inputs") K20.s_all_inputs := by
      dsimp only [L2.KOf]
      refine' L2.def_mk KX G ?a ?l ?c ?k
      (case a => k_is); (case l => k_is); (case c => k_is); (case k => k_is)
    have D_mask_of : L2.Def (L2.KOf KX) mg (Str.ofString "mask_of") K20.s_mask_of := by
      dsimp only [L2.KOf]
      refine' L2.def_mk KX G ?a ?l ?c ?k
      (case a => k_is); (case l => k_is); (case c => k_is); (case k => k_is)
    have D_in_mask : L2.Def (L2.KOf KX) mg (Str.ofString "in_mask") K20.s_in_mask := by
      dsimp only [L2.KOf]
      refine' L2.def_mk KX G ?a ?l ?c ?k
      (case a => k_is); (case l => k_is); (case c => k_is); (case k => k_is)
    have D_choices : L2.Def (L2.KOf KX) mg (Str.ofString "choices") K20.s_choices := by
      dsimp only [L2.KOf]
      refine' L2.def_mk KX G ?a ?l ?c ?k
      (case a => k_is); (case l => k_is); (case c => k_is); (case k => k_is)
    have D_bears : L2.Def (L2.KOf KX) mg (Str.ofString "bears") K20.s_bears := by
      dsimp only [L2.KOf]
      refine' L2.def_mk KX G ?a ?l ?c ?k
      (case a => k_is); (case l => k_is); (case c => k_is); (case k => k_is)
    have D_law_cell_at : L2.Def (L2.KOf KX) mg (Str.ofString "_law_cell_at") K20.s_law_cell_at := by
      dsimp only [L2.KOf]
      refine' L2.def_mk KX G ?a ?l ?c ?k
      (case a => k_is); (case l => k_is); (case c => k_is); (case k => k_is)
    have D_law_reel : L2.Def (L2.KOf KX) mg (Str.ofString "_law_reel") K20.s_law_reel := by
      dsimp only [L2.KOf]
      refine' L2.def_mk KX G ?a ?l ?c ?k
      (case a => k_is); (case l => k_is); (case c => k_is); (case k => k_is)
    have D_law_take : L2.Def (L2.KOf KX) mg (Str.ofString "_law_take") K20.s_law_take := by
      dsimp only [L2.KOf]
      refine' L2.def_mk KX G ?a ?l ?c ?k
      (case a => k_is); (case l => k_is); (case c => k_is); (case k => k_is)
    have D_law_alike : L2.Def (L2.KOf KX) mg (Str.ofString "_law_alike") K20.s_law_alike := by
      dsimp only [L2.KOf]
      refine' L2.def_mk KX G ?a ?l ?c ?k
      (case a => k_is); (case l => k_is); (case c => k_is); (case k => k_is)
    have D_law_chained : L2.Def (L2.KOf KX) mg (Str.ofString "_law_chained") K20.s_law_chained := by
      dsimp only [L2.KOf]
      refine' L2.def_mk KX G ?a ?l ?c ?k
      (case a => k_is); (case l => k_is); (case c => k_is); (case k => k_is)
    have D_law_due : L2.Def (L2.KOf KX) mg (Str.ofString "_law_due") K20.s_law_due := by
      dsimp only [L2.KOf]
      refine' L2.def_mk KX G ?a ?l ?c ?k
      (case a => k_is); (case l => k_is); (case c => k_is); (case k => k_is)
    have D_law : L2.Def (L2.KOf KX) mg (Str.ofString "law") K20.s_law := by
      dsimp only [L2.KOf]
      refine' L2.def_mk KX G ?a ?l ?c ?k
      (case a => k_is); (case l => k_is); (case c => k_is); (case k => k_is)
    obtain ⟨cl, CF⟩ : ∃ cl, K20.Cf (L2.KOf KX) mg cl := by
      dsimp only [L2.KOf]
      refine' K20.cf_mk KX G ?aC0 ?pg0 ?hd0 ?po0 ?sa0 ?mk0 ?kc0 ?n0_net ?n0_many_inputs ?n0_full ?n0_in_masks ?aC1 ?pg1 ?hd1 ?po1 ?sa1 ?mk1 ?kc1 ?n1_bench ?n1_plain ?n1_unsure ?a_Bench___init__ ?i_Bench___init__ ?l_Bench___init__ ?c_Bench___init__ ?k_Bench___init__ ?a_Bench_tells ?i_Bench_tells ?l_Bench_tells ?c_Bench_tells ?k_Bench_tells ?a_Bench_readings ?i_Bench_readings ?l_Bench_readings ?c_Bench_readings ?k_Bench_readings ?a_Trial___init__ ?i_Trial___init__ ?l_Trial___init__ ?c_Trial___init__ ?k_Trial___init__ ?a_Trial_breaks_at ?i_Trial_breaks_at ?l_Trial_breaks_at ?c_Trial_breaks_at ?k_Trial_breaks_at ?a_Bench_inputs_in ?i_Bench_inputs_in ?l_Bench_inputs_in ?c_Bench_inputs_in ?k_Bench_inputs_in
      (case aC0 => k_is)
      (case pg0 => k_is)
      (case hd0 => k_is)
      (case po0 => k_is)
      (case sa0 => k_is)
      (case mk0 => k_is)
      (case kc0 => k_is)
      (case n0_net => k_is)
      (case n0_many_inputs => k_is)
      (case n0_full => k_is)
      (case n0_in_masks => k_is)
      (case aC1 => k_is)
      (case pg1 => k_is)
      (case hd1 => k_is)
      (case po1 => k_is)
      (case sa1 => k_is)
      (case mk1 => k_is)
      (case kc1 => k_is)
      (case n1_bench => k_is)
      (case n1_plain => k_is)
      (case n1_unsure => k_is)
      (case a_Bench___init__ => k_is)
      (case i_Bench___init__ => k_is)
      (case l_Bench___init__ => k_is)
      (case c_Bench___init__ => k_is)
      (case k_Bench___init__ => k_is)
      (case a_Bench_tells => k_is)
      (case i_Bench_tells => k_is)
      (case l_Bench_tells => k_is)
      (case c_Bench_tells => k_is)
      (case k_Bench_tells => k_is)
      (case a_Bench_readings => k_is)
      (case i_Bench_readings => k_is)
      (case l_Bench_readings => k_is)
      (case c_Bench_readings => k_is)
      (case k_Bench_readings => k_is)
      (case a_Trial___init__ => k_is)
      (case i_Trial___init__ => k_is)
      (case l_Trial___init__ => k_is)
      (case c_Trial___init__ => k_is)
      (case k_Trial___init__ => k_is)
      (case a_Trial_breaks_at => k_is)
      (case i_Trial_breaks_at => k_is)
      (case l_Trial_breaks_at => k_is)
      (case c_Trial_breaks_at => k_is)
      (case k_Trial_breaks_at => k_is)
      (case a_Bench_inputs_in => k_is)
      (case i_Bench_inputs_in => k_is)
      (case l_Bench_inputs_in => k_is)
      (case c_Bench_inputs_in => k_is)
      (case k_Bench_inputs_in => k_is)
    have D_Bench___init__ := CF.D_Bench___init__
    have D_Bench_tells := CF.D_Bench_tells
    have D_Bench_readings := CF.D_Bench_readings
    have D_Trial___init__ := CF.D_Trial___init__
    have D_Trial_breaks_at := CF.D_Trial_breaks_at
    have D_Bench_inputs_in := CF.D_Bench_inputs_in
    have T : K20.Tp (L2.KOf KX) mg cl := by
      dsimp only [L2.KOf]
      refine' ⟨PySem.W.mg_none_of KX G ?z_enumerate, PySem.W.mg_none_of KX G ?z_range, PySem.W.mg_none_of KX G ?z_len, PySem.W.mg_none_of KX G ?z_tuple, PySem.W.mg_none_of KX G ?z_reversed, PySem.W.mg_none_of KX G ?z_zip, PySem.W.mg_none_of KX G ?z_abs, PySem.W.mg_none_of KX G ?z_isinstance, PySem.W.mg_none_of KX G ?z_bool, PySem.W.mg_none_of KX G ?z_int, PySem.W.mg_none_of KX G ?z_str, PySem.W.mg_none_of KX G ?z_list, CF.C_Bench, CF.N_Bench_net, CF.N_Bench_many_inputs, CF.N_Bench_full, CF.N_Bench_in_masks, CF.M_Bench, CF.C_Trial, CF.N_Trial_bench, CF.N_Trial_plain, CF.N_Trial_unsure, CF.M_Trial⟩
      (case z_enumerate => k_is); (case z_range => k_is); (case z_len => k_is); (case z_tuple => k_is); (case z_reversed => k_is); (case z_zip => k_is); (case z_abs => k_is); (case z_isinstance => k_is); (case z_bool => k_is); (case z_int => k_is); (case z_str => k_is); (case z_list => k_is)
    obtain ⟨fl, fd, Fl, hl⟩ := D_law
    have e0 := hmg.symm.trans hl
    cases e0
    refine' ⟨fd, ?b, fun base kb nb => K20.law_ok T D_vote_of D_gate_mask D_in_wire_masks D_masks_at D_wire_masks D_out_masks D_reading D_bit_at D_all_inputs D_mask_of D_in_mask D_choices D_Bench___init__ D_Bench_tells D_Bench_readings D_Trial___init__ D_Trial_breaks_at D_Bench_inputs_in D_bears D_law_cell_at D_law_reel D_law_take D_law_alike D_law_chained D_law_due Fl⟩
    obtain ⟨_, _, _, _, _, _, _, _, _, e, _, _⟩ := Fl.ex
    subst e
    exact fun s u => .of_eq rfl
