import PyProof.Rows.All
import Wide.All
import OpenK.AllK
import Wide.FinOn
import Lean
import PyProof.EqAt
import PyProof.EqKinds
import PyProof.TupleCall
import PyProof.Rows.StrJoin2
import PyProof.TupleOfGen
import PyProof.ListRange
import PyProof.Draws
import PyProof.Rows.StrClose3
import KE.KSortedM
import PyProof.Rows.SortWalk
import PyProof.WalkInts
import PyProof.Rows.Range3
import PyProof.ZipIter
import PyProof.ConsumeWalk
import PyProof.Rows.SeqMore
import KE.KRevIter
import KE.KRevSl
import PySem.Challenge.RW_bearfaults_k12_whole_turned_is_a_not
set_option Elab.async false
set_option linter.all false
set_option maxRecDepth 100000
set_option maxHeartbeats 4000000

section
-- CHANGE: your row's module here, as the last of these rows
set_option maxRecDepth 100000
/-! THE HAND LAYER, for ints, bools, texts, own classes, DICTS (int and text keys), calls, loops. Paste it whole ahead of your own text; what your proof does not reach may be deleted. -/
namespace L2
open PySem PySem.Spec PyProof.Rows

/-- a key: an int or a str -/
abbrev Key := Sum Int Str
def keyIs : Key → Value → Bool
  | .inl k, v => Value.isInt k v
  | .inr x, v => Value.isStrOf x v
def keyH (w : World) : Key → Int
  | .inl k => hashInt k
  | .inr x => hashStr w x
theorem keyIs_shape : ∀ {k : Key} {v : Value}, keyIs k v = true → (∃ i t, k = Sum.inl i ∧ v = Value.int i t) ∨ (∃ x t, k = Sum.inr x ∧ v = Value.str x t)
  | .inl i, v, h => by
    obtain ⟨t, e⟩ := Value.isInt_shape (k := i) (v := v) h
    exact .inl ⟨i, t, rfl, e⟩
  | .inr x, v, h => by
    obtain ⟨t, e⟩ := Value.isStrOf_shape (x := x) (v := v) h
    exact .inr ⟨x, t, rfl, e⟩
theorem keyIs_int (i : Int) (t : Tok) : keyIs (.inl i) (.int i t) = true := by simp [keyIs, Value.isInt]
theorem keyIs_str (x : Str) (t : Tok) : keyIs (.inr x) (.str x t) = true := by simp [keyIs, Value.isStrOf]
theorem key_ll (a b : Int) : decide ((Sum.inl a : Key) = Sum.inl b) = (a == b) := by
  by_cases e : a = b
  · subst e; simp
  · have h : ¬ (Sum.inl a : Key) = Sum.inl b := fun q => e (Sum.inl.inj q)
    rw [decide_eq_false h]
    exact (beq_eq_false_iff_ne.mpr e).symm
theorem key_rr (a b : Str) : decide ((Sum.inr a : Key) = Sum.inr b) = decide (a = b) := by
  by_cases e : a = b
  · subst e; simp
  · have h : ¬ (Sum.inr a : Key) = Sum.inr b := fun q => e (Sum.inr.inj q)
    rw [decide_eq_false h, decide_eq_false e]
theorem key_lr (a : Int) (b : Str) : decide ((Sum.inl a : Key) = Sum.inr b) = false := decide_eq_false (fun q => nomatch q)
theorem key_rl (a : Str) (b : Int) : decide ((Sum.inr a : Key) = Sum.inl b) = false := decide_eq_false (fun q => nomatch q)

def mixKind (prog : Program) (w : World) : PySem.KeyKind prog w Key where
  is := keyIs
  hash := keyH w
  inj := fun v a b ha hb => by
    rcases keyIs_shape ha with ⟨i, t, rfl, rfl⟩ | ⟨x, t, rfl, rfl⟩
    · rcases keyIs_shape hb with ⟨j, u, rfl, e⟩ | ⟨y, u, rfl, e⟩
      · injection e with e1 _; rw [e1]
      · exact nomatch e
    · rcases keyIs_shape hb with ⟨j, u, rfl, e⟩ | ⟨y, u, rfl, e⟩
      · exact nomatch e
      · injection e with e1 _; rw [e1]
  byValue := fun k v h => by
    rcases keyIs_shape h with ⟨i, t, rfl, rfl⟩ | ⟨x, t, rfl, rfl⟩ <;> rfl
  pyHash := fun hv h => by
    rcases keyIs_shape hv with ⟨i, t, rfl, rfl⟩ | ⟨x, t, rfl, rfl⟩
    · exact wpAny_pyHash_int h
    · exact wpAny_pyHash_str h
  eqBool := fun hu hv h => by
    rcases keyIs_shape hu with ⟨i, t, rfl, rfl⟩ | ⟨x, t, rfl, rfl⟩
    · rcases keyIs_shape hv with ⟨j, u, rfl, rfl⟩ | ⟨y, u, rfl, rfl⟩
      · rw [key_ll] at h; exact wpAny_eqBool_int h
      · rw [key_lr] at h; exact SeqAt.EqAt.int_str i t y u _ _ _ _ h
    · rcases keyIs_shape hv with ⟨j, u, rfl, rfl⟩ | ⟨y, u, rfl, rfl⟩
      · rw [key_rl] at h; exact SeqAt.EqAt.str_int x t j u _ _ _ _ h
      · rw [key_rr] at h; exact wpAny_eqBool_str h
  «strs» := fun k x t v h => by
    rcases keyIs_shape h with ⟨i, u, rfl, e⟩ | ⟨y, u, rfl, e⟩
    · exact nomatch e
    · injection e with e1 _
      subst e1
      cases v <;> rfl

theorem mixKind_int (prog : Program) (w : World) (i : Int) (t : Tok) : (mixKind prog w).is (.inl i) (.int i t) = true := keyIs_int i t
theorem mixKind_str (prog : Program) (w : World) (x : Str) (t : Tok) : (mixKind prog w).is (.inr x) (.str x t) = true := keyIs_str x t
end L2

namespace L2
open PySem PySem.Spec PyProof.Rows

/-- a value, without the heap -/
inductive V where
  | non | bl (b : Bool) | int (i : Int) | str (x : Str) | byt (b : Array UInt8) | flt (b : UInt64) | ref (a : Addr) | ty (n : String)
  deriving DecidableEq

def RelV : V → Value → Prop
  | .non, u => u = Value.none
  | .bl b, u => u = Value.bool b
  | .int i, u => ∃ t, u = Value.int i t
  | .str x, u => ∃ t, u = Value.str x t
  | .byt b, u => ∃ t, u = Value.bytes b t
  | .flt b, u => ∃ t, u = Value.float b t
  | .ref a, u => u = Value.ref a
  | .ty n, u => u = Value.type n

abbrev Vals : List V → List Value → Prop := Paired RelV
theorem Vals.length {xs : List V} {us : List Value} (r : Vals xs us) : xs.length = us.length := Paired.length r
theorem Vals.get : ∀ {xs : List V} {us : List Value} {i : Nat} {x : V}, Vals xs us → xs[i]? = some x → ∃ u, us[i]? = some u ∧ RelV x u
  | _, _, _, _, .nil, e => by simp at e
  | _, _, 0, _, .cons r _, e => by simp at e; subst e; exact ⟨_, rfl, r⟩
  | _, _, i + 1, x, .cons _ t, e => by
    obtain ⟨u, h1, h2⟩ := Vals.get (i := i) (x := x) t (by simpa using e)
    exact ⟨u, by simpa using h1, h2⟩
theorem Vals.set {x : V} {u : Value} (r : RelV x u) : ∀ {xs : List V} {us : List Value} (i : Nat), Vals xs us → Vals (xs.set i x) (us.set i u)
  | _, _, _, .nil => .nil
  | _, _, 0, .cons _ t => .cons r t
  | _, _, i + 1, .cons q t => .cons q (Vals.set r i t)
theorem Vals.append : ∀ {xs ys : List V} {us ws : List Value}, Vals xs us → Vals ys ws → Vals (xs ++ ys) (us ++ ws)
  | _, _, _, _, .nil, s => s
  | _, _, _, _, .cons r t, s => .cons r (Vals.append t s)
theorem Vals.take : ∀ {xs : List V} {us : List Value} (n : Nat), Vals xs us → Vals (xs.take n) (us.take n)
  | _, _, 0, _ => .nil
  | _, _, _ + 1, .nil => .nil
  | _, _, n + 1, .cons r t => .cons r (Vals.take n t)
theorem Vals.drop : ∀ {xs : List V} {us : List Value} (n : Nat), Vals xs us → Vals (xs.drop n) (us.drop n)
  | _, _, 0, r => r
  | _, _, _ + 1, .nil => .nil
  | _, _, n + 1, .cons _ t => Vals.drop n t
def RelO : Option V → Option Value → Prop
  | some v, some u => RelV v u
  | none, none => True
  | _, _ => False
def KV {κ : Type} : List (κ × V) → List (κ × Value) → Prop := Paired fun (p : κ × V) (q : κ × Value) => p.1 = q.1 ∧ RelV p.2 q.2

/-- a key of a dict (00_mix): an int or a text -/
def kV : Key → V
  | .inl i => .int i
  | .inr x => .str x

/-- what stands at a tracked address -/
inductive HO where
  /-- a list -/
  | lst (xs : List V)
  /-- a tuple (never changes) -/
  | tup (xs : List V)
  /-- a dict whose keys are ints and texts; one whose keys are tuples of ints and texts (the empty one is both) -/
  | dK (kvs : List (Key × V)) | dT (kvs : List (List Key × V))
  /-- a set of ints: its members, its size -/
  | set (S : Int → Bool) (n : Nat)
  /-- an instance of the class at C, its dict at dx, its attributes -/
  | ins (C dx : Addr) (fs : List (Str × V))
  /-- the dict of the instance at x -/
  | own (x : Addr)
  /-- the dict of an exception -/
  | xd (fs : List (Str × V))
  /-- a bound method, f of x -/
  | met (f x : Addr)
  /-- a range object lo, lo + 1, .. below hi -/
  | rng (lo hi : Int)
  /-- a thing that is known to the object (the script; a dict while a loop walks it): read, never written while it is so -/
  | frz (o : Obj) (u : HO)
  /-- a code object's table -/
  | tbl (ps : Array Value)
  /-- any other thing, by what is true of its one object (a def of one's own: SetO a S n := HO.ext fun h => ..) -/
  | ext (φ : Heap → Prop)

abbrev Hp := Addr → Option HO
def upd (H : Hp) (a : Addr) (o : HO) : Hp := fun b => if b = a then some o else H b
theorem upd_same {H : Hp} {a : Addr} {o : HO} : upd H a o a = some o := by unfold upd; rw [if_pos rfl]
theorem upd_ne {H : Hp} {a b : Addr} {o : HO} (h : b ≠ a) : upd H a o b = H b := by unfold upd; rw [if_neg h]
theorem upd_upd {H : Hp} {a : Addr} {o u : HO} : upd (upd H a o) a u = upd H a u := by
  funext b; unfold upd; split <;> rfl
theorem ne_of_none {H : Hp} {a b : Addr} {o : HO} (h : H a = some o) (h' : H b = none) : a ≠ b := by
  intro e; subst e; rw [h] at h'; cases h'

section
variable (P : Program) (w : World)
def ObjOk (H : Hp) (h : Heap) (a : Addr) : HO → Prop
  | .lst xs => xs.length ≤ sizeLine ∧ ∃ (its : List Value) (n : Nat), Vals xs its ∧ h.get? a = some { cls := .type "list", data := .seq its.toArray n }
  | .tup xs => xs.length ≤ sizeLine ∧ ∃ its : List Value, Vals xs its ∧ IsTup h a its.toArray
  | .dK kvs => kvs.length ≤ sizeLine ∧ (a == sysModules) = false ∧ ∃ vs, KV kvs vs ∧ h.DictOf (mixKind P w) a vs
  | .dT kvs => kvs.length ≤ sizeLine ∧ (a == sysModules) = false ∧ ∃ xs : List (List Key × Addr × Value),
      Paired (fun (p : List Key × V) (q : List Key × Addr × Value) => p.1 = q.1 ∧ H q.2.1 = some (.tup (p.1.map kV)) ∧ RelV p.2 q.2.2) kvs xs ∧
      ∃ o es ep, h.get? a = some o ∧ o.ExactDict ∧ o.data = .dict es ep ∧ es.toList = xs.map (entryOfKey (tupleKind (mixKind P w))) ∧ (xs.map (·.1)).Nodup
  | .set S n => h.SetOf (intKind P w) a S n
  | .ins C dx fs => H dx = some (.own a) ∧ fs.length ≤ 1000 ∧ dx ≠ a ∧ h.get? a = some (PySem.W.instObj C dx) ∧
      ∃ mA, h.Ns1 dx mA ∧ (∀ f, RelO (fs.lookup f) (mA f)) ∧ PySem.Within mA (fs.map (·.1))
  | .own _ => ∃ o, h.get? a = some o
  | .xd fs => ∃ mA, h.Ns1 a mA ∧ ∀ f, RelO (fs.lookup f) (mA f)
  | .rng lo hi => ∃ t u v, h.get? a = some { cls := .type "range", data := .fields #[.int lo t, .int hi u, .int 1 v] }
  | .frz o u => h.get? a = some o ∧ ObjOk H h a u
  | .tbl ps => h.get? a = some { cls := .none, data := .fields ps }
  | .met f x => h.get? a = some (PySem.W.methodObj (.ref f) (.ref x))
  | .ext φ => φ h ∧ (∃ o, h.get? a = some o) ∧ ∀ h1 h2 : Heap, φ h1 → (∀ o, h1.get? a = some o → h2.get? a = some o) → φ h2
/-- the abstract heap is held -/
def HOk (H : Hp) (h : Heap) : Prop := ∀ a o, H a = some o → ObjOk P w H h a o
end

section
variable {P : Program} {w : World} {H H' : Hp} {h h' : Heap} {a : Addr} {o : HO}
theorem ObjOk.lt (x : ObjOk P w H h a o) : a < h.objs.size := by
  cases o with
  | lst xs => obtain ⟨_, _, _, _, e⟩ := x; exact Heap.lt_size e
  | tup xs => obtain ⟨_, _, _, p⟩ := x; exact p.lt
  | dK kvs => obtain ⟨_, _, _, _, o, _, _, e, _⟩ := x; exact Heap.lt_size e
  | dT kvs => obtain ⟨_, _, _, _, o, _, _, e, _⟩ := x; exact Heap.lt_size e
  | set S n => obtain ⟨o, _, _, _, e, _⟩ := x; exact Heap.lt_size e
  | ins C dx fs => obtain ⟨_, _, _, e, _⟩ := x; exact Heap.lt_size e
  | own y => obtain ⟨_, e⟩ := x; exact Heap.lt_size e
  | xd fs => obtain ⟨_, ⟨_, _, _, e, _⟩, _⟩ := x; exact Heap.lt_size e
  | rng lo hi => obtain ⟨_, _, _, e⟩ := x; exact Heap.lt_size e
  | frz ob u => obtain ⟨e, _⟩ := x; exact Heap.lt_size e
  | tbl ps => exact Heap.lt_size (show h.get? a = some _ from x)
  | met f y => exact Heap.lt_size (show h.get? a = some _ from x)
  | ext φ => obtain ⟨_, ⟨_, e⟩, _⟩ := x; exact Heap.lt_size e
theorem Paired.mapP {α β : Type} {F G : α → β → Prop} : ∀ {l₁ : List α} {l₂ : List β}, Paired F l₁ l₂ → (∀ a b, F a b → G a b) → Paired G l₁ l₂
  | _, _, .nil, _ => .nil
  | _, _, .cons r t, f => .cons (f _ _ r) (Paired.mapP t f)
/-- what an object's description leans on: its own object, its own dict, the tuples -/
theorem ObjOk.stay (x : ObjOk P w H h a o) (k : ∀ b u, (b = a ∨ H b = some (.own a)) → h.get? b = some u → h'.get? b = some u)
    (ho : ∀ b, H b = some (.own a) → H' b = some (.own a)) (ht : ∀ b xs, H b = some (.tup xs) → H' b = some (.tup xs)) : ObjOk P w H' h' a o := by
  induction o with
  | lst xs => obtain ⟨z, its, n, r, e⟩ := x; exact ⟨z, its, n, r, k _ _ (.inl rfl) e⟩
  | tup xs => obtain ⟨z, its, r, ob, e, c⟩ := x; exact ⟨z, its, r, ob, k _ _ (.inl rfl) e, c⟩
  | dK kvs => obtain ⟨z, y, vs, r, ob, es, ep, e, c⟩ := x; exact ⟨z, y, vs, r, ob, es, ep, k _ _ (.inl rfl) e, c⟩
  | dT kvs =>
    obtain ⟨z, y, xs, r, ob, es, ep, e, c⟩ := x
    exact ⟨z, y, xs, Paired.mapP r fun p q z => ⟨z.1, ht _ _ z.2.1, z.2.2⟩, ob, es, ep, k _ _ (.inl rfl) e, c⟩
  | set S n => obtain ⟨ob, es, ep, t, e, c⟩ := x; exact ⟨ob, es, ep, t, k _ _ (.inl rfl) e, c⟩
  | ins C dx fs =>
    obtain ⟨d, z, ne, e, mA, ⟨od, es, ep, e2, c⟩, r⟩ := x
    exact ⟨ho _ d, z, ne, k _ _ (.inl rfl) e, mA, ⟨od, es, ep, k _ _ (.inr d) e2, c⟩, r⟩
  | own y => obtain ⟨ob, e⟩ := x; exact ⟨ob, k _ _ (.inl rfl) e⟩
  | xd fs => obtain ⟨mA, ⟨od, es, ep, e, c⟩, r⟩ := x; exact ⟨mA, ⟨od, es, ep, k _ _ (.inl rfl) e, c⟩, r⟩
  | rng lo hi => obtain ⟨t, u, v, e⟩ := x; exact ⟨t, u, v, k _ _ (.inl rfl) e⟩
  | frz ob u ih => obtain ⟨e, q⟩ := x; exact ⟨k _ _ (.inl rfl) e, ih q⟩
  | tbl ps =>
    have e : h.get? a = some { cls := .none, data := .fields ps } := x
    show h'.get? a = some { cls := .none, data := .fields ps }
    exact k a _ (.inl rfl) e
  | met f y =>
    have e : h.get? a = some (PySem.W.methodObj (.ref f) (.ref y)) := x
    show h'.get? a = some (PySem.W.methodObj (.ref f) (.ref y))
    exact k a _ (.inl rfl) e
  | ext φ => obtain ⟨p, ⟨o, e⟩, st⟩ := x; exact ⟨st _ _ p fun o q => k _ _ (.inl rfl) q, ⟨o, k _ _ (.inl rfl) e⟩, st⟩
theorem HOk.lt (x : HOk P w H h) (e : H a = some o) : a < h.objs.size := (x a o e).lt
theorem HOk.fresh (x : HOk P w H h) (e : h.objs.size ≤ a) : H a = none := by
  cases q : H a with
  | none => rfl
  | some u => exact absurd (Nat.lt_of_lt_of_le (x.lt q) e) (Nat.lt_irrefl _)
/-- every object of the heap is kept -/
theorem HOk.kept (x : HOk P w H h) (k : ∀ b u, h.get? b = some u → h'.get? b = some u) : HOk P w H h' := fun a o e =>
  (x a o e).stay (fun b u _ q => k b u q) (fun _ q => q) fun _ _ q => q
/-- a new object is laid and tracked -/
theorem HOk.laid (x : HOk P w H h) (k : ∀ b u, h.get? b = some u → h'.get? b = some u) (hp : h.objs.size ≤ a) (new : ObjOk P w (upd H a o) h' a o) : HOk P w (upd H a o) h' := fun b u e => by
  have hn := x.fresh hp
  by_cases hb : b = a
  · subst hb; rw [upd_same] at e; cases e; exact new
  · rw [upd_ne hb] at e
    exact (x b u e).stay (fun c v _ q => k c v q) (fun c q => by rw [upd_ne (ne_of_none q hn)]; exact q) fun c xs q => by rw [upd_ne (ne_of_none q hn)]; exact q
end

/-- what may be read as u: it is u, or a known u -/
def Rd (H : Hp) (a : Addr) (u : HO) : Prop := H a = some u ∨ ∃ o, H a = some (.frz o u)
theorem Rd.ok {P : Program} {w : World} {H : Hp} {h : Heap} {a : Addr} {u : HO} (r : Rd H a u) (x : HOk P w H h) : ObjOk P w H h a u := by
  rcases r with r | ⟨o, r⟩
  · exact x a u r
  · obtain ⟨_, q⟩ := x a _ r
    exact q
/-- what may be written -/
def Mut : Option HO → Prop
  | some (.lst _) => True
  | some (.dK _) => True
  | some (.dT _) => True
  | some (.set _ _) => True
  | some (.ins _ _ _) => True
  | some (.ext _) => True
  | _ => False
section
variable {P : Program} {w : World} {H : Hp} {h h' : Heap} {x e : Addr} {o' : HO}
/-- the object at e is changed: x itself, or the dict of the instance x -/
theorem HOk.write (ok : HOk P w H h) (mu : Mut (H x)) (he : e = x ∨ H e = some (.own x)) (k : ∀ b u, b ≠ e → h.get? b = some u → h'.get? b = some u) (heo : ∃ u, h'.get? e = some u)
    (new : ObjOk P w (upd H x o') h' x o') : HOk P w (upd H x o') h' := fun b u q => by
  have nown : ∀ c y, H c = some (.own y) → c ≠ x := fun c y r z => by subst z; rw [r] at mu; exact mu
  have ntup : ∀ c xs, H c = some (.tup xs) → c ≠ x := fun c xs r z => by subst z; rw [r] at mu; exact mu
  by_cases hb : b = x
  · subst hb; rw [upd_same] at q; cases q; exact new
  · rw [upd_ne hb] at q
    by_cases hbe : b = e
    · have q' : H b = some (.own x) := by
        rcases he with z | z
        · exact absurd (hbe.trans z) hb
        · rw [hbe]; exact z
      rw [q] at q'; cases q'
      obtain ⟨v, hv⟩ := heo
      exact ⟨v, by rw [hbe]; exact hv⟩
    · refine (ok b u q).stay (fun c v hc r => k c v ?_ r) (fun c r => by rw [upd_ne (nown c b r)]; exact r) fun c xs r => by rw [upd_ne (ntup c xs r)]; exact r
      rcases hc with rfl | hc
      · exact hbe
      · rintro rfl
        rcases he with z | z
        · exact nown c b hc z
        · rw [hc] at z; cases z; exact hb rfl
end

/-! ### kept unless tracked; of the frames at fs (the callers') the slots may change (an exception that passes writes there); of the records at ex (iterators) nothing is said -/
structure Un (fs ex : List Addr) (H H' : Hp) (h h' : Heap) : Prop where
  keep : ∀ b o, h.get? b = some o → H b = none → b ∉ fs → b ∉ ex → h'.get? b = some o
  slot : ∀ b o, h.get? b = some o → H b = none → b ∈ fs → b ∉ ex → ∃ sl, h'.get? b = some { o with slots := sl }
  free : ∀ b o, h.get? b = some o → H b = none → b ∉ ex → H' b = none
  there : ∀ b o, h.get? b = some o → b ∉ ex → ∃ o', h'.get? b = some o'
  tups : ∀ b xs, H b = some (.tup xs) → H' b = some (.tup xs)
  frzs : ∀ b o u, H b = some (.frz o u) → H' b = some (.frz o u)
  tbls : ∀ b ps, H b = some (.tbl ps) → ∃ more, H' b = some (.tbl (ps ++ more))
section
variable {fs fs' ex ex' : List Addr} {H H1 H2 : Hp} {h h1 h2 h' : Heap} {a x e : Addr} {o : HO}
theorem Un.any (u : Un fs ex H H1 h h1) {b : Addr} {ob : Obj} (q : h.get? b = some ob) (n : H b = none) (hx : b ∉ ex) : ∃ sl, h1.get? b = some { ob with slots := sl } := by
  by_cases hb : b ∈ fs
  · exact u.slot b ob q n hb hx
  · exact ⟨ob.slots, u.keep b ob q n hb hx⟩
theorem Un.kept (k : ∀ b u, h.get? b = some u → h'.get? b = some u) : Un fs ex H H h h' :=
  ⟨fun b ob q _ _ _ => k b ob q, fun b ob q _ _ _ => ⟨ob.slots, k b ob q⟩, fun _ _ _ n _ => n, fun b ob q _ => ⟨ob, k b ob q⟩, fun _ _ q => q, fun _ _ _ q => q, fun _ ps q => ⟨#[], by rw [q]; simp⟩⟩
theorem Un.refl : Un fs ex H H h h := Un.kept fun _ _ q => q
theorem Un.laid (k : ∀ b u, h.get? b = some u → h'.get? b = some u) (hp : h.objs.size ≤ a) (hn : H a = none) : Un fs ex H (upd H a o) h h' where
  keep := fun b u q _ _ _ => k b u q
  slot := fun b u q _ _ _ => ⟨u.slots, k b u q⟩
  free := fun b u q n _ => by rw [upd_ne (Nat.ne_of_lt (Nat.lt_of_lt_of_le (Heap.lt_size q) hp))]; exact n
  there := fun b u q _ => ⟨u, k b u q⟩
  tups := fun b xs q => by rw [upd_ne (ne_of_none q hn)]; exact q
  frzs := fun b u xs q => by rw [upd_ne (ne_of_none q hn)]; exact q
  tbls := fun b ps q => ⟨#[], by rw [upd_ne (ne_of_none q hn), q]; simp⟩
theorem Un.write (mu : Mut (H x)) (he : e = x ∨ H e = some (.own x)) (k : ∀ b u, b ≠ e → h.get? b = some u → h'.get? b = some u) (heo : ∃ u, h'.get? e = some u) : Un fs ex H (upd H x o) h h' := by
  have hx : ∀ b, H b = none → b ≠ x := fun b n z => by subst z; rw [n] at mu; exact mu
  have hb : ∀ b, H b = none → b ≠ e := fun b n z => by
    subst z
    rcases he with r | r
    · exact hx b n r
    · rw [n] at r; cases r
  have hm : ∀ b u, H b = some u → ¬ Mut (some u) → b ≠ x := fun b u q nm z => by subst z; rw [q] at mu; exact nm mu
  refine ⟨fun b u q n _ _ => k b u (hb b n) q, fun b u q n _ _ => ⟨u.slots, k b u (hb b n) q⟩, fun b u q n _ => by rw [upd_ne (hx b n)]; exact n, fun b u q _ => ?_,
    fun b xs q => by rw [upd_ne (hm b _ q fun z => z)]; exact q, fun b u xs q => by rw [upd_ne (hm b _ q fun z => z)]; exact q, fun b ps q => ⟨#[], by rw [upd_ne (hm b _ q fun z => z), q]; simp⟩⟩
  by_cases hbe : b = e
  · subst hbe; exact heo
  · exact ⟨u, k b u hbe q⟩
end

/-! ### the heap without what is tracked -/
def trk (h : Heap) (H : Hp) : List Addr := (List.range h.objs.size).filter fun a => (H a).isSome
def hidT (h : Heap) (H : Hp) : Heap := PySem.W.hideAll h (trk h H)
theorem hidT_size (h : Heap) (H : Hp) : (hidT h H).objs.size = h.objs.size := PySem.W.hideAll_size _ _
theorem hidT_get {h : Heap} {H : Hp} {b : Addr} {o : Obj} (e : h.get? b = some o) (n : H b = none) : (hidT h H).get? b = some o :=
  PySem.W.hideAll_get _ e fun hm => by
    have q : (H b).isSome = true := (List.mem_filter.mp hm).2
    rw [n] at q; simp at q
theorem of_hidT {h : Heap} {H : Hp} {b : Addr} {o : Obj} (e : (hidT h H).get? b = some o) : h.get? b = some o ∧ H b = none := by
  have e' : h.get? b = some o := PySem.W.of_hideAll (trk h H) e
  refine ⟨e', ?_⟩
  cases q : H b with
  | none => rfl
  | some x =>
    have hm : b ∈ trk h H := List.mem_filter.mpr ⟨List.mem_range.mpr (Heap.lt_size e'), by simp [q]⟩
    have z : (hidT h H).get? b = none := PySem.W.hideAll_none (trk h H) hm
    rw [z] at e; cases e

/-! ### OpenK's ledger, filled with every new object but one -/
def allNews (g h : Heap) (L : Addr) : List (Addr × Obj) := (List.range h.objs.size).filterMap fun a => if a = L ∨ (g.get? a).isSome = true then none else (h.get? a).map fun o => (a, o)
def rest (g h : Heap) (L d : Addr) : List (Addr × Obj) := (allNews g h L).filter fun p => decide (p.1 ≠ d)
end L2

namespace L2
open PySem PySem.Spec PyProof.Rows

/-- the module's facts, over the base: the heap at the law's entry without what is tracked there -/
structure Mod (K : PySem.W.Frag) (mg : Str → Option Value) (base : Heap) : Prop where
  kin : K.In base
  glob : base.Ns mainGlobals mg
  blt : ∃ mb, base.Ns builtinsNs mb ∧ ∀ x : Str, x ≠ "__name__" → mb x = bootBuiltins x
  nolimit : base.NoLimit

/-- the context: a def's body (or a comprehension's block) running. base: fixed through the whole law; s₀, H₀: the entry; outer: the frames whose slots others may change (a def's callers); stack: all frames that run;
   ex: iterators that were made ahead of the entry and are walked here (a comprehension's); fn: the names whose cells were made at the entry (a def: all; a comprehension's block: its own); calm: not within an except suite; pn: pins that every state bears; xe: what is wanted of an exception that leaves the code -/
structure Cx where
  prog : Program
  w : World
  K : PySem.W.Frag
  mg : Str → Option Value
  base : Heap
  A : Around
  N : List Str
  s₀ : Shared
  H₀ : Hp
  env : Env
  outer : List Env
  stack : List Env
  ex : List Addr
  fn : Str → Bool
  calm : Bool
  pn : List (Addr × Obj)
  xe : Value → Shared → Prop
/-- the callers' frames -/
def frs (l : List Env) : List Addr := l.filterMap (·.frame)
abbrev Cx.fs (X : Cx) : List Addr := frs X.outer

def Vis (sc : Scope) (x : Str) : Prop := sc.names.lookup x = some .local ∨ sc.names.lookup x = some .cell ∨ sc.names.lookup x = some .free
def Loc (sc : Scope) (x : Str) : Prop := sc.names.lookup x = some .local ∨ sc.names.lookup x = some .cell
def Look (env : Env) (h : Heap) (m : Str → Option Value) (x : Str) (u : Value) : Prop :=
  (env.kindOf x = some .local ∧ m x = some u) ∨ ((env.kindOf x = some .cell ∨ env.kindOf x = some .free) ∧ ∃ c, env.cells.lookup x = some c ∧ h.IsCell c (some u))

structure Cx.Ok (X : Cx) : Prop where
  mod : Mod X.K X.mg X.base
  kind : X.env.scope.kind = .function
  glob : X.env.globals = mainGlobals
  blt : X.env.builtins = builtinsNs
  above : X.s₀.heap.objs.size ≤ X.env.locals
  inj : ∀ x y c, X.env.cells.lookup x = some c → X.env.cells.lookup y = some c → x = y
  has : ∀ x, (X.env.kindOf x = some .cell ∨ X.env.kindOf x = some .free) → ∃ c, X.env.cells.lookup x = some c
  cab : ∀ x c, X.fn x = true → X.env.cells.lookup x = some c → X.s₀.heap.objs.size ≤ c
  hd : X.calm = true → X.A.handled = none
  frames : X.A.frames = some X.stack
  stk : X.stack = X.outer ∨ (X.stack = X.env :: X.outer ∧ X.env.frame = some X.env.locals)
  exf : ∀ b ∈ X.ex, b ≠ X.env.locals ∧ ∀ x c, X.env.cells.lookup x = some c → c ≠ b
  bs : ∀ b o, X.base.get? b = some o → X.s₀.heap.get? b = some o ∧ X.H₀ b = none
  bsz : X.base.objs.size ≤ X.s₀.heap.objs.size
  noex : ∀ b o, X.base.get? b = some o → b ∉ X.ex
  exfs : ∀ b ∈ X.ex, b ∉ X.fs
  funs : X.s₀.heap.FunFrames X.base X.outer
  frf : ∀ b ∈ X.fs, X.H₀ b = none

structure Inv (X : Cx) (pins : List (Addr × Obj)) (σ : List (Option V)) (H : Hp) (s : Shared) : Prop where
  ok : X.Ok
  os : s.os = X.s₀.os
  bare : AllBare s.gens
  base : Un X.fs X.ex X.H₀ H X.s₀.heap s.heap
  loc : ∃ m, s.heap.Ns X.env.locals m ∧ ∀ (i : Nat) (x : Str) (v : V), X.N[i]? = some x → σ[i]? = some (some v) → Vis X.env.scope x → ∃ u, RelV v u ∧ Look X.env s.heap m x u
  cell : ∀ x c, X.env.cells.lookup x = some c → ∃ v, s.heap.IsCell c v
  free : H X.env.locals = none
  freeC : ∀ x c, X.env.cells.lookup x = some c → H c = none
  pin : ∀ p ∈ X.pn ++ pins, s.heap.get? p.1 = some p.2 ∧ H p.1 = none ∧ p.1 ≠ X.env.locals ∧ p.1 ∉ X.fs ∧ ∀ v, p.2.data ≠ .cell v
  hok : HOk X.prog X.w H s.heap
  len : σ.length = X.N.length

section
variable {X : Cx} {pins : List (Addr × Obj)} {σ : List (Option V)} {H H' : Hp} {s : Shared} {h' : Heap}

theorem Cx.Ok.nofr (ok : X.Ok) {b : Addr} {o : Obj} (e : X.base.get? b = some o) : b ∉ X.fs := fun hb => by
  have := (ok.funs.mem hb).1
  rw [e] at this; cases this
theorem Inv.bs (I : Inv X pins σ H s) : ∀ b o, X.base.get? b = some o → s.heap.get? b = some o ∧ H b = none := fun b o e =>
  ⟨I.base.keep b o (I.ok.bs b o e).1 (I.ok.bs b o e).2 (I.ok.nofr e) (I.ok.noex b o e), I.base.free b o (I.ok.bs b o e).1 (I.ok.bs b o e).2 (I.ok.noex b o e)⟩
theorem Inv.bk (I : Inv X pins σ H s) : ∀ b o, X.base.get? b = some o → s.heap.get? b = some o := fun b o e => (I.bs b o e).1
theorem Inv.mod (I : Inv X pins σ H s) : Mod X.K X.mg X.base := I.ok.mod
theorem Inv.kIn (I : Inv X pins σ H s) : X.K.In s.heap := I.ok.mod.kin.keeps I.bk
theorem Inv.lt (I : Inv X pins σ H s) : X.env.locals < s.heap.objs.size := let ⟨_, hn, _⟩ := I.loc; hn.lt
theorem Inv.sz (I : Inv X pins σ H s) : X.s₀.heap.objs.size ≤ s.heap.objs.size := Nat.le_trans I.ok.above (Nat.le_of_lt I.lt)
theorem Inv.nofs (I : Inv X pins σ H s) {a : Addr} (h : s.heap.objs.size ≤ a) : a ∉ X.fs := fun hb => by
  obtain ⟨_, o, ho, _⟩ := I.ok.funs.mem hb
  exact absurd (Nat.lt_of_lt_of_le (Heap.lt_size ho) (Nat.le_trans I.sz h)) (Nat.lt_irrefl _)
theorem Inv.cne (I : Inv X pins σ H s) : ∀ x c, X.env.cells.lookup x = some c → c ≠ X.env.locals := fun x c e z => by
  obtain ⟨v, o, ho, hd⟩ := I.cell x c e
  obtain ⟨m, ⟨o', es, ep, ho', hd', _⟩, _⟩ := I.loc
  rw [z, ho'] at ho; cases ho; rw [hd'] at hd; cases hd
theorem Inv.funs (I : Inv X pins σ H s) : s.heap.FunFrames X.base X.outer := by
  have all : ∀ (l : List Env), (∀ b ∈ frs l, b ∈ X.fs) → X.s₀.heap.FunFrames X.base l → s.heap.FunFrames X.base l := by
    intro l
    induction l with
    | nil => intro _ _; trivial
    | cons env r ih =>
      intro hs hl
      obtain ⟨hk, ⟨L, o, hf, hn, ho, hd⟩, hr⟩ := hl
      have hL : L ∈ X.fs := hs L (by unfold frs; rw [List.filterMap_cons, hf]; exact List.mem_cons_self)
      obtain ⟨sl, e⟩ := I.base.slot L o ho (I.ok.frf L hL) hL fun z => I.ok.exfs L z hL
      exact ⟨hk, ⟨L, _, hf, hn, e, hd⟩, ih (fun b hb => hs b (by unfold frs; rw [List.filterMap_cons, hf]; exact List.mem_cons_of_mem _ hb)) hr⟩
  exact all X.outer (fun _ hb => hb) I.ok.funs

/-- the frames that run, for a call -/
theorem Inv.stack (I : Inv X pins σ H s) : s.heap.FunFrames X.base X.stack := by
  rcases I.ok.stk with e | ⟨e, hf⟩
  · rw [e]; exact I.funs
  · rw [e]
    obtain ⟨m, hn, _⟩ := I.loc
    refine .cons (by rw [I.ok.kind]; decide) hf hn ?_ I.funs
    exact Heap.get?_none_of_le (Nat.le_trans I.ok.bsz I.ok.above)
theorem Inv.stkSub (I : Inv X pins σ H s) : ∀ b ∈ frs X.stack, b ∈ X.env.locals :: X.fs := fun b hb => by
  rcases I.ok.stk with e | ⟨e, hf⟩
  · rw [e] at hb; exact List.mem_cons_of_mem _ hb
  · rw [e] at hb
    unfold frs at hb
    rw [List.filterMap_cons, hf] at hb
    exact hb
theorem Inv.stkFree (I : Inv X pins σ H s) : ∀ b ∈ frs X.stack, H b = none := fun b hb => by
  rcases List.mem_cons.mp (I.stkSub b hb) with e | hb
  · rw [e]; exact I.free
  · obtain ⟨_, o, ho, _⟩ := I.ok.funs.mem hb
    exact I.base.free b o ho (I.ok.frf b hb) fun z => I.ok.exfs b z hb

/-- THE STEP: the untracked objects but the frame and the records at ch are kept (the callers' frames up to slots), the frame's map is kept, the new abstract heap is held -/
theorem Inv.step {g' : Array GenState} {t' : Nat} {d' : Drawn} {ch : List Addr} (I : Inv X pins σ H s)
    (hch : ∀ b ∈ ch, (b ∈ X.ex ∨ X.s₀.heap.objs.size ≤ b) ∧ b ≠ X.env.locals ∧ (∀ x c, X.env.cells.lookup x = some c → c ≠ b) ∧ ∀ p ∈ X.pn ++ pins, p.1 ≠ b)
    (keep : ∀ b o, b ≠ X.env.locals → b ∉ X.fs → b ∉ ch → s.heap.get? b = some o → H b = none → h'.get? b = some o)
    (slot : ∀ b o, b ≠ X.env.locals → b ∈ X.fs → b ∉ ch → s.heap.get? b = some o → H b = none → ∃ sl, h'.get? b = some { o with slots := sl }) (free : ∀ b o, b ∉ ch → s.heap.get? b = some o → H b = none → H' b = none)
    (there : ∀ b o, b ∉ ch → s.heap.get? b = some o → ∃ o', h'.get? b = some o')
    (tups : ∀ b xs, H b = some (.tup xs) → H' b = some (.tup xs)) (frzs : ∀ b o u, H b = some (.frz o u) → H' b = some (.frz o u)) (tbls : ∀ b ps, H b = some (.tbl ps) → ∃ more, H' b = some (.tbl (ps ++ more)))
    (ns : ∀ m, s.heap.Ns X.env.locals m → h'.Ns X.env.locals m) (hok : HOk X.prog X.w H' h') (hg : AllBare g') :
    Inv X pins σ H' { s with heap := h', gens := g', drawn := d', toks := t' } := by
  have neL : ∀ b o, X.s₀.heap.get? b = some o → b ≠ X.env.locals := fun b o e => Nat.ne_of_lt (Nat.lt_of_lt_of_le (Heap.lt_size e) I.ok.above)
  have neC : ∀ b o, X.s₀.heap.get? b = some o → b ∉ X.ex → b ∉ ch := fun b o e hx hb => by
    rcases (hch b hb).1 with z | z
    · exact hx z
    · exact absurd (Nat.lt_of_lt_of_le (Heap.lt_size e) z) (Nat.lt_irrefl _)
  have cellK : ∀ x c, X.env.cells.lookup x = some c → ∀ v, s.heap.IsCell c v → h'.IsCell c v := fun x c e v ⟨o, ho, hd⟩ => by
    have nch : c ∉ ch := fun z => (hch c z).2.2.1 x c e rfl
    by_cases hc : c ∈ X.fs
    · obtain ⟨sl, q⟩ := slot c o (I.cne x c e) hc nch ho (I.freeC x c e)
      exact ⟨_, q, hd⟩
    · exact ⟨o, keep c o (I.cne x c e) hc nch ho (I.freeC x c e), hd⟩
  refine ⟨I.ok, I.os, hg, ⟨fun b o e n hb hx => ?_, fun b o e n hb hx => ?_, fun b o e n hx => ?_, fun b o e hx => ?_, fun b xs e => tups b xs (I.base.tups b xs e), fun b o xs e => frzs b o xs (I.base.frzs b o xs e), fun b ps e => ?_⟩, ?_, fun x c e => ?_, ?_, fun x c e => ?_, fun p hp => ?_, hok, I.len⟩
  · exact keep b o (neL b o e) hb (neC b o e hx) (I.base.keep b o e n hb hx) (I.base.free b o e n hx)
  · obtain ⟨sl, e1⟩ := I.base.slot b o e n hb hx
    obtain ⟨sl', e2⟩ := slot b _ (neL b o e) hb (neC b o e hx) e1 (I.base.free b o e n hx)
    exact ⟨sl', e2⟩
  · obtain ⟨o', e1⟩ := I.base.there b o e hx
    exact free b o' (neC b o e hx) e1 (I.base.free b o e n hx)
  · obtain ⟨o', e1⟩ := I.base.there b o e hx
    exact there b o' (neC b o e hx) e1
  · obtain ⟨m1, e1⟩ := I.base.tbls b ps e
    obtain ⟨m2, e2⟩ := tbls b _ e1
    exact ⟨m1 ++ m2, by rw [e2, Array.append_assoc]⟩
  · obtain ⟨m, hn, hl⟩ := I.loc
    refine ⟨m, ns m hn, fun i x v e1 e2 e3 => ?_⟩
    obtain ⟨u, r, l⟩ := hl i x v e1 e2 e3
    refine ⟨u, r, ?_⟩
    rcases l with l | ⟨k, c, e, z⟩
    · exact .inl l
    · exact .inr ⟨k, c, e, cellK x c e _ z⟩
  · obtain ⟨v, z⟩ := I.cell x c e
    exact ⟨v, cellK x c e v z⟩
  · obtain ⟨m, ⟨o, _, _, ho, _⟩, _⟩ := I.loc
    exact free _ o (fun z => (hch _ z).2.1 rfl) ho I.free
  · obtain ⟨v, o, ho, hd⟩ := I.cell x c e
    exact free c o (fun z => (hch c z).2.2.1 x c e rfl) ho (I.freeC x c e)
  · obtain ⟨e, n, ne, nf, d⟩ := I.pin p hp
    have nch : p.1 ∉ ch := fun z => (hch p.1 z).2.2.2 p hp rfl
    exact ⟨keep p.1 p.2 ne nf nch e n, free p.1 p.2 nch e n, ne, nf, d⟩
/-- .. where the frame's own object is kept too -/
theorem Inv.un {t' : Nat} (I : Inv X pins σ H s) (u : Un X.fs [] H H' s.heap h') (hok : HOk X.prog X.w H' h') : Inv X pins σ H' { s with heap := h', toks := t' } := by
  obtain ⟨m, ⟨o, es, ep, ho, r⟩, _⟩ := id I.loc
  obtain ⟨sl, hL⟩ := u.any ho I.free (by simp)
  exact I.step (g' := s.gens) (d' := s.drawn) (ch := []) (fun _ z => nomatch z) (fun b o _ hb _ e n => u.keep b o e n hb (by simp)) (fun b o _ hb _ e n => u.slot b o e n hb (by simp)) (fun b o _ e n => u.free b o e n (by simp)) (fun b o _ e => u.there b o e (by simp)) u.tups u.frzs u.tbls (fun m' hm => by
    obtain ⟨o', es', ep', ho', r'⟩ := hm
    rw [ho] at ho'; cases ho'
    exact ⟨_, es', ep', hL, r'⟩) hok I.bare
/-- behind a call (or a comprehension's block): the slots of this frame may have changed too, the records at ch may have turned -/
theorem Inv.call {g' : Array GenState} {t' : Nat} {d' : Drawn} {ch : List Addr} (I : Inv X pins σ H s) (u : Un (frs X.stack) ch H H' s.heap h') (hok : HOk X.prog X.w H' h') (hg : AllBare g')
    (hch : ∀ b ∈ ch, (b ∈ X.ex ∨ X.s₀.heap.objs.size ≤ b) ∧ b ≠ X.env.locals ∧ (∀ x c, X.env.cells.lookup x = some c → c ≠ b) ∧ ∀ p ∈ X.pn ++ pins, p.1 ≠ b) :
    Inv X pins σ H' { s with heap := h', gens := g', drawn := d', toks := t' } := by
  obtain ⟨m, ⟨o, es, ep, ho, r⟩, _⟩ := id I.loc
  obtain ⟨sl, hL⟩ := u.any ho I.free fun z => (hch _ z).2.1 rfl
  exact I.step (ch := ch) hch (fun b o hL hb hc e n => u.keep b o e n (fun z => (List.mem_cons.mp (I.stkSub b z)).elim hL hb) hc) (fun b o _ _ hc e n => u.any e n hc) (fun b o hc e n => u.free b o e n hc) (fun b o hc e => u.there b o e hc) u.tups u.frzs u.tbls (fun m' hm => by
    obtain ⟨o', es', ep', ho', r'⟩ := hm
    rw [ho] at ho'; cases ho'
    exact ⟨_, es', ep', hL, r'⟩) hok hg
/-- an untracked record of ours (an iterator) has turned -/
theorem Inv.turned {t' : Nat} {it : Addr} (I : Inv X pins σ H s) (k : ∀ b o, b ≠ it → s.heap.get? b = some o → h'.get? b = some o) (hn : H it = none) (hL : it ≠ X.env.locals)
    (h1 : it ∈ X.ex ∨ X.s₀.heap.objs.size ≤ it) (h2 : ∀ x c, X.env.cells.lookup x = some c → c ≠ it) (h3 : ∀ p ∈ X.pn ++ pins, p.1 ≠ it) : Inv X pins σ H { s with heap := h', toks := t' } := by
  have nit : ∀ b u, H b = some u → b ≠ it := fun b u e z => by rw [z, hn] at e; cases e
  refine I.step (g' := s.gens) (d' := s.drawn) (ch := [it]) (fun b hb => ?_) (fun b o _ _ hc e _ => k b o (fun z => hc (by simp [z])) e) (fun b o _ _ hc e _ => ⟨o.slots, k b o (fun z => hc (by simp [z])) e⟩) (fun _ _ _ _ n => n)
    (fun b o hc e => ⟨o, k b o (fun z => hc (by simp [z])) e⟩) (fun _ _ e => e) (fun _ _ _ e => e) (fun b ps e => ⟨#[], by rw [e]; simp⟩) (fun m hm => ?_) (fun b u e => ?_) I.bare
  · have e : b = it := by simpa using hb
    subst e
    exact ⟨h1, hL, h2, h3⟩
  · obtain ⟨o, es, ep, ho, r⟩ := hm
    exact ⟨o, es, ep, k _ o (Ne.symm hL) ho, r⟩
  · refine (I.hok b u e).stay (fun c v hc q => k c v ?_ q) (fun _ q => q) fun _ _ q => q
    rcases hc with z | z
    · rw [z]; exact nit b u e
    · exact nit c _ z
theorem Inv.tok (I : Inv X pins σ H s) (t : Nat) : Inv X pins σ H { s with toks := t } := I.un (h' := s.heap) (t' := t) Un.refl I.hok
/-- all objects kept -/
theorem Inv.kept {t' : Nat} (I : Inv X pins σ H s) (k : ∀ b u, s.heap.get? b = some u → h'.get? b = some u) : Inv X pins σ H { s with heap := h', toks := t' } := I.un (Un.kept k) (I.hok.kept k)
/-- a new object laid and tracked -/
theorem Inv.laid {a : Addr} {o : HO} {t' : Nat} (I : Inv X pins σ H s) (k : ∀ b u, s.heap.get? b = some u → h'.get? b = some u) (hp : s.heap.objs.size ≤ a) (new : ObjOk X.prog X.w (upd H a o) h' a o) :
    Inv X pins σ (upd H a o) { s with heap := h', toks := t' } := I.un (Un.laid k hp (I.hok.fresh hp)) (I.hok.laid k hp new)
/-- an object written -/
theorem Inv.write {x e : Addr} {o : HO} {t' : Nat} (I : Inv X pins σ H s) (mu : Mut (H x)) (he : e = x ∨ H e = some (.own x)) (k : ∀ b u, b ≠ e → s.heap.get? b = some u → h'.get? b = some u) (heo : ∃ u, h'.get? e = some u)
    (new : ObjOk X.prog X.w (upd H x o) h' x o) : Inv X pins σ (upd H x o) { s with heap := h', toks := t' } := I.un (Un.write mu he k heo) (I.hok.write mu he k heo new)
theorem Inv.pins_of {pins' : List (Addr × Obj)} (I : Inv X pins σ H s) (h : ∀ p ∈ pins', s.heap.get? p.1 = some p.2 ∧ H p.1 = none ∧ p.1 ≠ X.env.locals ∧ p.1 ∉ X.fs ∧ ∀ v, p.2.data ≠ .cell v) : Inv X pins' σ H s :=
  ⟨I.ok, I.os, I.bare, I.base, I.loc, I.cell, I.free, I.freeC, fun p hp => (List.mem_append.mp hp).elim (fun z => I.pin p (List.mem_append_left _ z)) (h p), I.hok, I.len⟩

theorem nodup_ix {N : List Str} (hN : N.Nodup) {i j : Nat} {x : Str} (a : N[i]? = some x) (b : N[j]? = some x) : i = j := by
  obtain ⟨h1, e1⟩ := List.getElem?_eq_some_iff.mp a
  obtain ⟨h2, e2⟩ := List.getElem?_eq_some_iff.mp b
  exact (List.getElem_inj hN).mp (e1.trans e2.symm)

/-- a name is stored; what changed -/
theorem store_ok2 {M : Model} {A : Around} {E : Value → Shared → Prop} {i : Nat} {x : Str} {v : V} {u : Value} {Q : Unit → Shared → Prop} (I : Inv X pins σ H s) (hN : X.N.Nodup) (hi : X.N[i]? = some x) (hx : Loc X.env.scope x) (r : RelV v u)
    (h : ∀ s', Inv X pins (σ.set i (some v)) H s' → (∃ a, Heap.SameBut a s.heap s'.heap ∧ (a = X.env.locals ∨ X.env.cells.lookup x = some a)) → Q () s') (hf : X.fn x = true ∨ X.env.scope.names.lookup x = some .local := by first | exact .inl rfl | exact .inr rfl | assumption) : wpAny M A (storeName X.env x u) Q E s := by
  obtain ⟨m, hn, hl⟩ := id I.loc
  have hcls : (X.env.scope.kind == .class || (X.env.scope.kind == .module && X.env.locals != X.env.globals)) = false := by rw [I.ok.kind]; rfl
  have hiσ : i < σ.length := by rw [I.len]; exact (List.getElem?_eq_some_iff.mp hi).1
  have cne := I.cne
  have tracked : ∀ {a : Addr} {h' : Heap}, (∃ o, s.heap.get? a = some o ∧ H a = none) → Heap.SameBut a s.heap h' → HOk X.prog X.w H h' := fun {a h'} ha hs b ob e => by
    obtain ⟨_, _, hfree⟩ := ha
    refine (I.hok b ob e).stay (fun c w' hc q => (hs.2 c ?_).trans q) (fun _ q => q) fun _ _ q => q
    rintro rfl
    rcases hc with rfl | hc
    · rw [hfree] at e; cases e
    · rw [hfree] at hc; cases hc
  rcases hx with hk | hk
  · refine wpAny_storeName_local hk hn (fun h' hn' hs => ?_) hcls
    obtain ⟨oL, _, _, hoL, _⟩ := id hn
    refine h _ ⟨I.ok, I.os, I.bare, ⟨fun b o e n hb hx => ?_, fun b o e n hb hx => ?_, I.base.free, fun b o e hx => ?_, I.base.tups, I.base.frzs, I.base.tbls⟩, ⟨_, hn', fun j y v' e1 e2 e3 => ?_⟩, fun y c e => ?_, I.free, I.freeC, fun p hp => ?_, tracked ⟨oL, hoL, I.free⟩ hs, by simpa using I.len⟩ ⟨_, hs, .inl rfl⟩
    · exact (hs.2 b (Nat.ne_of_lt (Nat.lt_of_lt_of_le (Heap.lt_size e) I.ok.above))).trans (I.base.keep b o e n hb hx)
    · obtain ⟨sl, e1⟩ := I.base.slot b o e n hb hx
      exact ⟨sl, (hs.2 b (Nat.ne_of_lt (Nat.lt_of_lt_of_le (Heap.lt_size e) I.ok.above))).trans e1⟩
    · obtain ⟨o', e1⟩ := I.base.there b o e hx
      exact ⟨o', (hs.2 b (Nat.ne_of_lt (Nat.lt_of_lt_of_le (Heap.lt_size e) I.ok.above))).trans e1⟩
    · by_cases hj : j = i
      · subst hj
        rw [hi] at e1; cases e1
        rw [List.getElem?_set_self hiσ] at e2
        cases e2
        exact ⟨u, r, .inl ⟨hk, by simp⟩⟩
      · rw [List.getElem?_set_ne (Ne.symm hj)] at e2
        obtain ⟨u', r', q⟩ := hl j y v' e1 e2 e3
        refine ⟨u', r', ?_⟩
        rcases q with ⟨k, e⟩ | ⟨k, c, e, z⟩
        · refine .inl ⟨k, ?_⟩
          have : y ≠ x := fun e => hj (nodup_ix hN e1 (e ▸ hi))
          simp [this, e]
        · exact .inr ⟨k, c, e, z.sameBut hs (cne y c e)⟩
    · obtain ⟨w', z⟩ := I.cell y c e
      exact ⟨w', z.sameBut hs (cne y c e)⟩
    · obtain ⟨e, n, ne, nf, d⟩ := I.pin p hp
      exact ⟨(hs.2 p.1 ne).trans e, n, ne, nf, d⟩
  · have hfn : X.fn x = true := by
      rcases hf with z | z
      · exact z
      · rw [z] at hk; cases hk
    obtain ⟨c, hc⟩ := I.ok.has x (.inl hk)
    obtain ⟨w', z⟩ := I.cell x c hc
    refine wpAny_storeName_cell I.ok.kind hk hc z (fun h' hc' hs => ?_)
    obtain ⟨oc, hoc, hocd⟩ := id z
    refine h { s with heap := h' } ⟨I.ok, I.os, I.bare, ⟨fun b o e n hb hx => ?_, fun b o e n hb hx => ?_, I.base.free, fun b o e hx => ?_, I.base.tups, I.base.frzs, I.base.tbls⟩, ⟨m, hn.sameBut hs (Ne.symm (cne x c hc)), fun j y v' e1 e2 e3 => ?_⟩, fun y c' e => ?_, I.free, I.freeC, fun p hp => ?_, tracked ⟨oc, hoc, I.freeC x c hc⟩ hs, by simpa using I.len⟩ ⟨c, hs, .inr hc⟩
    · exact (hs.2 b (Nat.ne_of_lt (Nat.lt_of_lt_of_le (Heap.lt_size e) (I.ok.cab x c hfn hc)))).trans (I.base.keep b o e n hb hx)
    · obtain ⟨sl, e1⟩ := I.base.slot b o e n hb hx
      exact ⟨sl, (hs.2 b (Nat.ne_of_lt (Nat.lt_of_lt_of_le (Heap.lt_size e) (I.ok.cab x c hfn hc)))).trans e1⟩
    · obtain ⟨o', e1⟩ := I.base.there b o e hx
      exact ⟨o', (hs.2 b (Nat.ne_of_lt (Nat.lt_of_lt_of_le (Heap.lt_size e) (I.ok.cab x c hfn hc)))).trans e1⟩
    · by_cases hj : j = i
      · subst hj
        rw [hi] at e1; cases e1
        rw [List.getElem?_set_self hiσ] at e2
        cases e2
        exact ⟨u, r, .inr ⟨.inl hk, c, hc, hc'⟩⟩
      · rw [List.getElem?_set_ne (Ne.symm hj)] at e2
        obtain ⟨u', r', q⟩ := hl j y v' e1 e2 e3
        refine ⟨u', r', ?_⟩
        rcases q with q | ⟨k, c', e, z'⟩
        · exact .inl q
        · refine .inr ⟨k, c', e, z'.sameBut hs ?_⟩
          rintro rfl
          exact hj (nodup_ix hN e1 (I.ok.inj _ _ _ e hc ▸ hi))
    · by_cases hcc : c' = c
      · subst hcc; exact ⟨_, hc'⟩
      · obtain ⟨w2, z2⟩ := I.cell y c' e
        exact ⟨w2, z2.sameBut hs hcc⟩
    · obtain ⟨e, n, ne, nf, d⟩ := I.pin p hp
      refine ⟨(hs.2 p.1 ?_).trans e, n, ne, nf, d⟩
      intro q
      rw [q, hoc] at e
      have q' : oc = p.2 := Option.some.inj e
      exact d w' (by rw [← q']; exact hocd)
theorem store_ok {M : Model} {A : Around} {E : Value → Shared → Prop} {i : Nat} {x : Str} {v : V} {u : Value} {Q : Unit → Shared → Prop} (I : Inv X pins σ H s) (hN : X.N.Nodup) (hi : X.N[i]? = some x) (hx : Loc X.env.scope x) (r : RelV v u)
    (h : ∀ s', Inv X pins (σ.set i (some v)) H s' → Q () s') (hf : X.fn x = true ∨ X.env.scope.names.lookup x = some .local := by first | exact .inl rfl | exact .inr rfl | assumption) : wpAny M A (storeName X.env x u) Q E s :=
  store_ok2 I hN hi hx r (fun s' I' _ => h s' I') hf
/-- behind a call or a block, the state as it is -/
theorem Inv.call' {s' : Shared} {ch : List Addr} (I : Inv X pins σ H s) (ho : s'.os = s.os) (u : Un (frs X.stack) ch H H' s.heap s'.heap) (hok : HOk X.prog X.w H' s'.heap) (hg : AllBare s'.gens)
    (hch : ∀ b ∈ ch, (b ∈ X.ex ∨ X.s₀.heap.objs.size ≤ b) ∧ b ≠ X.env.locals ∧ (∀ x c, X.env.cells.lookup x = some c → c ≠ b) ∧ ∀ p ∈ X.pn ++ pins, p.1 ≠ b) : Inv X pins σ H' s' := by
  obtain ⟨h', g', d', t', o'⟩ := s'
  have e : o' = s.os := ho
  subst e
  exact I.call (g' := g') (t' := t') (d' := d') u hok hg hch
end

/-! ### the judgements -/
/-- an exception: its class, its own dict's address (where it has one), the abstract heap behind it -/
abbrev XK := Value → Option Addr → Hp → Prop
abbrev St := List (Option V)
abbrev VK := V → Hp → Prop
/-- an expression's reading; a test's; an argument list's -/
abbrev TE := St → Hp → VK → Prop
abbrev TT := St → Hp → (Bool → Hp → Prop) → Prop
abbrev TA := St → Hp → (List V → Hp → Prop) → Prop
/-- what is wanted behind a statement -/
structure Ends where
  nx : St → Hp → Prop
  rt : VK
  bk : St → Hp → Prop := fun _ _ => False
  ct : St → Hp → Prop := fun _ _ => False
abbrev TS := Ends → St → Hp → Prop

def EP (X : Cx) (pins : List (Addr × Obj)) (σ : St) (Q : VK) (u : Value) (s' : Shared) : Prop := ∃ v H', Inv X pins σ H' s' ∧ RelV v u ∧ Q v H'
def TP (X : Cx) (pins : List (Addr × Obj)) (σ : St) (Q : Bool → Hp → Prop) (b : Bool) (s' : Shared) : Prop := ∃ H', Inv X pins σ H' s' ∧ Q b H'
def AP (X : Cx) (pins : List (Addr × Obj)) (σ : St) (Q : List V → Hp → Prop) (us : List Value) (s' : Shared) : Prop := ∃ vs H', Inv X pins σ H' s' ∧ Vals vs us ∧ Q vs H'
def SP (X : Cx) (pins : List (Addr × Obj)) (D : Ends) (f : Flow) (s' : Shared) : Prop :=
  match f with
  | .next => ∃ σ' H', Inv X pins σ' H' s' ∧ D.nx σ' H'
  | .brk => ∃ σ' H', Inv X pins σ' H' s' ∧ D.bk σ' H'
  | .cont => ∃ σ' H', Inv X pins σ' H' s' ∧ D.ct σ' H'
  | .ret u => ∃ v σ' H', Inv X pins σ' H' s' ∧ RelV v u ∧ D.rt v H'

def PE (X : Cx) (e : Expr) (t : TE) : Prop :=
  ∀ (pins : List (Addr × Obj)) (s : Shared) (σ : St) (H : Hp) (Q : VK), Inv X pins σ H s → t σ H Q → wpAny (model X.prog X.w) X.A (eval e X.env) (EP X pins σ Q) X.xe s
def PT (X : Cx) (e : Expr) (t : TT) : Prop :=
  ∀ (pins : List (Addr × Obj)) (s : Shared) (σ : St) (H : Hp) (Q : Bool → Hp → Prop), Inv X pins σ H s → t σ H Q → wpAny (model X.prog X.w) X.A (isTrue e X.env (eval e X.env)) (TP X pins σ Q) X.xe s
/-- a test whatever its 'whole' is (and, or) -/
def PW (X : Cx) (e : Expr) (t : TT) : Prop :=
  ∀ (whole : Sem Value) (pins : List (Addr × Obj)) (s : Shared) (σ : St) (H : Hp) (Q : Bool → Hp → Prop), Inv X pins σ H s → t σ H Q → wpAny (model X.prog X.w) X.A (isTrue e X.env whole) (TP X pins σ Q) X.xe s
theorem PW.pt {X : Cx} {e : Expr} {t : TT} (h : PW X e t) : PT X e t := h _
/-- an argument list (no star), from the left -/
def PA (X : Cx) (es : List Expr) (t : TA) : Prop :=
  ∀ (pos : Pos) (pins : List (Addr × Obj)) (s : Shared) (σ : St) (H : Hp) (Q : List V → Hp → Prop), Inv X pins σ H s → t σ H Q → wpAny (model X.prog X.w) X.A (spliced (backTo pos (starEach es X.env))) (AP X pins σ Q) X.xe s
def PS (X : Cx) (st : Stmt) (t : TS) : Prop :=
  ∀ (pins : List (Addr × Obj)) (s : Shared) (σ : St) (H : Hp) (D : Ends), Inv X pins σ H s → t D σ H → wpAny (model X.prog X.w) X.A (exec st X.env) (SP X pins D) X.xe s
def PSs (X : Cx) (st : List Stmt) (t : TS) : Prop :=
  ∀ (pins : List (Addr × Obj)) (s : Shared) (σ : St) (H : Hp) (D : Ends), Inv X pins σ H s → t D σ H → wpAny (model X.prog X.w) X.A (execs st X.env) (SP X pins D) X.xe s
/-- weaken the end -/
theorem thn {α : Type} {t : Sem α} {Q Q' : α → Shared → Prop} {M : Model} {A : Around} {E : Value → Shared → Prop} {s : Shared} (h : wpAny M A t Q E s) (hQ : ∀ a s, Q a s → Q' a s) : wpAny M A t Q' E s := wpAny_mono h hQ fun _ _ x => x
end L2

namespace L2
open PySem PySem.Spec PyProof.Rows
section
variable {X : Cx}

/-! ### names and constants -/
def tVar (i : Nat) : TE := fun σ H Q => ∃ v, σ[i]? = some (some v) ∧ Q v H
def tC (v : V) : TE := fun _ H Q => Q v H
theorem pe_var {i : Nat} {x : Str} {pos : Pos} (hN : X.N[i]? = some x) (hv : Vis X.env.scope x) (hd : (x == ("__debug__" : Str)) = false := by decide) (hcd : (x == ("__classdict__" : Str)) = false := by decide) : PE X (.Name x pos) (tVar i) := by
  intro pins s σ H Q I h
  obtain ⟨v, e, h⟩ := h
  obtain ⟨m, hn, hl⟩ := I.loc
  obtain ⟨u, r, l⟩ := hl i x v hN e hv
  have fin : EP X pins σ Q u s := ⟨v, H, I, r, h⟩
  rcases l with ⟨hk, hm⟩ | ⟨hk, c, hc, hcell⟩
  · exact wpAny_Name (wpAny_loadName_local I.ok.kind hk hn hm fin) hd
  · rcases hk with hk | hk
    · exact wpAny_Name (wpAny_loadName_cell I.ok.kind hk hc hcell fin) hd
    · exact wpAny_Name (wpAny_loadName_free I.ok.kind hk hc hcell fin hcd) hd
theorem pe_int {i j pos} : PE X (.Constant (.int i) j pos) (tC (.int i)) := fun _ _ _ H _ I h => wpAny_Constant_int ⟨.int i, H, I.tok _, ⟨_, rfl⟩, h⟩
theorem pe_bl {b j pos} : PE X (.Constant (.bool b) j pos) (tC (.bl b)) := fun _ _ _ H _ I h => Constant_bool ⟨.bl b, H, I, rfl, h⟩
theorem pe_str {x j pos} : PE X (.Constant (.str x) j pos) (tC (.str x)) := fun _ _ _ H _ I h => Calls.Constant_str ⟨.str x, H, I.tok _, ⟨_, rfl⟩, h⟩

/-- a global name of the def -/
def Gl (X : Cx) (x : Str) : Prop := X.env.kindOf x = some .globalImplicit
theorem ld_glob {E : Value → Shared → Prop} {pins : List (Addr × Obj)} {s : Shared} {σ : St} {H : Hp} {x : Str} {u : Value} {pos : Pos} {Q : Value → Shared → Prop} (I : Inv X pins σ H s) (hg : Gl X x) (hm : X.mg x = some u) (h : Q u s)
    (hd : (x == ("__debug__" : Str)) = false := by decide) : wpAny (model X.prog X.w) X.A (eval (.Name x pos) X.env) Q E s :=
  Calls.Name_function_global I.ok.kind hg (Calls.loadGlobal_global (by rw [I.ok.glob]; exact I.mod.glob.keeps I.bk) hm h) hd
theorem ld_blt {E : Value → Shared → Prop} {pins : List (Addr × Obj)} {s : Shared} {σ : St} {H : Hp} {x : Str} {u : Value} {pos : Pos} {Q : Value → Shared → Prop} (I : Inv X pins σ H s) (hg : Gl X x) (hm : X.mg x = none) (hv : bootBuiltins x = some u) (h : Q u s)
    (hn : x ≠ "__name__" := by decide) (hd : (x == ("__debug__" : Str)) = false := by decide) : wpAny (model X.prog X.w) X.A (eval (.Name x pos) X.env) Q E s := by
  obtain ⟨mb, h1, h2⟩ := I.mod.blt
  exact Calls.Name_function_global I.ok.kind hg (Calls.loadGlobal_builtin (by rw [I.ok.glob]; exact I.mod.glob.keeps I.bk) hm (by rw [I.ok.blt]; exact h1.keeps I.bk) ((h2 x hn).trans hv) h) hd
/-! ### arithmetic -/
/-- two ints -/
def t2I (ta tb : TE) (k : Int → Int → Hp → Prop) : St → Hp → Prop := fun σ H => ta σ H fun x H1 => tb σ H1 fun y H2 => ∃ i j, x = .int i ∧ y = .int j ∧ k i j H2
def tAdd (ta tb : TE) : TE := fun σ H Q => t2I ta tb (fun i j H2 => Q (.int (i + j)) H2) σ H
def tSub (ta tb : TE) : TE := fun σ H Q => t2I ta tb (fun i j H2 => Q (.int (i - j)) H2) σ H
/-- the left factor below 2^64 -/
def tMul (ta tb : TE) : TE := fun σ H Q => t2I ta tb (fun i j H2 => (-(2 ^ 64) < i ∧ i < 2 ^ 64) ∧ Q (.int (i * j)) H2) σ H
variable {a b : Expr} {ta tb : TE} {pos : Pos}
/-! ### comparisons -/
def PC (X : Cx) (op : CmpOp) (a b : Expr) (t : TE) : Prop :=
  ∀ (pins : List (Addr × Obj)) (s : Shared) (σ : St) (H : Hp) (Q : VK), Inv X pins σ H s → t σ H Q →
    wpAny (model X.prog X.w) X.A (eval a X.env) (fun v s₁ => wpAny (model X.prog X.w) X.A (eval b X.env) (fun u s₂ => wpAny (model X.prog X.w) X.A (compareOp op v u) (EP X pins σ Q) X.xe s₂) X.xe s₁) X.xe s
def tCmp (p : Int → Int → Bool) (ta tb : TE) : TE := fun σ H Q => t2I ta tb (fun i j H2 => Q (.bl (p i j)) H2) σ H
abbrev tLt : TE → TE → TE := tCmp fun i j => decide (i < j)
abbrev tLe : TE → TE → TE := tCmp fun i j => decide (i ≤ j)
abbrev tGt : TE → TE → TE := tCmp fun i j => decide (j < i)
abbrev tGe : TE → TE → TE := tCmp fun i j => decide (j ≤ i)
abbrev tEqI : TE → TE → TE := tCmp fun i j => decide (i = j)
abbrev tNeI : TE → TE → TE := tCmp fun i j => !decide (i = j)
/-- is None -/
def tIsN (ta : TE) : TE := fun σ H Q => ta σ H fun x H1 => Q (.bl (decide (x = .non))) H1
def tNotN (ta : TE) : TE := fun σ H Q => ta σ H fun x H1 => Q (.bl (!decide (x = .non))) H1
/-- a comparison as a value, as a test -/
def tB (t : TE) : TT := fun σ H Q => t σ H fun x H1 => ∃ c, x = .bl c ∧ Q c H1
/-! ### and, or, not -/
variable {tA tB' : TT} {rest : List Expr}
def tAnd (t u : TT) : TT := fun σ H Q => t σ H fun c H1 => if c = true then u σ H1 Q else Q false H1
def tOr (t u : TT) : TT := fun σ H Q => t σ H fun c H1 => if c = true then Q true H1 else u σ H1 Q
def tNot (t : TT) : TT := fun σ H Q => t σ H fun c H1 => Q (!c) H1
theorem pw_and1 (ha : PT X a tA) : PW X (.BoolOp .And [a] pos) tA := by
  intro wh pins s σ H Q I h
  refine isTrue_and (thn (ha pins s σ H Q I h) fun c s1 e => ?_)
  cases c with
  | true => exact isTrue_and_nil e
  | false => exact e
theorem pw_or1 (ha : PT X a tA) : PW X (.BoolOp .Or [a] pos) tA := by
  intro wh pins s σ H Q I h
  refine isTrue_or (thn (ha pins s σ H Q I h) fun c s1 e => ?_)
  cases c with
  | false => exact isTrue_or_nil e
  | true => exact e
theorem pw_and (ha : PT X a tA) (hb : PW X (.BoolOp .And (b :: rest) pos) tB') : PW X (.BoolOp .And (a :: b :: rest) pos) (tAnd tA tB') := by
  intro wh pins s σ H Q I h
  refine isTrue_and (thn (ha pins s σ H _ I h) fun c s1 ⟨H1, I1, q1⟩ => ?_)
  cases c with
  | true => exact hb wh pins s1 σ H1 Q I1 q1
  | false => exact ⟨H1, I1, q1⟩
theorem pw_or (ha : PT X a tA) (hb : PW X (.BoolOp .Or (b :: rest) pos) tB') : PW X (.BoolOp .Or (a :: b :: rest) pos) (tOr tA tB') := by
  intro wh pins s σ H Q I h
  refine isTrue_or (thn (ha pins s σ H _ I h) fun c s1 ⟨H1, I1, q1⟩ => ?_)
  cases c with
  | true => exact ⟨H1, I1, q1⟩
  | false => exact hb wh pins s1 σ H1 Q I1 q1
/-- .. as values (bools) -/
def tAndV (ta tb : TE) : TE := fun σ H Q => ta σ H fun x H1 => ∃ c, x = .bl c ∧ if c = true then tb σ H1 Q else Q (.bl false) H1
def tOrV (ta tb : TE) : TE := fun σ H Q => ta σ H fun x H1 => ∃ c, x = .bl c ∧ if c = true then Q (.bl true) H1 else tb σ H1 Q
def tNotV (ta : TE) : TE := fun σ H Q => ta σ H fun x H1 => ∃ c, x = .bl c ∧ Q (.bl (!c)) H1
/-- a if t else b -/
def tIf (t : TT) (ta tb : TE) : TE := fun σ H Q => t σ H fun c H1 => if c = true then ta σ H1 Q else tb σ H1 Q
theorem pe_ifExp {c : Expr} (hc : PT X c tA) (ha : PE X a ta) (hb : PE X b tb) : PE X (.IfExp c a b pos) (tIf tA ta tb) := by
  intro pins s σ H Q I h
  refine wpAny_IfExp (thn (hc pins s σ H _ I h) fun d s1 ⟨H1, I1, q1⟩ => ?_)
  cases d with
  | true => exact ha pins s1 σ H1 Q I1 q1
  | false => exact hb pins s1 σ H1 Q I1 q1
end
end L2

namespace L2
open PySem PySem.Spec PyProof.Rows

/-! ### a list, a tuple that is read: tracked, frozen, or an object of the module -/
def SqL (K : PySem.W.Frag) (H : Hp) (a : Addr) (xs : List V) : Prop :=
  Rd H a (.lst xs) ∨
    ∃ (o : Obj) (its : Array Value) (n : Nat), K.lookup a = some o ∧ o.cls = .type "list" ∧ o.dict = none ∧ o.data = .seq its n ∧ its.size ≤ sizeLine ∧ Vals xs its.toList
def SqT (K : PySem.W.Frag) (H : Hp) (a : Addr) (xs : List V) : Prop :=
  Rd H a (.tup xs) ∨
    ∃ (o : Obj) (its : Array Value) (n : Nat), K.lookup a = some o ∧ o.cls = .type "tuple" ∧ o.data = .seq its n ∧ its.size ≤ sizeLine ∧ Vals xs its.toList
def absV : Value → Option V
  | .none => some .non
  | .bool b => some (.bl b)
  | .int i _ => some (.int i)
  | .str x _ => some (.str x)
  | .bytes b _ => some (.byt b)
  | .float b _ => some (.flt b)
  | .ref a => some (.ref a)
  | .type n => some (.ty n)
  | _ => none
theorem RelV.abs {x : V} {u : Value} (r : RelV x u) : absV u = some x := by
  cases x with
  | non => cases r; rfl
  | bl _ => cases r; rfl
  | int _ => obtain ⟨t, rfl⟩ := r; rfl
  | str _ => obtain ⟨t, rfl⟩ := r; rfl
  | byt _ => obtain ⟨t, rfl⟩ := r; rfl
  | flt _ => obtain ⟨t, rfl⟩ := r; rfl
  | ref _ => cases r; rfl
  | ty _ => cases r; rfl
theorem RelV.inj {x y : V} {u : Value} (r : RelV x u) (q : RelV y u) : x = y := Option.some.inj (r.abs.symm.trans q.abs)
theorem Vals.inj : ∀ {xs ys : List V} {us : List Value}, Vals xs us → Vals ys us → xs = ys
  | _, _, _, .nil, .nil => rfl
  | _, _, _, .cons r t, .cons r' t' => by rw [r.inj r', Vals.inj t t']
section
variable {X : Cx} {pins : List (Addr × Obj)} {σ : St} {H : Hp} {s : Shared} {a : Addr} {xs ys : List V}
theorem SqL.of {K : PySem.W.Frag} (h : H a = some (.lst xs)) : SqL K H a xs := .inl (.inl h)
theorem Inv.list (I : Inv X pins σ H s) (h : SqL X.K H a xs) : ∃ its : List Value, Vals xs its ∧ PlainL s.heap a its.toArray ∧ xs.length ≤ sizeLine := by
  rcases h with h | ⟨o, its, n, hk, hc, hd, hs, hz, r⟩
  · obtain ⟨z, its, n, r, e⟩ := h.ok I.hok
    exact ⟨its, r, ⟨_, n, e, rfl, rfl, rfl⟩, z⟩
  · refine ⟨its.toList, r, ⟨o, n, I.kIn a o hk, hc, hd, by simpa using hs⟩, ?_⟩
    have e := r.length
    simp only [Array.length_toList] at e
    omega
theorem Inv.tuple (I : Inv X pins σ H s) (h : SqT X.K H a xs) : ∃ its : List Value, Vals xs its ∧ IsTup s.heap a its.toArray ∧ xs.length ≤ sizeLine := by
  rcases h with h | ⟨o, its, n, hk, hc, hs, hz, r⟩
  · obtain ⟨z, its, r, p⟩ := h.ok I.hok
    exact ⟨its, r, p, z⟩
  · refine ⟨its.toList, r, ⟨o, I.kIn a o hk, hc, n, by simpa using hs⟩, ?_⟩
    have e := r.length
    simp only [Array.length_toList] at e
    omega
theorem Inv.list_inj (I : Inv X pins σ H s) (h : SqL X.K H a xs) (h' : SqL X.K H a ys) : xs = ys := by
  obtain ⟨its, r, ⟨o, n, e, _, _, d⟩, _⟩ := I.list h
  obtain ⟨its', r', ⟨o', n', e', _, _, d'⟩, _⟩ := I.list h'
  rw [e] at e'; cases e'
  rw [d] at d'
  injection d' with d1 _
  have : its = its' := by simpa using congrArg Array.toList d1
  subst this
  exact r.inj r'
theorem Inv.tuple_inj (I : Inv X pins σ H s) (h : SqT X.K H a xs) (h' : SqT X.K H a ys) : xs = ys := by
  obtain ⟨its, r, ⟨o, e, _, n, d⟩, _⟩ := I.tuple h
  obtain ⟨its', r', ⟨o', e', _, n', d'⟩, _⟩ := I.tuple h'
  rw [e] at e'; cases e'
  rw [d] at d'
  injection d' with d1 _
  have : its = its' := by simpa using congrArg Array.toList d1
  subst this
  exact r.inj r'
end

/-! ### another wish about exceptions -/
abbrev Cx.wish (X : Cx) (E : Value → Shared → Prop) : Cx := { X with xe := E }
/-- no exception leaves -/
abbrev Cx.nox (X : Cx) : Cx := X.wish fun _ _ => False
theorem Cx.Ok.wish {X : Cx} (ok : X.Ok) (E : Value → Shared → Prop) : (X.wish E).Ok :=
  ⟨ok.mod, ok.kind, ok.glob, ok.blt, ok.above, ok.inj, ok.has, ok.cab, ok.hd, ok.frames, ok.stk, ok.exf, ok.bs, ok.bsz, ok.noex, ok.exfs, ok.funs, ok.frf⟩
theorem Cx.Ok.unwish {X : Cx} {E : Value → Shared → Prop} (ok : (X.wish E).Ok) : X.Ok :=
  ⟨ok.mod, ok.kind, ok.glob, ok.blt, ok.above, ok.inj, ok.has, ok.cab, ok.hd, ok.frames, ok.stk, ok.exf, ok.bs, ok.bsz, ok.noex, ok.exfs, ok.funs, ok.frf⟩
section
variable {X : Cx} {pins : List (Addr × Obj)} {σ : St} {H : Hp} {s : Shared} {E : Value → Shared → Prop}
theorem Inv.wish (I : Inv X pins σ H s) (E : Value → Shared → Prop) : Inv (X.wish E) pins σ H s := ⟨I.ok.wish E, I.os, I.bare, I.base, I.loc, I.cell, I.free, I.freeC, I.pin, I.hok, I.len⟩
theorem Inv.unwish (I : Inv (X.wish E) pins σ H s) : Inv X pins σ H s := ⟨I.ok.unwish, I.os, I.bare, I.base, I.loc, I.cell, I.free, I.freeC, I.pin, I.hok, I.len⟩
theorem SP.unwish {D : Ends} {f : Flow} {s' : Shared} (h : SP (X.wish E) pins D f s') : SP X pins D f s' := by
  cases f with
  | next => obtain ⟨σ', H', I, q⟩ := h; exact ⟨σ', H', I.unwish, q⟩
  | brk => obtain ⟨σ', H', I, q⟩ := h; exact ⟨σ', H', I.unwish, q⟩
  | cont => obtain ⟨σ', H', I, q⟩ := h; exact ⟨σ', H', I.unwish, q⟩
  | ret u => obtain ⟨v, σ', H', I, r, q⟩ := h; exact ⟨v, σ', H', I.unwish, r, q⟩
theorem PSs.nox {st : List Stmt} {t : TS} (h : PSs X.nox st t) : PSs X st t := fun pins s σ H D I hw =>
  wpAny_mono (h pins s σ H D (I.wish _) hw) (fun _ _ q => q.unwish) fun _ _ z => False.elim z
end

/-! ### blocks and small statements -/
section
variable {X : Cx} {st : Stmt} {rest : List Stmt} {t u : TS} {e : Expr} {te : TE} {pos : Pos}
def tNext : TS := fun D σ H => D.nx σ H
def tSeq (t u : TS) : TS := fun D σ H => t { D with nx := u D } σ H
theorem pss_nil : PSs X [] tNext := fun _ _ σ H _ I h => wpAny_execs_nil ⟨σ, H, I, h⟩
theorem pss_cons (h1 : PS X st t) (h2 : PSs X rest u) : PSs X (st :: rest) (tSeq t u) := by
  intro pins s σ H D I h
  refine wpAny_execs_cons (thn (h1 pins s σ H { D with nx := u D } I h) fun f s1 q => ?_)
  cases f with
  | next =>
    obtain ⟨σ', H', I', q⟩ := q
    exact h2 pins s1 σ' H' D I' q
  | ret v => exact q
  | brk => exact q
  | cont => exact q
theorem pss_one (h1 : PS X st t) : PSs X [st] t := by
  intro pins s σ H D I h
  refine wpAny_execs_cons (thn (h1 pins s σ H D I h) fun f s1 q => ?_)
  cases f with
  | next => exact wpAny_execs_nil q
  | ret v => exact q
  | brk => exact q
  | cont => exact q
def tBreak : TS := fun D σ H => D.bk σ H
def tCont : TS := fun D σ H => D.ct σ H
/-- in a def's body nothing is shown -/
theorem Inv.quiet {pins : List (Addr × Obj)} {σ : St} {H : Hp} {s : Shared} (I : Inv X pins σ H s) : interactive X.env = false := by simp [interactive, I.ok.kind]
/-- an expression whose value is dropped -/
def tDrop (te : TE) : TS := fun D σ H => te σ H fun _ H1 => D.nx σ H1
theorem ps_expr (he : PE X e te) (hs : swapsWith e none pos.line X.env = pure false := by rfl) : PS X (.Expr e pos) (tDrop te) := by
  intro pins s σ H D I h
  exact wpAny_Expr_any (thn (he pins s σ H _ I h) fun v s1 ⟨x, H1, I1, r1, q1⟩ => ⟨σ, H1, I1, q1⟩) I.quiet hs
def tRet (te : TE) : TS := fun D σ H => te σ H D.rt
theorem ps_ret (he : PE X e te) : PS X (.Return (some e) pos) (tRet te) := by
  intro pins s σ H D I h
  exact wpAny_Return_some (thn (he pins s σ H _ I h) fun v s1 ⟨x, H1, I1, r1, q1⟩ => ⟨x, σ, H1, I1, r1, q1⟩)
def tRetN : TS := fun D _ H => D.rt .non H
def tIfS (c : TT) (t u : TS) : TS := fun D σ H => c σ H fun b H1 => if b = true then t D σ H1 else u D σ H1
theorem ps_if {c : Expr} {a b : List Stmt} {tc : TT} (hc : PT X c tc) (ha : PSs X a t) (hb : PSs X b u) : PS X (.If c a b pos) (tIfS tc t u) := by
  intro pins s σ H D I h
  refine wpAny_If (thn (hc pins s σ H _ I h) fun d s1 ⟨H1, I1, q1⟩ => ?_)
  cases d with
  | true => exact ha pins s1 σ H1 D I1 q1
  | false => exact hb pins s1 σ H1 D I1 q1
/-- code that the proof never comes to -/
def tNever : TS := fun _ _ _ => False
end

/-! ### targets -/
abbrev TG := V → St → Hp → (St → Hp → Prop) → Prop
abbrev TGs := List V → St → Hp → (St → Hp → Prop) → Prop
def PG (X : Cx) (target : Expr) (t : TG) : Prop :=
  ∀ (pins : List (Addr × Obj)) (s : Shared) (σ : St) (H : Hp) (v : V) (u : Value) (Q : St → Hp → Prop), Inv X pins σ H s → RelV v u → t v σ H Q →
    wpAny (model X.prog X.w) X.A (assign target X.env u) (fun _ s' => ∃ σ' H', Inv X pins σ' H' s' ∧ Q σ' H') X.xe s
/-- several targets, one after another -/
def PGs (X : Cx) (ts : List Expr) (t : TGs) : Prop :=
  ∀ (pins : List (Addr × Obj)) (s : Shared) (σ : St) (H : Hp) (vs : List V) (us : List Value) (Q : St → Hp → Prop), Inv X pins σ H s → Vals vs us → t vs σ H Q →
    wpAny (model X.prog X.w) X.A (assignInOrder ((assignEach ts X.env).map (·.2)) us) (fun _ s' => ∃ σ' H', Inv X pins σ' H' s' ∧ Q σ' H') X.xe s
/-- o[i] = v, by values -/
abbrev TSet := V → V → V → Hp → (Hp → Prop) → Prop
def PSet (X : Cx) (t : TSet) : Prop :=
  ∀ (pins : List (Addr × Obj)) (s : Shared) (σ : St) (H : Hp) (o i v : V) (ov iv u : Value) (Q : Hp → Prop), Inv X pins σ H s → RelV o ov → RelV i iv → RelV v u → t o i v H Q →
    wpAny (model X.prog X.w) X.A (setItem ov iv u) (fun _ s' => ∃ H', Inv X pins σ H' s' ∧ Q H') X.xe s
/-- a op= b, by values -/
abbrev TIp := V → V → Hp → VK → Prop
def PIp (X : Cx) (op : Operator) (t : TIp) : Prop :=
  ∀ (pins : List (Addr × Obj)) (s : Shared) (σ : St) (H : Hp) (x y : V) (v u : Value) (Q : VK), Inv X pins σ H s → RelV x v → RelV y u → t x y H Q →
    wpAny (model X.prog X.w) X.A (inplaceOp op v u) (EP X pins σ Q) X.xe s
section
variable {X : Cx} {pos : Pos}
def gName (i : Nat) : TG := fun v σ H Q => Q (σ.set i (some v)) H
theorem pg_name {i : Nat} {x : Str} (hN : X.N.Nodup) (hi : X.N[i]? = some x) (hx : Loc X.env.scope x) (hf : X.fn x = true ∨ X.env.scope.names.lookup x = some .local := by first | exact .inl rfl | exact .inr rfl | assumption) : PG X (.Name x pos) (gName i) := by
  intro pins s σ H v u Q I r h
  exact wpAny_assign_Name (store_ok I hN hi hx r (fun s' I' => ⟨_, H, I', h⟩) hf)
def gNil : TGs := fun vs σ H Q => vs = [] ∧ Q σ H
def gCons (t : TG) (u : TGs) : TGs := fun vs σ H Q => ∃ v r, vs = v :: r ∧ t v σ H fun σ' H' => u r σ' H' Q
theorem pgs_nil : PGs X [] gNil := by
  intro pins s σ H vs us Q I r h
  obtain ⟨e, h⟩ := h
  subst e
  cases r
  exact assignInOrder_nil ⟨σ, H, I, h⟩
theorem pgs_cons {e : Expr} {es : List Expr} {t : TG} {u : TGs} (h1 : PG X e t) (h2 : PGs X es u)
    (hs : (assignEach (e :: es) X.env).map (·.2) = assign e X.env :: (assignEach es X.env).map (·.2) := by rfl) : PGs X (e :: es) (gCons t u) := by
  intro pins s σ H vs us Q I r h
  obtain ⟨v, vr, e1, h⟩ := h
  subst e1
  cases r with
  | cons r rr =>
    rw [hs]
    refine assignInOrder_cons (thn (h1 pins s σ H _ _ _ I r h) fun _ s1 ⟨σ1, H1, I1, q1⟩ => ?_)
    exact h2 pins s1 σ1 H1 _ _ Q I1 rr q1
/-- (a, b, ..) = a tuple of that length -/
def gTup (K : PySem.W.Frag) (n : Nat) (t : TGs) : TG := fun v σ H Q => ∃ a xs, v = .ref a ∧ SqT K H a xs ∧ xs.length = n ∧ t xs σ H Q
theorem pg_tup {es : List Expr} {k : Nat} {t : TGs} {n : Nat} (hc : X.calm = true) (h : PGs X es t)
    (hn : (assignEach es X.env).length = n := by rfl) (hst : (assignEach es X.env).findIdx? (·.1) = none := by rfl) : PG X (.Tuple es k pos) (gTup X.K n t) := by
  intro pins s σ H v u Q I r hw
  obtain ⟨a, xs, e1, hq, hl, hw⟩ := hw
  subst e1
  cases r
  obtain ⟨its, rv, ht, hz⟩ := I.tuple hq
  refine assign_Tuple_tuple (I.ok.hd hc) ht (by simp [hn, ← hl, rv.length]) hst fun h' hx => ?_
  have I1 : Inv X pins σ H { s with heap := h' } := I.kept (t' := s.toks) fun b o e => hx b o (Nat.ne_of_lt (Heap.lt_size e)) e
  exact h pins _ σ H xs _ Q I1 (by simpa using rv) hw
/-- o[i] = .. -/
def gSub (to ti : TE) (t : TSet) : TG := fun v σ H Q => to σ H fun o H1 => ti σ H1 fun i H2 => t o i v H2 fun H3 => Q σ H3
theorem pg_sub {o i : Expr} {to ti : TE} {t : TSet} (ho : PE X o to) (hi : PE X i ti) (hs : PSet X t)
    (ha : ∀ v, assign (.Subscript o i pos) X.env v = (do
      let ov ← holding [v] (eval o X.env)
      let iv ← holding [v, ov] (eval i X.env)
      standAt pos
      holding [v, ov, iv] (setItem ov iv v)
      release [v, ov, iv] []) := by intro _; rfl) : PG X (.Subscript o i pos) (gSub to ti t) := by
  intro pins s σ H v u Q I r h
  rw [ha]
  refine wpAny_bind (wpAny_holding (thn (ho pins s σ H _ I h) fun ov s1 ⟨x, H1, I1, r1, q1⟩ => ?_))
  refine wpAny_bind (wpAny_holding (thn (hi pins s1 σ H1 _ I1 q1) fun iv s2 ⟨y, H2, I2, r2, q2⟩ => ?_))
  refine wpAny_bind (wpAny_standAt (wpAny_bind (wpAny_holding (thn (hs pins s2 σ H2 x y v ov iv u _ I2 r1 r2 r q2) fun _ s3 ⟨H3, I3, q3⟩ => ?_))))
  exact wpAny_release ⟨σ, H3, I3, q3⟩
/-- target = value -/
def tAsg (te : TE) (g : TG) : TS := fun D σ H => te σ H fun x H1 => g x σ H1 D.nx
theorem ps_asg {tg e : Expr} {te : TE} {g : TG} (he : PE X e te) (hg : PG X tg g) (hs : swapsWithSole [tg] e pos.line X.env = pure false := by rfl) (hw : swappedStores [tg] e X.env = pure none := by rfl)
    (h1 : (assignEach [tg] X.env).map (·.2) = [assign tg X.env] := by rfl) : PS X (.Assign [tg] e pos) (tAsg te g) := by
  intro pins s σ H D I h
  refine wpAny_Assign_stores (thn (he pins s σ H _ I h) fun v s1 ⟨x, H1, I1, r1, q1⟩ => ?_) hs hw
  rw [h1]
  exact thn (hg pins s1 σ H1 x v _ I1 r1 q1) fun _ s2 q => q
/-- name = value -/
theorem ps_set {i : Nat} {x : Str} {e : Expr} {te : TE} {pos' : Pos} (hN : X.N.Nodup) (hi : X.N[i]? = some x) (hx : Loc X.env.scope x) (he : PE X e te) (hs : swapsWith e (some (.Name x pos')) pos.line X.env = pure false := by rfl) (hf : X.fn x = true ∨ X.env.scope.names.lookup x = some .local := by first | exact .inl rfl | exact .inr rfl | assumption) :
    PS X (.Assign [.Name x pos'] e pos) (tAsg te (gName i)) := by
  intro pins s σ H D I h
  refine wpAny_Assign_Name (thn (he pins s σ H _ I h) fun v s1 ⟨y, H1, I1, r1, q1⟩ => ?_) hs
  exact store_ok I1 hN hi hx r1 (fun s2 I2 => ⟨_, H1, I2, q1⟩) hf
/-- a, b = x, y with plain local names: stored from the right; the pair itself is not tracked (the opening rows as in PyProof/Rows/TupAssign.lean:23) -/
def tPar (i j : Nat) (ta : TA) : TS := fun D σ H => ta σ H fun vs H1 => ∃ v w, vs = [v, w] ∧ D.nx ((σ.set i (some v)).set j (some w)) H1
/-- name op= e -/
def tAug (i : Nat) (te : TE) (ti : TIp) : TS := fun D σ H => ∃ x, σ[i]? = some (some x) ∧ te σ H fun y H1 => ti x y H1 fun z H2 => D.nx (σ.set i (some z)) H2
/-- o[i] op= e -/
def tAugS (to ti te : TE) (tget : V → V → Hp → VK → Prop) (tip : TIp) (tset : TSet) : TS := fun D σ H => to σ H fun o H1 => ti σ H1 fun i H2 => tget o i H2 fun x H3 => te σ H3 fun y H4 => tip x y H4 fun z H5 => tset o i z H5 fun H6 => D.nx σ H6
/-- o[i], by values -/
def PGet (X : Cx) (t : V → V → Hp → VK → Prop) : Prop :=
  ∀ (pins : List (Addr × Obj)) (s : Shared) (σ : St) (H : Hp) (o i : V) (ov iv : Value) (Q : VK), Inv X pins σ H s → RelV o ov → RelV i iv → t o i H Q →
    wpAny (model X.prog X.w) X.A (getItem ov iv) (EP X pins σ Q) X.xe s
/-- ints -/
def ipI (f : Int → Int → Int) : TIp := fun x y H Q => ∃ i j, x = .int i ∧ y = .int j ∧ Q (.int (f i j)) H
end

/-! ### while -/
section
variable {X : Cx} {pos : Pos}
/-- the invariant W with its measure -/
def tWhile (c : TT) (tb : TS) : TS := fun D σ H => ∃ W : Nat → St → Hp → Prop, (∃ m, W m σ H) ∧ ∀ m σ H, W m σ H →
  c σ H fun b H1 => if b = true then ∃ N : St → Hp → Prop, (∀ σ' H', N σ' H' → ∃ m', m' < m ∧ W m' σ' H') ∧ tb { D with nx := N, ct := N, bk := D.nx } σ H1 else D.nx σ H1
theorem ps_while {c : Expr} {body : List Stmt} {tc : TT} {tb : TS} (hp : PassesOwn (model X.prog X.w) X.A X.env X.xe) (hc : PT X c tc) (hb : PSs X body tb) : PS X (.While c body [] pos) (tWhile tc tb) := by
  intro pins s σ H D I h
  obtain ⟨W, ⟨m0, w0⟩, turn⟩ := h
  refine wpAny_While (codeAny_whileLoop (fun n s' => ∃ σ' H', Inv X pins σ' H' s' ∧ W n σ' H') ?_ m0 ⟨σ, H, I, w0⟩)
  rintro n s1 ⟨σ1, H1, I1, w1⟩
  refine wpAny_passesOwn hp (thn (hc pins s1 σ1 H1 _ I1 (turn n σ1 H1 w1)) fun b s2 ⟨H2, I2, q2⟩ => ?_)
  cases b with
  | true =>
    obtain ⟨N, hN, q2⟩ := q2
    rw [if_pos rfl]
    refine wpAny_passesOwn hp (thn (hb pins s2 σ1 H2 _ I2 q2) fun f s3 q3 => ?_)
    cases f with
    | next =>
      obtain ⟨σ3, H3, I3, n3⟩ := q3
      obtain ⟨m', hm, w3⟩ := hN σ3 H3 n3
      exact ⟨m', hm, σ3, H3, I3, w3⟩
    | cont =>
      obtain ⟨σ3, H3, I3, n3⟩ := q3
      obtain ⟨m', hm, w3⟩ := hN σ3 H3 n3
      exact ⟨m', hm, σ3, H3, I3, w3⟩
    | brk => exact q3
    | ret v => exact q3
  | false =>
    rw [if_neg Bool.false_ne_true]
    exact wpAny_execs_nil ⟨σ1, H2, I2, q2⟩
end

/-! ### what a loop or a comprehension walks -/
/-- at turn i: it yields x (the heap may grow), or it stops -/
structure It where
  go : Nat → Hp → Prop
  yld : Nat → Hp → V → Hp → Prop
  stop : Nat → Hp → Prop
/-- the iterator's own objects may turn: they are not the frame's, not pinned, younger than the entry (or a comprehension's own) -/
def FpOk (X : Cx) (pins : List (Addr × Obj)) (H : Hp) (b : Addr) : Prop :=
  H b = none ∧ b ≠ X.env.locals ∧ b ∉ X.fs ∧ (b ∈ X.ex ∨ X.s₀.heap.objs.size ≤ b) ∧ (∀ x c, X.env.cells.lookup x = some c → c ≠ b) ∧ ∀ p ∈ X.pn ++ pins, p.1 ≠ b
theorem Inv.fpOk {X : Cx} {pins : List (Addr × Obj)} {σ : St} {H H' : Hp} {s : Shared} {b : Addr} (I : Inv X pins σ H s) (hb : s.heap.objs.size ≤ b) (hn : H' b = none) : FpOk X pins H' b := by
  refine ⟨hn, Nat.ne_of_gt (Nat.lt_of_lt_of_le I.lt hb), I.nofs hb, .inr (Nat.le_trans I.sz hb), fun x c e z => ?_, fun p hp z => ?_⟩
  · obtain ⟨v, q⟩ := I.cell x c e
    exact absurd (Nat.lt_of_lt_of_le q.lt (by rw [z]; exact hb)) (Nat.lt_irrefl _)
  · exact absurd (Nat.lt_of_lt_of_le (Heap.lt_size (I.pin p hp).1) (by rw [z]; exact hb)) (Nat.lt_irrefl _)
structure Turn (P : Program) (w : World) (K : PySem.W.Frag) (tg : Expr) (J : It) (fp : List Addr) (it : Addr) (tn : Nat → Heap → Prop) : Prop where
  mem : it ∈ fp
  obj : ∀ i h, tn i h → ∀ b ∈ fp, ∃ o, h.get? b = some o ∧ ∀ v, o.data ≠ .cell v
  keep : ∀ i h h', tn i h → (∀ b ∈ fp, ∀ o, h.get? b = some o → h'.get? b = some o) → tn i h'
  item : ∀ (X : Cx), X.prog = P → X.w = w → X.K = K → X.calm = true → ∀ (i : Nat) (pins : List (Addr × Obj)) (s : Shared) (σ : St) (H : Hp) (E : Value → Shared → Prop), Inv X pins σ H s → (∀ b ∈ fp, FpOk X pins H b) → tn i s.heap → J.go i H →
    wpAny (model P w) X.A (pyNext (.ref it)) (fun r s1 => ∃ u, r = some u ∧
      wpAny (model P w) X.A (letOwnedTupleGo tg (.ref it) u) (fun _ s2 => ∃ x H', Inv X pins σ H' s2 ∧ RelV x u ∧ J.yld i H x H' ∧ tn (i + 1) s2.heap ∧ ∀ b ∈ fp, H' b = none) E s1) E s
  done : ∀ (X : Cx), X.prog = P → X.w = w → X.K = K → X.calm = true → ∀ (i : Nat) (pins : List (Addr × Obj)) (s : Shared) (σ : St) (H : Hp) (E : Value → Shared → Prop), Inv X pins σ H s → (∀ b ∈ fp, FpOk X pins H b) → tn i s.heap → J.stop i H →
    wpAny (model P w) X.A (pyNext (.ref it)) (fun r s1 => r = none ∧ Inv X pins σ H s1) E s
  self : ∀ (A : Around) (i : Nat) (s : Shared) (Q : Value → Shared → Prop) (E : Value → Shared → Prop), tn i s.heap → Q (.ref it) s → wpAny (model P w) A (pyIter (.ref it)) Q E s
abbrev TI := St → Hp → (It → Hp → Prop) → Prop
/-- an iterator has come -/
def PIE (X : Cx) (pins : List (Addr × Obj)) (σ : St) (tg : Expr) (R : It → Hp → Prop) (itv : Value) (s2 : Shared) : Prop :=
  ∃ (it : Addr) (fp : List Addr) (tn : Nat → Heap → Prop) (J : It) (H' : Hp), itv = .ref it ∧ Inv X pins σ H' s2 ∧ Turn X.prog X.w X.K tg J fp it tn ∧ tn 0 s2.heap ∧ (∀ b ∈ fp, FpOk X pins H' b) ∧ R J H'
def PI (X : Cx) (tg iter : Expr) (wi : TI) : Prop :=
  ∀ (pins : List (Addr × Obj)) (s : Shared) (σ : St) (H : Hp) (R : It → Hp → Prop), Inv X pins σ H s → wi σ H R →
    wpAny (model X.prog X.w) X.A (eval iter X.env) (fun v s1 => wpAny (model X.prog X.w) X.A (pyIter v) (PIE X pins σ tg R) X.xe s1) X.xe s

/-- the step ahead of the store is nothing for an iterator that keeps no tuple -/
theorem go_of {M : Model} {A : Around} {E : Value → Shared → Prop} {s : Shared} {tg : Expr} {it : Addr} {u : Value} {o : Obj} {n : String} {vs : Array Value} {Q : Unit → Shared → Prop} (ho : s.heap.get? it = some o) (hc : o.cls = .type n) (hd : o.data = .fields vs)
    (hn : ["enumerate", "zip", "dict_itemiterator", "dict_reverseitemiterator", "odict_iterator", "itertools.zip_longest", "itertools.pairwise"].contains n = false) (hQ : Q () s) : wpAny M A (letOwnedTupleGo tg (.ref it) u) Q E s := by
  unfold letOwnedTupleGo
  cases tg <;> first
    | exact wpAny_pure hQ
    | (cases u <;> first
        | exact wpAny_pure hQ
        | (refine wpAny_bind (wpAny_load ho ?_)
           rw [hc, hd]
           show wpAny M A (if (["enumerate", "zip", "dict_itemiterator", "dict_reverseitemiterator", "odict_iterator", "itertools.zip_longest", "itertools.pairwise"].contains n && vs[0]? == some (rawInt _)) = true then _ else _) Q E s
           rw [if_neg (by intro h; rw [hn, Bool.false_and] at h; cases h)]
           exact wpAny_pure hQ))

/-- the list at a, as it stands at each turn (a loop may append to it) -/
def Itl (K : PySem.W.Frag) (a : Addr) : It :=
  ⟨fun i H => ∃ xs x, SqL K H a xs ∧ xs[i]? = some x, fun i H x H' => H' = H ∧ ∀ xs, SqL K H a xs → xs[i]? = some x, fun i H => ∃ xs, SqL K H a xs ∧ xs.length ≤ i⟩
def Itt (K : PySem.W.Frag) (a : Addr) : It :=
  ⟨fun i H => ∃ xs x, SqT K H a xs ∧ xs[i]? = some x, fun i H x H' => H' = H ∧ ∀ xs, SqT K H a xs → xs[i]? = some x, fun i H => ∃ xs, SqT K H a xs ∧ xs.length ≤ i⟩
/-- lo, lo + 1, .. (n of them) -/
def Itr (lo : Int) (n : Nat) : It := ⟨fun i _ => i < n, fun i H x H' => H' = H ∧ x = .int (lo + i), fun i _ => n ≤ i⟩
theorem turn_list {P : Program} {w : World} {K : PySem.W.Frag} {tg : Expr} (a it : Addr) : Turn P w K tg (Itl K a) [it] it (fun i h => h.IsListIter it a i) where
  mem := by simp
  obj := fun i h st b hb => by
    have e : b = it := by simpa using hb
    subst e
    obtain ⟨o, e, c, d⟩ := st
    exact ⟨o, e, fun v z => by rw [d] at z; cases z⟩
  keep := fun i h h' st k => st.at fun o e => k it (by simp) o e
  item := by
    intro X hP hw hK hc i pins s σ H E I hf st hg
    subst hP hw hK
    obtain ⟨xs, x, hq, hx⟩ := hg
    obtain ⟨its, rv, p, hz⟩ := I.list hq
    obtain ⟨u, hu, ru⟩ := rv.get hx
    obtain ⟨f0, f1, f2, f3, f4, f5⟩ := hf it (by simp)
    refine wpAny_pyNext_list_item st p.isList (x := u) (by simpa using hu) fun h' st' sb => ?_
    have I1 : Inv X pins σ H { s with heap := h' } := I.turned (t' := s.toks) (fun b o hb e => (sb.2 b hb).trans e) f0 f1 f3 f4 f5
    obtain ⟨o, e, c, d⟩ := id st'
    exact ⟨u, rfl, go_of (s := { s with heap := h' }) e c d (by decide) ⟨x, H, I1, ru, ⟨rfl, fun ys hy => by rw [I.list_inj hy hq]; exact hx⟩, st', fun b hb => (hf b hb).1⟩⟩
  done := by
    intro X hP hw hK hc i pins s σ H E I hf st hg
    subst hP hw hK
    obtain ⟨xs, hq, hx⟩ := hg
    obtain ⟨its, rv, p, hz⟩ := I.list hq
    obtain ⟨f0, f1, f2, f3, f4, f5⟩ := hf it (by simp)
    have hl := rv.length
    exact wpAny_pyNext_list_end (I.ok.hd hc) st p.isList (by simp; omega) fun h' eb => ⟨rfl, I.turned (t' := s.toks) (fun b o hb e => eb b o hb e) f0 f1 f3 f4 f5⟩
  self := fun _ _ _ _ _ st h => wpAny_pyIter_listiter st h
theorem turn_tuple {P : Program} {w : World} {K : PySem.W.Frag} {tg : Expr} (a it : Addr) : Turn P w K tg (Itt K a) [it] it (fun i h => h.IsTupleIter it a i) where
  mem := by simp
  obj := fun i h st b hb => by
    have e : b = it := by simpa using hb
    subst e
    obtain ⟨o, e, c, d⟩ := st
    exact ⟨o, e, fun v z => by rw [d] at z; cases z⟩
  keep := fun i h h' st k => st.at fun o e => k it (by simp) o e
  item := by
    intro X hP hw hK hc i pins s σ H E I hf st hg
    subst hP hw hK
    obtain ⟨xs, x, hq, hx⟩ := hg
    obtain ⟨its, rv, p, hz⟩ := I.tuple hq
    obtain ⟨u, hu, ru⟩ := rv.get hx
    obtain ⟨f0, f1, f2, f3, f4, f5⟩ := hf it (by simp)
    refine wpAny_pyNext_tuple_item st (show s.heap.IsTuple a its.toArray from p) (x := u) (by simpa using hu) fun h' st' sb => ?_
    have I1 : Inv X pins σ H { s with heap := h' } := I.turned (t' := s.toks) (fun b o hb e => (sb.2 b hb).trans e) f0 f1 f3 f4 f5
    obtain ⟨o, e, c, d⟩ := id st'
    exact ⟨u, rfl, go_of (s := { s with heap := h' }) e c d (by decide) ⟨x, H, I1, ru, ⟨rfl, fun ys hy => by rw [I.tuple_inj hy hq]; exact hx⟩, st', fun b hb => (hf b hb).1⟩⟩
  done := by
    intro X hP hw hK hc i pins s σ H E I hf st hg
    subst hP hw hK
    obtain ⟨xs, hq, hx⟩ := hg
    obtain ⟨its, rv, p, hz⟩ := I.tuple hq
    obtain ⟨f0, f1, f2, f3, f4, f5⟩ := hf it (by simp)
    have hl := rv.length
    exact wpAny_pyNext_tuple_end (I.ok.hd hc) st (show s.heap.IsTuple a its.toArray from p) (by simp; omega) fun h' eb => ⟨rfl, I.turned (t' := s.toks) (fun b o hb e => eb b o hb e) f0 f1 f3 f4 f5⟩
  self := fun _ _ _ _ _ st h => wpAny_pyIter_tupleiter st h
theorem turn_range {P : Program} {w : World} {K : PySem.W.Frag} {tg : Expr} (it : Addr) (lo : Int) (n : Nat) : Turn P w K tg (Itr lo n) [it] it (fun i h => IsRangeIter h it (lo + (i : Nat) * 1) ((n : Int) - (i : Nat)) 1) where
  mem := by simp
  obj := fun i h st b hb => by
    have e : b = it := by simpa using hb
    subst e
    exact ⟨_, st, fun v z => by
      have z' : Data.fields _ = Data.cell v := z
      cases z'⟩
  keep := fun i h h' st k => k it (by simp) _ st
  item := by
    intro X hP hw hK hc i pins s σ H E I hf st hg
    subst hP hw hK
    obtain ⟨f0, f1, f2, f3, f4, f5⟩ := hf it (by simp)
    have W := Walks.range (prog := X.prog) (w := X.w) (I.ok.hd hc) it lo 1 n
    refine W.item i s _ _ hg st fun v h' tk hv st' kk => ?_
    obtain ⟨t, rfl⟩ := hv
    have I1 : Inv X pins σ H { s with heap := h', toks := tk } := I.turned (fun b o hb e => kk b o (by simpa using hb) e) f0 f1 f3 f4 f5
    refine ⟨_, rfl, go_of (s := { s with heap := h', toks := tk }) (n := "range_iterator") st' rfl rfl (by decide) ⟨.int (lo + i), H, I1, ⟨t, ?_⟩, ⟨rfl, rfl⟩, st', fun b hb => (hf b hb).1⟩⟩
    rw [Int.mul_one]
  done := by
    intro X hP hw hK hc i pins s σ H E I hf st hg
    subst hP hw hK
    obtain ⟨f0, f1, f2, f3, f4, f5⟩ := hf it (by simp)
    exact wpAny_pyNext_range_end (I.ok.hd hc) st (by have : n ≤ i := hg; omega) fun h' eb => ⟨rfl, I.turned (t' := s.toks) (fun b o hb e => eb b o hb e) f0 f1 f3 f4 f5⟩
  self := fun _ _ _ _ _ st h => wpAny_pyIter_rangeiter st h
end L2

namespace L2
open PySem PySem.Spec PyProof.Rows
section
variable {X : Cx} {tg : Expr}
def iList (K : PySem.W.Frag) (tl : TE) : TI := fun σ H R => tl σ H fun x H1 => ∃ a, x = .ref a ∧ (∃ xs, SqL K H1 a xs) ∧ R (Itl K a) H1
def iTup (K : PySem.W.Frag) (tl : TE) : TI := fun σ H R => tl σ H fun x H1 => ∃ a, x = .ref a ∧ (∃ xs, SqT K H1 a xs) ∧ R (Itt K a) H1
/-- a range object just made, walked -/
theorem range_it {pins : List (Addr × Obj)} {σ : St} {H : Hp} {s : Shared} {R : It → Hp → Prop} {E : Value → Shared → Prop} {lo hi : Int} {t u v : Tok} {tk : Nat} (I : Inv X pins σ H s) (h1 : -(2 ^ 62) ≤ lo) (h2 : lo < 2 ^ 62) (h3 : -(2 ^ 62) ≤ hi) (h4 : hi < 2 ^ 62)
    (q : R (Itr lo (hi - lo).toNat) H) : wpAny (model X.prog X.w) X.A (pyIter (.ref s.heap.objs.size)) (PIE X pins σ tg R) E { s with heap := s.heap.push { cls := .type "range", data := .fields #[.int lo t, .int hi u, .int 1 v] }, toks := tk } := by
  refine wpAny_pyIter_range (IsRange.new ..) (small_one h1 h2 h3 h4) ?_
  have I1 : Inv X pins σ H { s with heap := s.heap.push { cls := .type "range", data := .fields #[.int lo t, .int hi u, .int 1 v] }, toks := tk } := I.kept fun b o e => Heap.get?_push_of_some _ e
  refine ⟨(s.heap.push { cls := .type "range", data := .fields #[.int lo t, .int hi u, .int 1 v] }).objs.size, [(s.heap.push { cls := .type "range", data := .fields #[.int lo t, .int hi u, .int 1 v] }).objs.size], _, _, H, rfl,
    I1.kept (t' := tk) fun b o e => Heap.get?_push_of_some _ e, turn_range _ lo (hi - lo).toNat, ?_, fun b hb => ?_, q⟩
  · have e1 : lo + ((0 : Nat) : Int) * 1 = lo := by simp
    have e2 : (((hi - lo).toNat : Nat) : Int) - ((0 : Nat) : Int) = Builtin.Range.rangeSize lo hi 1 := by rw [rangeSize_one]; split <;> omega
    show IsRangeIter _ _ (lo + ((0 : Nat) : Int) * 1) ((((hi - lo).toNat : Nat) : Int) - ((0 : Nat) : Int)) 1
    rw [e1, e2]
    exact Heap.get?_push_size _ rfl
  · have e : b = (s.heap.push { cls := .type "range", data := .fields #[.int lo t, .int hi u, .int 1 v] }).objs.size := by simpa using hb
    subst e
    exact I1.fpOk (Nat.le_refl _) (I1.hok.fresh (Nat.le_refl _))
def iRng1 (ta : TA) : TI := fun σ H R => ta σ H fun vs H1 => ∃ j : Int, vs = [.int j] ∧ -(2 ^ 62) ≤ j ∧ j < 2 ^ 62 ∧ R (Itr 0 j.toNat) H1
def iRng2 (ta : TA) : TI := fun σ H R => ta σ H fun vs H1 => ∃ i j : Int, vs = [.int i, .int j] ∧ (-(2 ^ 62) ≤ i ∧ i < 2 ^ 62 ∧ -(2 ^ 62) ≤ j ∧ j < 2 ^ 62) ∧ R (Itr i (j - i).toNat) H1
theorem pi_range1 {a : Expr} {ta : TA} {p pos : Pos} (hg : Gl X "range") (hm : X.mg "range" = none) (ha : PA X [a] ta) (hs : starEach [a] X.env = [(false, eval a X.env)] := by rfl) : PI X tg (.Call (.Name "range" p) [a] [] pos) (iRng1 ta) := by
  intro pins s σ H R I h
  refine Call_ (ld_blt I hg hm boot_range (PyProof.Rows.callWith_type1 (thn (ha pos pins s σ H _ I h) fun us s1 ⟨vs, H1, I1, r1, q1⟩ => ?_) hs rfl))
  obtain ⟨j, e, q1, q2, q⟩ := q1
  subst e
  cases r1 with
  | cons r rr =>
    cases rr
    obtain ⟨t, rfl⟩ := r
    exact call_range_1 (range_it I1 (by omega) (by omega) q1 q2 (by simpa using q))
/-! ### for -/
/-- W: the invariant by the turn and a measure; N: what the body is to reach -/
def tFor (wi : TI) (g : TG) (tb : TS) : TS := fun D σ H => wi σ H fun J H1 => ∃ W : Nat → Nat → St → Hp → Prop, (∃ m, W 0 m σ H1) ∧ ∀ i m σ H, W i m σ H →
  (J.stop i H ∧ D.nx σ H) ∨ (J.go i H ∧ ∃ N : St → Hp → Prop, (∀ σ' H', N σ' H' → ∃ m', m' < m ∧ W (i + 1) m' σ' H') ∧ ∀ x H', J.yld i H x H' → g x σ H' fun σ2 H2 => tb { D with nx := N, ct := N, bk := D.nx } σ2 H2)
/-- the records at fp as they stand -/
def pinsAt (fp : List Addr) (h : Heap) : List (Addr × Obj) := fp.filterMap fun b => (h.get? b).map fun o => (b, o)
theorem mem_pinsAt {fp : List Addr} {h : Heap} {b : Addr} {o : Obj} (hb : b ∈ fp) (e : h.get? b = some o) : (b, o) ∈ pinsAt fp h := List.mem_filterMap.mpr ⟨b, hb, by rw [e]; rfl⟩
theorem of_pinsAt {fp : List Addr} {h : Heap} {p : Addr × Obj} (hp : p ∈ pinsAt fp h) : p.1 ∈ fp ∧ h.get? p.1 = some p.2 := by
  obtain ⟨b, hb, e⟩ := List.mem_filterMap.mp hp
  cases q : h.get? b with
  | none => rw [q] at e; cases e
  | some o =>
    rw [q] at e
    have e' : (b, o) = p := Option.some.inj e
    subst e'
    exact ⟨hb, q⟩
theorem Inv.pinned {pins : List (Addr × Obj)} {σ : St} {H : Hp} {s : Shared} {fp : List Addr} (I : Inv X pins σ H s) (hf : ∀ b ∈ fp, FpOk X pins H b) (ho : ∀ b ∈ fp, ∃ o, s.heap.get? b = some o ∧ ∀ v, o.data ≠ .cell v) : Inv X (pins ++ pinsAt fp s.heap) σ H s :=
  I.pins_of fun p hp => (List.mem_append.mp hp).elim (fun z => I.pin p (List.mem_append_right _ z)) fun z => by
    obtain ⟨hb, e⟩ := of_pinsAt z
    obtain ⟨f0, f1, f2, _⟩ := hf p.1 hb
    obtain ⟨o, e', d⟩ := ho p.1 hb
    rw [e] at e'; cases e'
    exact ⟨e, f0, f1, f2, d⟩
theorem Inv.unpinned {pins pl : List (Addr × Obj)} {σ : St} {H : Hp} {s : Shared} (I : Inv X (pins ++ pl) σ H s) : Inv X pins σ H s := I.pins_of fun p hp => I.pin p (List.mem_append_right _ (List.mem_append_left _ hp))
theorem ps_for {iter : Expr} {body : List Stmt} {wi : TI} {g : TG} {tb : TS} {pos : Pos} (hp : PassesOwn (model X.prog X.w) X.A X.env X.xe) (hc : X.calm = true) (hi : PI X tg iter wi) (hg : PG X tg g) (hb : PSs X body tb)
    (hs : ∀ x, foldedSetIterable iter X.env x = pure x := by intro _; rfl) : PS X (.For tg iter body [] pos) (tFor wi g tb) := by
  intro pins s σ H D I h
  refine wpAny_For (thn (hi pins s σ H _ I h) fun v s1 h1 => thn h1 fun itv s2 h2 => ?_) hs
  obtain ⟨it, fp, tn, J, H2, e, I2, T, st2, f2, W, ⟨m0, w0⟩, turn⟩ := h2
  subst e
  -- what stays true of the iterator's objects through the loop
  have stat : ∀ {H' : Hp}, (∀ b ∈ fp, H' b = none) → ∀ b ∈ fp, FpOk X pins H' b := fun hn b hb => ⟨hn b hb, (f2 b hb).2⟩
  refine codeAny_forLoop_any (fun n s' => ∃ i σ' H', Inv X pins σ' H' s' ∧ tn i s'.heap ∧ (∀ b ∈ fp, H' b = none) ∧ W i n σ' H') ?_ m0 ⟨0, σ, H2, I2, st2, fun b hb => (f2 b hb).1, w0⟩
  rintro n s3 ⟨i, σ3, H3, I3, st3, fr3, w3⟩
  rcases turn i n σ3 H3 w3 with ⟨stop, qn⟩ | ⟨go, N, hN, step⟩
  · refine wpAny_passesOwn hp (thn (T.done X rfl rfl rfl hc i pins s3 σ3 H3 X.xe I3 (stat fr3) st3 stop) fun r s4 ⟨hr, I4⟩ => ?_)
    subst hr
    exact wpAny_execs_nil ⟨σ3, H3, I4, qn⟩
  · refine wpAny_passesOwn hp (thn (T.item X rfl rfl rfl hc i pins s3 σ3 H3 X.xe I3 (stat fr3) st3 go) fun r s4 ⟨u, hr, h4⟩ => ?_)
    subst hr
    refine wpAny_passesOwn hp (thn h4 fun _ s5 ⟨x, H5, I5, r5, y5, st5, fr5⟩ => ?_)
    have I5' := I5.pinned (stat fr5) (T.obj _ _ st5)
    refine wpAny_passesOwn hp (thn (hg _ s5 σ3 H5 x u _ I5' r5 (step x H5 y5)) fun _ s6 ⟨σ6, H6, I6, q6⟩ => ?_)
    refine wpAny_passesOwn hp (thn (hb _ s6 σ6 H6 _ I6 q6) fun f s7 q7 => ?_)
    have again : ∀ {σ7 : St} {H7 : Hp}, Inv X (pins ++ pinsAt fp s5.heap) σ7 H7 s7 → N σ7 H7 → ∃ m, m < n ∧ ∃ i σ' H', Inv X pins σ' H' s7 ∧ tn i s7.heap ∧ (∀ b ∈ fp, H' b = none) ∧ W i m σ' H' := fun {σ7 H7} I7 n7 => by
      obtain ⟨m', hm, w7⟩ := hN σ7 H7 n7
      refine ⟨m', hm, i + 1, σ7, H7, I7.unpinned, T.keep _ _ _ st5 fun b hb o e => (I7.pin (b, o) (List.mem_append_right _ (List.mem_append_right _ (mem_pinsAt hb e)))).1, fun b hb => ?_, w7⟩
      obtain ⟨o, e, d⟩ := T.obj _ _ st5 b hb
      exact (I7.pin (b, o) (List.mem_append_right _ (List.mem_append_right _ (mem_pinsAt hb e)))).2.1
    cases f with
    | next => obtain ⟨σ7, H7, I7, n7⟩ := q7; exact again I7 n7
    | cont => obtain ⟨σ7, H7, I7, n7⟩ := q7; exact again I7 n7
    | brk => obtain ⟨σ7, H7, I7, q7⟩ := q7; exact ⟨σ7, H7, I7.unpinned, q7⟩
    | ret v => obtain ⟨x7, σ7, H7, I7, r7, q7⟩ := q7; exact ⟨x7, σ7, H7, I7.unpinned, r7, q7⟩
end

/-! ### the forms one uses -/
end L2

namespace L2
open PySem PySem.Spec PyProof.Rows

abbrev R2 := V → V → Hp → VK → Prop
/-- a two-place operation on values: f is binaryOp op, inplaceOp op or compareOp op -/
def OpR (X : Cx) (f : Value → Value → Sem Value) (r : R2) : Prop :=
  ∀ (pins : List (Addr × Obj)) (s : Shared) (σ : St) (H : Hp) (x y : V) (v u : Value) (Q : VK), Inv X pins σ H s → RelV x v → RelV y u → r x y H Q →
    wpAny (model X.prog X.w) X.A (f v u) (EP X pins σ Q) X.xe s
/-- a one-place operation -/
def UnR (X : Cx) (f : Value → Sem Value) (r : V → Hp → VK → Prop) : Prop :=
  ∀ (pins : List (Addr × Obj)) (s : Shared) (σ : St) (H : Hp) (x : V) (v : Value) (Q : VK), Inv X pins σ H s → RelV x v → r x H Q →
    wpAny (model X.prog X.w) X.A (f v) (EP X pins σ Q) X.xe s
/-- a call of a value that is known (a builtin, a type) with values -/
def CallR (X : Cx) (f : Value) (r : List V → Hp → VK → Prop) : Prop :=
  ∀ (pins : List (Addr × Obj)) (s : Shared) (σ : St) (H : Hp) (xs : List V) (us : List Value) (Q : VK), Inv X pins σ H s → Vals xs us → r xs H Q →
    wpAny (model X.prog X.w) X.A (call f us) (EP X pins σ Q) X.xe s
/-- a value's truth -/
def TruR (X : Cx) (r : V → Hp → (Bool → Hp → Prop) → Prop) : Prop :=
  ∀ (pins : List (Addr × Obj)) (s : Shared) (σ : St) (H : Hp) (x : V) (v : Value) (Q : Bool → Hp → Prop), Inv X pins σ H s → RelV x v → r x H Q →
    wpAny (model X.prog X.w) X.A (truthy v) (TP X pins σ Q) X.xe s

def tOp (r : R2) (ta tb : TE) : TE := fun σ H Q => ta σ H fun x H1 => tb σ H1 fun y H2 => r x y H2 Q
def tUn (r : V → Hp → VK → Prop) (ta : TE) : TE := fun σ H Q => ta σ H fun x H1 => r x H1 Q
/-- ints in, under C, and a value out -/
def rI (C : Int → Int → Prop) (g : Int → Int → V) : R2 := fun x y H Q => ∃ i j, x = .int i ∧ y = .int j ∧ C i j ∧ Q (g i j) H
def rI0 (g : Int → Int → V) : R2 := fun x y H Q => ∃ i j, x = .int i ∧ y = .int j ∧ Q (g i j) H
def rU (g : Int → V) : V → Hp → VK → Prop := fun x H Q => ∃ i, x = .int i ∧ Q (g i) H

section
variable {X : Cx} {a b c : Expr} {ta tb tc : TE} {pos : Pos}

theorem binT (ha : PE X a ta) (hb : PE X b tb) {pins : List (Addr × Obj)} {s : Shared} {σ : St} {H : Hp} {R : V → V → Hp → Prop} (I : Inv X pins σ H s)
    (h : ta σ H fun x H1 => tb σ H1 fun y H2 => R x y H2) {Q : Value → Shared → Prop} {f : Value → Value → Sem Value}
    (hf : ∀ v u s2 x y H2, Inv X pins σ H2 s2 → RelV x v → RelV y u → R x y H2 → wpAny (model X.prog X.w) X.A (f v u) Q X.xe s2) :
    wpAny (model X.prog X.w) X.A (eval a X.env) (fun v s₁ => wpAny (model X.prog X.w) X.A (eval b X.env) (fun u s₂ => wpAny (model X.prog X.w) X.A (f v u) Q X.xe s₂) X.xe s₁) X.xe s := by
  refine thn (ha pins s σ H _ I h) fun v s1 ⟨x, H1, I1, r1, q1⟩ => ?_
  refine thn (hb pins s1 σ H1 _ I1 q1) fun u s2 ⟨y, H2, I2, r2, q2⟩ => ?_
  exact hf v u s2 x y H2 I2 r1 r2 q2

theorem pe_op {op : Operator} {r : R2} (ho : OpR X (binaryOp op) r) (ha : PE X a ta) (hb : PE X b tb) : PE X (.BinOp a op b pos) (tOp r ta tb) := by
  intro pins s σ H Q I h
  exact wpAny_BinOp (binT ha hb I h fun v u s2 x y H2 I2 rx ry q => ho pins s2 σ H2 x y v u Q I2 rx ry q)
theorem pe_un {op : UnaryOp} {r : V → Hp → VK → Prop} (ho : UnR X (unaryOp op) r) (ha : PE X a ta) : PE X (.UnaryOp op a pos) (tUn r ta) := by
  intro pins s σ H Q I h
  exact UnaryOp_ (thn (ha pins s σ H _ I h) fun v s1 ⟨x, H1, I1, r1, q1⟩ => ho pins s1 σ H1 x v Q I1 r1 q1)
/-! ### ints -/
theorem opI {f : Value → Value → Sem Value} {C : Int → Int → Prop} {g : Int → Int → Int}
    (rule : ∀ (i j : Int) (t u : Tok) (s : Shared) (Q : Value → Shared → Prop) (E : Value → Shared → Prop), C i j → Q (.int (g i j) s.toks) { s with toks := s.toks + 1 } → wpAny (model X.prog X.w) X.A (f (.int i t) (.int j u)) Q E s) :
    OpR X f (rI C fun i j => .int (g i j)) := by
  intro pins s σ H x y v u Q I rx ry h
  obtain ⟨i, j, rfl, rfl, hc, q⟩ := h
  obtain ⟨t, rfl⟩ := rx
  obtain ⟨t', rfl⟩ := ry
  exact rule i j t t' s _ _ hc ⟨.int (g i j), H, I.tok _, ⟨_, rfl⟩, q⟩
theorem opI0 {f : Value → Value → Sem Value} {g : Int → Int → Int}
    (rule : ∀ (i j : Int) (t u : Tok) (s : Shared) (Q : Value → Shared → Prop) (E : Value → Shared → Prop), Q (.int (g i j) s.toks) { s with toks := s.toks + 1 } → wpAny (model X.prog X.w) X.A (f (.int i t) (.int j u)) Q E s) :
    OpR X f (rI0 fun i j => .int (g i j)) := by
  intro pins s σ H x y v u Q I rx ry h
  obtain ⟨i, j, rfl, rfl, q⟩ := h
  obtain ⟨t, rfl⟩ := rx
  obtain ⟨t', rfl⟩ := ry
  exact rule i j t t' s _ _ ⟨.int (g i j), H, I.tok _, ⟨_, rfl⟩, q⟩
theorem opB0 {f : Value → Value → Sem Value} {g : Int → Int → Bool}
    (rule : ∀ (i j : Int) (t u : Tok) (s : Shared) (Q : Value → Shared → Prop) (E : Value → Shared → Prop), Q (.bool (g i j)) s → wpAny (model X.prog X.w) X.A (f (.int i t) (.int j u)) Q E s) :
    OpR X f (rI0 fun i j => .bl (g i j)) := by
  intro pins s σ H x y v u Q I rx ry h
  obtain ⟨i, j, rfl, rfl, q⟩ := h
  obtain ⟨t, rfl⟩ := rx
  obtain ⟨t', rfl⟩ := ry
  exact rule i j t t' s _ _ ⟨.bl (g i j), H, I, rfl, q⟩

def CDiv (i j : Int) : Prop := 0 < j ∧ j < 1073741824
def CDivN (i j : Int) : Prop := j ≠ 0 ∧ j.natAbs < 1073741824
def CPow (i j : Int) : Prop := 0 ≤ j ∧ j ≤ 1000000 ∧ i.natAbs < 2 ^ 64
def CMul (i j : Int) : Prop := (-(2 ^ 64) < i ∧ i < 2 ^ 64) ∨ (-(2 ^ 64) < j ∧ j < 2 ^ 64)
theorem CMul.ok {i j : Int} (h : CMul i j) : IntMulOk i j := by
  rcases h with ⟨h1, h2⟩ | ⟨h1, h2⟩
  · exact .of_left (intBits_le_64 h1 h2)
  · exact .of_right (intBits_le_64 h1 h2)
theorem op_add : OpR X (binaryOp .Add) (rI0 fun i j => .int (i + j)) := opI0 fun _ _ _ _ _ _ _ q => add_int q
theorem op_sub : OpR X (binaryOp .Sub) (rI0 fun i j => .int (i - j)) := opI0 fun _ _ _ _ _ _ _ q => sub_int q
theorem op_mul : OpR X (binaryOp .Mult) (rI CMul fun i j => .int (i * j)) := opI fun _ _ _ _ _ _ _ hc q => mul_int q hc.ok
/-- % by a positive divisor of any size -/
theorem op_mod : OpR X (binaryOp .Mod) (rI (fun _ j => 0 < j) fun i j => .int (i % j)) := opI fun i j _ _ _ _ _ hc q => by
  have h1 : (0 : Int) < j := hc
  exact mod_int' (by omega) (by rw [Int.fmod_eq_emod_of_nonneg i (by omega)]; exact q)
theorem op_pow : OpR X (binaryOp .Pow) (rI CPow fun i j => .int (i ^ j.toNat)) := opI fun _ _ _ _ _ _ _ hc q => pow_int_small hc.1 hc.2.1 hc.2.2 q
theorem op_and : OpR X (binaryOp .BitAnd) (rI0 fun i j => .int (Builtin.bitAnd i j)) := opI0 fun _ _ _ _ _ _ _ q => and_int q
theorem op_or : OpR X (binaryOp .BitOr) (rI0 fun i j => .int (Builtin.bitOr i j)) := opI0 fun _ _ _ _ _ _ _ q => or_int q
theorem op_xor : OpR X (binaryOp .BitXor) (rI0 fun i j => .int (Builtin.bitXor i j)) := opI0 fun _ _ _ _ _ _ _ q => xor_int q

theorem unI {f : Value → Sem Value} {g : Int → Int}
    (rule : ∀ (i : Int) (t : Tok) (s : Shared) (Q : Value → Shared → Prop) (E : Value → Shared → Prop), Q (.int (g i) s.toks) { s with toks := s.toks + 1 } → wpAny (model X.prog X.w) X.A (f (.int i t)) Q E s) :
    UnR X f (rU fun i => .int (g i)) := by
  intro pins s σ H x v Q I rx h
  obtain ⟨i, rfl, q⟩ := h
  obtain ⟨t, rfl⟩ := rx
  exact rule i t s _ _ ⟨.int (g i), H, I.tok _, ⟨_, rfl⟩, q⟩
theorem un_neg : UnR X (unaryOp .USub) (rU fun i => .int (-i)) := unI fun _ _ _ _ _ q => neg_int q
/-! ### bools among ints: n += (a < b) -/
end

/-! ### comparisons -/
/-- the scalars that == tells apart as data does -/
def scal : V → V → Bool
  | .non, .non => true | .non, .int _ => true | .int _, .non => true | .non, .bl _ => true | .bl _, .non => true | .non, .str _ => true | .str _, .non => true
  | .int _, .int _ => true | .bl _, .bl _ => true | .str _, .str _ => true | .byt _, .byt _ => true
  | .int _, .str _ => true | .str _, .int _ => true | .bl _, .str _ => true | .str _, .bl _ => true
  | _, _ => false
def rEq : R2 := fun x y H Q => scal x y = true ∧ Q (.bl (decide (x = y))) H
def rNe : R2 := fun x y H Q => scal x y = true ∧ Q (.bl (!decide (x = y))) H

theorem dec_int {i j : Int} : decide (V.int i = V.int j) = (i == j) := by
  rw [Bool.eq_iff_iff]
  simp
theorem dec_bl {i j : Bool} : decide (V.bl i = V.bl j) = (i == j) := by
  rw [Bool.eq_iff_iff]
  simp
theorem dec_str {i j : Str} : decide (V.str i = V.str j) = (i == j) := by
  rw [Bool.eq_iff_iff]
  simp
theorem dec_byt {i j : Array UInt8} : decide (V.byt i = V.byt j) = (i.toList == j.toList) := by
  rw [Bool.eq_iff_iff]
  cases i
  cases j
  simp

section
variable {X : Cx} {a b c : Expr} {ta tb tc : TE} {pos : Pos}
theorem fin_bl {pins : List (Addr × Obj)} {σ : St} {H : Hp} {s : Shared} {Q : VK} {k k' : Bool} (I : Inv X pins σ H s) (q : Q (.bl k) H) (e : k = k') : EP X pins σ Q (.bool k') s := by
  subst e
  exact ⟨.bl k, H, I, rfl, q⟩
theorem op_eq : OpR X (compareOp .Eq) rEq := by
  intro pins s σ H x y v u Q I rx ry h
  obtain ⟨hs, q⟩ := h
  cases x with
  | non =>
    cases rx
    cases y with
    | non => cases ry; exact PySem.EqNone.eq_none_none (fin_bl I q (by simp))
    | bl j => cases ry; exact PySem.EqNone.eq_none_bool (fin_bl I q (by simp))
    | int j => obtain ⟨t', rfl⟩ := ry; exact PySem.EqNone.eq_none_int (fin_bl I q (by simp))
    | str j => obtain ⟨t', rfl⟩ := ry; exact PySem.EqNone.eq_none_str (fin_bl I q (by simp))
    | _ => exact absurd (show false = true from hs) Bool.false_ne_true
  | bl i =>
    cases rx
    cases y with
    | non => cases ry; exact PySem.EqNone.eq_bool_none (fin_bl I q (by simp))
    | bl j => cases ry; exact eq_bool (fin_bl I q dec_bl)
    | str j => obtain ⟨t', rfl⟩ := ry; exact PySem.EqMixed.eq_bool_str (fin_bl I q (by simp))
    | _ => exact absurd (show false = true from hs) Bool.false_ne_true
  | int i =>
    obtain ⟨t, rfl⟩ := rx
    cases y with
    | non => cases ry; exact PySem.EqNone.eq_int_none (fin_bl I q (by simp))
    | int j => obtain ⟨t', rfl⟩ := ry; exact eq_int (fin_bl I q dec_int)
    | str j => obtain ⟨t', rfl⟩ := ry; exact PySem.EqMixed.eq_int_str (fin_bl I q (by simp))
    | _ => exact absurd (show false = true from hs) Bool.false_ne_true
  | str i =>
    obtain ⟨t, rfl⟩ := rx
    cases y with
    | non => cases ry; exact PySem.EqNone.eq_str_none (fin_bl I q (by simp))
    | bl j => cases ry; exact PySem.EqMixed.eq_str_bool (fin_bl I q (by simp))
    | int j => obtain ⟨t', rfl⟩ := ry; exact PySem.EqMixed.eq_str_int (fin_bl I q (by simp))
    | str j => obtain ⟨t', rfl⟩ := ry; exact eq_str (fin_bl I q dec_str)
    | _ => exact absurd (show false = true from hs) Bool.false_ne_true
  | byt i =>
    obtain ⟨t, rfl⟩ := rx
    cases y with
    | byt j => obtain ⟨t', rfl⟩ := ry; exact PySem.W.eq_bytes (fin_bl I q dec_byt)
    | _ => exact absurd (show false = true from hs) Bool.false_ne_true
  | _ => cases y <;> exact absurd (show false = true from hs) Bool.false_ne_true
theorem op_ne : OpR X (compareOp .NotEq) rNe := by
  intro pins s σ H x y v u Q I rx ry h
  obtain ⟨hs, q⟩ := h
  cases x with
  | non =>
    cases rx
    cases y with
    | non => cases ry; exact PySem.EqNone.ne_none_none (fin_bl I q (by simp))
    | bl j => cases ry; exact PySem.EqNone.ne_none_bool (fin_bl I q (by simp))
    | int j => obtain ⟨t', rfl⟩ := ry; exact PySem.EqNone.ne_none_int (fin_bl I q (by simp))
    | str j => obtain ⟨t', rfl⟩ := ry; exact PySem.EqNone.ne_none_str (fin_bl I q (by simp))
    | _ => exact absurd (show false = true from hs) Bool.false_ne_true
  | bl i =>
    cases rx
    cases y with
    | non => cases ry; exact PySem.EqNone.ne_bool_none (fin_bl I q (by simp))
    | bl j => cases ry; exact ne_bool (fin_bl I q (congrArg not dec_bl))
    | str j => obtain ⟨t', rfl⟩ := ry; exact PySem.EqMixed.ne_bool_str (fin_bl I q (by simp))
    | _ => exact absurd (show false = true from hs) Bool.false_ne_true
  | int i =>
    obtain ⟨t, rfl⟩ := rx
    cases y with
    | non => cases ry; exact PySem.EqNone.ne_int_none (fin_bl I q (by simp))
    | int j => obtain ⟨t', rfl⟩ := ry; exact ne_int (fin_bl I q (congrArg not dec_int))
    | str j => obtain ⟨t', rfl⟩ := ry; exact PySem.EqMixed.ne_int_str (fin_bl I q (by simp))
    | _ => exact absurd (show false = true from hs) Bool.false_ne_true
  | str i =>
    obtain ⟨t, rfl⟩ := rx
    cases y with
    | non => cases ry; exact PySem.EqNone.ne_str_none (fin_bl I q (by simp))
    | bl j => cases ry; exact PySem.EqMixed.ne_str_bool (fin_bl I q (by simp))
    | int j => obtain ⟨t', rfl⟩ := ry; exact PySem.EqMixed.ne_str_int (fin_bl I q (by simp))
    | str j => obtain ⟨t', rfl⟩ := ry; exact ne_str (fin_bl I q (congrArg not dec_str))
    | _ => exact absurd (show false = true from hs) Bool.false_ne_true
  | byt i =>
    obtain ⟨t, rfl⟩ := rx
    cases y with
    | byt j => obtain ⟨t', rfl⟩ := ry; exact PySem.W.ne_bytes (fin_bl I q (congrArg not dec_byt))
    | _ => exact absurd (show false = true from hs) Bool.false_ne_true
  | _ => cases y <;> exact absurd (show false = true from hs) Bool.false_ne_true

theorem op_lt : OpR X (compareOp .Lt) (rI0 fun i j => .bl (decide (i < j))) := opB0 fun _ _ _ _ _ _ _ q => lt_int q
theorem op_gt : OpR X (compareOp .Gt) (rI0 fun i j => .bl (decide (j < i))) := opB0 fun _ _ _ _ _ _ _ q => gt_int q
theorem op_ge : OpR X (compareOp .GtE) (rI0 fun i j => .bl (decide (j ≤ i))) := opB0 fun _ _ _ _ _ _ _ q => ge_int q
/-- the one string within the other -/
theorem op_in_str : OpR X (compareOp .In) (fun x y H Q => ∃ i j, x = .str i ∧ y = .str j ∧ Q (.bl (!(Builtin.Str.occurrences j i 0 j.length 1).isEmpty)) H) := by
  intro pins s σ H x y v u Q I rx ry h
  obtain ⟨i, j, rfl, rfl, q⟩ := h
  obtain ⟨t, rfl⟩ := rx
  obtain ⟨t', rfl⟩ := ry
  exact in_str (fin_bl I q rfl)

theorem op_notin_str : OpR X (compareOp .NotIn) (fun x y H Q => ∃ i j, x = .str i ∧ y = .str j ∧ Q (.bl (!(!(Builtin.Str.occurrences j i 0 j.length 1).isEmpty))) H) := by
  intro pins s σ H x y v u Q I rx ry h
  obtain ⟨i, j, rfl, rfl, q⟩ := h
  obtain ⟨t, rfl⟩ := rx
  obtain ⟨t', rfl⟩ := ry
  exact notIn_str (fin_bl I q rfl)
/-- is, is not of two objects that are tracked lists or instances -/
def isObj : HO → Bool
  | .lst _ => true
  | .ins _ _ _ => true
  | _ => false
theorem nomark (b : Expr) {op : CmpOp} (h : op ≠ .In := by decide) (h2 : op ≠ .NotIn := by decide) : behindInMarks op b = false := by
  have e1 : (op == CmpOp.In) = false := by cases op <;> first | rfl | exact absurd rfl h
  have e2 : (op == CmpOp.NotIn) = false := by cases op <;> first | rfl | exact absurd rfl h2
  cases b <;> simp [behindInMarks, e1, e2]
/-- a comparison as a value; hm: nomark b, or (for in, not in) by with_unfolding_all rfl -/
theorem pe_cmpR {op : CmpOp} {r : R2} (ho : OpR X (compareOp op) r) (ha : PE X a ta) (hb : PE X b tb) (hm : behindInMarks op b = false) : PE X (.Compare a [op] [b] pos) (tOp r ta tb) := by
  intro pins s σ H Q I h
  exact wpAny_Compare1 (binT ha hb I h fun v u s2 x y H2 I2 rx ry q => ho pins s2 σ H2 x y v u Q I2 rx ry q) hm
/-- a reading of a value as a test -/
def tTest (t : TE) : TT := fun σ H Q => t σ H fun x H' => ∃ k, x = .bl k ∧ Q k H'
theorem pt_cmpR {op : CmpOp} {r : R2} (ho : OpR X (compareOp op) r) (ha : PE X a ta) (hb : PE X b tb) (hm : behindInMarks op b = false) : PT X (.Compare a [op] [b] pos) (tTest (tOp r ta tb)) := by
  intro pins s σ H Q I h
  refine wpAny_isTrue_Compare1 (thn (ha pins s σ H _ I h) fun v s1 ⟨x, H1, I1, r1, q1⟩ => thn (hb pins s1 σ H1 _ I1 q1) fun u s2 ⟨y, H2, I2, r2, q2⟩ =>
    thn (ho pins s2 σ H2 x y v u _ I2 r1 r2 q2) fun c s3 ⟨z, H3, I3, r3, k, e, q3⟩ => ?_) hm
  subst e
  cases r3
  exact wpAny_truthy_bool ⟨H3, I3, q3⟩
/-- a op1 b op2 c -/
def tChain (r r' : R2) (ta tb tc : TE) : TE := fun σ H Q => ta σ H fun x H1 => tb σ H1 fun y H2 => r x y H2 fun z H3 => ∃ k, z = .bl k ∧
  (if k = true then tc σ H3 fun w' H4 => r' y w' H4 Q else Q (.bl false) H3)
/-! ### truth -/
/-- a value's truth by the abstract heap -/
def TruV (K : PySem.W.Frag) (x : V) (H : Hp) (k : Bool) : Prop :=
  match x with
  | .non => k = false
  | .bl b => k = b
  | .int i => k = (i != 0)
  | .str y => y.length ≤ sizeLine ∧ k = ((y.length : Int) != 0)
  | .byt y => y.size ≤ sizeLine ∧ k = ((y.size : Int) != 0)
  | .ref p => (∃ xs, SqL K H p xs ∧ k = !xs.isEmpty) ∨ (∃ xs, SqT K H p xs ∧ k = !xs.isEmpty) ∨ ∃ kvs, H p = some (.dK kvs) ∧ k = !kvs.isEmpty
  | _ => False
theorem line63 : (sizeLine : Nat) < 2 ^ 63 := by rw [sizeLine_eq]; decide
/-! ### strs and bytes -/
theorem op_add_str : OpR X (binaryOp .Add) (fun x y H Q => ∃ i j, x = .str i ∧ y = .str j ∧ i.length + j.length ≤ sizeLine ∧ Q (.str (i ++ j)) H) := by
  intro pins s σ H x y v u Q I rx ry h
  obtain ⟨i, j, rfl, rfl, hz, q⟩ := h
  obtain ⟨t, rfl⟩ := rx
  obtain ⟨t', rfl⟩ := ry
  exact add_str (fun t' tk => ⟨.str (i ++ j), H, I.tok _, ⟨_, rfl⟩, q⟩) hz
def PlainIxT (b : Expr) : Prop := ∀ o i, subscripted b false o i = operate [o, i] (getItem o i)
/-! ### scalar builtins, by CallR -/
theorem vals1 {x : V} {us : List Value} (r : Vals [x] us) : ∃ u, us = [u] ∧ RelV x u := by
  cases r with
  | cons r1 r2 => cases r2; exact ⟨_, rfl, r1⟩
theorem vals2 {x y : V} {us : List Value} (r : Vals [x, y] us) : ∃ u w', us = [u, w'] ∧ RelV x u ∧ RelV y w' := by
  cases r with
  | cons r1 r2 =>
    cases r2 with
    | cons r3 r4 => cases r4; exact ⟨_, _, rfl, r1, r3⟩
theorem call_abs : CallR X (.builtin "abs") (fun xs H Q => ∃ i, xs = [.int i] ∧ Q (.int (if i < 0 then -i else i)) H) := by
  intro pins s σ H xs us Q I r h
  obtain ⟨i, rfl, q⟩ := h
  obtain ⟨u, rfl, t, rfl⟩ := vals1 r
  exact call_abs_int fun u tk => ⟨.int (if i < 0 then -i else i), H, I.tok _, ⟨_, rfl⟩, q⟩
theorem call_min2 (hc : X.calm = true) : CallR X (.builtin "min") (fun xs H Q => ∃ i j, xs = [.int i, .int j] ∧ Q (.int (if j < i then j else i)) H) := by
  intro pins s σ H xs us Q I r h
  obtain ⟨i, j, rfl, q⟩ := h
  obtain ⟨u, w', rfl, ⟨t, rfl⟩, ⟨t', rfl⟩⟩ := vals2 r
  refine min_two_ints (I.ok.hd hc) fun h' tk k => ⟨_, H, I.kept k, ?_, q⟩
  by_cases hj : j < i
  · rw [if_pos hj, if_pos hj]; exact ⟨_, rfl⟩
  · rw [if_neg hj, if_neg hj]; exact ⟨_, rfl⟩
theorem call_int1 : CallR X (.type "int") (fun xs H Q => (∃ i, xs = [.int i] ∧ Q (.int i) H) ∨ ∃ k, xs = [.bl k] ∧ Q (.int (if k then 1 else 0)) H) := by
  intro pins s σ H xs us Q I r h
  rcases h with ⟨i, rfl, q⟩ | ⟨k, rfl, q⟩
  · obtain ⟨u, rfl, t, rfl⟩ := vals1 r
    exact call_int_int ⟨.int i, H, I, ⟨_, rfl⟩, q⟩
  · obtain ⟨u, rfl, r1⟩ := vals1 r
    cases r1
    exact call_int_bool ⟨.int (if k then 1 else 0), H, I.tok _, ⟨_, rfl⟩, q⟩
/-- len of a str, a bytes, a list, a tuple -/
def LenV (K : PySem.W.Frag) (x : V) (H : Hp) (n : Nat) : Prop :=
  match x with
  | .str y => y.length ≤ sizeLine ∧ n = y.length
  | .byt y => y.size ≤ sizeLine ∧ n = y.size
  | .ref p => (∃ xs, SqL K H p xs ∧ n = xs.length) ∨ ∃ xs, SqT K H p xs ∧ n = xs.length
  | _ => False
theorem call_len : CallR X (.builtin "len") (fun xs H Q => ∃ x n, xs = [x] ∧ LenV X.K x H n ∧ Q (.int n) H) := by
  intro pins s σ H xs us Q I r h
  obtain ⟨x, n, rfl, e, q⟩ := h
  obtain ⟨u, rfl, rx⟩ := vals1 r
  have hl := line63
  have hs : sizeLine = 16777216 := sizeLine_eq
  cases x with
  | str y =>
    obtain ⟨t, rfl⟩ := rx
    obtain ⟨hy, e'⟩ : y.length ≤ sizeLine ∧ n = y.length := e
    subst e'
    exact len_str (by omega) ⟨.int _, H, I.tok _, ⟨_, rfl⟩, q⟩
  | byt y =>
    obtain ⟨t, rfl⟩ := rx
    obtain ⟨hy, e'⟩ : y.size ≤ sizeLine ∧ n = y.size := e
    subst e'
    exact PySem.W.len_bytes (by omega) ⟨.int _, H, I.tok _, ⟨_, rfl⟩, q⟩
  | ref p =>
    cases rx
    have e' : (∃ xs, SqL X.K H p xs ∧ n = xs.length) ∨ ∃ xs, SqT X.K H p xs ∧ n = xs.length := e
    rcases e' with ⟨xs, hx, e'⟩ | ⟨xs, hx, e'⟩
    · subst e'
      obtain ⟨its, r', pl, hz⟩ := I.list hx
      have hlen := r'.length
      exact Calls.call_len_list pl.isList (by simp only [List.size_toArray]; omega) ⟨.int xs.length, H, I.tok _, ⟨_, by simp only [List.size_toArray]; rw [hlen]⟩, q⟩
    · subst e'
      obtain ⟨its, r', pl, hz⟩ := I.tuple hx
      have hlen := r'.length
      exact len_tuple pl (by simp only [List.size_toArray]; omega) ⟨.int xs.length, H, I.tok _, ⟨_, by simp only [List.size_toArray]; rw [hlen]⟩, q⟩
  | _ => exact (show False from e).elim
end
end L2

namespace L2
open PySem PySem.Spec PyProof.Rows

/-! ### an instance, its attributes a map -/
structure ObjM (h : Heap) (x dx C : Addr) (mA : Str → Option Value) : Prop where
  obj : h.get? x = some (PySem.W.instObj C dx)
  ns : h.Ns1 dx mA
  ne : dx ≠ x

section
variable {prog : Program} {w : World} {A : Around} {E : Value → Shared → Prop} {s : Shared} {K : PySem.W.Frag} {x dx C f : Addr} {mA : Str → Option Value} {name : Str} {v : Value}

end

/-! ### the attributes as a list of pairs -/
def putF (f : Str) (v : V) : List (Str × V) → List (Str × V)
  | [] => [(f, v)]
  | (g, x) :: r => if g = f then (g, v) :: r else (g, x) :: putF f v r
section
variable {P : Program} {w : World} {H H' : Hp} {h h' : Heap} {a C dx : Addr} {fs fs' : List (Str × V)}
end

/-! ### what of the text a class must have -/
structure Cls (K : PySem.W.Frag) (C : Addr) : Prop where
  pg : PySem.W.plainGet K C Str.empty = true
  hd : PySem.W.hasDictIn K C = true
  po : PySem.W.plainOver K C = true
  sa : PySem.W.findIn K (.ref C) "__setattr__" = some (some (.builtin "object.__setattr__"))
/-- no class of it has the name -/
def NoAttr (K : PySem.W.Frag) (C : Addr) (f : Str) : Prop := PySem.W.findIn K (.ref C) f = some none
/-- a constant of the class -/
structure Con (K : PySem.W.Frag) (C : Addr) (f : Str) (v : V) (u : Value) : Prop where
  at_ : PySem.W.findIn K (.ref C) f = some (some u)
  rel : RelV v u
  get : PySem.W.specialIn K u "__get__" = some none
  cp : PySem.W.copiedNames.contains f = false
/-- a method: a plain def of the class or of one above it -/
structure Meth (K : PySem.W.Frag) (C : Addr) (m : Str) (f : Addr) : Prop where
  at_ : PySem.W.findIn K (.ref C) m = some (some (.ref f))
  fn : PySem.W.isFn K (.ref f) = true
  kp : PySem.W.keepIn K (.ref f) = true

section
variable {X : Cx} {pins : List (Addr × Obj)} {σ : St} {H : Hp} {s : Shared} {a C dx : Addr} {fs : List (Str × V)} {f : Str} {v : V} {A : Around} {E : Value → Shared → Prop}

end

/-! ### readings and rules -/
/-- e.f, an attribute of the instance -/
def tFld (K : PySem.W.Frag) (ta : TE) (f : Str) : TE := fun σ H Q => ta σ H fun x H1 => ∃ a C dx fs v, x = .ref a ∧ H1 a = some (.ins C dx fs) ∧ Cls K C ∧ NoAttr K C f ∧ fs.lookup f = some v ∧ Q v H1
/-- e.f, a constant of the class -/
def tCon (K : PySem.W.Frag) (ta : TE) (f : Str) : TE := fun σ H Q => ta σ H fun x H1 => ∃ a C dx fs v u, x = .ref a ∧ H1 a = some (.ins C dx fs) ∧ Cls K C ∧ Con K C f v u ∧ fs.lookup f = none ∧ Q v H1
/-- e.f = value -/
def sFld (K : PySem.W.Frag) (ta tv : TE) (f : Str) : TS := fun D σ H => tv σ H fun y H1 => ta σ H1 fun x H2 => ∃ a C dx fs, x = .ref a ∧ H2 a = some (.ins C dx fs) ∧ Cls K C ∧ NoAttr K C f ∧ fs.length < 1000 ∧
  D.nx σ (upd H2 a (.ins C dx (putF f y fs)))
/-- an augmented operator on two values -/
def InOp (X : Cx) (op : Operator) (rd : V → V → Hp → VK → Prop) : Prop :=
  ∀ (pins : List (Addr × Obj)) (s : Shared) (σ : St) (H : Hp) (x y : V) (u v : Value) (Q : VK), Inv X pins σ H s → RelV x u → RelV y v → rd x y H Q → wpAny (model X.prog X.w) X.A (inplaceOp op u v) (EP X pins σ Q) X.xe s
/-- e.f op= value -/
def sFldAug (K : PySem.W.Frag) (ta tv : TE) (rd : V → V → Hp → VK → Prop) (f : Str) : TS := fun D σ H => ta σ H fun x H1 => ∃ a C dx fs v, x = .ref a ∧ H1 a = some (.ins C dx fs) ∧ Cls K C ∧ NoAttr K C f ∧ fs.lookup f = some v ∧
  tv σ H1 fun y H2 => rd v y H2 fun z H3 => ∃ dx' fs', H3 a = some (.ins C dx' fs') ∧ fs'.length < 1000 ∧ D.nx σ (upd H3 a (.ins C dx' (putF f z fs')))

section
variable {X : Cx} {o e value : Expr} {f : Str} {pos pos' tpos : Pos} {ta tv : TE}
def rAdd : V → V → Hp → VK → Prop := fun x y H Q => ∃ i j, x = .int i ∧ y = .int j ∧ Q (.int (i + j)) H
def rSub : V → V → Hp → VK → Prop := fun x y H Q => ∃ i j, x = .int i ∧ y = .int j ∧ Q (.int (i - j)) H
end

/-! ### isinstance -/
section
variable {X : Cx} {pins : List (Addr × Obj)} {σ : St} {H : Hp} {s : Shared} {A : Around} {E : Value → Shared → Prop} {Q : Value → Shared → Prop} {c : Value} {b : Bool}
/-- the type of a value, as the fragment's deciders take it; for an instance its class -/
inductive TyOf (K : PySem.W.Frag) (H : Hp) : V → Value → Prop where
  | non : TyOf K H .non (.type "NoneType")
  | bl (x : Bool) : TyOf K H (.bl x) (.type "bool")
  | int (i : Int) : TyOf K H (.int i) (.type "int")
  | str (x : Str) : TyOf K H (.str x) (.type "str")
  | flt (x : UInt64) : TyOf K H (.flt x) (.type "float")
  | lst {a : Addr} {xs : List V} (e : H a = some (.lst xs)) : TyOf K H (.ref a) (.type "list")
  | frz {a : Addr} {o : Obj} {xs : List V} (e : H a = some (.frz o (.lst xs))) : TyOf K H (.ref a) (.type "list")
  | tup {a : Addr} {xs : List V} (e : H a = some (.tup xs)) : TyOf K H (.ref a) (.type "tuple")
  | dK {a : Addr} {kvs : List (Key × V)} (e : H a = some (.dK kvs)) : TyOf K H (.ref a) (.type "dict")
  | dT {a : Addr} {kvs : List (List Key × V)} (e : H a = some (.dT kvs)) : TyOf K H (.ref a) (.type "dict")
  | ins {a C dx : Addr} {fs : List (Str × V)} (e : H a = some (.ins C dx fs)) (cl : Cls K C) (ha : PySem.W.findIn K (.ref C) "__class__" = some (some (.builtin "object.__class__")))
      (hn : PySem.W.specialIn K (.builtin "object.__class__") "__get__" = some (some (.builtin "getset_descriptor.__get__"))) (htk : PySem.W.takesIn K (.builtin "object.__class__") = some true)
      (hm : PySem.W.mroIn K C (.type "object") = some true) : TyOf K H (.ref a) (.ref C)
end
end L2

namespace L2
open PySem PySem.Spec PyProof.Rows

/-! ### room -/
structure Room (k : Nat) (A : Around) : Prop where
  hd : A.handled = none
  dp : A.depth + 3 * k + 5 < recursionLimit
  un : A.units + 16 * k + 200 < cLine
theorem Room.mono {j k : Nat} {A : Around} (r : Room k A) (h : j ≤ k) : Room j A := ⟨r.hd, by have := r.dp; omega, by have := r.un; omega⟩
theorem Room.deeper {k : Nat} {A : Around} (r : Room (k + 1) A) (env : Env) : Room k (A.deeper env) :=
  ⟨r.hd, by have := r.dp; show A.depth + 1 + 3 * k + 5 < _; omega, by have := r.un; show A.units + 3 + 16 * k + 200 < _; omega⟩
theorem Room.depth {k : Nat} {A : Around} (r : Room k A) : A.depth < recursionLimit := by have := r.dp; omega
theorem Room.units {k : Nat} {A : Around} (r : Room k A) : A.units + 64 < cLine := by have := r.un; omega
/-! ### argument lists and displays -/
def tNil : TA := fun _ H Q => Q [] H
def tCons (ta : TE) (tr : TA) : TA := fun σ H Q => ta σ H fun x H1 => tr σ H1 fun xs H2 => Q (x :: xs) H2
section
variable {X : Cx} {e : Expr} {es : List Expr} {te : TE} {t : TA} {pos : Pos}
theorem pa_nil : PA X [] tNil := fun _ _ _ _ H Q I h => Calls.spliced_nil ⟨[], H, I, .nil, h⟩
theorem pa_cons (ha : PE X e te) (hr : PA X es t) (hs : starEach (e :: es) X.env = (false, eval e X.env) :: starEach es X.env := by rfl) : PA X (e :: es) (tCons te t) := by
  intro pos pins s σ H Q I h
  rw [hs]
  show wpAny _ _ (spliced ((false, eval e X.env) :: backTo pos (starEach es X.env))) _ _ s
  refine Calls.spliced_cons (thn (ha pins s σ H _ I h) fun u s1 ⟨x, H1, I1, r1, q1⟩ => ?_)
  exact thn (hr pos pins s1 σ H1 _ I1 q1) fun us s2 ⟨xs, H2, I2, r2, q2⟩ => ⟨x :: xs, H2, I2, .cons r1 r2, q2⟩

/-- a tuple, a list of written items -/
def tTup (t : TA) : TE := fun σ H Q => t σ H fun xs H1 => xs.length ≤ sizeLine ∧ ∀ p, H1 p = none → Q (.ref p) (upd H1 p (.tup xs))
def tLst (t : TA) : TE := fun σ H Q => t σ H fun xs H1 => xs.length ≤ sizeLine ∧ ∀ p, H1 p = none → Q (.ref p) (upd H1 p (.lst xs))
theorem pe_tup {x1} (h : PA X es t) : PE X (.Tuple es x1 pos) (tTup t) := by
  intro pins s σ H Q I hq
  refine wpAny_Tuple_spliced (thn (h pos pins s σ H _ I hq) fun us s1 ⟨xs, H1, I1, r, z, q⟩ => ⟨by rw [← r.length]; exact z, ?_⟩)
  have hf : H1 s1.heap.objs.size = none := I1.hok.fresh (Nat.le_refl _)
  refine ⟨.ref s1.heap.objs.size, upd H1 s1.heap.objs.size (.tup xs), I1.laid (t' := s1.toks) (fun b u e => Heap.get?_push_of_some _ e) (Nat.le_refl _) ?_, rfl, q _ hf⟩
  exact ⟨z, us, r, ⟨_, Heap.get?_push_size _ rfl, rfl, _, rfl⟩⟩
theorem pe_lst (h : PA X es t) : PE X (.List es pos) (tLst t) := by
  intro pins s σ H Q I hq
  refine wpAny_List_spliced (thn (h pos pins s σ H _ I hq) fun us s1 ⟨xs, H1, I1, r, z, q⟩ => ⟨by rw [← r.length]; exact z, ?_⟩)
  have hf : H1 s1.heap.objs.size = none := I1.hok.fresh (Nat.le_refl _)
  refine ⟨.ref s1.heap.objs.size, upd H1 s1.heap.objs.size (.lst xs), I1.laid (t' := s1.toks) (fun b u e => Heap.get?_push_of_some _ e) (Nat.le_refl _) ?_, rfl, q _ hf⟩
  exact ⟨z, us, 0, r, Heap.get?_push_size _ rfl⟩
end

/-! ### what a def promises -/
/-- a def's promise: the bound arguments in the parameters' order, the heap, the wanted end, the wanted exception -/
abbrev Sp := List V → Hp → VK → XK → Prop
/-- how an exception lies behind a call (file 08 gives it): the callers' frames, abstract heap and state ahead of the call, the wish, the exception, the state -/
abbrev CXT := List Env → Hp → Shared → XK → Value → Shared → Prop

/-- the state at a call -/
structure Env0 (P : Program) (w : World) (K : PySem.W.Frag) (mg : Str → Option Value) (base : Heap) (A : Around) (outer : List Env) (s : Shared) (H : Hp) : Prop where
  frames : A.frames = some outer
  mod : Mod K mg base
  bs : ∀ b o, base.get? b = some o → s.heap.get? b = some o ∧ H b = none
  bsz : base.objs.size ≤ s.heap.objs.size
  funs : s.heap.FunFrames base outer
  frf : ∀ b ∈ frs outer, H b = none
  hok : HOk P w H s.heap
  bare : AllBare s.gens
/-- a call's end -/
def CE (outer : List Env) (P : Program) (w : World) (H : Hp) (s : Shared) (Q : VK) (u : Value) (s' : Shared) : Prop :=
  ∃ v H', s'.os = s.os ∧ AllBare s'.gens ∧ Un (frs outer) [] H H' s.heap s'.heap ∧ HOk P w H' s'.heap ∧ RelV v u ∧ Q v H'
def CR (CX : CXT) (outer : List Env) (P : Program) (w : World) (H : Hp) (s : Shared) (Q : VK) (E : XK) (r : Result) (s' : Shared) : Prop :=
  match r with
  | .ok (.ret u) => CE outer P w H s Q u s'
  | .ok _ => False
  | .error e => CX outer H s E e s'
structure FnOk (P : Program) (w : World) (K : PySem.W.Frag) (mg : Str → Option Value) (base : Heap) (CX : CXT) (k : Nat) (f : Addr) (fd : FuncData) (ps : List Str) (sp : Sp) : Prop where
  len : ∀ vs H Q E, sp vs H Q E → vs.length = ps.length
  run : ∀ (A : Around) (outer : List Env) (s : Shared) (H : Hp) (args : Args) (us : List Value) (vs : List V) (Q : VK) (E : XK), Room k A → Env0 P w K mg base A outer s H → BindsTo s fd args (ps.zip us) → Vals vs us → sp vs H Q E →
    codeAny (model P w) A (.call (.ref f) args) (CR CX outer P w H s Q E) s
/-- a weaker promise -/
theorem FnOk.imp {P : Program} {w : World} {K : PySem.W.Frag} {mg : Str → Option Value} {base : Heap} {CX : CXT} {k : Nat} {f : Addr} {fd : FuncData} {ps : List Str} {sp sp' : Sp} (F : FnOk P w K mg base CX k f fd ps sp)
    (h : ∀ vs H Q E, sp' vs H Q E → sp vs H Q E) : FnOk P w K mg base CX k f fd ps sp' :=
  ⟨fun vs H Q E q => F.len vs H Q E (h _ _ _ _ q), fun A outer s H args us vs Q E hr he hb hv hs => F.run A outer s H args us vs Q E hr he hb hv (h _ _ _ _ hs)⟩

section
variable {X : Cx} {pins : List (Addr × Obj)} {σ : St} {H : Hp} {s s' : Shared}
/-- from a body: what a callee wants -/
theorem Inv.env0 (I : Inv X pins σ H s) : Env0 X.prog X.w X.K X.mg X.base X.A X.stack s H :=
  ⟨I.ok.frames, I.ok.mod, I.bs, Nat.le_trans I.ok.bsz I.sz, I.stack, I.stkFree, I.hok, I.bare⟩
/-- behind a call -/
theorem Inv.after {Q : VK} {u : Value} (I : Inv X pins σ H s) (h : CE X.stack X.prog X.w H s Q u s') : EP X pins σ Q u s' := by
  obtain ⟨v, H', os, bare, un, hok, r, q⟩ := h
  obtain ⟨hh, g, d, t, os'⟩ := s'
  obtain rfl : os' = s.os := os
  exact ⟨v, H', I.call (h' := hh) (g' := g) (d' := d) (t' := t) (ch := []) un hok bare (fun b z => absurd z (by simp)), r, q⟩
end

/-! ### calls -/
/-- f(..): the written arguments, then the defaults dvs; E: what is wanted of an exception -/
def tCall (sp : Sp) (dvs : List V) (E : XK) (t : TA) : TE := fun σ H Q => t σ H fun vs H1 => sp (vs ++ dvs) H1 Q E
/-- o.m(..) of an instance of the class at C -/
def tMeth (C : Addr) (m : Str) (sp : Sp) (dvs : List V) (E : XK) (ta : TE) (t : TA) : TE := fun σ H Q => ta σ H fun x H1 => ∃ a dx fs, x = .ref a ∧ H1 a = some (.ins C dx fs) ∧ fs.lookup m = none ∧
  t σ H1 fun vs H2 => sp (x :: (vs ++ dvs)) H2 Q E
/-- C(..): a new instance and its dict, then __init__ -/
def tMake (C : Addr) (sp : Sp) (dvs : List V) (E : XK) (t : TA) : TE := fun σ H Q => t σ H fun vs H1 => ∀ x dx, H1 x = none → H1 dx = none → dx ≠ x →
  sp (.ref x :: (vs ++ dvs)) (upd (upd H1 dx (.own x)) x (.ins C dx [])) (fun v H2 => v = .non ∧ Q (.ref x) H2) E

/-- how the parameters are bound: us the positional arguments, kw the keywords' values by name, ds the defaults that fill up -/
def Binds (K : PySem.W.Frag) (fd : FuncData) (ps : List Str) (ds : List Value) : Prop :=
  ∀ (s : Shared) (us : List Value), K.In s.heap → (us ++ ds).length = ps.length → BindsTo s fd ⟨us, []⟩ (ps.zip (us ++ ds))
/-- every parameter is given -/
theorem Binds.all {K : PySem.W.Frag} {fd : FuncData} {ps : List Str} (h : ∀ us : List Value, us.length = ps.length → bindArgs fd ⟨us, []⟩ = pure (ps.zip us)) : Binds K fd ps [] := fun s us _ hl => by
  rw [List.append_nil] at hl ⊢
  exact .of_eq (h us hl)

/-- an exception of a callee reaches what this body wants of exceptions -/
def Passes (CX : CXT) (X : Cx) (E : XK) : Prop := ∀ (pins : List (Addr × Obj)) (σ : St) (H : Hp) (s : Shared) (e : Value) (s' : Shared), Inv X pins σ H s → CX X.stack H s E e s' → X.xe e s'

section
variable {X : Cx} {CX : CXT} {k : Nat} {f C : Addr} {fd : FuncData} {ps : List Str} {sp : Sp} {dvs : List V} {ds : List Value} {E : XK} {x m : Str} {p pos apos : Pos} {e o : Expr} {es : List Expr} {ta : TE} {t : TA}

/-- the callee runs -/
theorem run_fn {pins : List (Addr × Obj)} {σ : St} {H : Hp} {s : Shared} {Q : VK} {us : List Value} {vs : List V} (F : FnOk X.prog X.w X.K X.mg X.base CX k f fd ps sp) (hr : Room k X.A) (hb : Binds X.K fd ps ds) (hd : Vals dvs ds) (hx : Passes CX X E)
    (I : Inv X pins σ H s) (r : Vals vs us) (h : sp (vs ++ dvs) H Q E) : wpAny (model X.prog X.w) X.A (call (.ref f) us) (EP X pins σ Q) X.xe s := by
  have r2 : Vals (vs ++ dvs) (us ++ ds) := r.append hd
  have hl : (us ++ ds).length = ps.length := by rw [← r2.length]; exact F.len _ _ _ _ h
  refine wpAny_call (codeAny_mono (F.run X.A X.stack s H ⟨us, []⟩ (us ++ ds) (vs ++ dvs) Q E hr I.env0 (hb s us I.kIn hl) r2 h) fun r s' hq => ?_)
  cases r with
  | error e => exact hx pins σ H s e s' I hq
  | ok fl =>
    cases fl with
    | ret u => exact I.after hq
    | next => exact False.elim hq
    | brk => exact False.elim hq
    | cont => exact False.elim hq

theorem pe_call (F : FnOk X.prog X.w X.K X.mg X.base CX k f fd ps sp) (hr : Room k X.A) (hg : Gl X x) (hm : X.mg x = some (.ref f)) (hk : PySem.W.keepIn X.K (.ref f) = true) (hb : Binds X.K fd ps ds) (hd : Vals dvs ds) (hx : Passes CX X E)
    (ha : PA X (e :: es) t) (hdb : (x == ("__debug__" : Str)) = false := by decide) (he : starEach (e :: es) X.env = (false, eval e X.env) :: starEach es X.env := by rfl) (hpl : (backTo pos (starEach es X.env)).any (·.1) = false := by rfl) :
    PE X (.Call (.Name x p) (e :: es) [] pos) (tCall sp dvs E t) := by
  intro pins s σ H Q I h
  refine wpAny_Call_Name_kw (ld_glob I hg hm ?_ hdb)
  refine PySem.W.callWith_K (h₀ := X.base) I.ok.mod.kin hk (thn (ha pos pins s σ H _ I h) fun us s1 ⟨vs, H1, I1, r, q⟩ => ⟨I1.kIn, ?_⟩) he hpl
  exact run_fn F hr hb hd hx I1 r q
/-- what a class must have to be made -/
structure Mk (K : PySem.W.Frag) (C f : Addr) : Prop where
  makes : PySem.W.makesIn K C = true
  init : PySem.W.findIn K (.ref C) "__init__" = some (some (.ref f))
  fn : PySem.W.isFn K (.ref f) = true
  kp : PySem.W.keepIn K (.ref C) = true

end

/-! ### keywords -/
/-- the values of the keywords, from the left -/
def PK (X : Cx) (kws : List Keyword) (t : TA) : Prop :=
  ∀ (pos : Pos) (pins : List (Addr × Obj)) (s : Shared) (σ : St) (H : Hp) (Q : List V → Hp → Prop), Inv X pins σ H s → t σ H Q → wpAny (model X.prog X.w) X.A (evalAll ((backToKw pos (keywordEach kws X.env)).map (·.2))) (AP X pins σ Q) X.xe s
section
variable {X : Cx} {CX : CXT} {k : Nat} {f C : Addr} {fd : FuncData} {ps ks : List Str} {sp : Sp} {E : XK} {x m : Str} {p pos apos kpos : Pos} {e o : Expr} {es : List Expr} {kws : List Keyword} {te ta : TE} {t tk : TA} {nm : Option Str}
/-- how a call with keywords binds: g puts the positional values us and the keywords' values ws (names ks) in the parameters' order, defaults among them -/
structure KBinds (K : PySem.W.Frag) (fd : FuncData) (ps ks : List Str) (g : List Value → List Value → List Value) (gV : List V → List V → List V) : Prop where
  to : ∀ (s : Shared) (us ws : List Value), K.In s.heap → (g us ws).length = ps.length → BindsTo s fd ⟨us, ks.zip ws⟩ (ps.zip (g us ws))
  rel : ∀ {vs : List V} {us : List Value} {zs : List V} {ws : List Value}, Vals vs us → Vals zs ws → Vals (gV vs zs) (g us ws)
def tCallK (sp : Sp) (gV : List V → List V → List V) (E : XK) (t tk : TA) : TE := fun σ H Q => t σ H fun vs H1 => tk σ H1 fun zs H2 => sp (gV vs zs) H2 Q E
variable {g : List Value → List Value → List Value} {gV : List V → List V → List V}
end

/-! ### a def's body keeps its promise -/
/-- names: the parameters first -/
structure FnScope (N P : List Str) (sc : Scope) : Prop where
  kind : sc.kind = .function
  co : sc.isCoroutine = false
  gen : sc.isGenerator = false
  nd : N.Nodup
  pre : N.take P.length = P
  par : ∀ x ∈ P, sc.names.lookup x = some .local ∨ sc.names.lookup x = some .cell
  nofree : ∀ y ∈ sc.names, y.2 ≠ .free

theorem bindL_out {kindOf : Str → Option NameKind} {x : Str} : ∀ {binds : List (Str × Value)} {m : Str → Option Value}, (∀ v, (x, v) ∉ binds) → bindL kindOf binds m x = m x
  | [], _, _ => rfl
  | (n, v) :: r, m, h => by
    unfold bindL
    rw [bindL_out fun w hw => h w (List.mem_cons_of_mem _ hw)]
    split
    · have : x ≠ n := by rintro rfl; exact h v List.mem_cons_self
      simp [this]
    · rfl
theorem bindC_out {kindOf : Str → Option NameKind} {x : Str} : ∀ {binds : List (Str × Value)} {m : Str → Option Value}, (∀ v, (x, v) ∉ binds) → bindC kindOf binds m x = m x
  | [], _, _ => rfl
  | (n, v) :: r, m, h => by
    unfold bindC
    rw [bindC_out fun w hw => h w (List.mem_cons_of_mem _ hw)]
    split
    · rfl
    · have : x ≠ n := by rintro rfl; exact h v List.mem_cons_self
      simp [this]
theorem bindL_get {kindOf : Str → Option NameKind} {x : Str} {v : Value} : ∀ {P : List Str} {vs : List Value} {i : Nat} {m : Str → Option Value}, P.Nodup → P[i]? = some x → vs[i]? = some v → kindOf x = some .local →
    bindL kindOf (P.zip vs) m x = some v
  | [], _, _, _, _, h, _, _ => by simp at h
  | _ :: _, [], _, _, _, _, h, _ => by simp at h
  | p :: P, w :: vs, 0, m, nd, h1, h2, hk => by
    simp at h1 h2; subst h1; subst h2
    show bindL kindOf ((p, w) :: P.zip vs) m p = _
    unfold bindL
    rw [bindL_out fun v hv => (List.nodup_cons.mp nd).1 (List.of_mem_zip hv).1, if_pos hk]
    simp
  | p :: P, w :: vs, i + 1, m, nd, h1, h2, hk => by
    show bindL kindOf ((p, w) :: P.zip vs) m x = _
    unfold bindL
    exact bindL_get (i := i) (List.nodup_cons.mp nd).2 (by simpa using h1) (by simpa using h2) hk
theorem bindC_get {kindOf : Str → Option NameKind} {x : Str} {v : Value} : ∀ {P : List Str} {vs : List Value} {i : Nat} {m : Str → Option Value}, P.Nodup → P[i]? = some x → vs[i]? = some v → kindOf x ≠ some .local →
    bindC kindOf (P.zip vs) m x = some v
  | [], _, _, _, _, h, _, _ => by simp at h
  | _ :: _, [], _, _, _, _, h, _ => by simp at h
  | p :: P, w :: vs, 0, m, nd, h1, h2, hk => by
    simp at h1 h2; subst h1; subst h2
    show bindC kindOf ((p, w) :: P.zip vs) m p = _
    unfold bindC
    rw [bindC_out fun v hv => (List.nodup_cons.mp nd).1 (List.of_mem_zip hv).1, if_neg hk]
    simp
  | p :: P, w :: vs, i + 1, m, nd, h1, h2, hk => by
    show bindC kindOf ((p, w) :: P.zip vs) m x = _
    unfold bindC
    exact bindC_get (i := i) (List.nodup_cons.mp nd).2 (by simpa using h1) (by simpa using h2) hk

/-- the names' values at the entry -/
def start (N : List Str) (vs : List V) : St := vs.map some ++ List.replicate (N.length - vs.length) none

/-- the context of a def's body, at its entry; an exception leaves the frame, then lies as CX says -/
def cxOf (CX : CXT) (P : Program) (w : World) (K : PySem.W.Frag) (mg : Str → Option Value) (base : Heap) (N : List Str) (qual : Str) (scope : Scope) (f : Addr) (cd : Value) (A : Around) (outer : List Env) (s : Shared) (H : Hp) (E : XK) : Cx where
  prog := P
  w := w
  K := K
  mg := mg
  base := base
  A := A.deeper (envOfC qual scope s.heap.objs.size f cd)
  N := N
  s₀ := s
  H₀ := H
  env := envOfC qual scope s.heap.objs.size f cd
  outer := outer
  stack := envOfC qual scope s.heap.objs.size f cd :: outer
  ex := []
  calm := true
  fn := fun _ => true
  pn := []
  xe := fun e s' => wpAny (model P w) (A.deeper (envOfC qual scope s.heap.objs.size f cd)) (leaving (envOfC qual scope s.heap.objs.size f cd) e) (fun _ s'' => CX outer H s E e s'') (fun e' s'' => CX outer H s E e' s'') s'

theorem cell_has {sc : Scope} {n : Nat} {x : Str} (h : sc.names.lookup x = some .cell) : ∃ c, (cellsFrom n sc.names []).lookup x = some c := by
  have q := PySem.W.cellsFrom_some sc.names n [] (.inl h)
  exact Option.isSome_iff_exists.mp q

theorem inv_start {CX : CXT} {P : Program} {w : World} {K : PySem.W.Frag} {mg : Str → Option Value} {base : Heap} {N ps : List Str} {qual : Str} {scope : Scope} {f : Addr} {cd : Value} {A : Around} {outer : List Env} {s s1 : Shared} {H : Hp} {E : XK} {us : List Value} {vs : List V}
    (S : FnScope N ps scope) (hd : A.handled = none) (e0 : Env0 P w K mg base A outer s H) (hl : vs.length = ps.length) (r : Vals vs us)
    (x : InCallC s s.heap.objs.size (bindL (envOfC qual scope s.heap.objs.size f cd).kindOf (ps.zip us) fun _ => none) (cellsFrom (s.heap.objs.size + 1) scope.names []) (bindC (envOfC qual scope s.heap.objs.size f cd).kindOf (ps.zip us) fun _ => none) s1) :
    Inv (cxOf CX P w K mg base N qual scope f cd A outer s H E) [] (start N vs) H s1 := by
  have hpl : ps.length ≤ N.length := by have := congrArg List.length S.pre; rw [List.length_take] at this; omega
  obtain ⟨h1, tk, rfl, hk⟩ := x.done
  have noA : ∀ b : Addr, b ∉ (cxOf CX P w K mg base N qual scope f cd A outer s H E).ex := fun b z => absurd (show b ∈ ([] : List Addr) from z) (by simp)
  refine ⟨⟨e0.mod, S.kind, rfl, rfl, Nat.le_refl _, fun y z c h1 h2 => ?_, fun y hy => ?_, fun y c _ h => ?_, fun _ => hd, Around.frames_deeper e0.frames, .inr ⟨rfl, rfl⟩, fun b z => absurd z (noA b), e0.bs, e0.bsz, fun b _ _ => noA b, fun b z => absurd z (noA b), e0.funs, e0.frf⟩,
    rfl, e0.bare, Un.kept hk, ⟨_, x.toInCall.ns, fun i y v h1 h2 h3 => ?_⟩, fun y c h => ⟨_, x.cell y c h⟩, e0.hok.fresh (Nat.le_refl _), fun y c h => ?_, fun p hp => absurd (show p ∈ ([] : List (Addr × Obj)) from hp) (by simp), e0.hok.kept hk, ?_⟩
  · exact name_of_addr x.apart (PySem.mem_of_lookup h1) (PySem.mem_of_lookup h2)
  · have hy : scope.names.lookup y = some .cell ∨ scope.names.lookup y = some .free := hy
    rcases hy with hy | hy
    · exact cell_has hy
    · exact absurd rfl (S.nofree _ (PySem.mem_of_lookup hy))
  · exact Nat.le_of_lt (x.above y c (PySem.mem_of_lookup h))
  · have hi : i < vs.length := by
      unfold start at h2
      by_cases hi : i < vs.length
      · exact hi
      · rw [List.getElem?_append_right (by simpa using hi)] at h2
        rw [List.getElem?_replicate] at h2
        split at h2 <;> cases h2
    have ha : vs[i]? = some v := by
      unfold start at h2
      rw [List.getElem?_append_left (by simpa using hi), List.getElem?_map] at h2
      cases e : vs[i]? with
      | none => rw [e] at h2; cases h2
      | some a => rw [e] at h2; cases h2; rfl
    obtain ⟨u, hu, rv⟩ := r.get ha
    have hp : ps[i]? = some y := by
      rw [← S.pre, List.getElem?_take_of_lt (by omega)]; exact h1
    have ndP : ps.Nodup := by rw [← S.pre]; exact S.nd.sublist (List.take_sublist _ _)
    refine ⟨u, rv, ?_⟩
    rcases S.par y (List.mem_of_getElem? hp) with k | k
    · exact .inl ⟨k, bindL_get ndP hp hu k⟩
    · obtain ⟨c, e⟩ := cell_has (n := s.heap.objs.size + 1) k
      refine .inr ⟨.inl k, c, e, ?_⟩
      have q := x.cell y c e
      rw [bindC_get ndP hp hu (by show scope.names.lookup y ≠ _; rw [k]; decide)] at q
      exact q
  · exact e0.hok.fresh (Nat.le_of_lt (x.above y c (PySem.mem_of_lookup h)))
  · unfold start
    show _ = N.length
    rw [List.length_append, List.length_map, List.length_replicate]
    omega

/-- THE RULE: a def (or a method) of the text, by its body. The body's reading t is chosen for each entry; it is run at the parameters' values -/
theorem fn_of {CX : CXT} {P : Program} {w : World} {K : PySem.W.Frag} {mg : Str → Option Value} {base : Heap} {k : Nat} {f : Addr} {name qual : Str} {params : Arguments} {body : List Stmt} {scope : Scope} {dV kV doc pm cdv ct oc : Value} {an od : Option Addr}
    {osl : Array (Option Value)} {N ps : List Str} {sp : Sp} (lk : K.lookup f = some ⟨oc, od, .func (PySem.W.fnOf name qual params body scope dV kV doc pm an cdv ct), osl⟩) (hcd : PySem.W.codeIn K cdv qual = true) (S : FnScope N ps scope)
    (len : ∀ vs H Q E, sp vs H Q E → vs.length = ps.length)
    (hbody : ∀ (A : Around) (outer : List Env) (s : Shared) (H : Hp) (vs : List V) (Q : VK) (E : XK), Room k (A.deeper (envOfC qual scope s.heap.objs.size f cdv)) → sp vs H Q E →
      ∃ t, PSs (cxOf CX P w K mg base N qual scope f cdv A outer s H E) body t ∧ t { nx := fun _ H' => Q .non H', rt := Q } (start N vs) H) :
    FnOk P w K mg base CX (k + 1) f (PySem.W.fnOf name qual params body scope dV kV doc pm an cdv ct) ps sp := by
  refine ⟨len, fun A outer s H args us vs Q E hr e0 hb r hsp => ?_⟩
  have hl := len _ _ _ _ hsp
  have KX : K.In s.heap := e0.mod.kin.keeps fun b o e => (e0.bs b o e).1
  have lim : s.heap.NoLimit := e0.mod.nolimit.keeps fun b o e => (e0.bs b o e).1
  have hkind : ∀ y ∈ ps.zip us, scope.names.lookup y.1 = some .local ∨ (scope.names.lookup y.1 = some .cell ∧ ((cellsFrom (s.heap.objs.size + 1) scope.names []).lookup y.1).isSome = true) := fun ⟨n, v⟩ hy => by
    rcases S.par n (List.of_mem_zip hy).1 with q | q
    · exact .inl q
    · exact .inr ⟨q, PySem.W.cellsFrom_some _ _ _ (.inl q)⟩
  refine codeAny_call_function hr.depth (KX _ _ lk) rfl S.co S.gen rfl (PySem.W.codeRec_of KX hcd) (hb _ _ _ _ ?_)
  refine wpAny_newFunctionEnv_cells S.kind hkind fun env he s1 x => ?_
  subst he
  refine ⟨lim.keeps x.toInCall.keep, codeAny_func ?_⟩
  obtain ⟨t, ht, hq⟩ := hbody A outer s H vs Q E (hr.deeper _) hsp
  have I : Inv (cxOf CX P w K mg base N qual scope f cdv A outer s H E) [] (start N vs) H s1 := inv_start S hr.hd e0 hl r x
  refine wpAny_mono (ht [] s1 (start N vs) H _ I hq) (fun fl s' hs => ?_) fun e s' hs => hs
  have fin : ∀ {σ' : St} {H' : Hp} {v : V} {u : Value}, Inv (cxOf CX P w K mg base N qual scope f cdv A outer s H E) [] σ' H' s' → RelV v u → Q v H' → CE outer P w H s Q u s' :=
    fun {σ' H' v u} J rv q => ⟨v, H', J.os, J.bare, J.base, J.hok, rv, q⟩
  cases fl with
  | ret u =>
    obtain ⟨v, σ', H', J, rv, q⟩ := hs
    exact fin J rv q
  | next =>
    obtain ⟨σ', H', J, q⟩ := hs
    exact fin (v := V.non) (u := Value.none) J rfl q
  | brk =>
    obtain ⟨_, _, _, q⟩ := hs
    exact False.elim q
  | cont =>
    obtain ⟨_, _, _, q⟩ := hs
    exact False.elim q
end L2

namespace L2
open PySem PySem.Spec PyProof.Rows
section
variable {X : Cx} {x : Str} {p pos : Pos} {e : Expr} {es : List Expr} {t : TA} {id T : String} {r : List V → Hp → VK → Prop}

def tCB (r : List V → Hp → VK → Prop) (t : TA) : TE := fun σ H Q => t σ H fun vs H1 => r vs H1 Q
/-- f(e, ..), f a built-in function -/
theorem pe_callB (hc : CallR X (.builtin id) r) (hg : Gl X x) (hm : X.mg x = none) (hv : bootBuiltins x = some (.builtin id)) (ha : PA X (e :: es) t) (hn : x ≠ "__name__" := by decide) (hdb : (x == ("__debug__" : Str)) = false := by decide)
    (he : starEach (e :: es) X.env = (false, eval e X.env) :: starEach es X.env := by rfl) (hpl : (backTo pos (starEach es X.env)).any (·.1) = false := by rfl) : PE X (.Call (.Name x p) (e :: es) [] pos) (tCB r t) := by
  intro pins s σ H Q I h
  refine wpAny_Call_Name_kw (ld_blt I hg hm hv ?_ hn hdb)
  exact PyProof.Rows.callWith_builtin1 (thn (ha pos pins s σ H _ I h) fun us s1 ⟨vs, H1, I1, r1, q1⟩ => hc pins s1 σ H1 vs us Q I1 r1 q1) he hpl
/-- T(e, ..), T a built-in type -/
theorem pe_callTy (hc : CallR X (.type T) r) (hg : Gl X x) (hm : X.mg x = none) (hv : bootBuiltins x = some (.type T)) (ha : PA X (e :: es) t) (hn : x ≠ "__name__" := by decide) (hdb : (x == ("__debug__" : Str)) = false := by decide)
    (he : starEach (e :: es) X.env = (false, eval e X.env) :: starEach es X.env := by rfl) (hpl : (backTo pos (starEach es X.env)).any (·.1) = false := by rfl) : PE X (.Call (.Name x p) (e :: es) [] pos) (tCB r t) := by
  intro pins s σ H Q I h
  refine wpAny_Call_Name_kw (ld_blt I hg hm hv ?_ hn hdb)
  exact PyProof.Rows.callWith_type1 (thn (ha pos pins s σ H _ I h) fun us s1 ⟨vs, H1, I1, r1, q1⟩ => hc pins s1 σ H1 vs us Q I1 r1 q1) he hpl
end
end L2

namespace L2
open PySem PySem.Spec PyProof.Rows

/-! ### lists of pairs as tables -/
section
variable {κ : Type} [DecidableEq κ]
def valV (kvs : List (κ × V)) (k : κ) : Option V := (kvs.find? fun kv => decide (kv.1 = k)).map (·.2)
/-- in its place, or at the end -/
def putK (kvs : List (κ × V)) (k : κ) (v : V) : List (κ × V) :=
  if (kvs.any fun kv => decide (kv.1 = k)) = true then kvs.map (fun kv => if kv.1 = k then (kv.1, v) else kv) else kvs ++ [(k, v)]
def dropK (kvs : List (κ × V)) (k : κ) : List (κ × V) := kvs.filter fun kv => decide (kv.1 ≠ k)

theorem valV_pos {p : κ × V} {r : List (κ × V)} {k : κ} (e : p.1 = k) : valV (p :: r) k = some p.2 := by simp [valV, List.find?_cons, e]
theorem valV_neg {p : κ × V} {r : List (κ × V)} {k : κ} (e : ¬ p.1 = k) : valV (p :: r) k = valV r k := by simp [valV, List.find?_cons, e]
theorem length_putK (kvs : List (κ × V)) (k : κ) (v : V) : (putK kvs k v).length ≤ kvs.length + 1 := by
  unfold putK
  split
  · rw [List.length_map]; omega
  · rw [List.length_append, List.length_cons, List.length_nil]; omega
theorem RelO.getD {o : Option V} {u : Option Value} {d : V} {d' : Value} (r : RelO o u) (rd : RelV d d') : RelV (o.getD d) (u.getD d') := by
  cases o with
  | none => cases u with
    | none => exact rd
    | some _ => exact (show False from r).elim
  | some _ => cases u with
    | none => exact (show False from r).elim
    | some _ => exact r

/-- raw tables of the same keys -/
theorem KV.val {kvs : List (κ × V)} {vs : List (κ × Value)} (r : KV kvs vs) (k : κ) : RelO (valV kvs k) (valueAt vs k) := by
  unfold KV at r
  induction r with
  | nil => exact True.intro
  | @cons p q ps qs h t ih =>
    obtain ⟨h1, h2⟩ := h
    by_cases e : p.1 = k
    · have e' : q.1 = k := h1.symm.trans e
      have b : valueAt (q :: qs) k = some q.2 := by simp [valueAt, List.find?_cons, e']
      rw [valV_pos e, b]; exact h2
    · have e' : ¬ q.1 = k := fun z => e (h1.trans z)
      have b : valueAt (q :: qs) k = valueAt qs k := by simp [valueAt, List.find?_cons, e']
      rw [valV_neg e, b]; exact ih
theorem KV.any {kvs : List (κ × V)} {vs : List (κ × Value)} (r : KV kvs vs) (k : κ) : (kvs.any fun kv => decide (kv.1 = k)) = vs.any fun kv => decide (kv.1 = k) := by
  unfold KV at r
  induction r with
  | nil => rfl
  | cons h t ih => rw [List.any_cons, List.any_cons, ih, h.1]
theorem KV.repl {kvs : List (κ × V)} {vs : List (κ × Value)} (r : KV kvs vs) (k : κ) {y : V} {u : Value} (ry : RelV y u) :
    KV (kvs.map fun kv => if kv.1 = k then (kv.1, y) else kv) (vs.map fun kv => if kv.1 = k then (kv.1, u) else kv) := by
  unfold KV at r ⊢
  induction r with
  | nil => exact .nil
  | @cons p q ps qs h t ih =>
    rw [List.map_cons, List.map_cons]
    refine .cons ?_ ih
    obtain ⟨h1, h2⟩ := h
    by_cases e : p.1 = k
    · rw [if_pos e, if_pos (h1.symm.trans e)]; exact ⟨h1, ry⟩
    · rw [if_neg e, if_neg (fun z => e (h1.trans z))]; exact ⟨h1, h2⟩
theorem KV.put {kvs : List (κ × V)} {vs : List (κ × Value)} (r : KV kvs vs) (k : κ) {y : V} {u : Value} (ry : RelV y u) : KV (putK kvs k y) (stored vs k u) := by
  unfold putK stored
  rw [r.any k]
  by_cases e : (vs.any fun kv => decide (kv.1 = k)) = true
  · rw [if_pos e, if_pos e]; exact r.repl k ry
  · rw [if_neg e, if_neg e]; exact Paired.snoc r ⟨rfl, ry⟩
end


/-! ### a tracked dict, its keys ints and texts or tuples of these -/
theorem kV_is {P : Program} {w : World} {k : Key} {u : Value} (r : RelV (kV k) u) : (mixKind P w).is k u = true := by
  cases k with
  | inl i => obtain ⟨t, e⟩ := (show ∃ t, u = Value.int i t from r); subst e; exact mixKind_int P w i t
  | inr x => obtain ⟨t, e⟩ := (show ∃ t, u = Value.str x t from r); subst e; exact mixKind_str P w x t
theorem items_are {P : Program} {w : World} : ∀ {ks : List Key} {us : List Value}, Vals (ks.map kV) us → ItemsAre (mixKind P w) ks us
  | [], _, r => by rw [List.map_nil] at r; cases r; exact .nil
  | k :: ks, _, r => by
    rw [List.map_cons] at r
    cases r with
    | cons h t => exact .cons (kV_is h) (items_are t)

/-- raw entries of a dict with tuple keys -/
abbrev KT (H : Hp) : List (List Key × V) → List (List Key × Addr × Value) → Prop := Paired fun p q => p.1 = q.1 ∧ H q.2.1 = some (.tup (p.1.map kV)) ∧ RelV p.2 q.2.2
theorem KT.val {H : Hp} {kvs : List (List Key × V)} {xs : List (List Key × Addr × Value)} (r : KT H kvs xs) (k : List Key) : RelO (valV kvs k) ((atKey xs k).map (·.2)) := by
  induction r with
  | nil => exact True.intro
  | @cons p q ps qs h t ih =>
    obtain ⟨h1, _, h2⟩ := h
    by_cases e : p.1 = k
    · have e' : q.1 = k := h1.symm.trans e
      have b : atKey (q :: qs) k = some q.2 := by simp [atKey, List.find?_cons, e']
      rw [valV_pos e, b]; exact h2
    · have e' : ¬ q.1 = k := fun z => e (h1.trans z)
      have b : atKey (q :: qs) k = atKey qs k := by simp [atKey, List.find?_cons, e']
      rw [valV_neg e, b]; exact ih
section
variable {P : Program} {w : World} {H : Hp} {h : Heap} {a : Addr}
theorem rd_of {u : HO} (ok : HOk P w H h) (e : Rd H a u) : ObjOk P w H h a u := e.ok ok
theorem dk_rd {kvs : List (Key × V)} (ok : HOk P w H h) (e : Rd H a (.dK kvs)) : kvs.length ≤ sizeLine ∧ (a == sysModules) = false ∧ ∃ vs, KV kvs vs ∧ h.DictOf (mixKind P w) a vs :=
  show ObjOk P w H h a (.dK kvs) from rd_of ok e
theorem dk_of {kvs : List (Key × V)} (ok : HOk P w H h) (e : H a = some (.dK kvs)) : kvs.length ≤ sizeLine ∧ (a == sysModules) = false ∧ ∃ vs, KV kvs vs ∧ h.DictOf (mixKind P w) a vs := dk_rd ok (.inl e)
/-- a tracked tuple of ints and texts is a key -/
theorem key_of {ks : List Key} (ok : HOk P w H h) (e : H a = some (.tup (ks.map kV))) : (tupleKind (mixKind P w)).is h ks a := by
  obtain ⟨_, its, r, o, h1, h2, n, h3⟩ := (show ObjOk P w H h a (.tup (ks.map kV)) from ok a _ e)
  exact ⟨o, its.toArray, n, h1, h2, h3, by simpa using items_are r⟩
theorem dt_rd {kvs : List (List Key × V)} (ok : HOk P w H h) (e : Rd H a (.dT kvs)) : kvs.length ≤ sizeLine ∧ (a == sysModules) = false ∧
    ∃ xs, KT H kvs xs ∧ h.DictOfH (tupleKind (mixKind P w)) a xs := by
  obtain ⟨z, y, xs, r, o, es, ep, h1, h2, h3, h4, h5⟩ := (show ObjOk P w H h a (.dT kvs) from rd_of ok e)
  refine ⟨z, y, xs, r, o, es, ep, h1, h2, h3, h4, fun x hx => ?_, h5⟩
  have all : ∀ {l : List (List Key × V)} {m : List (List Key × Addr × Value)}, KT H l m → ∀ x ∈ m, (tupleKind (mixKind P w)).is h x.1 x.2.1 := by
    intro l m q
    induction q with
    | nil => intro x hx; exact nomatch hx
    | @cons p q ps qs hq t ih =>
      intro x hx
      rcases List.mem_cons.mp hx with e | hx
      · subst e
        exact key_of ok (by rw [← hq.1]; exact hq.2.1)
      · exact ih x hx
  exact all r x hx
end

/-- what the dict at a holds at the key y -/
def DGet (H : Hp) (a : Addr) (y : V) (r : Option V) : Prop :=
  (∃ kvs k, Rd H a (.dK kvs) ∧ y = kV k ∧ r = valV kvs k) ∨ ∃ kvs k b, Rd H a (.dT kvs) ∧ y = .ref b ∧ H b = some (.tup (k.map kV)) ∧ r = valV kvs k
/-- the heap behind a[y] = v -/
def DPut (H : Hp) (a : Addr) (y v : V) (H' : Hp) : Prop :=
  (∃ kvs k, H a = some (.dK kvs) ∧ y = kV k ∧ kvs.length < sizeLine ∧ H' = upd H a (.dK (putK kvs k v))) ∨
  ∃ kvs k b, H a = some (.dT kvs) ∧ y = .ref b ∧ H b = some (.tup (k.map kV)) ∧ kvs.length < sizeLine ∧ H' = upd H a (.dT (putK kvs k v))
theorem DGet.k {H : Hp} {a : Addr} {kvs : List (Key × V)} {k : Key} (e : H a = some (.dK kvs)) : DGet H a (kV k) (valV kvs k) := .inl ⟨kvs, k, .inl e, rfl, rfl⟩
section
variable {X : Cx} {pins : List (Addr × Obj)} {σ : St} {H : Hp} {s : Shared} {a : Addr} {y v : V} {u r : Value} {o : Option V} {A : Around} {E : Value → Shared → Prop}

theorem Inv.big (I : Inv X pins σ H s) : sysModules < s.heap.objs.size := by
  have h : mainGlobals < s.heap.objs.size := (I.mod.glob.keeps I.bk).lt
  exact Nat.lt_trans (by decide) h

/-- a dict's object is replaced -/
theorem d_write {h' : Heap} {t' : Nat} {ob : HO} (I : Inv X pins σ H s) (mu : Mut (H a)) (hs : Heap.SameBut a s.heap h') (he : ∃ q, h'.get? a = some q) (new : ObjOk X.prog X.w (upd H a ob) h' a ob) :
    Inv X pins σ (upd H a ob) { s with heap := h', toks := t' } :=
  I.write (x := a) (e := a) mu (.inl rfl) (fun b q hb z => (hs.2 b hb).trans z) he new
theorem dk_new {P : Program} {w : World} {H' : Hp} {h' : Heap} {kvs : List (Key × V)} {vs : List (Key × Value)} (z : kvs.length ≤ sizeLine) (hd : (a == sysModules) = false) (rel : KV kvs vs) (dd : h'.DictOf (mixKind P w) a vs) :
    ObjOk P w H' h' a (.dK kvs) := ⟨z, hd, vs, rel, dd⟩
end

section
variable {X : Cx} {pins : List (Addr × Obj)} {σ : St} {H : Hp} {s : Shared} {a : Addr} {kvs : List (Key × V)} {k : Key} {u : Value} {A : Around} {E : Value → Shared → Prop}
end


/-! ### readings and rules -/
/-- the element of a subscription, not a slice -/
def NoSl (i : Expr) : Prop := ∀ ov iv, subscripted i false ov iv = operate [ov, iv] (getItem ov iv)
/-- d[y] -/
def tDGet (td ty : TE) : TE := fun σ H Q => td σ H fun x H1 => ty σ H1 fun y H2 => ∃ a v, x = .ref a ∧ DGet H2 a y (some v) ∧ Q v H2
/-- y in d, y not in d -/
def tDIn (ty td : TE) : TE := fun σ H Q => ty σ H fun y H1 => td σ H1 fun x H2 => ∃ a o, x = .ref a ∧ DGet H2 a y o ∧ Q (.bl o.isSome) H2
def tDNotIn (ty td : TE) : TE := fun σ H Q => ty σ H fun y H1 => td σ H1 fun x H2 => ∃ a o, x = .ref a ∧ DGet H2 a y o ∧ Q (.bl (!o.isSome)) H2
/-- d[y] = v -/
def sDPut (td ty tv : TE) : TS := fun D σ H => tv σ H fun v H1 => td σ H1 fun x H2 => ty σ H2 fun y H3 => ∃ a H4, x = .ref a ∧ DPut H3 a y v H4 ∧ D.nx σ H4
/-- d[y] op= v -/
def sDAug (td ty tv : TE) (rd : V → V → Hp → VK → Prop) : TS := fun D σ H => td σ H fun x H1 => ty σ H1 fun y H2 => ∃ a v, x = .ref a ∧ DGet H2 a y (some v) ∧
  tv σ H2 fun y2 H3 => rd v y2 H3 fun z H4 => ∃ H5, DPut H4 a y z H5 ∧ D.nx σ H5
/-- del d[y] -/
def sDDel (td ty : TE) : TS := fun D σ H => td σ H fun x H1 => ty σ H1 fun y H2 => ∃ a kvs k, x = .ref a ∧ H2 a = some (.dK kvs) ∧ y = kV k ∧ (valV kvs k).isSome = true ∧ D.nx σ (upd H2 a (.dK (dropK kvs k)))

section
variable {X : Cx} {o i e value : Expr} {pos pos' tpos : Pos} {td ty tv : TE}
end


/-! ### displays -/
theorem dk_empty {P : Program} {w : World} {H : Hp} (h : Heap) (hb : sysModules < h.objs.size) : ObjOk P w H (h.push { cls := .type "dict", data := .dict #[] }) h.objs.size (.dK []) :=
  ⟨Nat.zero_le _, beq_eq_false_iff_ne.mpr (Ne.symm (Nat.ne_of_lt hb)), [], .nil, Heap.DictOf.new h⟩
/-- {}, to be a dict of the kind that is wanted -/
def tDNewK : TE := fun _ H Q => ∀ p, H p = none → Q (.ref p) (upd H p (.dK []))
def tDNewT : TE := fun _ H Q => ∀ p, H p = none → Q (.ref p) (upd H p (.dT []))
section
variable {X : Cx} {pos : Pos}
end

/-- the pairs of a display, from the left -/
def tPairs : List (TE × TE) → St → Hp → (List (V × V) → Hp → Prop) → Prop
  | [], _, H, Q => Q [] H
  | (tk, tv) :: r, σ, H, Q => tk σ H fun x H1 => tv σ H1 fun y H2 => tPairs r σ H2 fun ps H3 => Q ((x, y) :: ps) H3
abbrev VV : List (V × V) → List (Value × Value) → Prop := Paired fun p q => RelV p.1 q.1 ∧ RelV p.2 q.2
def PPs (X : Cx) (pos : Pos) (keys : List (Option Expr)) (values : List Expr) (trs : List (TE × TE)) : Prop :=
  ∀ (pins : List (Addr × Obj)) (s : Shared) (σ : St) (H : Hp) (Q : List (V × V) → Hp → Prop), Inv X pins σ H s → tPairs trs σ H Q →
    wpAny (model X.prog X.w) X.A (evalPairs (pairTrees keys values X.env pos)) (fun vs s' => ∃ ps H', Inv X pins σ H' s' ∧ VV ps vs ∧ Q ps H') X.xe s
theorem pps_nil {X : Cx} {pos : Pos} : PPs X pos [] [] [] := fun pins s σ H Q I h => pairTrees_nil_walk ⟨[], H, I, .nil, h⟩
theorem pps_cons {X : Cx} {pos : Pos} {k v : Expr} {ks : List (Option Expr)} {vs : List Expr} {tk tv : TE} {trs : List (TE × TE)} (hk : PE X k tk) (hv : PE X v tv) (hr : PPs X pos ks vs trs) :
    PPs X pos (some k :: ks) (v :: vs) ((tk, tv) :: trs) := fun pins s σ H Q I h =>
  pairTrees_cons_walk (thn (hk pins s σ H _ I h) fun u s1 ⟨x, H1, I1, rx, q1⟩ => thn (hv pins s1 σ H1 _ I1 q1) fun w2 s2 ⟨y, H2, I2, ry, q2⟩ =>
    thn (hr pins s2 σ H2 _ I2 q2) fun ws s3 ⟨ps, H3, I3, rel, q3⟩ => ⟨(x, y) :: ps, H3, I3, .cons ⟨rx, ry⟩ rel, q3⟩)

def mergeK (kvs more : List (Key × V)) : List (Key × V) := more.foldl (fun acc kv => putK acc kv.1 kv.2) kvs
theorem KV.merge : ∀ {more : List (Key × V)} {rs : List (Key × Value)} {kvs : List (Key × V)} {vs : List (Key × Value)}, KV more rs → KV kvs vs → KV (mergeK kvs more) (merged vs rs) := by
  intro more rs kvs vs r
  unfold KV at r
  induction r generalizing kvs vs with
  | nil => intro q; exact q
  | @cons p q ps qs h t ih =>
    intro r0
    have e : KV (putK kvs p.1 p.2) (stored vs q.1 q.2) := by
      have := r0.put p.1 h.2
      rw [← h.1]; exact this
    exact ih e
theorem length_mergeK : ∀ (more kvs : List (Key × V)), (mergeK kvs more).length ≤ kvs.length + more.length
  | [], kvs => by show kvs.length ≤ kvs.length + 0; omega
  | p :: r, kvs => by
    have h1 := length_mergeK r (putK kvs p.1 p.2)
    have h2 := length_putK kvs p.1 p.2
    show (mergeK (putK kvs p.1 p.2) r).length ≤ _
    rw [List.length_cons]; omega
theorem carries_of {P : Program} {w : World} : ∀ {kvs : List (Key × V)} {ws : List (Value × Value)}, VV (kvs.map fun kv => (kV kv.1, kv.2)) ws → ∃ rs, Carries (mixKind P w) ws rs ∧ KV kvs rs
  | [], _, r => by rw [List.map_nil] at r; cases r; exact ⟨[], True.intro, .nil⟩
  | p :: kvs, _, r => by
    rw [List.map_cons] at r
    cases r with
    | @cons a b as bs h t =>
      obtain ⟨rs, c, q⟩ := carries_of (P := P) (w := w) t
      obtain ⟨b1, b2⟩ := b
      exact ⟨(p.1, b2) :: rs, ⟨kV_is h.1, rfl, c⟩, .cons ⟨rfl, h.2⟩ q⟩
/-- {k: v, ..} with keys ints and texts; the new dict stands empty while the pairs are made -/
def tDisp (trs : List (TE × TE)) : TE := fun σ H Q => ∀ p, H p = none → tPairs trs σ (upd H p (.dK [])) fun ps H2 => H2 p = some (.dK []) ∧ ∃ kvs : List (Key × V), ps = kvs.map (fun kv => (kV kv.1, kv.2)) ∧ kvs.length ≤ 15 ∧ Q (.ref p) (upd H2 p (.dK (mergeK [] kvs)))
theorem pe_disp {X : Cx} {pos : Pos} {keys : List (Option Expr)} {values : List Expr} {trs : List (TE × TE)} (h : PPs X pos keys values trs) (hall : keys.all (·.isSome) = true) (hl : keys.length = values.length) (h0 : keys ≠ [])
    (h15 : keys.length ≤ 15) : PE X (.Dict keys values pos) (tDisp trs) := by
  intro pins s σ H Q I q
  have hn := I.hok.fresh (Nat.le_refl s.heap.objs.size)
  have I1 := I.laid (a := s.heap.objs.size) (o := .dK []) (h' := s.heap.push { cls := .type "dict", data := .dict #[] }) (t' := s.toks) (fun _ _ q => Heap.get?_push_of_some _ q) (Nat.le_refl _) (dk_empty s.heap I.big)
  refine wpAny_Dict_walk (knd := mixKind X.prog X.w) hall hl h0 h15 (thn (h pins _ σ _ _ I1 (q _ hn)) fun ws s2 ⟨ps, H2, I2, rel, e, kvs, ep, lk, q2⟩ => ?_)
  subst ep
  obtain ⟨rs, c, rk⟩ := carries_of (P := X.prog) (w := X.w) rel
  obtain ⟨z, hd, vs0, r0, dd⟩ := dk_of I2.hok e
  cases r0
  refine ⟨rs, c, dd, fun h' dd' hs => ⟨.ref s.heap.objs.size, _, ?_, rfl, q2⟩⟩
  have hz : (mergeK [] kvs).length ≤ sizeLine := by
    have h1 := length_mergeK kvs []
    rw [List.length_nil] at h1
    rw [sizeLine_eq]; omega
  have he : ∃ q, h'.get? s.heap.objs.size = some q := let ⟨q, _, _, hq, _⟩ := dd'; ⟨q, hq⟩
  exact d_write I2 (by rw [e]; exact True.intro) hs he (dk_new hz hd (rk.merge .nil) dd')


/-! ### methods -/
/-- a method call o.m(e) of a built-in, with one argument: what must be seen of the text -/
structure M1 (X : Cx) (o : Expr) (m : Str) (apos : Pos) (e : Expr) (cpos : Pos) : Prop where
  base : attributeBase o m X.env (eval o X.env) = eval o X.env
  few : ((backTo cpos (starEach [e] X.env)).all (fun x => !x.1) && (backToKw cpos (keywordEach [] X.env)).all (fun x => x.1.isSome)
    && decide (([e] : List Expr).length + ([] : List Keyword).length + (if ([] : List Keyword).isEmpty then 0 else 1) < 30)) = true
  line : (apos.endLine == cpos.line) = true
  trees : backTo cpos (starEach [e] X.env) = [(false, eval e X.env)]
structure M2 (X : Cx) (o : Expr) (m : Str) (apos : Pos) (e f : Expr) (cpos : Pos) : Prop where
  base : attributeBase o m X.env (eval o X.env) = eval o X.env
  few : ((backTo cpos (starEach [e, f] X.env)).all (fun x => !x.1) && (backToKw cpos (keywordEach [] X.env)).all (fun x => x.1.isSome)
    && decide (([e, f] : List Expr).length + ([] : List Keyword).length + (if ([] : List Keyword).isEmpty then 0 else 1) < 30)) = true
  line : (apos.endLine == cpos.line) = true
  trees : backTo cpos (starEach [e, f] X.env) = [(false, eval e X.env), (false, eval f X.env)]

/-- a is a dict, whatever its keys -/
def IsD (H : Hp) (a : Addr) : Prop := (∃ kvs, Rd H a (.dK kvs)) ∨ ∃ kvs, Rd H a (.dT kvs)
theorem isD_at {X : Cx} {pins : List (Addr × Obj)} {σ : St} {H : Hp} {s : Shared} {a : Addr} (I : Inv X pins σ H s) (d : IsD H a) :
    s.TypeIs (.ref a) "dict" ∧ (∀ b, Value.ref a = .ref b → ∃ ob, s.heap.get? b = some ob ∧ ob.dict = none) ∧ (a == sysModules) = false := by
  rcases d with ⟨kvs, e⟩ | ⟨kvs, e⟩
  · obtain ⟨_, hd, vs, _, dd⟩ := dk_rd I.hok e
    refine ⟨dd.typeIs, fun b q => ?_, hd⟩
    cases q
    obtain ⟨ob, _, _, h1, h2, _⟩ := dd
    exact ⟨ob, h1, h2.2.1⟩
  · obtain ⟨_, hd, xs, _, dd⟩ := dt_rd I.hok e
    refine ⟨dd.typeIs, fun b q => ?_, hd⟩
    cases q
    obtain ⟨ob, _, _, h1, h2, _⟩ := dd
    exact ⟨ob, h1, h2.2.1⟩

section
variable {X : Cx} {pins : List (Addr × Obj)} {σ : St} {H : Hp} {s : Shared} {a : Addr} {y d : V} {u r : Value} {o : Option V} {A : Around} {E : Value → Shared → Prop}
/-- d.get(y, x) -/
theorem d_get2 {Q : Value → Shared → Prop} (hu : A.units + 1 < cLine) (I : Inv X pins σ H s) (g : DGet H a y o) (ry : RelV y u) (rd : RelV d r) (h : ∀ w' s', Inv X pins σ H s' → RelV (o.getD d) w' → Q w' s') :
    wpAny (model X.prog X.w) A (call (.builtin "dict.get") [.ref a, u, r]) Q E s := by
  rcases g with ⟨kvs, k, e, ey, l⟩ | ⟨kvs, k, b, e, ey, eb, l⟩
  · subst ey
    obtain ⟨z, hd, vs, rel, dd⟩ := dk_rd I.hok e
    refine call_meetsIn PySem.F.slot_dict_get dd.typeIs PySem.F.entry_dict_get (PySem.F.args_dict_get_3 _ _ _) (meets_dict_get_default (mixKind X.prog X.w) a (kV_is ry) hd r) ⟨_, dd.mapOf, h _ _ (I.tok _) ?_⟩
    rw [l]
    exact (rel.val k).getD rd
  · subst ey
    cases (show u = Value.ref b from ry)
    obtain ⟨z, hd, xs, rel, dd⟩ := dt_rd I.hok e
    refine call_meetsIn PySem.F.slot_dict_get dd.typeIs PySem.F.entry_dict_get (PySem.F.args_dict_get_3 _ _ _) (meetsH_dict_get_default (tupleKind (mixKind X.prog X.w)) a b hd r) ⟨tupleKind_room_in1 hu, k, xs, key_of I.hok eb, dd, h _ _ (I.tok _) ?_⟩
    rw [l]
    exact (rel.val k).getD rd
end

def tDGet1 (td ty : TE) : TE := fun σ H Q => td σ H fun x H1 => ∃ a, x = .ref a ∧ IsD H1 a ∧ ty σ H1 fun y H2 => ∃ o, DGet H2 a y o ∧ Q (o.getD .non) H2
def tDGet2 (td ty tx : TE) : TE := fun σ H Q => td σ H fun x H1 => ∃ a, x = .ref a ∧ IsD H1 a ∧ ty σ H1 fun y H2 => tx σ H2 fun z H3 => ∃ o, DGet H3 a y o ∧ Q (o.getD z) H3
/-- d.pop(k): there; d.pop(k, x): there or not -/
def tDPop1 (td ty : TE) : TE := fun σ H Q => td σ H fun x H1 => ∃ a, x = .ref a ∧ IsD H1 a ∧ ty σ H1 fun y H2 => ∃ kvs k v, H2 a = some (.dK kvs) ∧ y = kV k ∧ valV kvs k = some v ∧ Q v (upd H2 a (.dK (dropK kvs k)))
def tDPop2 (td ty tx : TE) : TE := fun σ H Q => td σ H fun x H1 => ∃ a, x = .ref a ∧ IsD H1 a ∧ ty σ H1 fun y H2 => tx σ H2 fun z H3 => ∃ kvs k, H3 a = some (.dK kvs) ∧ y = kV k ∧
  (∀ v, valV kvs k = some v → Q v (upd H3 a (.dK (dropK kvs k)))) ∧ (valV kvs k = none → Q z H3)
section
variable {X : Cx} {o e f : Expr} {apos cpos : Pos} {td ty tx : TE}
theorem pe_dget2 (hu : X.A.units + 1 < cLine) (ho : PE X o td) (he : PE X e ty) (hf : PE X f tx) (m : M2 X o "get" apos e f cpos) : PE X (.Call (.Attribute o "get" apos) [e, f] [] cpos) (tDGet2 td ty tx) := by
  intro pins s σ H Q I h
  refine wpAny_Call_method m.base m.few m.line PySem.F.plainAttrs_dict PySem.F.slot_dict_get PySem.F.type_dict_get (thn (ho pins s σ H _ I h) fun u s1 ⟨x, H1, I1, rx, a, ex, d, q1⟩ => ?_)
  subst ex
  obtain rfl : u = Value.ref a := rx
  obtain ⟨t1, t2, _⟩ := isD_at I1 d
  refine ⟨t1, t2, ?_⟩
  rw [m.trees]
  refine Calls.callWith_builtin rfl (Calls.evalArgs_plain (Calls.spliced_cons (thn (he pins s1 σ H1 _ I1 q1) fun iv s2 ⟨y, H2, I2, ry, q2⟩ =>
    Calls.spliced_cons (thn (hf pins s2 σ H2 _ I2 q2) fun fv s3 ⟨z, H3, I3, rz, ov, g, q3⟩ => Calls.spliced_nil ?_))))
  exact d_get2 hu I3 g ry rz fun w' s4 I4 rw' => ⟨_, H3, I4, rw', q3⟩
end

/-! ### dict(d): a copy -/
section
variable {X : Cx} {pins : List (Addr × Obj)} {σ : St} {H : Hp} {s : Shared} {a : Addr} {kvs : List (Key × V)} {A : Around} {E : Value → Shared → Prop}
end


section
variable {X : Cx} {pins : List (Addr × Obj)} {σ : St} {H : Hp} {s : Shared} {a : Addr} {y : V} {u : Value} {A : Around} {E : Value → Shared → Prop}
end
end L2

namespace HT
open PySem PyProof.Rows

/-- t < u of tuples of ints -/
def lexLt : List Int → List Int → Bool
  | [], [] => false
  | [], _ :: _ => true
  | _ :: _, [] => false
  | x :: xs, y :: ys => if x = y then lexLt xs ys else decide (x < y)
section
open PySem.SeqAt
open PySem.AutoSeq1 (wpAny_loadPart')
open PySem.MeetsSeq PySem.MeetsSeq2 PySem.MeetsSeq3

end

section
variable {prog : Program} {w : World} {A : Around} {E : Value → Shared → Prop} {s : Shared}

/-- t + u, t not empty -/
theorem cat_tup {t b : Addr} {vs ws : List Value} {Q : Value → Shared → Prop} (ht : IsTup s.heap t vs.toArray) (hb : IsTup s.heap b ws.toArray) (hv : vs ≠ [])
    (h1 : ws = [] → Q (.ref t) s) (h2 : ws ≠ [] → Q (.ref s.heap.objs.size) { s with heap := s.heap.push { cls := .type "tuple", data := .seq (vs ++ ws).toArray } })
    (hsz : vs.length + ws.length ≤ sizeLine) : wpAny (model prog w) A (binaryOp .Add (.ref t) (.ref b)) Q E s := by
  obtain ⟨⟨cls, dd, data, sl⟩, ho, hc, n, hd⟩ := id ht
  obtain ⟨⟨cls2, dd2, data2, sl2⟩, ho2, hc2, n2, hd2⟩ := id hb
  simp only at hc hd hc2 hd2
  subst hc hd hc2 hd2
  have e : vs.toArray ++ ws.toArray = (vs ++ ws).toArray := by simp
  by_cases hw : ws = []
  · exact concat_meets ⟨_, ho, rfl⟩ ⟨_, ho2, rfl⟩ noFill_tuple_add seq_tuple_add PySem.F.slot_tuple_add PySem.F.entry_tuple_add (PySem.F.args_tuple_add_2 _ _)
      (tuple_addW1 t b vs.toArray ws.toArray n n2 dd dd2 sl sl2 (by simpa using hv) (by simp [hw])) ⟨ho, ho2, h1 hw⟩
  · refine concat_meets ⟨_, ho, rfl⟩ ⟨_, ho2, rfl⟩ noFill_tuple_add seq_tuple_add PySem.F.slot_tuple_add PySem.F.entry_tuple_add (PySem.F.args_tuple_add_2 _ _)
      (tuple_addW2 t b vs.toArray ws.toArray n n2 dd dd2 sl sl2 (by simpa using hv) (by simpa using hw) (by rw [List.size_toArray, List.size_toArray]; exact hsz)) ⟨ho, ho2, ?_⟩
    rw [e]
    exact h2 hw

/-! ### t[a:b], not the whole -/
/-- a slice's bound as a place among n (d where it is left out) -/
def sIx (n d : Nat) : Option Int → Nat
  | none => d
  | some v => if v < 0 then (v + (n : Int)).toNat else min v.toNat n
end
end HT

namespace L2
open PySem PySem.Spec PyProof.Rows

/-! ### the parts of a slice -/
abbrev TO := St → Hp → (Option Int → Hp → Prop) → Prop
/-- a slice's part (left out, or an int) -/
def PO (X : Cx) (e : Option Expr) (t : TO) : Prop :=
  ∀ (pins : List (Addr × Obj)) (s : Shared) (σ : St) (H : Hp) (Q : Option Int → Hp → Prop), Inv X pins σ H s → t σ H Q →
    wpAny (model X.prog X.w) X.A (evalPart e X.env) (fun u s' => ∃ o H', Inv X pins σ H' s' ∧ IsPart u o ∧ Q o H') X.xe s
def tNoPart : TO := fun _ H Q => Q none H
def tPart (t : TE) : TO := fun σ H Q => t σ H fun x H1 => ∃ i, x = .int i ∧ Q (some i) H1

section
variable {X : Cx} {e : Expr} {te : TE} {lo hi : Option Expr} {tl th : TO} {pos p2 : Pos}

theorem po_none : PO X none tNoPart := by
  intro pins s σ H Q I h
  rw [evalPart_none]
  exact wpAny_pure ⟨none, H, I, .none, h⟩
theorem po_some (h : PE X e te) : PO X (some e) (tPart te) := by
  intro pins s σ H Q I hw
  rw [evalPart_some]
  refine thn (h pins s σ H _ I hw) fun u s1 ⟨x, H1, I1, r1, q1⟩ => ?_
  obtain ⟨i, rfl, q⟩ := q1
  obtain ⟨t, rfl⟩ := r1
  exact ⟨some i, H1, I1, .int i t, q⟩

/-- what a slice of a value is, by values: the slice object stands at sl -/
def SlR (X : Cx) (r : V → Option Int → Option Int → Hp → VK → Prop) : Prop :=
  ∀ (pins : List (Addr × Obj)) (s : Shared) (σ : St) (H : Hp) (x : V) (v vl vu : Value) (lo hi : Option Int) (sl : Addr) (Q : VK), Inv X pins σ H s → RelV x v → s.heap.IsSliceOf sl vl vu .none → IsPart vl lo → IsPart vu hi → r x lo hi H Q →
    ∃ T id, typeLookup (.type T) "__getitem__" = pure (some (.builtin id)) ∧ s.TypeIs v T ∧ wpAny (model X.prog X.w) X.A (getItem v (.ref sl)) (EP X pins σ Q) X.xe s
theorem SlR.or {r r' : V → Option Int → Option Int → Hp → VK → Prop} (h : SlR X r) (h' : SlR X r') : SlR X (fun x lo hi H Q => r x lo hi H Q ∨ r' x lo hi H Q) := by
  intro pins s σ H x v vl vu lo hi sl Q I rx hs pl pu q
  rcases q with q | q
  · exact h pins s σ H x v vl vu lo hi sl Q I rx hs pl pu q
  · exact h' pins s σ H x v vl vu lo hi sl Q I rx hs pl pu q
def tSl (r : V → Option Int → Option Int → Hp → VK → Prop) (te : TE) (tl th : TO) : TE := fun σ H Q => te σ H fun x H1 => tl σ H1 fun l H2 => th σ H2 fun u H3 => r x l u H3 Q
/-- a[lo:hi], any a -/
theorem pe_slice {r : V → Option Int → Option Int → Hp → VK → Prop} (hr : SlR X r) (he : PE X e te) (hl : PO X lo tl) (hu : PO X hi th) : PE X (.Subscript e (.Slice lo hi none p2) pos) (tSl r te tl th) := by
  intro pins s σ H Q I h
  refine Subscript_ (thn (he pins s σ H _ I h) fun v s1 ⟨x, H1, I1, r1, q1⟩ => ?_)
  refine wpAny_Slice (thn (hl pins s1 σ H1 _ I1 q1) fun vl s2 ⟨l, H2, I2, pl, q2⟩ => thn (hu pins s2 σ H2 _ I2 q2) fun vu s3 ⟨u, H3, I3, pu, q3⟩ => ?_)
  rw [evalPart_none]
  refine wpAny_pure ?_
  have I4 : Inv X pins σ H3 { s3 with heap := s3.heap.push { cls := .type "slice", data := .fields #[vl, vu, .none] } } := I3.kept (t' := s3.toks) fun b ob q => Heap.get?_push_of_some _ q
  obtain ⟨T, id, hT, ht, hg⟩ := hr pins { s3 with heap := s3.heap.push { cls := .type "slice", data := .fields #[vl, vu, .none] } } σ H3 x v vl vu l u s3.heap.objs.size Q I4 r1 (Heap.IsSliceOf.new ..) pl pu q3
  show wpAny (model X.prog X.w) X.A (subscriptTail e (.Slice lo hi none p2) v (.ref s3.heap.objs.size)) (EP X pins σ Q) X.xe { s3 with heap := s3.heap.push { cls := .type "slice", data := .fields #[vl, vu, .none] } }
  exact tail_any (ops := [.ref s3.heap.objs.size, v]) ht hT hg (by with_unfolding_all rfl)

/-- the items of xs[lo:hi] -/
def cutV (xs : List V) (lo hi : Option Int) : List V := (xs.drop (HT.sIx xs.length 0 lo)).take (HT.sIx xs.length xs.length hi - HT.sIx xs.length 0 lo)
theorem cutV_length (xs : List V) (lo hi : Option Int) : (cutV xs lo hi).length ≤ xs.length := by
  unfold cutV
  rw [List.length_take, List.length_drop]
  omega
/-- t[lo:hi], not the whole of it (the whole would be t itself) -/
def rSlT (K : PySem.W.Frag) : V → Option Int → Option Int → Hp → VK → Prop := fun x lo hi H Q => ∃ a xs, x = .ref a ∧ SqT K H a xs ∧
  ¬ (HT.sIx xs.length 0 lo = 0 ∧ HT.sIx xs.length xs.length hi = xs.length) ∧ ∀ p, H p = none → Q (.ref p) (upd H p (.tup (cutV xs lo hi)))
/-! ### t < u, t + u -/
def rLtT (K : PySem.W.Frag) : R2 := fun x y H Q => ∃ a b ns ms, x = .ref a ∧ y = .ref b ∧ SqT K H a (ns.map V.int) ∧ SqT K H b (ms.map V.int) ∧ Q (.bl (HT.lexLt ns ms)) H
/-- t + u, t not empty: u empty gives t itself -/
def rCatT (K : PySem.W.Frag) : R2 := fun x y H Q => ∃ a b xs ys, x = .ref a ∧ y = .ref b ∧ SqT K H a xs ∧ SqT K H b ys ∧ xs ≠ [] ∧ xs.length + ys.length ≤ sizeLine ∧
  (ys = [] → Q (.ref a) H) ∧ (ys ≠ [] → ∀ p, H p = none → Q (.ref p) (upd H p (.tup (xs ++ ys))))
end
end L2

namespace L2
open PySem PySem.Spec PyProof.Rows

/-! ### places -/
/-- the place that an index of any sign means -/
def ixN (n : Nat) (i : Int) : Option Nat := if 0 ≤ i then (if i < n then some i.toNat else none) else if -(n : Int) ≤ i then some (i + n).toNat else none
def atI {α : Type} (xs : List α) (i : Int) : Option α := (ixN xs.length i).bind fun j => xs[j]?
theorem ixN_seq {n : Nat} {i : Int} {j : Nat} (h : ixN n i = some j) : seqIndex? i n = some j ∧ j < n ∧ -(n : Int) ≤ i ∧ i < n := by
  unfold ixN at h
  by_cases h0 : 0 ≤ i
  · rw [if_pos h0] at h
    by_cases h1 : i < n
    · rw [if_pos h1] at h
      have e : i.toNat = j := Option.some.inj h
      exact ⟨by rw [seqIndex_of h0 h1, e], by omega, by omega, h1⟩
    · rw [if_neg h1] at h; cases h
  · rw [if_neg h0] at h
    by_cases h1 : -(n : Int) ≤ i
    · rw [if_pos h1] at h
      have e : (i + n).toNat = j := Option.some.inj h
      exact ⟨by rw [seqIndex_neg (by omega) h1, e], by omega, h1, by omega⟩
    · rw [if_neg h1] at h; cases h
theorem atI_get {α : Type} {xs : List α} {i : Int} {v : α} (h : atI xs i = some v) : ∃ j, seqIndex? i xs.length = some j ∧ xs[j]? = some v ∧ j < xs.length ∧ -(xs.length : Int) ≤ i ∧ i < xs.length := by
  unfold atI at h
  cases e : ixN xs.length i with
  | none => rw [e] at h; cases h
  | some j =>
    rw [e] at h
    obtain ⟨h1, h2, h3, h4⟩ := ixN_seq e
    exact ⟨j, h1, h, h2, h3, h4⟩
/-! ### what may be subscripted -/
/-- what stands as an index of a plain subscript -/
def PlainIx (b : Expr) : Prop := ∀ o i, subscripted b false o i = operate [o, i] (getItem o i)
/-- a subscript by values -/
def IxR (X : Cx) (r : R2) : Prop :=
  ∀ (value slice : Expr) (pins : List (Addr × Obj)) (s : Shared) (σ : St) (H : Hp) (x y : V) (v u : Value) (Q : VK), Inv X pins σ H s → RelV x v → RelV y u → r x y H Q →
    subscripted slice false v u = operate [v, u] (getItem v u) → wpAny (model X.prog X.w) X.A (subscriptTail value slice v u) (EP X pins σ Q) X.xe s
/-- a call of a builtin's method by values: the receiver, the arguments -/
def MtR (X : Cx) (id : String) (r : V → List V → Hp → VK → Prop) : Prop :=
  ∀ (pins : List (Addr × Obj)) (s : Shared) (σ : St) (H : Hp) (x : V) (xs : List V) (v : Value) (us : List Value) (Q : VK), Inv X pins σ H s → RelV x v → Vals xs us → r x xs H Q →
    wpAny (model X.prog X.w) X.A (call (.builtin id) (v :: us)) (EP X pins σ Q) X.xe s
section
variable {X : Cx} {a b : Expr} {ta tb : TE} {pos : Pos}
theorem IxR.or {r r' : R2} (h : IxR X r) (h' : IxR X r') : IxR X (fun x y H Q => r x y H Q ∨ r' x y H Q) := by
  intro value slice pins s σ H x y v u Q I rx ry q hs
  rcases q with q | q
  · exact h value slice pins s σ H x y v u Q I rx ry q hs
  · exact h' value slice pins s σ H x y v u Q I rx ry q hs
/-- a[b] -/
theorem pe_ix {r : R2} (hr : IxR X r) (ha : PE X a ta) (hb : PE X b tb) (hs : PlainIx b) : PE X (.Subscript a b pos) (tOp r ta tb) := by
  intro pins s σ H Q I h
  exact Subscript_ (binT ha hb I h fun v u s2 x y H2 I2 rx ry q => hr a b pins s2 σ H2 x y v u Q I2 rx ry q (hs _ _))

def rIxL (K : PySem.W.Frag) : R2 := fun x y H Q => ∃ p xs i v, x = .ref p ∧ y = .int i ∧ SqL K H p xs ∧ atI xs i = some v ∧ Q v H
def rIxT (K : PySem.W.Frag) : R2 := fun x y H Q => ∃ p xs i v, x = .ref p ∧ y = .int i ∧ SqT K H p xs ∧ atI xs i = some v ∧ Q v H
def rIxS : R2 := fun x y H Q => ∃ z i c, x = .str z ∧ y = .int i ∧ z.length ≤ sizeLine ∧ atI z.cps.toList i = some c ∧ Q (.str ⟨#[c]⟩) H
theorem ix_list : IxR X (rIxL X.K) := by
  intro value slice pins s σ H x y v u Q I rx ry h hs
  obtain ⟨p, xs, i, z, rfl, rfl, hq, he, q⟩ := h
  cases rx
  obtain ⟨t, rfl⟩ := ry
  obtain ⟨its, r, pl, hz⟩ := I.list hq
  obtain ⟨j, h1, h2, h3, h4, h5⟩ := atI_get he
  obtain ⟨w, ew, rw'⟩ := r.get h2
  have hl := r.length
  have hn := line63
  have fin : EP X pins σ Q w s := ⟨z, H, I, rw', q⟩
  by_cases h0 : 0 ≤ i
  · have hj : i.toNat = j := by
      rw [seqIndex_of h0 h5] at h1
      exact Option.some.inj h1
    exact item_listR pl.isList h0 (by omega) (by rw [hj]; simpa using ew) fin hs
  · have hj : (i + (its.toArray.size : Int)).toNat = j := by
      rw [seqIndex_neg (by omega) h4] at h1
      rw [List.size_toArray, ← hl]
      exact Option.some.inj h1
    exact subscriptTail_builtinR (x := w) pl.isList.typeIs slot_list_getitem.lookup
      (wpAny_getItem_list_neg (Q := fun r s' => r = w ∧ EP X pins σ Q r s') pl.isList (by omega) (by rw [List.size_toArray] <;> omega) (by omega) (by rw [hj]; simpa using ew) ⟨rfl, fin⟩) hs
theorem ix_tup : IxR X (rIxT X.K) := by
  intro value slice pins s σ H x y v u Q I rx ry h hs
  obtain ⟨p, xs, i, z, rfl, rfl, hq, he, q⟩ := h
  cases rx
  obtain ⟨t, rfl⟩ := ry
  obtain ⟨its, r, pl, hz⟩ := I.tuple hq
  obtain ⟨j, h1, h2, h3, h4, h5⟩ := atI_get he
  obtain ⟨w, ew, rw'⟩ := r.get h2
  have hl := r.length
  have hn := line63
  have fin : EP X pins σ Q w s := ⟨z, H, I, rw', q⟩
  exact subscriptTail_builtinR (x := w) pl.typeIs slot_tuple_getitem.lookup
    (getItem_tuple (j := j) (Q := fun r s' => r = w ∧ EP X pins σ Q r s') pl (by omega) (by omega) (by rw [List.size_toArray, ← hl]; exact h1) (by simpa using ew) ⟨rfl, fin⟩) hs
theorem ix_str : IxR X rIxS := by
  intro value slice pins s σ H x y v u Q I rx ry h hs
  obtain ⟨z, i, c, rfl, rfl, hz, he, q⟩ := h
  obtain ⟨t, rfl⟩ := rx
  obtain ⟨t', rfl⟩ := ry
  obtain ⟨j, h1, h2, h3, h4, h5⟩ := atI_get he
  have hl : z.cps.toList.length = z.length := by simp [Str.length]
  rw [hl] at h1 h4 h5
  have hn := line63
  exact tail_any (typeIs_str s z t) slot_str_getitem.lookup (getItem_str (c := c) (by
    have e1 : decide (i < -(2 ^ 63 : Int)) = false := decide_eq_false (by omega)
    have e2 : decide (i ≥ 2 ^ 63) = false := decide_eq_false (by omega)
    rw [e1, e2, Bool.or_false]) (by rw [h1]; simpa using h2) ⟨.str ⟨#[c]⟩, H, I.tok _, ⟨_, rfl⟩, q⟩) hs
/-- list, tuple or str -/
def rIx (K : PySem.W.Frag) : R2 := fun x y H Q => rIxL K x y H Q ∨ rIxT K x y H Q ∨ rIxS x y H Q
theorem ix_seq : IxR X (rIx X.K) := ix_list.or (ix_tup.or ix_str)

/-! ### xs[i] = v, any sign -/
/-- the list's object behind a store -/
theorem mapSeq_set (its : List Value) (n j : Nat) (u : Value) : Obj.mapSeq (·.setIfInBounds j u) { cls := .type "list", data := .seq its.toArray n } = { cls := .type "list", data := .seq (its.set j u).toArray n } := by
  simp [Obj.mapSeq]
theorem Inv.lst {pins : List (Addr × Obj)} {σ : St} {H : Hp} {s : Shared} {p : Addr} {xs : List V} (I : Inv X pins σ H s) (h : H p = some (.lst xs)) :
    ∃ (its : List Value) (n : Nat), Vals xs its ∧ s.heap.get? p = some { cls := .type "list", data := .seq its.toArray n } ∧ xs.length ≤ sizeLine := by
  obtain ⟨z, its, n, r, e⟩ := I.hok p _ h
  exact ⟨its, n, r, e, z⟩
/-- the list at p is written by an update of its object -/
theorem Inv.lstUpd {pins : List (Addr × Obj)} {σ : St} {H : Hp} {s : Shared} {p : Addr} {xs ys : List V} {its its' : List Value} {n n' : Nat} {f : Obj → Obj} (I : Inv X pins σ H s) (h : H p = some (.lst xs))
    (ho : s.heap.get? p = some { cls := .type "list", data := .seq its.toArray n }) (hf : f { cls := .type "list", data := .seq its.toArray n } = { cls := .type "list", data := .seq its'.toArray n' }) (r : Vals ys its') (hz : ys.length ≤ sizeLine) (t : Nat) :
    Inv X pins σ (upd H p (.lst ys)) { s with heap := s.heap.update p f, toks := t } := by
  have e : (s.heap.update p f).get? p = some { cls := .type "list", data := .seq its'.toArray n' } := by
    rw [Heap.get?_update_self f ho (by rw [hf] <;> rfl), hf]
  refine I.write (x := p) (e := p) (by rw [h]; trivial) (.inl rfl) (fun b u hb q => (Heap.get?_update_other _ _ (Ne.symm hb)).trans q) ⟨_, e⟩ ?_
  exact ⟨hz, its', n', r, e⟩
def rSetL : V → V → V → Hp → (Hp → Prop) → Prop := fun o i v H Q => ∃ p xs k j, o = .ref p ∧ i = .int k ∧ H p = some (.lst xs) ∧ ixN xs.length k = some j ∧ Q (upd H p (.lst (xs.set j v)))
theorem set_list : PSet X rSetL := by
  intro pins s σ H o i v ov iv u Q I ro ri rv h
  obtain ⟨p, xs, k, j, rfl, rfl, hp, hj, q⟩ := h
  cases ro
  obtain ⟨t, rfl⟩ := ri
  obtain ⟨its, n, r, ho, hz⟩ := I.lst hp
  obtain ⟨h1, h2, h3, h4⟩ := ixN_seq hj
  have hl := r.length
  have hn := line63
  have I' : Inv X pins σ (upd H p (.lst (xs.set j v))) { s with heap := s.heap.update p (Obj.mapSeq (·.setIfInBounds j u)) } :=
    I.lstUpd hp ho (mapSeq_set its n j u) (r.set rv j) (by rw [List.length_set]; exact hz) s.toks
  by_cases h0 : 0 ≤ k
  · have hk : k.toNat = j := by
      rw [seqIndex_of h0 h4] at h1
      exact Option.some.inj h1
    exact PySem.W.ki_setAt ho h0 (by omega) (by rw [List.size_toArray, ← hl]; exact h4) (by rw [hk]; exact ⟨_, I', q⟩)
  · have hk : (k + (its.toArray.size : Int)).toNat = j := by
      rw [seqIndex_neg (by omega) h3] at h1
      rw [List.size_toArray, ← hl]
      exact Option.some.inj h1
    exact PySem.W.ki_setBack ho (by omega) (by rw [List.size_toArray, ← hl]; exact h3) (by omega) (by rw [hk]; exact ⟨_, I', q⟩)

/-! ### slices -/
theorem slice_bounds (lo hi : Option Int) (n : Nat) : (sliceBounds lo hi none n).1 = ((HT.sIx n 0 lo : Nat) : Int) ∧ (sliceBounds lo hi none n).2.1 = ((HT.sIx n n hi : Nat) : Int) ∧ (sliceBounds lo hi none n).2.2 = 1 := by
  refine ⟨?_, ?_, rfl⟩
  · cases lo with
    | none => simp [sliceBounds, HT.sIx]
    | some i =>
      simp only [sliceBounds, HT.sIx, Option.getD_none, show (1 : Int) > 0 by decide, if_true]
      by_cases h : i < 0
      · simp only [h, if_true] <;> omega
      · simp only [h, if_false] <;> omega
  · cases hi with
    | none => simp [sliceBounds, HT.sIx]
    | some i =>
      simp only [sliceBounds, HT.sIx, Option.getD_none, show (1 : Int) > 0 by decide, if_true]
      by_cases h : i < 0
      · simp only [h, if_true] <;> omega
      · simp only [h, if_false] <;> omega
theorem slicePick_cut (its : List Value) (lo hi : Option Int) : slicePick its.toArray lo hi none = ((its.drop (HT.sIx its.length 0 lo)).take (HT.sIx its.length its.length hi - HT.sIx its.length 0 lo)).toArray := by
  obtain ⟨h1, h2, h3⟩ := slice_bounds lo hi its.toArray.size
  unfold slicePick
  rw [h1, h2, h3]
  simp only [sliceRange_one, pick_run, List.size_toArray] <;> rfl
/-- xs[lo:hi] of a list: a new list -/
def rSlL (K : PySem.W.Frag) : V → Option Int → Option Int → Hp → VK → Prop := fun x lo hi H Q => ∃ a xs, x = .ref a ∧ SqL K H a xs ∧ ∀ p, H p = none → Q (.ref p) (upd H p (.lst (cutV xs lo hi)))
theorem sl_list : SlR X (rSlL X.K) := by
  intro pins s σ H x v vl vu lo hi sl Q I rx hs pl pu h
  obtain ⟨a, xs, rfl, hx, q⟩ := h
  cases rx
  obtain ⟨its, r, ht, hz⟩ := I.list hx
  have hlen := r.length
  refine ⟨"list", _, slot_list_getitem.lookup, ht.isList.typeIs, ?_⟩
  refine wpAny_getItem_list_slice ht.isList hs pl pu .none (by simp) ?_ (by rw [List.size_toArray] <;> omega)
  rw [slicePick_cut, ← hlen]
  refine ⟨.ref s.heap.objs.size, _, I.laid (t' := s.toks) (o := .lst (cutV xs lo hi)) (fun b ob q => Heap.get?_push_of_some _ q) (Nat.le_refl _) ?_, rfl, q _ (I.hok.fresh (Nat.le_refl _))⟩
  exact ⟨Nat.le_trans (cutV_length xs lo hi) hz, _, 0, (r.drop (HT.sIx xs.length 0 lo)).take (HT.sIx xs.length xs.length hi - HT.sIx xs.length 0 lo), Heap.get?_push_size _ rfl⟩

/-! ### in, not in: flat items -/
def flatV : V → Bool
  | .non => true
  | .bl _ => true
  | .int _ => true
  | .str _ => true
  | _ => false
/-- == of flat values -/
def eqV : V → V → Bool
  | .non, .non => true
  | .bl a, .bl b => a == b
  | .bl a, .int b => (if a then 1 else 0) == b
  | .int a, .bl b => a == (if b then 1 else 0)
  | .int a, .int b => a == b
  | .str a, .str b => a == b
  | _, _ => false
theorem eqAt_V {A : Around} {s : Shared} {y x : V} {u v : Value} (ry : RelV y u) (rx : RelV x v) (fy : flatV y = true) (fx : flatV x = true) : SeqAt.EqAt A s u v (eqV y x) := by
  cases y with
  | non =>
    cases ry
    cases x with
    | non => cases rx; exact SeqAt.EqAt.same _
    | bl b => cases rx; exact SeqAt.EqAt.none_bool b
    | int b => obtain ⟨t, rfl⟩ := rx; exact SeqAt.EqAt.none_int b t
    | str b => obtain ⟨t, rfl⟩ := rx; exact SeqAt.EqAt.none_str b t
    | _ => exact absurd (show false = true from fx) Bool.false_ne_true
  | bl a =>
    cases ry
    cases x with
    | non => cases rx; exact SeqAt.EqAt.bool_none a
    | bl b => cases rx; exact SeqAt.EqAt.bool_bool a b
    | int b => obtain ⟨t, rfl⟩ := rx; exact SeqAt.EqAt.bool_int a b t
    | str b => obtain ⟨t, rfl⟩ := rx; exact SeqAt.EqAt.bool_str a b t
    | _ => exact absurd (show false = true from fx) Bool.false_ne_true
  | int a =>
    obtain ⟨t', rfl⟩ := ry
    cases x with
    | non => cases rx; exact SeqAt.EqAt.int_none a t'
    | bl b => cases rx; exact SeqAt.EqAt.int_bool a t' b
    | int b => obtain ⟨t, rfl⟩ := rx; exact SeqAt.EqAt.int_int a t' b t
    | str b => obtain ⟨t, rfl⟩ := rx; exact SeqAt.EqAt.int_str a t' b t
    | _ => exact absurd (show false = true from fx) Bool.false_ne_true
  | str a =>
    obtain ⟨t', rfl⟩ := ry
    cases x with
    | non => cases rx; exact SeqAt.EqAt.str_none a t'
    | bl b => cases rx; exact SeqAt.EqAt.str_bool a t' b
    | int b => obtain ⟨t, rfl⟩ := rx; exact SeqAt.EqAt.str_int a t' b t
    | str b => obtain ⟨t, rfl⟩ := rx; exact SeqAt.EqAt.str_str a t' b t
    | _ => exact absurd (show false = true from fx) Bool.false_ne_true
  | _ => exact absurd (show false = true from fy) Bool.false_ne_true
/-- the items' answers, read off the values (a value's own answer does not lean on its token) -/
def eqU (x : V) (u : Value) : Bool := match u with
  | .none => eqV .non x
  | .bool b => eqV (.bl b) x
  | .int i _ => eqV (.int i) x
  | .str z _ => eqV (.str z) x
  | _ => false
theorem eqU_of {x y : V} {u : Value} (r : RelV y u) (f : flatV y = true) : eqU x u = eqV y x := by
  cases y with
  | non => cases r; rfl
  | bl b => cases r; rfl
  | int i => obtain ⟨t, rfl⟩ := r; rfl
  | str z => obtain ⟨t, rfl⟩ := r; rfl
  | _ => exact absurd (show false = true from f) Bool.false_ne_true
theorem any_eqU {x : V} : ∀ {xs : List V} {us : List Value}, Vals xs us → xs.all flatV = true → us.any (eqU x) = xs.any fun y => eqV y x
  | _, _, .nil, _ => rfl
  | y :: xs, u :: us, .cons r t, f => by
    rw [List.all_cons, Bool.and_eq_true] at f
    rw [List.any_cons, List.any_cons, eqU_of r f.1, any_eqU t f.2]
theorem mem_eqAt {A : Around} {s : Shared} {x : V} {v : Value} (rx : RelV x v) (fx : flatV x = true) : ∀ {xs : List V} {us : List Value}, Vals xs us → xs.all flatV = true → ∀ u ∈ us, SeqAt.EqAt A s u v (eqU x u)
  | _, _, .nil, _ => fun u hu => by cases hu
  | y :: xs, u :: us, .cons r t, f => fun u' hu => by
    rw [List.all_cons, Bool.and_eq_true] at f
    rcases List.mem_cons.mp hu with rfl | hu
    · rw [eqU_of r f.1]; exact eqAt_V r rx f.1 fx
    · exact mem_eqAt rx fx t f.2 u' hu
def inV (x : V) (xs : List V) : Bool := xs.any fun y => eqV y x
/-- x in a list or tuple of flat items -/
def rIn (K : PySem.W.Frag) (neg : Bool) : R2 := fun x y H Q => ∃ p xs, y = .ref p ∧ (SqL K H p xs ∨ SqT K H p xs) ∧ flatV x = true ∧ xs.all flatV = true ∧ Q (.bl (if neg then !inV x xs else inV x xs)) H
theorem op_in_seq : OpR X (compareOp .In) (rIn X.K false) := by
  intro pins s σ H x y v u Q I rx ry h
  obtain ⟨p, xs, rfl, hq, fx, fs, q⟩ := h
  cases ry
  rcases hq with hq | hq
  · obtain ⟨its, r, pl, hz⟩ := I.list hq
    refine SeqAt.in_listAt (eqU x) pl.isList (fun w hw => mem_eqAt rx fx r fs w (by simpa using hw)) ⟨.bl _, H, I, rfl, ?_⟩
    rw [show its.toArray.any (eqU x) = its.any (eqU x) by simp, any_eqU r fs]
    exact q
  · obtain ⟨its, r, pl, hz⟩ := I.tuple hq
    refine SeqAt.in_tupleAt (eqU x) pl (fun w hw => mem_eqAt rx fx r fs w (by simpa using hw)) ⟨.bl _, H, I, rfl, ?_⟩
    rw [show its.toArray.any (eqU x) = its.any (eqU x) by simp, any_eqU r fs]
    exact q
theorem op_notIn_seq : OpR X (compareOp .NotIn) (rIn X.K true) := by
  intro pins s σ H x y v u Q I rx ry h
  obtain ⟨p, xs, rfl, hq, fx, fs, q⟩ := h
  cases ry
  rcases hq with hq | hq
  · obtain ⟨its, r, pl, hz⟩ := I.list hq
    refine SeqAt.notIn_listAt (eqU x) pl.isList (fun w hw => mem_eqAt rx fx r fs w (by simpa using hw)) ⟨.bl _, H, I, rfl, ?_⟩
    rw [show its.toArray.any (eqU x) = its.any (eqU x) by simp, any_eqU r fs]
    exact q
  · obtain ⟨its, r, pl, hz⟩ := I.tuple hq
    refine SeqAt.notIn_tupleAt (eqU x) pl (fun w hw => mem_eqAt rx fx r fs w (by simpa using hw)) ⟨.bl _, H, I, rfl, ?_⟩
    rw [show its.toArray.any (eqU x) = its.any (eqU x) by simp, any_eqU r fs]
    exact q
/-! ### len, list(x), tuple(x) of any list or tuple that is read -/
theorem call_tuple_of : CallR X (.type "tuple") (fun xs H Q => ∃ p ys, xs = [.ref p] ∧ ((SqL X.K H p ys ∧ ∀ l, H l = none → Q (.ref l) (upd H l (.tup ys))) ∨ (SqT X.K H p ys ∧ Q (.ref p) H))) := by
  intro pins s σ H xs us Q I r h
  obtain ⟨p, ys, rfl, h⟩ := h
  obtain ⟨u, rfl, rx⟩ := vals1 r
  cases rx
  rcases h with ⟨hq, q⟩ | ⟨hq, q⟩
  · obtain ⟨its, r', pl, hz⟩ := I.list hq
    have hlen := r'.length
    refine call_tuple_list pl.isList (fun h' kp => ?_) (by simp only [List.size_toArray] <;> omega)
    have I1 : Inv X pins σ H { s with heap := h' } := I.kept (t' := s.toks) kp
    have I2 : Inv X pins σ (upd H h'.objs.size (.tup ys)) { s with heap := h'.push { cls := .type "tuple", data := .seq its.toArray } } :=
      I1.laid (t' := s.toks) (fun b o e => Heap.get?_push_of_some _ e) (Nat.le_refl _) (show ObjOk X.prog X.w _ _ _ (.tup ys) from ⟨hz, its, r', IsTup.new _ _⟩)
    exact ⟨.ref h'.objs.size, _, I2, rfl, q _ (I1.hok.fresh (Nat.le_refl _))⟩
  · obtain ⟨its, r', pl, hz⟩ := I.tuple hq
    exact call_tuple_same pl ⟨.ref p, H, I, rfl, q⟩

/-! ### the call of a builtin's method: o.m(..) -/
/-- the value is of that builtin type -/
def tyV (K : PySem.W.Frag) (T : String) (x : V) (H : Hp) : Prop := match x with
  | .str _ => T = "str"
  | .int _ => T = "int"
  | .ref p => (T = "list" ∧ ∃ xs, SqL K H p xs) ∨ (T = "tuple" ∧ ∃ o, K.lookup p = some o ∧ o.cls = .type "tuple" ∧ o.dict = none) ∨
      (T = "dict" ∧ ((∃ kvs, H p = some (.dK kvs)) ∨ ∃ kvs, H p = some (.dT kvs))) ∨ (T = "set" ∧ ∃ S n, H p = some (.set S n))
  | _ => False
theorem tyV_is {pins : List (Addr × Obj)} {σ : St} {H : Hp} {s : Shared} {T : String} {x : V} {v : Value} (I : Inv X pins σ H s) (r : RelV x v) (ty : tyV X.K T x H) :
    s.TypeIs v T ∧ ∀ a, v = .ref a → ∃ ob, s.heap.get? a = some ob ∧ ob.dict = none := by
  cases x with
  | str z =>
    obtain ⟨t, rfl⟩ := r
    cases (show T = "str" from ty)
    exact ⟨typeIs_str s z t, fun _ e => nomatch e⟩
  | int i =>
    obtain ⟨t, rfl⟩ := r
    cases (show T = "int" from ty)
    exact ⟨typeIs_int s i t, fun _ e => nomatch e⟩
  | ref p =>
    cases r
    rcases ty with ⟨rfl, xs, hq⟩ | ⟨rfl, o, hk, hc, hd⟩ | ⟨rfl, hk⟩ | ⟨rfl, S, n, hk⟩
    · obtain ⟨its, _, pl, _⟩ := I.list hq
      refine ⟨pl.isList.typeIs, fun a e => ?_⟩
      cases e
      obtain ⟨o, n, e, c, hd, _⟩ := pl
      exact ⟨o, e, hd⟩
    · refine ⟨⟨o, I.kIn p o hk, hc⟩, fun a e => ?_⟩
      cases e
      exact ⟨o, I.kIn _ o hk, hd⟩
    · have z : ∃ o, s.heap.get? p = some o ∧ o.ExactDict := by
        rcases hk with ⟨kvs, hk⟩ | ⟨kvs, hk⟩
        · obtain ⟨_, _, _, _, o, _, _, e, ex, _⟩ := I.hok p _ hk
          exact ⟨o, e, ex⟩
        · obtain ⟨_, _, _, _, o, _, _, e, ex, _⟩ := I.hok p _ hk
          exact ⟨o, e, ex⟩
      obtain ⟨o, e, ex⟩ := z
      refine ⟨⟨o, e, ex.1⟩, fun a e2 => ?_⟩
      cases e2
      exact ⟨o, e, ex.2.1⟩
    · obtain ⟨o, _, _, _, e, ex, _⟩ := I.hok p _ hk
      refine ⟨⟨o, e, ex.1⟩, fun a e2 => ?_⟩
      cases e2
      exact ⟨o, e, ex.2.1⟩
  | _ => exact False.elim ty
def tBM0 (K : PySem.W.Frag) (T : String) (r : V → List V → Hp → VK → Prop) (to : TE) : TE := fun σ H Q => to σ H fun x H1 => tyV K T x H1 ∧ r x [] H1 Q
def tBM (K : PySem.W.Frag) (T : String) (r : V → List V → Hp → VK → Prop) (to : TE) (t : TA) : TE := fun σ H Q => to σ H fun x H1 => tyV K T x H1 ∧ t σ H1 fun xs H2 => r x xs H2 Q
variable {o e : Expr} {es : List Expr} {to : TE} {t : TA} {name : Str} {apos cpos : Pos} {T id : String} {r : V → List V → Hp → VK → Prop}
theorem pe_bm (pa : PlainAttrs T) (slot : Slot T name id) (hty : typeOf (.builtin id) = pure (.type "method_descriptor")) (hm : MtR X id r) (ho : PE X o to) (ha : PA X (e :: es) t)
    (hbase : attributeBase o name X.env (eval o X.env) = eval o X.env := by rfl)
    (hfew : ((backTo cpos (starEach (e :: es) X.env)).all (fun x => !x.1) && (backToKw cpos (keywordEach [] X.env)).all (fun x => x.1.isSome)
      && decide ((e :: es).length + ([] : List Keyword).length + (if ([] : List Keyword).isEmpty then 0 else 1) < 30)) = true := by rfl)
    (hline : (apos.endLine == cpos.line) = true := by rfl) (hs : starEach (e :: es) X.env = (false, eval e X.env) :: starEach es X.env := by rfl) (hplain : (backTo cpos (starEach es X.env)).any (·.1) = false := by rfl) :
    PE X (.Call (.Attribute o name apos) (e :: es) [] cpos) (tBM X.K T r to t) := by
  intro pins s σ H Q I h
  refine wpAny_Call_method_late hbase hfew hline rfl (thn (ho pins s σ H _ I h) fun v s1 ⟨x, H1, I1, r1, ty, q1⟩ => ?_)
  obtain ⟨h1, h2⟩ := tyV_is I1 r1 ty
  refine ⟨T, id, pa, slot, hty, h1, h2, ?_⟩
  have hA := ha cpos pins s1 σ H1 _ I1 q1
  rw [hs] at hA ⊢
  refine Calls.callWith_builtin (by show (false || (backTo cpos (starEach es X.env)).any (·.1)) = false; rw [hplain] <;> rfl) (Calls.evalArgs_plain ?_)
  exact thn hA fun us s2 ⟨vs, H2, I2, r2, q2⟩ => hm pins s2 σ H2 x vs v us Q I2 r1 r2 q2
/- xs.append(e), list.index on a module's tuple .. are MtR facts of 06m -/
end
end L2

namespace L2
open PySem PySem.Spec PyProof.Rows

def MtM (X : Cx) (id : String) (r : V → List V → Hp → VK → Prop) : Prop :=
  ∀ (pins : List (Addr × Obj)) (s : Shared) (σ : St) (H : Hp) (x : V) (xs : List V) (v : Value) (us : List Value) (Q : VK), Inv X pins σ H s → RelV x v → Vals xs us → r x xs H Q →
    wpAny (model X.prog X.w) X.A (call (.builtin id) (v :: us)) (EP X pins σ Q) X.xe s

/-! ### lists of values -/
theorem Vals.one : ∀ {x : V} {us : List Value}, Vals [x] us → ∃ u, us = [u] ∧ RelV x u
  | _, _, .cons r .nil => ⟨_, rfl, r⟩
theorem Vals.rep {xs : List V} {us : List Value} (h : Vals xs us) : ∀ k : Nat, Vals (List.replicate k xs).flatten (List.replicate k us).flatten
  | 0 => .nil
  | k + 1 => by
    rw [List.replicate_succ, List.replicate_succ, List.flatten_cons, List.flatten_cons]
    exact Vals.append h (Vals.rep h k)
theorem foldl_rep (its : List Value) : ∀ (k : Nat) (acc : List Value),
    List.foldl (fun x1 x2 => x1 ++ x2) acc.toArray (List.replicate k its.toArray) = (acc ++ (List.replicate k its).flatten).toArray
  | 0, acc => by simp
  | k + 1, acc => by
    have e : acc.toArray ++ its.toArray = (acc ++ its).toArray := by simp
    have e2 : (acc ++ its) ++ (List.replicate k its).flatten = acc ++ (List.replicate (k + 1) its).flatten := by
      rw [List.replicate_succ, List.flatten_cons, List.append_assoc]
    rw [← e2, ← foldl_rep its k (acc ++ its), ← e, List.replicate_succ, List.foldl_cons]

section
variable {X : Cx} {pins : List (Addr × Obj)} {σ : St} {H : Hp} {s : Shared} {l b : Addr} {xs ys zs : List V}

/-! ### the two steps: a tracked list is rewritten, a new list is laid -/
theorem Inv.lset {its its' : List Value} {n : Nat} {f : Array Value → Array Value} {t' : Nat} (I : Inv X pins σ H s) (hH : H l = some (.lst xs))
    (e : s.heap.get? l = some { cls := .type "list", data := .seq its.toArray n }) (hf : f its.toArray = its'.toArray) (hv : Vals ys its') (hz : ys.length ≤ sizeLine) :
    Inv X pins σ (upd H l (.lst ys)) { s with heap := s.heap.update l (Obj.mapSeq f), toks := t' } := by
  have q := PySem.IsL.update e f
  rw [hf] at q
  refine I.write (x := l) (e := l) (by rw [hH]; exact trivial) (.inl rfl) (fun b' u hb hu => (Heap.get?_update_other s.heap (Obj.mapSeq f) (Ne.symm hb)).trans hu) ⟨_, q⟩ ?_
  exact ⟨hz, its', _, hv, q⟩
theorem Inv.lnew {its : List Value} {t' : Nat} (I : Inv X pins σ H s) (hv : Vals ys its) (hz : ys.length ≤ sizeLine) :
    Inv X pins σ (upd H s.heap.objs.size (.lst ys)) { s with heap := s.heap.push { cls := .type "list", data := .seq its.toArray }, toks := t' } :=
  I.laid (fun _ _ q => Heap.get?_push_of_some _ q) (Nat.le_refl _) ⟨hz, its, 0, hv, Heap.get?_push_size _ rfl⟩
theorem Inv.fresh (I : Inv X pins σ H s) : H s.heap.objs.size = none := I.hok.fresh (Nat.le_refl _)
theorem Inv.lstM (I : Inv X pins σ H s) (hH : H l = some (.lst xs)) : xs.length ≤ sizeLine ∧ ∃ (its : List Value) (n : Nat), Vals xs its ∧ xs.length = its.length ∧ s.heap.get? l = some { cls := .type "list", data := .seq its.toArray n } := by
  obtain ⟨z, its, n, r, e⟩ := I.hok l _ hH
  exact ⟨z, its, n, r, r.length, e⟩

theorem notLongL {n : Nat} (h : n ≤ sizeLine) : Builtin.List.listTooLong n = false := by
  unfold Builtin.List.listTooLong
  exact decide_eq_false (by omega)
end

section
variable {X : Cx}

/-! ### methods -/
def rAppend : V → List V → Hp → VK → Prop := fun x vs H Q => ∃ l xs y, x = .ref l ∧ vs = [y] ∧ H l = some (.lst xs) ∧ xs.length < sizeLine ∧ Q .non (upd H l (.lst (xs ++ [y])))
theorem mt_append : MtM X "list.append" rAppend := by
  intro pins s σ H x vs v us Q I rx rv h
  obtain ⟨l, xs, y, rfl, rfl, hH, hz, q⟩ := h
  cases rx
  obtain ⟨u, rfl, ru⟩ := rv.one
  obtain ⟨z, its, n, r, hl, e⟩ := I.lstM hH
  refine call_meets F.slot_list_append ⟨_, e, rfl⟩ F.entry_list_append (F.args_list_append_2 _ _) (PySem.list_append l its.toArray n u (by rw [List.size_toArray]; omega)) ⟨e, ?_⟩
  refine ⟨.non, _, I.lset (its' := its ++ [u]) hH e (by simp) (r.append (.cons ru .nil)) ?_, rfl, q⟩
  rw [List.length_append, List.length_singleton]
  omega

def rExtend : V → List V → Hp → VK → Prop := fun x vs H Q => ∃ l b xs zs, x = .ref l ∧ vs = [.ref b] ∧ H l = some (.lst xs) ∧ H b = some (.lst zs) ∧ xs.length + zs.length ≤ sizeLine ∧ Q .non (upd H l (.lst (xs ++ zs)))
def rPop : V → List V → Hp → VK → Prop := fun x vs H Q => ∃ l xs y, x = .ref l ∧ vs = [] ∧ H l = some (.lst xs) ∧ xs[xs.length - 1]? = some y ∧ Q y (upd H l (.lst xs.dropLast))
def rPopAt : V → List V → Hp → VK → Prop := fun x vs H Q => ∃ l xs i k y, x = .ref l ∧ vs = [.int i] ∧ H l = some (.lst xs) ∧ -(2 ^ 63) ≤ i ∧ i < 2 ^ 63 ∧ seqIndex? i xs.length = some k ∧ xs[k]? = some y ∧ Q y (upd H l (.lst (xs.eraseIdx k)))
def rReverse : V → List V → Hp → VK → Prop := fun x vs H Q => ∃ l xs, x = .ref l ∧ vs = [] ∧ H l = some (.lst xs) ∧ Q .non (upd H l (.lst xs.reverse))
def rClear : V → List V → Hp → VK → Prop := fun x vs H Q => ∃ l xs, x = .ref l ∧ vs = [] ∧ H l = some (.lst xs) ∧ Q .non (upd H l (.lst []))
/-! ### list + list, list += list, list * int -/
def rCat : R2 := fun x y H Q => ∃ l b xs zs, x = .ref l ∧ y = .ref b ∧ H l = some (.lst xs) ∧ H b = some (.lst zs) ∧ xs.length + zs.length ≤ sizeLine ∧ ∀ p, H p = none → Q (.ref p) (upd H p (.lst (xs ++ zs)))
/-- a list times an int (a negative one is nothing) -/
def rRep : R2 := fun x y H Q => ∃ l k xs, x = .ref l ∧ y = .int k ∧ H l = some (.lst xs) ∧ -(2 ^ 63) ≤ k ∧ k < 2 ^ 63 ∧ xs.length * k.toNat ≤ sizeLine ∧
  ∀ p, H p = none → Q (.ref p) (upd H p (.lst (List.replicate k.toNat xs).flatten))
theorem len_rep {α : Type} (xs : List α) (k : Nat) : (List.replicate k xs).flatten.length = k * xs.length := by
  induction k with
  | zero => simp
  | succ k ih => rw [List.replicate_succ, List.flatten_cons, List.length_append, ih, Nat.succ_mul, Nat.add_comm]
theorem op_rep : OpR X (binaryOp .Mult) rRep := by
  intro pins s σ H x y v u Q I rx ry h
  obtain ⟨l, k, xs, rfl, rfl, hH, h1, h2, hz, q⟩ := h
  cases rx
  obtain ⟨t, rfl⟩ := ry
  obtain ⟨z, its, n, r, hl, e⟩ := I.lstM hH
  have hlen : its.toArray.size * k.toNat ≤ sizeLine := by rw [List.size_toArray, ← hl]; exact hz
  have hcap : ¬ its.toArray.size * k.toNat > (2 ^ 63 - 1) / 8 := by
    have : (sizeLine : Nat) ≤ (2 ^ 63 - 1) / 8 := by decide
    omega
  have hfit : ¬ (!Builtin.List.listFitsIndex k) = true := by
    rw [fitsIndex_both h1 h2]
    exact Bool.false_ne_true
  have hlong : ¬ Builtin.List.listTooLong (its.toArray.size * k.toNat) = true := by
    rw [notLongL hlen]
    exact Bool.false_ne_true
  have hnew : List.foldl (fun x1 x2 => x1 ++ x2) #[] (List.replicate (if its.toArray.isEmpty = true then 0 else k.toNat) its.toArray) = (List.replicate k.toNat its).flatten.toArray := by
    have f0 : ∀ m : Nat, List.foldl (fun x1 x2 => x1 ++ x2) #[] (List.replicate m its.toArray) = (List.replicate m its).flatten.toArray := fun m => by
      have := foldl_rep its m []
      rw [List.nil_append] at this
      exact this
    rw [f0]
    cases its with
    | nil => simp
    | cons a r' => rw [if_neg (by simp)]
  refine wpAny_binaryOp_repeat_ref (T := "list") (U := "int") (by decide) ⟨_, e, rfl⟩ (fun s' => typeIs_int s' k t) noFill_list_mul F.fills_int_mul F.slot_int_rmul repeat_list F.slot_int_index.lookup
    (call_meets F.slot_int_rmul (typeIs_int s k t) F.entry_int_rmul (F.args_int_rmul_2 _ _) (int___rmul___int_list k t l its.toArray n)
      ⟨e, rfl, ⟨_, e, rfl⟩, call_meets F.slot_list_mul ⟨_, e, rfl⟩ F.entry_list_mul (F.args_list_mul_2 _ _) (AutoListH.list___mul___list_int_3 l its.toArray n k t hfit hcap hlong) ⟨e, ?_⟩⟩)
  rw [hnew]
  exact ⟨.ref _, _, I.lnew (t' := s.toks) (r.rep k.toNat) (by rw [len_rep, Nat.mul_comm]; exact hz), rfl, q _ I.fresh⟩

/-! ### del xs[i] -/
end

/-! ### xs[a:b] = ys -/
section
variable {prog : Program} {w : World} {A : Around} {E : Value → Shared → Prop} {s : Shared}
set_option maxRecDepth 100000 in
end

section
variable {X : Cx}
end
end L2

namespace Att
open PySem PySem.W PySem.Calls PyProof.Rows

/-! ### the script -/
theorem ints_of_wellAll {P : Params} {h : Heap} : ∀ (ns : List Int) (vs : List Value), WellAll P h vs (ns.map WData.int) → IntsAre vs ns := by
  intro ns
  induction ns with
  | nil =>
    intro vs w
    rw [List.map_nil] at w
    cases w
    exact .nil
  | cons n ns ih =>
    intro vs w
    rw [List.map_cons] at w
    cases w with
    | cons a b =>
      cases a
      exact .cons _ _ (ih _ b)

theorem script_of {l : OpenLaw} {n : Nat} (hn : l.most = some n) {P : Params} {h : Heap} {args : List WData} {vals : List Value}
    (hpre : l.row.toRowW.claim.pre args = true) (hwl : WellAll P h vals args) :
    ∃ a vs ns, vals = [Value.ref a] ∧ args = [WData.list (ns.map WData.int)] ∧ h.get? a = some { cls := .type "list", data := .seq vs.toArray } ∧ IntsAre vs ns ∧ ns.length ≤ n := by
  have hsh : WShape.hasAll [] args [.list .int] = true := (pre_splitW hpre).1
  have hc : l.pre.holds [] { args := args } = true := (pre_splitW hpre).2
  obtain ⟨d, r, rfl, h1, h2⟩ := hasAllW_cons hsh
  obtain rfl := hasAllW_nil h2
  obtain ⟨xs, rfl, h3⟩ := hasW_list h1
  obtain ⟨ns, rfl⟩ := items_int h3
  have hlen : ns.length ≤ n := by
    unfold OpenLaw.pre at hc
    have h4 : (WTm.not (.lt (.lit (.int (n : Int))) (.len (.arg 0)))).holds [] { args := [.list (ns.map .int)] } = true := by
      have h4 := (holds_andW hc).1
      rw [hn] at h4
      exact h4
    have h5 := condW_of h4 (w_not (w_lt w_lit (w_len_list (w_arg rfl))))
    rw [List.length_map] at h5
    refine Nat.le_of_not_lt fun q => ?_
    have q' : (n : Int) < ((ns.length : Nat) : Int) := by omega
    first
      | (rw [decide_eq_true q'] at h5; exact absurd h5 (by decide))
      | (simp at h5; omega)
  cases hwl with
  | cons w1 w2 =>
    cases w2
    cases w1 with
    | list ho hall => exact ⟨_, _, ns, rfl, rfl, ho, ints_of_wellAll ns _ hall, hlen⟩

theorem post_true (l : OpenLaw) (args : List WData) : l.row.toRowW.claim.post args (.bool true) args = true :=
  postW_of (r := l.row.toRowW) (X := (true == true))
    (show WShape.has [] (.bool true) .bool = true by first | rfl | decide | simp [WShape.has, WShape.arms, WShape.armsAll])
    (show (WTm.eq .res (.lit (.bool true))).value [] { args := args, res := some (.bool true), after := args } = some (.bool (true == true)) from w_eq_bool (w_res rfl) w_lit) rfl

/-! ### the attachment: holds_open's last premise (the goal 'hc' behind k_head) from a wpAny of the law's body -/
/-- the same from a codeAny of the CALL (for a layer whose function contracts speak of calls) -/
theorem attach_call {l : OpenLaw} {n : Nat} {q : Program} {loose : List Str} {XP : (Str → Option Value) → Heap → Prop} {YP : World → Heap → Prop} {d : DefRec}
    (hn : l.most = some n) (hdf : d.params.defaults = [])
    (call : ∀ (w : World) (s₀ s₁ : Shared) (mg mb : Str → Option Value) (fa : Addr) (o : Obj) (pm cd doc : Value) (a : Addr) (vs : List Value) (ns : List Int),
      Ground q loose [] XP w s₀ mg mb s₁.heap → YP w s₁.heap →
      s₁.heap.get? fa = some o → o.data = .func (docDef d.name d.params d.body d.scope pm cd doc) → s₁.heap.CodeRec cd d.name → mg d.name = some (.ref fa) →
      s₁.heap.get? a = some { cls := .type "list", data := .seq vs.toArray } → IntsAre vs ns → ns.length ≤ n → s₁.gens = #[] →
      codeAny (model l.prog w) callerA (.call (.ref fa) ⟨[.ref a], []⟩) (fun r s' => r = .ok (.ret (.bool true)) ∧ OldK s₁.heap s'.heap ∧ s'.os = s₁.os ∧ AllBare s'.gens) s₁) :
    WalkO q loose XP YP l.row.toRowW d [] (fun f vs => PySem.call f vs) := by
  intro w s₀ s₁ mg mb G Y fa o pm cd doc dV kV ho hd hcd hD hmg hg args vals as hpre hlay hrd hwl hlo
  obtain rfl : dV = .none := Dflts.none hD hdf
  obtain rfl : kV = .none := Dflts.noKw hD
  obtain ⟨a, vs, ns, rfl, rfl, hobj, hints, hlen⟩ := script_of hn hpre hwl
  refine enter_call (codeAny_mono (call w s₀ s₁ mg mb fa o pm cd doc a vs ns G Y ho (fd_plain hd) hcd hmg hobj hints hlen hg) fun r s' hq => ?_)
  obtain ⟨rfl, h2, h3, h4⟩ := hq
  exact ⟨.inl ⟨.bool true, .bool true, [], rfl, fun _ => rfl, .bool true, post_true l _, fun _ => ⟨List.Pairwise.nil, fun _ hm => (nomatch hm)⟩⟩, h2, h3, h4⟩

/-! ### rules over ANY heap (no ledger) from facts about the written part K: the library's own take a ledger (News) for what they write -/
section
variable {prog : Program} {w : World} {A : Around} {E : Value → Shared → Prop} {s : Shared} {K : Frag}

/-! the whole heap as the ledger: makes every rule that writes through a ledger a rule over any heap -/
def noObjs (h : Heap) : Heap := { h with objs := #[] }
def ledger (h : Heap) (L d : Addr) : List (Addr × Obj) := (List.range h.objs.size).filterMap fun a => if a = L ∨ a = d then none else (h.get? a).map fun o => (a, o)
end
end Att

namespace L2
open PySem PySem.Spec PyProof.Rows

theorem vals_ints : ∀ {vs : List Value} {ns : List Int}, IntsAre vs ns → Vals (ns.map V.int) vs
  | _, _, .nil => .nil
  | _, _, .cons n t h => .cons ⟨t, rfl⟩ (vals_ints h)

/-- nothing is tracked but the script, known to the object (or it is an object of the module) -/
def Only (H : Hp) : Prop := ∀ b, H b = none ∨ ∃ o xs, H b = some (.frz o (.lst xs))

end L2

namespace L2
open PySem PySem.Spec PyProof.Rows

abbrev KOf {K : PySem.W.Frag} {h : Heap} (_ : K.In h) : PySem.W.Frag := K

end L2

/- THE LAST THEOREM (shape; LID, My.* are yours):
   My.Adr: a structure of the addresses that your layer names (classes, functions); My.Txt K t: a structure (Prop) of the equations over K;
   My.txt_mk : {K} {implicit addresses ..} (e1 : nsIn K mainGlobals "law" = some (some (.ref f))) (e2 : K.lookup f = some ⟨oc, od, .func (fnOf "law" "law" params body scope dV kV doc pm an cdv ct), sl⟩) (e3 : codeIn K cdv "law" = true) .. : ∃ t, My.Txt K t

set_option maxRecDepth 100000 in
set_option maxHeartbeats 0 in
theorem PySem.Challenge.cw_LID_holds : PySem.Challenge.rw_LID.Holds := by
  w_on; o_law; k_head; (case hw => w_witness2)
  k_fill
  refine L2.walk_of (l := PySem.Challenge.rw_LID) (n := 63) (k := 40) (x := "script") (CX := fun w => ..) (sp := fun _ => My.sp_law) rfl (by decide) rfl ⟨rfl, by decide, by decide⟩ (fun w h Y => PySem.W.kIn_of Y) ?F ?S ?C
  case F =>
    intro w mg fa h KX G hmg
    have T : ∃ t, My.Txt (L2.KOf KX) t := by
      dsimp only [L2.KOf]                          -- K must stand as «<heap const> w.params» for k_is
      refine' My.txt_mk ?e1 ?e2 ?e3 ..
      (case e1 => PySem.W.k_is)                    -- in the order: a name -> its address -> its object -> its parts
      (case e2 => PySem.W.k_is)
      ..
    obtain ⟨t, T⟩ := T
    have e0 := hmg.symm.trans (PySem.W.mg_of KX G T.law)
    cases e0                                       -- fa is the law's own address
    exact ⟨_, fun s u => .of_eq rfl, fun base kb nb => My.law_fn T kb nb⟩     -- if «.of_eq rfl» comes too early: refine' ⟨_, ?b, fun base kb nb => My.law_fn T kb nb⟩; exact fun s u => .of_eq rfl
  case S => exact fun w H a ns hl hO hS => ..
  case C => exact ..
(the tactic k_is has no namespace: write k_is) -/

/-! SHORT WORDS over the layer: a def of the text, its body, what a loop and a test want. -/
namespace L2
open PySem PySem.Spec PyProof.Rows

/-! ### the text by places -/
/-- the j-th statement of a class's body -/
def inClass (s : Stmt) (j : Nat) : Stmt := match s with
  | .ClassDef _ _ _ body _ _ _ _ _ _ _ => body.getD j (.Pass ⟨0, 0, 0, 0⟩)
  | _ => .Pass ⟨0, 0, 0, 0⟩
def defArgs (s : Stmt) : Arguments := match s with
  | .FunctionDef _ a _ _ _ _ _ _ _ _ => a
  | _ => { posonlyargs := [], args := [], vararg := none, kwonlyargs := [], kw_defaults := [], kwarg := none, defaults := [] }
def defBody (s : Stmt) : List Stmt := match s with
  | .FunctionDef _ _ b _ _ _ _ _ _ _ => b
  | _ => []
def defScope (s : Stmt) : Scope := match s with
  | .FunctionDef _ _ _ _ _ _ sc _ _ _ => sc
  | _ => { kind := .function, names := [], isGenerator := false, isCoroutine := false }

/-! ### no exception leaves a def -/
abbrev CX0 : CXT := fun _ _ _ _ _ _ => False
abbrev E0 : XK := fun _ _ _ => False
theorem pass0 {X : Cx} : Passes CX0 X E0 := fun _ _ _ _ _ _ _ h => h.elim

/-! ### a def (or method) of the text as it stands behind the top -/
structure Fun (K : PySem.W.Frag) (x qual : Str) (st : Stmt) (f : Addr) (fd : FuncData) : Prop where
  ex : ∃ (oc : Value) (od : Option Addr) (kV doc pm : Value) (an : Option Addr) (cdv ct : Value) (osl : Array (Option Value)),
    fd = PySem.W.fnOf x qual (defArgs st) (defBody st) (defScope st) .none kV doc pm an cdv ct ∧ K.lookup f = some ⟨oc, od, .func fd, osl⟩ ∧ PySem.W.codeIn K cdv qual = true
  kp : PySem.W.keepIn K (.ref f) = true
section
variable {P : Program} {w : World} {K : PySem.W.Frag} {mg : Str → Option Value} {base : Heap}
/-- THE RULE for a def: its body as a term of rules, and the reading of that term -/
theorem Fun.ok {x qual : Str} {st : Stmt} {f : Addr} {fd : FuncData} {N ps : List Str} {k : Nat} {sp : Sp} (F : Fun K x qual st f fd) (S : FnScope N ps (defScope st)) (len : ∀ vs H Q E, sp vs H Q E → vs.length = ps.length)
    (hbody : ∀ (cdv : Value) (A : Around) (outer : List Env) (s : Shared) (H : Hp) (vs : List V) (Q : VK) (E : XK), Room k (A.deeper (envOfC qual (defScope st) s.heap.objs.size f cdv)) → sp vs H Q E →
      ∃ t, PSs (cxOf CX0 P w K mg base N qual (defScope st) f cdv A outer s H E).nox (defBody st) t ∧ t { nx := fun _ H' => Q .non H', rt := Q } (start N vs) H) : FnOk P w K mg base CX0 (k + 1) f fd ps sp := by
  obtain ⟨oc, od, kV, doc, pm, an, cdv, ct, osl, rfl, lk, hcd⟩ := F.ex
  refine fn_of lk hcd S len fun A outer s H vs Q E hr hsp => ?_
  obtain ⟨t, h, q⟩ := hbody cdv A outer s H vs Q E hr hsp
  exact ⟨t, h.nox, q⟩
/-- how its arguments bind (no defaults): h is «fun _ _ _ _ _ _ us hl => match us, hl with | [_, _], _ => rfl», one _ a parameter -/
theorem Fun.binds {x qual : Str} {st : Stmt} {f : Addr} {fd : FuncData} {ps : List Str} (F : Fun K x qual st f fd)
    (h : ∀ (kV doc pm : Value) (an : Option Addr) (cdv ct : Value) (us : List Value), us.length = ps.length → bindArgs (PySem.W.fnOf x qual (defArgs st) (defBody st) (defScope st) .none kV doc pm an cdv ct) ⟨us, []⟩ = pure (ps.zip us)) : Binds K fd ps [] := by
  obtain ⟨oc, od, kV, doc, pm, an, cdv, ct, osl, rfl, lk, hcd⟩ := F.ex
  exact .all (h kV doc pm an cdv ct)
theorem fun_mk {x qual : Str} {st : Stmt} {f : Addr} {oc : Value} {od an : Option Addr} {osl : Array (Option Value)} {kV doc pm cdv ct : Value} (l : K.lookup f = some ⟨oc, od, .func (PySem.W.fnOf x qual (defArgs st) (defBody st) (defScope st) .none kV doc pm an cdv ct), osl⟩)
    (c : PySem.W.codeIn K cdv qual = true) (k : PySem.W.keepIn K (.ref f) = true) : Fun K x qual st f (PySem.W.fnOf x qual (defArgs st) (defBody st) (defScope st) .none kV doc pm an cdv ct) := ⟨⟨oc, od, kV, doc, pm, an, cdv, ct, osl, rfl, l, c⟩, k⟩
end
theorem hu_of {A : Around} {k : Nat} (hr : Room k A) : A.units + 1 < cLine := Nat.lt_of_le_of_lt (Nat.add_le_add_left (by decide : 1 ≤ 64) _) hr.units
/-! ### expressions in short: the name that stands in the i-th slot -/
section
variable {X : Cx}
end

/-! ### tests -/
theorem iteF {A B : Prop} (h : B) : if false = true then A else B := by
  rw [if_neg Bool.false_ne_true]
  exact h
theorem iteT {A B : Prop} (h : A) : if true = true then A else B := by
  rw [if_pos rfl]
  exact h
/-! ### heaps -/
/-- all that was tracked is as it was -/
def Same (H H' : Hp) : Prop := ∀ b o, H b = some o → H' b = some o
theorem Same.refl (H : Hp) : Same H H := fun _ _ h => h
theorem Same.trans {H H1 H2 : Hp} (a : Same H H1) (b : Same H1 H2) : Same H H2 := fun c o h => b c o (a c o h)
theorem Same.free {H H' : Hp} (e : Same H H') {l : Addr} (h : H' l = Option.none) : H l = Option.none := by
  cases q : H l with
  | none => rfl
  | some o =>
    rw [e l o q] at h
    cases h
/-! ### a dict's pairs: keys that differ -/
section
variable {κ : Type} [DecidableEq κ]
end
end L2

end
section
set_option maxRecDepth 100000
set_option maxHeartbeats 4000000
/-! ## COMPREHENSIONS (own) -/
namespace L2
open PySem PySem.Spec PyProof.Rows

/-- the cells that a block closes over -/
def clOf (cells : List (Str × Addr)) : List (Str × NameKind) → List (Str × Addr) → List (Str × Addr)
  | [], acc => acc
  | (n, k) :: r, acc => clOf cells r (if k == NameKind.free then (n, (cells.lookup n).getD 0) :: acc else acc)

theorem closure_clOf {env : Env} : ∀ (names : List (Str × NameKind)) (acc : List (Str × Addr)), (∀ y ∈ names, y.2 = .free → ∃ c, env.cells.lookup y.1 = some c) →
    (forIn names acc fun (x : Str × NameKind) (cs : List (Str × Addr)) => (match x with
      | (name, kind) => if kind == .free then do let a ← cellOf env name; pure (ForInStep.yield ((name, a) :: cs)) else pure (ForInStep.yield cs) : Sem (ForInStep (List (Str × Addr))))) = pure (clOf env.cells names acc)
  | [], acc, _ => by simp [clOf]
  | (n, k) :: r, acc, h => by
    rw [List.forIn_cons]
    by_cases hk : k = NameKind.free
    · subst hk
      obtain ⟨c, hc⟩ := h (n, .free) List.mem_cons_self rfl
      have e : cellOf env n = pure c := by unfold cellOf; rw [hc]
      simp only [beq_self_eq_true, if_true, e, pure_bind, clOf, hc, Option.getD_some]
      exact closure_clOf r _ fun y hy => h y (List.mem_cons_of_mem _ hy)
    · have hb : (k == NameKind.free) = false := by simpa using hk
      simp only [hb, Bool.false_eq_true, if_false, pure_bind, clOf]
      exact closure_clOf r _ fun y hy => h y (List.mem_cons_of_mem _ hy)

theorem closureFor_clOf {env : Env} {scope : Scope} (h : ∀ y ∈ scope.names, y.2 = .free → ∃ c, env.cells.lookup y.1 = some c) : closureFor scope env = pure (clOf env.cells scope.names []) := by
  unfold closureFor
  have := closure_clOf (env := env) scope.names [] h
  simp only [bind_pure]
  exact this

theorem clOf_lookup {cells : List (Str × Addr)} : ∀ (names : List (Str × NameKind)) (acc : List (Str × Addr)) {x : Str} {c : Addr}, (clOf cells names acc).lookup x = some c →
    acc.lookup x = some c ∨ ((x, NameKind.free) ∈ names ∧ c = (cells.lookup x).getD 0)
  | [], acc, x, c, h => .inl h
  | (n, k) :: r, acc, x, c, h => by
    rcases clOf_lookup r _ h with q | ⟨q1, q2⟩
    · by_cases hk : k = NameKind.free
      · subst hk
        simp only [beq_self_eq_true, if_true] at q
        cases hx : x == n with
        | true =>
          have e : x = n := by simpa using hx
          subst e
          rw [List.lookup_cons, hx] at q
          exact .inr ⟨List.mem_cons_self, (Option.some.inj q).symm⟩
        | false =>
          rw [List.lookup_cons, hx] at q
          exact .inl q
      · have hb : (k == NameKind.free) = false := by simpa using hk
        simp only [hb, Bool.false_eq_true, if_false] at q
        exact .inl q
    · exact .inr ⟨List.mem_cons_of_mem _ q1, q2⟩

theorem clOf_has {cells : List (Str × Addr)} : ∀ (names : List (Str × NameKind)) (acc : List (Str × Addr)) {x : Str}, ((x, NameKind.free) ∈ names ∨ ∃ c, acc.lookup x = some c) → ∃ c, (clOf cells names acc).lookup x = some c
  | [], acc, x, h => by
    rcases h with h | h
    · simp at h
    · exact h
  | (n, k) :: r, acc, x, h => by
    refine clOf_has r _ ?_
    rcases h with h | ⟨c, h⟩
    · rcases List.mem_cons.mp h with e | e
      · cases e
        exact .inr ⟨(cells.lookup n).getD 0, by simp [List.lookup_cons]⟩
      · exact .inl e
    · by_cases hk : k = NameKind.free
      · subst hk
        simp only [beq_self_eq_true, if_true]
        cases hx : x == n with
        | true => exact .inr ⟨(cells.lookup n).getD 0, by rw [List.lookup_cons, hx]⟩
        | false => exact .inr ⟨c, by rw [List.lookup_cons, hx]; exact h⟩
      · have hb : (k == NameKind.free) = false := by simpa using hk
        simp only [hb, Bool.false_eq_true, if_false]
        exact .inr ⟨c, h⟩

/-- the context of a comprehension's block: s, H at its entry (the new list laid) -/
def cxComp (X : Cx) (scope : Scope) (N' : List Str) (fp : List Addr) (s : Shared) (H : Hp) : Cx where
  prog := X.prog
  w := X.w
  K := X.K
  mg := X.mg
  base := X.base
  A := X.A
  N := N'
  s₀ := s
  H₀ := H
  env := compEnvC scope (clOf X.env.cells scope.names []) s.heap.objs.size X.env
  outer := X.stack
  stack := X.stack
  ex := fp
  fn := fun _ => false
  calm := X.calm
  pn := []
  xe := fun _ _ => False

/-- what the scope of a block must be: own names first, then those of the body's that it reads -/
structure CScope (X : Cx) (scope : Scope) (own : List Str) (kp : List Nat) (kn : List Str) : Prop where
  kind : scope.kind = .function
  nocell : ∀ y ∈ scope.names, y.2 ≠ .cell
  nd : ∀ y ∈ scope.names, y.2 = .local → scope.names.lookup y.1 = some .local
  free : ∀ y ∈ scope.names, y.2 = .free → X.env.kindOf y.1 = some .cell ∨ X.env.kindOf y.1 = some .free
  names : kn.length = kp.length
  at_ : ∀ (j i : Nat) (x : Str), kp[j]? = some i → kn[j]? = some x → X.N[i]? = some x
  isfree : ∀ x ∈ kn, scope.names.lookup x = some .free

/-- the slots at a turn's start -/
def cStart (own : List Str) (kp : List Nat) (σ : St) : St := List.replicate own.length none ++ kp.map fun i => (σ[i]?).getD none

section
variable {X : Cx} {scope : Scope} {own : List Str} {kp : List Nat} {kn : List Str}

theorem lookup_relabel {env : Env} : ∀ {names : List (Str × NameKind)} {x : Str} {k : NameKind},
    (names.map fun (n, k) => if (k == NameKind.free && env.scope.kind == .function && env.kindOf n == some .cell) then (n, NameKind.cell) else (n, k)).lookup x = some k →
    names.lookup x = some k ∨ (k = .cell ∧ names.lookup x = some .free)
  | [], _, _, h => by simp at h
  | (n, k) :: r, x, k', h => by
    have ih := @lookup_relabel env r x k'
    have h : List.lookup x ((if (k == NameKind.free && env.scope.kind == .function && env.kindOf n == some .cell) = true then (n, NameKind.cell) else (n, k)) :: _) = some k' := h
    by_cases hc : (k == NameKind.free && env.scope.kind == .function && env.kindOf n == some .cell) = true
    · rw [if_pos hc] at h
      have hkf : k = .free := by
        simp only [Bool.and_eq_true, beq_iff_eq] at hc
        exact hc.1.1
      cases hx : x == n with
      | true =>
        rw [List.lookup_cons, hx] at h
        cases h
        exact .inr ⟨rfl, by rw [List.lookup_cons, hx, hkf]⟩
      | false =>
        rw [List.lookup_cons, hx] at h
        rw [List.lookup_cons, hx]
        exact ih h
    · rw [if_neg hc] at h
      cases hx : x == n with
      | true =>
        rw [List.lookup_cons, hx] at h
        rw [List.lookup_cons, hx]
        exact .inl h
      | false =>
        rw [List.lookup_cons, hx] at h
        rw [List.lookup_cons, hx]
        exact ih h

theorem cells_have {pins : List (Addr × Obj)} {σ : St} {H : Hp} {s : Shared} (C : CScope X scope own kp kn) (I : Inv X pins σ H s) : ∀ y ∈ scope.names, y.2 = .free → ∃ c, X.env.cells.lookup y.1 = some c := fun y hy hf =>
  I.ok.has y.1 (C.free y hy hf)

/-- the block's start -/
theorem inv_comp {pins : List (Addr × Obj)} {σ : St} {H : Hp} {s : Shared} {fp : List Addr} {h₁ : Heap} {tk : Nat} (C : CScope X scope own kp kn) (I : Inv X pins σ H s) (hf : ∀ b ∈ fp, FpOk X pins H b) (hb : ∀ b ∈ fp, b < s.heap.objs.size)
    (hn : h₁.Ns s.heap.objs.size (fun _ => none)) (hk : ∀ b o, s.heap.get? b = some o → h₁.get? b = some o) : Inv (cxComp X scope (own ++ kn) fp s H) [] (cStart own kp σ) H { s with heap := h₁, toks := tk } := by
  have cl : ∀ x c, (clOf X.env.cells scope.names []).lookup x = some c → X.env.cells.lookup x = some c := fun x c e => by
    rcases clOf_lookup scope.names [] e with q | ⟨q1, q2⟩
    · simp at q
    · obtain ⟨c', hc'⟩ := cells_have C I (x, .free) q1 rfl
      have hc' : X.env.cells.lookup x = some c' := hc'
      rw [hc'] at q2
      rw [hc', q2]
      rfl
  have clh : ∀ x, scope.names.lookup x = some .free → ∃ c, (clOf X.env.cells scope.names []).lookup x = some c := fun x hx => clOf_has scope.names [] (.inl (PySem.mem_of_lookup hx))
  refine ⟨⟨I.ok.mod, C.kind, I.ok.glob, I.ok.blt, Nat.le_refl _, fun x y c h1 h2 => I.ok.inj x y c (cl x c h1) (cl y c h2), fun x hx => ?_, fun x c h => (by cases h), I.ok.hd, I.ok.frames, .inl rfl, fun b hb' => ⟨Nat.ne_of_lt (hb b hb'), fun x c e z => (hf b hb').2.2.2.2.1 x c (cl x c e) z⟩,
      fun b o e => I.bs b o e, Nat.le_trans I.ok.bsz I.sz, fun b o e hb' => ?_, fun b hb' hs => ?_, I.stack, I.stkFree⟩,
    rfl, I.bare, Un.kept hk, ⟨_, hn, fun i x v h1 h2 h3 => ?_⟩, fun x c e => ?_, I.hok.fresh (Nat.le_refl _), fun x c e => I.freeC x c (cl x c e), fun p hp => (by cases hp), I.hok.kept hk, ?_⟩
  · have hx : (relabel scope X.env).names.lookup x = some .cell ∨ (relabel scope X.env).names.lookup x = some .free := hx
    rcases hx with hx | hx
    · rcases lookup_relabel hx with q | ⟨_, q⟩
      · exact absurd rfl (C.nocell _ (PySem.mem_of_lookup q))
      · exact clh x q
    · rcases lookup_relabel hx with q | ⟨q, _⟩
      · exact clh x q
      · cases q
  · rcases (hf b hb').2.2.2.1 with z | z
    · exact I.ok.noex b o e z
    · exact absurd (Nat.lt_of_lt_of_le (Heap.lt_size (I.ok.bs b o e).1) z) (Nat.lt_irrefl _)
  · rcases List.mem_cons.mp (I.stkSub b hs) with z | z
    · exact (hf b hb').2.1 z
    · exact (hf b hb').2.2.1 z
  · -- a kept name
    have h1 : (own ++ kn)[i]? = some x := h1
    have h2 : (cStart own kp σ)[i]? = some (some v) := h2
    unfold cStart at h2
    by_cases hi : i < own.length
    · rw [List.getElem?_append_left (by simpa using hi), List.getElem?_replicate] at h2
      split at h2 <;> cases h2
    · rw [List.getElem?_append_right (by simpa using hi), List.length_replicate, List.getElem?_map] at h2
      rw [List.getElem?_append_right (by simpa using hi)] at h1
      cases e : kp[i - own.length]? with
      | none => rw [e] at h2; cases h2
      | some j =>
        rw [e] at h2
        have h2 : (σ[j]?).getD none = some v := Option.some.inj h2
        have hj : X.N[j]? = some x := C.at_ _ j x e h1
        have hσ : σ[j]? = some (some v) := by
          cases q : σ[j]? with
          | none => rw [q] at h2; cases h2
          | some y => rw [q] at h2; exact congrArg some h2
        have hfree : scope.names.lookup x = some .free := C.isfree x (List.mem_of_getElem? h1)
        have hkind := C.free (x, .free) (PySem.mem_of_lookup hfree) rfl
        obtain ⟨m, hm, hl⟩ := I.loc
        obtain ⟨u, r, l⟩ := hl j x v hj hσ (hkind.elim (fun q => Or.inr (Or.inl q)) fun q => Or.inr (Or.inr q))
        refine ⟨u, r, .inr ⟨?_, ?_⟩⟩
        · have h3 : (relabel scope X.env).names.lookup x = some .local ∨ (relabel scope X.env).names.lookup x = some .cell ∨ (relabel scope X.env).names.lookup x = some .free := h3
          rcases h3 with q | q | q
          · rcases lookup_relabel q with z | ⟨z, _⟩
            · rw [hfree] at z; cases z
            · cases z
          · exact .inl q
          · exact .inr q
        · rcases l with ⟨k, _⟩ | ⟨_, c, hc, hcell⟩
          · rcases hkind with q | q
            · rw [show X.env.kindOf x = some .cell from q] at k; cases k
            · rw [show X.env.kindOf x = some .free from q] at k; cases k
          · obtain ⟨c', hc'⟩ := clh x hfree
            have := cl x c' hc'
            rw [hc] at this
            cases this
            obtain ⟨o, ho, hd⟩ := hcell
            exact ⟨c, hc', o, hk c o ho, hd⟩
  · obtain ⟨v, o, ho, hd⟩ := I.cell x c (cl x c e)
    exact ⟨v, o, hk c o ho, hd⟩
  · show (cStart own kp σ).length = (own ++ kn).length
    unfold cStart
    rw [List.length_append, List.length_replicate, List.length_map, List.length_append, C.names]

/-- behind the block: back in the body -/
theorem inv_back {pins : List (Addr × Obj)} {σ σ' : St} {H H' : Hp} {s s' : Shared} {fp : List Addr} {N' : List Str} (I : Inv X pins σ H s) (hf : ∀ b ∈ fp, FpOk X pins H b) (J : Inv (cxComp X scope N' fp s H) [] σ' H' s') : Inv X pins σ H' s' :=
  I.call' (ch := fp) J.os J.base J.hok J.bare fun b hb => ⟨(hf b hb).2.2.2.1, (hf b hb).2.1, (hf b hb).2.2.2.2.1, (hf b hb).2.2.2.2.2⟩
end

/-- tests of a comprehension's clause -/
def PIfs (X : Cx) (ifs : List Expr) (t : TT) : Prop :=
  ∀ (pins : List (Addr × Obj)) (s : Shared) (σ : St) (H : Hp) (Q : Bool → Hp → Prop), Inv X pins σ H s → t σ H Q →
    wpAny (model X.prog X.w) X.A (forIn ifs true fun c r => if r = true then do let ok ← isTrue c X.env (eval c X.env); pure (ForInStep.yield ok) else pure (ForInStep.yield r)) (TP X pins σ Q) X.xe s
def tYes : TT := fun _ H Q => Q true H
theorem pifs_nil {X : Cx} : PIfs X [] tYes := fun _ _ _ H _ I h => wpAny_tests_nil ⟨H, I, h⟩
theorem pifs_one {X : Cx} {c : Expr} {t : TT} (h : PT X c t) : PIfs X [c] t := fun pins s σ H Q I hq => wpAny_tests_one (h pins s σ H Q I hq)

/-- a list comprehension's reading: D the new list; W the invariant by the turn, a measure, the items so far -/
def tComp (wi : TI) (g : TG) (tc : TT) (te : TE) (own : List Str) (kp : List Nat) : TE := fun σ H Q => wi σ H fun J H1 => ∀ D, H1 D = none →
  ∃ W : Nat → Nat → List V → Hp → Prop, (∃ m, W 0 m [] (upd H1 D (.lst []))) ∧ ∀ i m ys H, W i m ys H →
    (J.stop i H ∧ Q (.ref D) H) ∨ (J.go i H ∧ ∀ x H', J.yld i H x H' → g x (cStart own kp σ) H' fun σ2 H2 => tc σ2 H2 fun c H3 =>
      if c = true then te σ2 H3 fun y H4 => H4 D = some (.lst ys) ∧ ys.length < sizeLine ∧ ∃ m', m' < m ∧ W (i + 1) m' (ys ++ [y]) (upd H4 D (.lst (ys ++ [y])))
      else ∃ m', m' < m ∧ W (i + 1) m' ys H3)

section
variable {X : Cx} {scope : Scope} {own : List Str} {kp : List Nat} {kn : List Str} {tg iter elt : Expr} {ifs : List Expr} {wi : TI} {g : TG} {tc : TT} {te : TE} {pos : Pos}

/-- the loop of the block -/
theorem comp_run {pins : List (Addr × Obj)} {σ : St} {H : Hp} {s : Shared} {fp : List Addr} {it D : Addr} {tn : Nat → Heap → Prop} {J : It} {Q : VK} {h₁ : Heap} {tk : Nat} {R : Result → Shared → Prop}
    (hc : X.calm = true) (C : CScope X scope own kp kn) (I : Inv X pins σ H s) (hf : ∀ b ∈ fp, FpOk X pins H b) (hb : ∀ b ∈ fp, b < s.heap.objs.size) (T : Turn X.prog X.w X.K tg J fp it tn)
    (hg : PG (cxComp X scope (own ++ kn) fp s H) tg g) (hi : PIfs (cxComp X scope (own ++ kn) fp s H) ifs tc) (he : PE (cxComp X scope (own ++ kn) fp s H) elt te)
    (hn : h₁.Ns s.heap.objs.size (fun _ => none)) (hk : ∀ b o, s.heap.get? b = some o → h₁.get? b = some o) (st : tn 0 s.heap)
    (W : Nat → Nat → List V → Hp → Prop) (w0 : ∃ m, W 0 m [] H)
    (turn : ∀ i m ys H, W i m ys H →
      (J.stop i H ∧ Q (.ref D) H) ∨ (J.go i H ∧ ∀ x H', J.yld i H x H' → g x (cStart own kp σ) H' fun σ2 H2 => tc σ2 H2 fun c H3 =>
        if c = true then te σ2 H3 fun y H4 => H4 D = some (.lst ys) ∧ ys.length < sizeLine ∧ ∃ m', m' < m ∧ W (i + 1) m' (ys ++ [y]) (upd H4 D (.lst (ys ++ [y])))
        else ∃ m', m' < m ∧ W (i + 1) m' ys H3))
    (hR : ∀ H' s' σ', Inv (cxComp X scope (own ++ kn) fp s H) [] σ' H' s' → Q (.ref D) H' → R (.ok .next) s') :
    codeAny (model X.prog X.w) X.A (.compStart (.ListComp elt [⟨tg, iter, ifs, 0⟩] scope pos) 0 (.ref it) (.ref D) (cxComp X scope (own ++ kn) fp s H).env) R { s with heap := h₁, toks := tk } := by
  have I1 : Inv (cxComp X scope (own ++ kn) fp s H) [] (cStart own kp σ) H { s with heap := h₁, toks := tk } := inv_comp C I hf hb hn hk
  have st1 : tn 0 h₁ := T.keep _ _ _ st fun b _ o e => hk b o e
  have fp1 : ∀ {H' : Hp} {p : List (Addr × Obj)}, (∀ b ∈ fp, H' b = none) → (∀ b ∈ fp, ∀ q ∈ p, q.1 ≠ b) → ∀ b ∈ fp, FpOk (cxComp X scope (own ++ kn) fp s H) p H' b := fun {H' p} hn hp b hb' =>
    ⟨hn b hb', (I1.ok.exf b hb').1, I1.ok.exfs b hb', .inl hb', fun x c e => (I1.ok.exf b hb').2 x c e, fun q hq => hp b hb' q hq⟩
  obtain ⟨m0, w0⟩ := w0
  have loop : codeAny (model X.prog X.w) X.A (.compLoop (.ListComp elt [⟨tg, iter, ifs, 0⟩] scope pos) 0 (.ref it) (.ref D) (cxComp X scope (own ++ kn) fp s H).env) R { s with heap := h₁, toks := tk } := by
    refine codeAny_loop rfl (fun n s' => ∃ i ys H', Inv (cxComp X scope (own ++ kn) fp s H) [] (cStart own kp σ) H' s' ∧ tn i s'.heap ∧ (∀ b ∈ fp, H' b = none) ∧ W i n ys H') (fun n s' hI => ?_) m0 ⟨0, [], H, I1, st1, fun b hb' => (hf b hb').1, w0⟩
    obtain ⟨i, ys, H3, I3, st3, fr3, w3⟩ := hI
    show wpAny _ _ ((compTurn (.ListComp elt [⟨tg, iter, ifs, 0⟩] scope pos) 0 (.ref it) (.ref D) (cxComp X scope (own ++ kn) fp s H).env).onRaise (fun x => do noteFrame x (cxComp X scope (own ++ kn) fp s H).env; theTreesLotGoes x)) _ _ s'
    refine wpAny_noted (wpAny_noRaise ?_)
    rw [compTurn_list]
    refine wpAny_bind (wpAny_standAt (wpAny_bind ?_))
    rcases turn i n ys H3 w3 with ⟨stop, q⟩ | ⟨go, step⟩
    · refine thn (T.done (cxComp X scope (own ++ kn) fp s H) rfl rfl rfl hc i [] s' _ H3 _ I3 (fp1 fr3 (fun _ _ q hq => by cases hq)) st3 stop) fun r s4 ⟨hr, I4⟩ => ?_
      subst hr
      exact wpAny_pure (hR H3 s4 _ I4 q)
    · refine thn (T.item (cxComp X scope (own ++ kn) fp s H) rfl rfl rfl hc i [] s' _ H3 _ I3 (fp1 fr3 (fun _ _ q hq => by cases hq)) st3 go) fun r s4 ⟨u, hr, h4⟩ => ?_
      subst hr
      refine wpAny_bind (thn h4 fun _ s5 ⟨x, H5, I5, r5, y5, st5, fr5⟩ => ?_)
      have I5' := I5.pinned (fp1 fr5 (fun _ _ q hq => by cases hq)) (T.obj _ _ st5)
      have keepIt : ∀ {σ7 : St} {H7 : Hp} {s7 : Shared}, Inv (cxComp X scope (own ++ kn) fp s H) ([] ++ pinsAt fp s5.heap) σ7 H7 s7 → tn (i + 1) s7.heap ∧ ∀ b ∈ fp, H7 b = none := fun {σ7 H7 s7} I7 => by
        refine ⟨T.keep _ _ _ st5 fun b hb o e => (I7.pin (b, o) (List.mem_append_right _ (List.mem_append_right _ (mem_pinsAt hb e)))).1, fun b hb => ?_⟩
        obtain ⟨o, e, d⟩ := T.obj _ _ st5 b hb
        exact (I7.pin (b, o) (List.mem_append_right _ (List.mem_append_right _ (mem_pinsAt hb e)))).2.1
      -- back to the turn's start
      have reset : ∀ {σ7 : St} {H7 : Hp} {s7 : Shared}, Inv (cxComp X scope (own ++ kn) fp s H) ([] ++ pinsAt fp s5.heap) σ7 H7 s7 → Inv (cxComp X scope (own ++ kn) fp s H) [] (cStart own kp σ) H7 s7 := fun {σ7 H7 s7} I7 => by
        have I8 := I7.unpinned
        have hun : Un (frs X.stack) fp H H7 s.heap s7.heap := I8.base
        have I9 : Inv X pins σ H7 s7 := inv_back I hf I8
        refine ⟨I8.ok, I8.os, I8.bare, I8.base, ?_, I8.cell, I8.free, I8.freeC, I8.pin, I8.hok, I1.len⟩
        obtain ⟨m, hm, _⟩ := I8.loc
        refine ⟨m, hm, fun i x v h1 h2 h3 => ?_⟩
        obtain ⟨m1, hm1, hl1⟩ := I1.loc
        obtain ⟨u1, r1, l1⟩ := hl1 i x v h1 h2 h3
        have h1 : (own ++ kn)[i]? = some x := h1
        have h2 : (cStart own kp σ)[i]? = some (some v) := h2
        unfold cStart at h2
        by_cases hi : i < own.length
        · rw [List.getElem?_append_left (by simpa using hi), List.getElem?_replicate] at h2
          split at h2 <;> cases h2
        · rw [List.getElem?_append_right (by simpa using hi), List.length_replicate, List.getElem?_map] at h2
          rw [List.getElem?_append_right (by simpa using hi)] at h1
          cases e : kp[i - own.length]? with
          | none => rw [e] at h2; cases h2
          | some j =>
            rw [e] at h2
            have h2 : (σ[j]?).getD none = some v := Option.some.inj h2
            have hj : X.N[j]? = some x := C.at_ _ j x e h1
            have hσ : σ[j]? = some (some v) := by
              cases q : σ[j]? with
              | none => rw [q] at h2; cases h2
              | some y => rw [q] at h2; exact congrArg some h2
            have hfree : scope.names.lookup x = some .free := C.isfree x (List.mem_of_getElem? h1)
            have hkind := C.free (x, .free) (PySem.mem_of_lookup hfree) rfl
            obtain ⟨m9, hm9, hl9⟩ := I9.loc
            obtain ⟨u, r, l⟩ := hl9 j x v hj hσ (hkind.elim (fun q => Or.inr (Or.inl q)) fun q => Or.inr (Or.inr q))
            refine ⟨u, r, .inr ?_⟩
            rcases l1 with ⟨k, k2⟩ | ⟨k, c, hc, hcell⟩
            · have k : (relabel scope X.env).names.lookup x = some .local := k
              rcases lookup_relabel k with z | ⟨z, _⟩
              · rw [hfree] at z; cases z
              · cases z
            · refine ⟨k, c, hc, ?_⟩
              rcases l with ⟨k', _⟩ | ⟨_, c', hc', hcell'⟩
              · rcases hkind with q | q
                · rw [show X.env.kindOf x = some .cell from q] at k'; cases k'
                · rw [show X.env.kindOf x = some .free from q] at k'; cases k'
              · have hcl : (clOf X.env.cells scope.names []).lookup x = some c := hc
                rcases clOf_lookup scope.names [] hcl with q | ⟨q1, q2⟩
                · simp at q
                · rw [hc'] at q2
                  have q2 : c = c' := q2
                  rw [q2]
                  exact hcell'
      have hmm := hg ([] ++ pinsAt fp s5.heap) s5 (cStart own kp σ) H5 x u _ I5' r5 (step x H5 y5)
      refine wpAny_bind (thn hmm fun _ s6 ⟨σ6, H6, I6, q6⟩ => ?_)
      refine wpAny_bind (thn (hi _ s6 σ6 H6 _ I6 q6) fun ok s7 ⟨H7, I7, q7⟩ => ?_)
      cases ok with
      | false =>
        simp only [Bool.false_eq_true, if_false] at q7 ⊢
        obtain ⟨m', hm', w7⟩ := q7
        obtain ⟨a1, a2⟩ := keepIt I7
        exact wpAny_pure ⟨rfl, m', hm', i + 1, ys, H7, reset I7, a1, a2, w7⟩
      | true =>
        simp only [if_true] at q7 ⊢
        refine wpAny_bind (wpAny_bind (thn (he _ s7 σ6 H7 _ I7 q7) fun yv s8 ⟨y, H8, I8, r8, hD, hlt, m', hm', w8⟩ => wpAny_bind ?_))
        obtain ⟨a1, a2⟩ := keepIt I8
        refine thn (mt_append _ s8 σ6 H8 (.ref D) [y] (.ref D) [yv] (fun v H9 => v = .non ∧ H9 = upd H8 D (.lst (ys ++ [y]))) I8 rfl (.cons r8 .nil) ⟨D, ys, y, rfl, rfl, hD, hlt, rfl, rfl⟩) fun _ s9 ⟨v9, H9, I9, _, _, e9⟩ => ?_
        subst e9
        obtain ⟨b1, b2⟩ := keepIt I9
        exact wpAny_pure (wpAny_pure ⟨rfl, m', hm', i + 1, ys ++ [y], _, reset I9, b1, b2, w8⟩)
  exact codeAny_compStart_list loop (T.self _ _ _ _ _ st1 loop)

/-- [elt for tg in iter if ..] as a value -/
theorem pe_comp (hc : X.calm = true) (C : CScope X scope own kp kn) (hi : PI X tg iter wi) (hg : ∀ fp s H, PG (cxComp X scope (own ++ kn) fp s H) tg g) (hif : ∀ fp s H, PIfs (cxComp X scope (own ++ kn) fp s H) ifs tc)
    (he : ∀ fp s H, PE (cxComp X scope (own ++ kn) fp s H) elt te) (hs : ∀ x, foldedSetIterable iter X.env x = pure x := by intro _; rfl) : PE X (.ListComp elt [⟨tg, iter, ifs, 0⟩] scope pos) (tComp wi g tc te own kp) := by
  intro pins s σ H Q I h
  rw [eval_ListComp]
  refine wpAny_comprehension_free (use := none) rfl hs (closureFor_clOf (cells_have C I)) C.kind C.nd (thn (hi pins s σ H _ I h) fun v s1 h1 => thn h1 fun itv s2 h2 => ?_)
  obtain ⟨it, fp, tn, J, H2, e, I2, T, st2, f2, q⟩ := h2
  subst e
  refine wpAny_newObj_type ?_
  have I3 : Inv X pins σ (upd H2 s2.heap.objs.size (.lst [])) { s2 with heap := s2.heap.push { cls := .type "list", dict := none, data := .seq ([] : List Value).toArray } } := I2.lnew (its := []) (t' := s2.toks) .nil (Nat.zero_le _)
  obtain ⟨W, w0, turn⟩ := q s2.heap.objs.size I2.fresh
  have fne : ∀ b ∈ fp, b < s2.heap.objs.size := fun b hb => let ⟨o, e, _⟩ := T.obj _ _ st2 b hb; Heap.lt_size e
  have f3 : ∀ b ∈ fp, FpOk X pins (upd H2 s2.heap.objs.size (.lst [])) b := fun b hb => ⟨by rw [upd_ne (Nat.ne_of_lt (fne b hb))]; exact (f2 b hb).1, (f2 b hb).2⟩
  generalize hs3 : ({ s2 with heap := s2.heap.push { cls := .type "list", dict := none, data := .seq ([] : List Value).toArray } } : Shared) = s3 at I3 ⊢
  have st3 : tn 0 s3.heap := by rw [← hs3]; exact T.keep _ _ _ st2 fun b _ o e => Heap.get?_push_of_some _ e
  have fne3 : ∀ b ∈ fp, b < s3.heap.objs.size := fun b hb => by rw [← hs3]; exact Nat.lt_of_lt_of_le (fne b hb) (by rw [Heap.size_push]; exact Nat.le_succ _)
  refine wpAny_newFunctionEnv (fun y hy => C.nocell y hy) (by intro y hy; simp at hy) (fun h₁ hns₁ hsb₁ => ?_) C.kind
  have hk : ∀ b o, s3.heap.get? b = some o → h₁.get? b = some o := fun b o e => hsb₁.extBut b o (Nat.ne_of_lt (Heap.lt_size e)) (Heap.get?_push_of_some _ e)
  refine comp_run (D := s2.heap.objs.size) hc C I3 f3 fne3 T (hg fp s3 _) (hif fp s3 _) (he fp s3 _) hns₁ hk st3 W w0 turn fun H' s' σ' J' hq => ?_
  have B := inv_back I3 f3 J'
  obtain ⟨m', hm', _⟩ := J'.loc
  refine ⟨m', hm', fun h' sb => ⟨.ref s2.heap.objs.size, H', ?_, rfl, hq⟩⟩
  have fC := I3.fpOk (H' := H') (b := s3.heap.objs.size) (Nat.le_refl _) J'.free
  exact B.turned (it := s3.heap.objs.size) (t' := s'.toks) (fun b o hb e => (sb.2 b hb).trans e) fC.1 fC.2.1 fC.2.2.2.1 fC.2.2.2.2.1 fC.2.2.2.2.2

/-- name = [elt for tg in iter if ..], the name a plain local of the body -/
theorem ps_setComp {i : Nat} {x : Str} {pos' spos : Pos} (hc : X.calm = true) (hN : X.N.Nodup) (hx : X.N[i]? = some x) (hxl : X.env.scope.names.lookup x = some .local) (C : CScope X scope own kp kn) (hi : PI X tg iter wi)
    (hg : ∀ fp s H, PG (cxComp X scope (own ++ kn) fp s H) tg g) (hif : ∀ fp s H, PIfs (cxComp X scope (own ++ kn) fp s H) ifs tc)
    (he : ∀ fp s H, PE (cxComp X scope (own ++ kn) fp s H) elt te)
    (hsw : swapsWith (.ListComp elt [⟨tg, iter, ifs, 0⟩] scope pos) (some (.Name x pos')) spos.line X.env = pure true := by rfl)
    (hs : ∀ x, foldedSetIterable iter X.env x = pure x := by intro _; rfl) :
    PS X (.Assign [.Name x pos'] (.ListComp elt [⟨tg, iter, ifs, 0⟩] scope pos) spos) (tAsg (tComp wi g tc te own kp) (gName i)) := by
  intro pins s σ H D I h
  rw [exec_Assign_Name_used _ _ _ _ hsw]
  refine wpAny_bind (wpAny_standAt (wpAny_bind ?_))
  show wpAny _ X.A (do let _ ← comprehension (.ListComp elt [⟨tg, iter, ifs, 0⟩] scope pos) scope X.env _ (newList []) false (eval iter X.env) (some (assign (.Name x pos') X.env))) _ _ s
  refine wpAny_bind (wpAny_mono (wpAny_comprehension_free (use := some (assign (.Name x pos') X.env)) (Q := fun _ s' => SP X pins D .next s') rfl hs (closureFor_clOf (cells_have C I)) C.kind C.nd
    (thn (hi pins s σ H _ I h) fun v s1 h1 => thn h1 fun itv s2 h2 => ?_)) (fun _ s' hq => wpAny_pure (wpAny_pure hq)) fun _ _ e => e)
  obtain ⟨it, fp, tn, J, H2, e, I2, T, st2, f2, q⟩ := h2
  subst e
  refine wpAny_newObj_type ?_
  have I3 : Inv X pins σ (upd H2 s2.heap.objs.size (.lst [])) { s2 with heap := s2.heap.push { cls := .type "list", dict := none, data := .seq ([] : List Value).toArray } } := I2.lnew (its := []) (t' := s2.toks) .nil (Nat.zero_le _)
  obtain ⟨W, w0, turn⟩ := q s2.heap.objs.size I2.fresh
  have fne : ∀ b ∈ fp, b < s2.heap.objs.size := fun b hb => let ⟨o, e, _⟩ := T.obj _ _ st2 b hb; Heap.lt_size e
  have f3 : ∀ b ∈ fp, FpOk X pins (upd H2 s2.heap.objs.size (.lst [])) b := fun b hb => ⟨by rw [upd_ne (Nat.ne_of_lt (fne b hb))]; exact (f2 b hb).1, (f2 b hb).2⟩
  generalize hs3 : ({ s2 with heap := s2.heap.push { cls := .type "list", dict := none, data := .seq ([] : List Value).toArray } } : Shared) = s3 at I3 ⊢
  have st3 : tn 0 s3.heap := by rw [← hs3]; exact T.keep _ _ _ st2 fun b _ o e => Heap.get?_push_of_some _ e
  have fne3 : ∀ b ∈ fp, b < s3.heap.objs.size := fun b hb => by rw [← hs3]; exact Nat.lt_of_lt_of_le (fne b hb) (by rw [Heap.size_push]; exact Nat.le_succ _)
  refine wpAny_newFunctionEnv (fun y hy => C.nocell y hy) (by intro y hy; simp at hy) (fun h₁ hns₁ hsb₁ => ?_) C.kind
  have hk : ∀ b o, s3.heap.get? b = some o → h₁.get? b = some o := fun b o e => hsb₁.extBut b o (Nat.ne_of_lt (Heap.lt_size e)) (Heap.get?_push_of_some _ e)
  refine comp_run (Q := fun x H1 => gName i x σ H1 D.nx) (D := s2.heap.objs.size) hc C I3 f3 fne3 T (hg fp s3 _) (hif fp s3 _) (he fp s3 _) hns₁ hk st3 W w0 turn fun H' s' σ' J' hq => ?_
  have B := inv_back I3 f3 J'
  obtain ⟨m', hm', _⟩ := J'.loc
  have fC := I3.fpOk (H' := H') (b := s3.heap.objs.size) (Nat.le_refl _) J'.free
  show wpAny _ X.A (assign (.Name x pos') X.env (.ref s2.heap.objs.size)) _ _ s'
  refine wpAny_assign_Name (store_ok2 B hN hx (.inl hxl) (v := .ref s2.heap.objs.size) rfl (fun s4 I4 ⟨a, sb, ha⟩ => ?_) (.inr hxl))
  have ha' : s3.heap.objs.size ≠ a := by
    rcases ha with rfl | z
    · exact fC.2.1
    · exact fun e => fC.2.2.2.2.1 x a z e.symm
  refine ⟨m', hm'.sameBut sb ha', fun h' sb' => ⟨_, H', ?_, hq⟩⟩
  exact I4.turned (it := s3.heap.objs.size) (t' := s4.toks) (fun b o hb e => (sb'.2 b hb).trans e) fC.1 fC.2.1 fC.2.2.2.1 fC.2.2.2.2.1 fC.2.2.2.2.2
end
end L2

end
section
set_option maxRecDepth 100000
set_option maxHeartbeats 4000000
/-! ## THE DATUM LAYER (own): values without addresses; what a pure expression, a statement, a def is worth -/
namespace L2
open PySem PySem.Spec PyProof.Rows

inductive D where
  | non | bl (b : Bool) | int (i : Int) | str (x : Str) | lst (ds : List D) | tup (ds : List D) | dct (ks : List Key) (ds : List D)

/-- a result: a value, an exception, or nothing known -/
inductive R (α : Type) where
  | ok (a : α) | ex (c : Nat) | no
def R.bind {α β : Type} : R α → (α → R β) → R β
  | .ok a, f => f a
  | .ex c, _ => .ex c
  | .no, _ => .no
theorem R.bind_ok {α β : Type} {r : R α} {f : α → R β} {b : β} (h : r.bind f = .ok b) : ∃ a, r = .ok a ∧ f a = .ok b := by
  cases r with
  | ok a => exact ⟨a, rfl, h⟩
  | ex c => cases h
  | no => cases h
@[simp] theorem R.ok_bind {α β : Type} (a : α) (f : α → R β) : (R.ok a).bind f = f a := rfl
def R.when {α : Type} (c : Bool) (r : R α) : R α := if c then r else .no
theorem R.when_ok {α : Type} {c : Bool} {r : R α} {a : α} (h : R.when c r = .ok a) : c = true ∧ r = .ok a := by
  cases c with
  | true => exact ⟨rfl, h⟩
  | false => cases h
@[simp] theorem R.when_true {α : Type} (r : R α) : R.when true r = r := rfl

/-- a list that doesn't change any more; a tuple -/
def LsF (K : PySem.W.Frag) (B : List Addr) (H : Hp) (a : Addr) (xs : List V) : Prop :=
  (a ∉ B ∧ Rd H a (.lst xs)) ∨ ∃ (its : List Value) (n : Nat), K.lookup a = some { cls := .type "list", data := .seq its.toArray n } ∧ xs.length ≤ sizeLine ∧ Vals xs its
def TpF (K : PySem.W.Frag) (B : List Addr) (H : Hp) (a : Addr) (xs : List V) : Prop :=
  (a ∉ B ∧ Rd H a (.tup xs)) ∨ ∃ (o : Obj) (its : Array Value) (n : Nat), K.lookup a = some o ∧ o.cls = .type "tuple" ∧ o.data = .seq its n ∧ its.size ≤ sizeLine ∧ Vals xs its.toList
theorem LsF.sq {K : PySem.W.Frag} {B : List Addr} {H : Hp} {a : Addr} {xs : List V} (h : LsF K B H a xs) : SqL K H a xs := by
  rcases h with z | ⟨its, n, hk, hz, r⟩
  · exact .inl z.2
  · exact .inr ⟨_, its.toArray, n, hk, rfl, rfl, rfl, by rw [List.size_toArray, ← r.length]; exact hz, by simpa using r⟩
theorem TpF.sq {K : PySem.W.Frag} {B : List Addr} {H : Hp} {a : Addr} {xs : List V} (h : TpF K B H a xs) : SqT K H a xs := h.elim (fun z => .inl z.2) .inr

mutual
/-- the value shows the datum; B: the lists that may still change -/
def Rep (K : PySem.W.Frag) (B : List Addr) (H : Hp) : D → V → Prop
  | .non, v => v = .non
  | .bl b, v => v = .bl b
  | .int i, v => v = .int i
  | .str x, v => v = .str x
  | .lst ds, v => ∃ a xs, v = .ref a ∧ LsF K B H a xs ∧ Reps K B H ds xs
  | .tup ds, v => ∃ a xs, v = .ref a ∧ TpF K B H a xs ∧ Reps K B H ds xs
  | .dct ks ds, v => ∃ (a : Addr) (kvs : List (Key × V)), v = .ref a ∧ (a ∉ B ∧ H a = some (.dK kvs)) ∧ kvs.map (·.1) = ks ∧ Reps K B H ds (kvs.map (·.2))
def Reps (K : PySem.W.Frag) (B : List Addr) (H : Hp) : List D → List V → Prop
  | [], xs => xs = []
  | d :: ds, xs => ∃ x r, xs = x :: r ∧ Rep K B H d x ∧ Reps K B H ds r
end

/-- what stands still from (B, H) to (B', H') -/
def Pres (B : List Addr) (H : Hp) (B' : List Addr) (H' : Hp) : Prop := ∀ b o, H b = some o → b ∉ B → H' b = some o ∧ b ∉ B'
theorem Pres.rd {B B' : List Addr} {H H' : Hp} (p : Pres B H B' H') {a : Addr} {u : HO} (h : Rd H a u) (n : a ∉ B) : Rd H' a u ∧ a ∉ B' := by
  rcases h with e | ⟨o, e⟩
  · exact ⟨.inl (p a _ e n).1, (p a _ e n).2⟩
  · exact ⟨.inr ⟨o, (p a _ e n).1⟩, (p a _ e n).2⟩
theorem Pres.trans {B B' B'' : List Addr} {H H' H'' : Hp} (p : Pres B H B' H') (q : Pres B' H' B'' H'') : Pres B H B'' H'' := fun b o e n =>
  let ⟨e1, n1⟩ := p b o e n; q b o e1 n1
theorem Pres.same {B : List Addr} {H H' : Hp} (s : Same H H') : Pres B H B H' := fun b o e n => ⟨s b o e, n⟩
theorem Pres.refl (B : List Addr) (H : Hp) : Pres B H B H := Pres.same (Same.refl H)

theorem LsF.pres {K : PySem.W.Frag} {B B' : List Addr} {H H' : Hp} (p : Pres B H B' H') {a : Addr} {xs : List V} (l : LsF K B H a xs) : LsF K B' H' a xs :=
  l.elim (fun z => .inl ⟨(p.rd z.2 z.1).2, (p.rd z.2 z.1).1⟩) .inr
mutual
theorem Rep.pres {K : PySem.W.Frag} {B B' : List Addr} {H H' : Hp} (p : Pres B H B' H') : ∀ {d : D} {v : V}, Rep K B H d v → Rep K B' H' d v
  | .non, _, h => h
  | .bl _, _, h => h
  | .int _, _, h => h
  | .str _, _, h => h
  | .lst ds, v, h => by
    unfold Rep at h ⊢
    obtain ⟨a, xs, e, l, r⟩ := h
    exact ⟨a, xs, e, l.pres p, Reps.pres p r⟩
  | .tup ds, v, h => by
    unfold Rep at h ⊢
    obtain ⟨a, xs, e, l, r⟩ := h
    exact ⟨a, xs, e, l.elim (fun z => .inl ⟨(p.rd z.2 z.1).2, (p.rd z.2 z.1).1⟩) .inr, Reps.pres p r⟩
  | .dct ks ds, v, h => by
    unfold Rep at h ⊢
    obtain ⟨a, kvs, e, ⟨n, l⟩, k, r⟩ := h
    exact ⟨a, kvs, e, ⟨(p a _ l n).2, (p a _ l n).1⟩, k, Reps.pres p r⟩
theorem Reps.pres {K : PySem.W.Frag} {B B' : List Addr} {H H' : Hp} (p : Pres B H B' H') : ∀ {ds : List D} {xs : List V}, Reps K B H ds xs → Reps K B' H' ds xs
  | [], _, h => h
  | d :: ds, xs, h => by
    unfold Reps at h ⊢
    obtain ⟨x, r, e, h1, h2⟩ := h
    exact ⟨x, r, e, Rep.pres p h1, Reps.pres p h2⟩
end
theorem Rep.same {K : PySem.W.Frag} {B : List Addr} {H H' : Hp} {d : D} {v : V} (h : Rep K B H d v) (s : Same H H') : Rep K B H' d v := h.pres (Pres.same s)
theorem Reps.same {K : PySem.W.Frag} {B : List Addr} {H H' : Hp} {d : List D} {v : List V} (h : Reps K B H d v) (s : Same H H') : Reps K B H' d v := h.pres (Pres.same s)
theorem Reps.nil {K : PySem.W.Frag} {B : List Addr} {H : Hp} : Reps K B H [] [] := by unfold Reps; rfl
theorem Reps.cons {K : PySem.W.Frag} {B : List Addr} {H : Hp} {d : D} {ds : List D} {x : V} {xs : List V} (h : Rep K B H d x) (t : Reps K B H ds xs) : Reps K B H (d :: ds) (x :: xs) := by
  unfold Reps; exact ⟨x, xs, rfl, h, t⟩
theorem Reps.uncons {K : PySem.W.Frag} {B : List Addr} {H : Hp} {d : D} {ds : List D} {xs : List V} (h : Reps K B H (d :: ds) xs) : ∃ x r, xs = x :: r ∧ Rep K B H d x ∧ Reps K B H ds r := by
  unfold Reps at h; exact h
theorem Reps.length {K : PySem.W.Frag} {B : List Addr} {H : Hp} : ∀ {ds : List D} {xs : List V}, Reps K B H ds xs → ds.length = xs.length
  | [], _, h => by unfold Reps at h; rw [h]; rfl
  | d :: ds, xs, h => by
    obtain ⟨x, r, rfl, _, h2⟩ := h.uncons
    simp [h2.length]
theorem Reps.get {K : PySem.W.Frag} {B : List Addr} {H : Hp} : ∀ {ds : List D} {xs : List V} {i : Nat} {d : D}, Reps K B H ds xs → ds[i]? = some d → ∃ x, xs[i]? = some x ∧ Rep K B H d x
  | [], _, _, _, _, e => by simp at e
  | d :: ds, xs, 0, d', h, e => by
    obtain ⟨x, r, rfl, h1, h2⟩ := h.uncons
    simp at e; subst e
    exact ⟨x, rfl, h1⟩
  | d :: ds, xs, i + 1, d', h, e => by
    obtain ⟨x, r, rfl, h1, h2⟩ := h.uncons
    obtain ⟨y, e1, e2⟩ := Reps.get (i := i) h2 (by simpa using e)
    exact ⟨y, by simpa using e1, e2⟩
theorem Reps.append {K : PySem.W.Frag} {B : List Addr} {H : Hp} : ∀ {ds es : List D} {xs ys : List V}, Reps K B H ds xs → Reps K B H es ys → Reps K B H (ds ++ es) (xs ++ ys)
  | [], _, _, _, h, t => by unfold Reps at h; subst h; exact t
  | d :: ds, es, xs, ys, h, t => by
    obtain ⟨x, r, rfl, h1, h2⟩ := h.uncons
    exact Reps.cons h1 (Reps.append h2 t)
theorem Reps.drop {K : PySem.W.Frag} {B : List Addr} {H : Hp} : ∀ {ds : List D} {xs : List V} (n : Nat), Reps K B H ds xs → Reps K B H (ds.drop n) (xs.drop n)
  | _, _, 0, h => h
  | [], _, n + 1, h => by unfold Reps at h; subst h; exact Reps.nil
  | d :: ds, xs, n + 1, h => by
    obtain ⟨x, r, rfl, h1, h2⟩ := h.uncons
    exact Reps.drop n h2
theorem Reps.take {K : PySem.W.Frag} {B : List Addr} {H : Hp} : ∀ {ds : List D} {xs : List V} (n : Nat), Reps K B H ds xs → Reps K B H (ds.take n) (xs.take n)
  | _, _, 0, h => Reps.nil
  | [], _, n + 1, h => by unfold Reps at h; subst h; exact Reps.nil
  | d :: ds, xs, n + 1, h => by
    obtain ⟨x, r, rfl, h1, h2⟩ := h.uncons
    exact Reps.cons h1 (Reps.take n h2)

/-- an atom -/
def D.atom : D → Bool
  | .non => true | .bl _ => true | .int _ => true | .str _ => true | _ => false
theorem Rep.atom {K : PySem.W.Frag} {B B' : List Addr} {H H' : Hp} {d : D} {v : V} (a : d.atom = true) (h : Rep K B H d v) : Rep K B' H' d v := by
  cases d <;> first | exact h | cases a

/-- a slot: unset, a value, a list that is being built -/
inductive Sl where
  | un | val (d : D) | bld (ds : List D)
abbrev DEnv := List Sl

structure EnvR (K : PySem.W.Frag) (Z B : List Addr) (H : Hp) (σ : St) (δ : DEnv) : Prop where
  len : δ.length = σ.length
  bs : ∀ a ∈ B, ∃ o, H a = some o
  zb : ∀ a ∈ Z, a ∈ B
  val : ∀ (i : Nat) (d : D), δ[i]? = some (.val d) → ∃ v, σ[i]? = some (some v) ∧ Rep K B H d v
  bld : ∀ (i : Nat) (ds : List D), δ[i]? = some (.bld ds) → ∃ a xs, σ[i]? = some (some (.ref a)) ∧ a ∈ B ∧ a ∉ Z ∧ H a = some (.lst xs) ∧ Reps K B H ds xs
  dis : ∀ (i j : Nat) (a : Addr) (ds es : List D), δ[i]? = some (.bld ds) → δ[j]? = some (.bld es) → σ[i]? = some (some (.ref a)) → σ[j]? = some (some (.ref a)) → i = j

theorem EnvR.same {K : PySem.W.Frag} {Z B : List Addr} {H H' : Hp} {σ : St} {δ : DEnv} (E : EnvR K Z B H σ δ) (s : Same H H') : EnvR K Z B H' σ δ where
  len := E.len
  bs := fun a ha => let ⟨o, e⟩ := E.bs a ha; ⟨o, s a o e⟩
  zb := E.zb
  val := fun i d e => let ⟨v, h1, h2⟩ := E.val i d e; ⟨v, h1, h2.same s⟩
  bld := fun i ds e => let ⟨a, xs, h1, h2, h3, h4, h5⟩ := E.bld i ds e; ⟨a, xs, h1, h2, h3, s a _ h4, h5.same s⟩
  dis := E.dis

/-- all lists that are being built, seen as values -/
def thaw (δ : DEnv) : DEnv := δ.map fun x => match x with | .bld ds => .val (.lst ds) | y => y
theorem PE.imp {X : Cx} {e : Expr} {t t' : TE} (h : PE X e t) (w : ∀ σ H Q, t' σ H Q → t σ H Q) : PE X e t' := fun pins s σ H Q I hq => h pins s σ H Q I (w σ H Q hq)
theorem PT.imp {X : Cx} {e : Expr} {t t' : TT} (h : PT X e t) (w : ∀ σ H Q, t' σ H Q → t σ H Q) : PT X e t' := fun pins s σ H Q I hq => h pins s σ H Q I (w σ H Q hq)
theorem PA.imp {X : Cx} {e : List Expr} {t t' : TA} (h : PA X e t) (w : ∀ σ H Q, t' σ H Q → t σ H Q) : PA X e t' := fun pos pins s σ H Q I hq => h pos pins s σ H Q I (w σ H Q hq)
theorem PS.imp {X : Cx} {e : Stmt} {t t' : TS} (h : PS X e t) (w : ∀ D σ H, t' D σ H → t D σ H) : PS X e t' := fun pins s σ H D I hq => h pins s σ H D I (w D σ H hq)
theorem PSs.imp {X : Cx} {e : List Stmt} {t t' : TS} (h : PSs X e t) (w : ∀ D σ H, t' D σ H → t D σ H) : PSs X e t' := fun pins s σ H D I hq => h pins s σ H D I (w D σ H hq)
theorem PG.imp {X : Cx} {e : Expr} {t t' : TG} (h : PG X e t) (w : ∀ v σ H Q, t' v σ H Q → t v σ H Q) : PG X e t' := fun pins s σ H v u Q I r hq => h pins s σ H v u Q I r (w v σ H Q hq)
theorem PI.imp {X : Cx} {tg e : Expr} {t t' : TI} (h : PI X tg e t) (w : ∀ σ H Q, t' σ H Q → t σ H Q) : PI X tg e t' := fun pins s σ H Q I hq => h pins s σ H Q I (w σ H Q hq)

/-! ### readings -/
abbrev FD := DEnv → R D
/-- an expression worth f -/
def tD (K : PySem.W.Frag) (f : FD) : TE := fun σ H Q => ∃ Z B δ d, EnvR K Z B H σ δ ∧ f δ = .ok d ∧ ∀ v H', Same H H' → Rep K B H' d v → Q v H'
/-- an expression worth a new list -/
def tN (K : PySem.W.Frag) (f : DEnv → R (List D)) : TE := fun σ H Q => ∃ Z B δ ds, EnvR K Z B H σ δ ∧ f δ = .ok ds ∧ ∀ a xs H', Same H H' → H a = none → H' a = some (.lst xs) → Reps K (a :: B) H' ds xs → Q (.ref a) H'
/-- a test -/
def tTD (K : PySem.W.Frag) (f : DEnv → R Bool) : TT := fun σ H Q => ∃ Z B δ b, EnvR K Z B H σ δ ∧ f δ = .ok b ∧ ∀ H', Same H H' → Q b H'
/-- arguments -/
def tAD (K : PySem.W.Frag) (f : DEnv → R (List D)) : TA := fun σ H Q => ∃ Z B δ ds, EnvR K Z B H σ δ ∧ f δ = .ok ds ∧ ∀ vs H', Same H H' → Reps K B H' ds vs → Q vs H'
abbrev PD (X : Cx) (e : Expr) (f : FD) : Prop := PE X e (tD X.K f)
abbrev PN (X : Cx) (e : Expr) (f : DEnv → R (List D)) : Prop := PE X e (tN X.K f)
abbrev PB (X : Cx) (e : Expr) (f : DEnv → R Bool) : Prop := PT X e (tTD X.K f)
abbrev PAs (X : Cx) (es : List Expr) (f : DEnv → R (List D)) : Prop := PA X es (tAD X.K f)

section
variable {X : Cx}
/-- a new list as a value -/
def eNew (f : DEnv → R (List D)) : FD := fun δ => (f δ).bind fun ds => .ok (.lst ds)
theorem pd_new {e : Expr} {f : DEnv → R (List D)} (h : PN X e f) : PD X e (eNew f) := h.imp fun σ H Q ⟨Z, B, δ, d, E, hf, q⟩ => by
  obtain ⟨ds, h1, h2⟩ := R.bind_ok hf
  cases h2
  refine ⟨Z, B, δ, ds, E, h1, fun a xs H' s n e r => q _ H' s ?_⟩
  unfold Rep
  refine ⟨a, xs, rfl, .inl ⟨fun ha => ?_, .inl e⟩, r.pres fun b o e nb => ⟨e, fun hb => nb (List.mem_cons_of_mem _ hb)⟩⟩
  obtain ⟨o, ho⟩ := E.bs a ha
  rw [n] at ho; cases ho

theorem pres_new {B : List Addr} {H : Hp} {p : Addr} {o : HO} (h : H p = none) : Pres B H (p :: B) (upd H p o) := fun b u e nb =>
  ⟨by rw [upd_ne (ne_of_none e h)]; exact e, fun hb => by
    rcases List.mem_cons.mp hb with z | z
    · exact ne_of_none e h z
    · exact nb z⟩
/-- an atom of lists that are being built -/
def eThaw (f : FD) : FD := fun δ => (f (thaw δ)).bind fun d => R.when d.atom (.ok d)
def bThaw (f : DEnv → R Bool) : DEnv → R Bool := fun δ => f (thaw δ)
/-! names, constants -/
def eVar (i : Nat) : FD := fun δ => match δ[i]? with | some (.val d) => .ok d | _ => .no
def eC (d : D) : FD := fun _ => .ok d
theorem pd_var (i : Nat) {x : Str} {pos : Pos} (hN : X.N[i]? = some x := by rfl) (hv : Vis X.env.scope x := by first | exact Or.inl rfl | exact Or.inr (Or.inl rfl) | exact Or.inr (Or.inr rfl)) (hd : (x == ("__debug__" : Str)) = false := by decide)
    (hcd : (x == ("__classdict__" : Str)) = false := by decide) : PD X (.Name x pos) (eVar i) := (pe_var hN hv hd hcd).imp fun σ H Q ⟨Z, B, δ, d, E, hf, q⟩ => by
  unfold eVar at hf
  split at hf
  · rename_i d' e
    cases hf
    obtain ⟨v, h1, h2⟩ := E.val i d e
    exact ⟨v, h1, q v H (Same.refl H) h2⟩
  · cases hf
theorem pd_const {e : Expr} {v : V} {d : D} (h : PE X e (tC v)) (r : ∀ B H, Rep X.K B H d v) : PD X e (eC d) := h.imp fun σ H Q ⟨Z, B, δ, d', E, hf, q⟩ => by
  cases hf
  exact q v H (Same.refl H) (r B H)
theorem pd_int {i j pos} : PD X (.Constant (.int i) j pos) (eC (.int i)) := pd_const pe_int fun _ _ => by unfold Rep; rfl
theorem pd_bl {b j pos} : PD X (.Constant (.bool b) j pos) (eC (.bl b)) := pd_const pe_bl fun _ _ => by unfold Rep; rfl
theorem pd_str {x j pos} : PD X (.Constant (.str x) j pos) (eC (.str x)) := pd_const pe_str fun _ _ => by unfold Rep; rfl
/-- a constant of the module -/
def Glob (K : PySem.W.Frag) (mg : Str → Option Value) (x : Str) (d : D) : Prop := ∃ (u : Value) (v : V), mg x = some u ∧ RelV v u ∧ ∀ B H, Rep K B H d v
/-! arguments, displays -/
def aNil : DEnv → R (List D) := fun _ => .ok []
def aCons (f : FD) (g : DEnv → R (List D)) : DEnv → R (List D) := fun δ => (f δ).bind fun d => (g δ).bind fun ds => .ok (d :: ds)
theorem pas_nil : PAs X [] aNil := pa_nil.imp fun σ H Q ⟨Z, B, δ, d, E, hf, q⟩ => by
  cases hf
  exact q [] H (Same.refl H) Reps.nil
theorem pas_cons {e : Expr} {es : List Expr} {f : FD} {g : DEnv → R (List D)} (h : PD X e f) (t : PAs X es g) (hs : starEach (e :: es) X.env = (false, eval e X.env) :: starEach es X.env := by rfl) : PAs X (e :: es) (aCons f g) :=
  (pa_cons h t hs).imp fun σ H Q ⟨Z, B, δ, d, E, hf, q⟩ => by
    obtain ⟨d1, h1, h2⟩ := R.bind_ok hf
    obtain ⟨ds, h3, h4⟩ := R.bind_ok h2
    cases h4
    exact ⟨Z, B, δ, d1, E, h1, fun v H1 s1 r1 => ⟨Z, B, δ, ds, E.same s1, h3, fun vs H2 s2 r2 => q _ H2 (s1.trans s2) (Reps.cons (r1.same s2) r2)⟩⟩
def eTup (g : DEnv → R (List D)) : FD := fun δ => (g δ).bind fun ds => R.when (decide (ds.length ≤ sizeLine)) (.ok (.tup ds))
def nLst (g : DEnv → R (List D)) : DEnv → R (List D) := fun δ => (g δ).bind fun ds => R.when (decide (ds.length ≤ sizeLine)) (.ok ds)
theorem same_upd {H : Hp} {p : Addr} {o : HO} (h : H p = none) : Same H (upd H p o) := fun b u e => by rw [upd_ne (ne_of_none e h)]; exact e
theorem pd_tup {es : List Expr} {g : DEnv → R (List D)} {x1 pos} (h : PAs X es g) : PD X (.Tuple es x1 pos) (eTup g) := (pe_tup h).imp fun σ H Q ⟨Z, B, δ, d, E, hf, q⟩ => by
  obtain ⟨ds, h1, h2⟩ := R.bind_ok hf
  obtain ⟨hl, h3⟩ := R.when_ok h2
  cases h3
  refine ⟨Z, B, δ, ds, E, h1, fun vs H1 s1 r1 => ⟨by rw [← r1.length]; exact of_decide_eq_true hl, fun p hp => q _ _ (s1.trans (same_upd hp)) ?_⟩⟩
  unfold Rep
  refine ⟨p, vs, rfl, .inl ⟨fun ha => ?_, .inl upd_same⟩, r1.same (same_upd hp)⟩
  obtain ⟨o, ho⟩ := (E.same s1).bs p ha
  rw [hp] at ho; cases ho
theorem pn_lst {es : List Expr} {g : DEnv → R (List D)} {pos} (h : PAs X es g) : PN X (.List es pos) (nLst g) := (pe_lst h).imp fun σ H Q ⟨Z, B, δ, d, E, hf, q⟩ => by
  obtain ⟨ds, h1, h2⟩ := R.bind_ok hf
  obtain ⟨hl, h3⟩ := R.when_ok h2
  cases h3
  exact ⟨Z, B, δ, _, E, h1, fun vs H1 s1 r1 => ⟨by rw [← r1.length]; exact of_decide_eq_true hl, fun p hp => q p vs _ (s1.trans (same_upd hp)) (s1.free hp) upd_same (r1.pres (pres_new hp))⟩⟩

/-! operations on two values -/
/-- f at values that show da, db gives a value that shows g da db -/
def OpD (X : Cx) (f : Value → Value → Sem Value) (g : D → D → R D) : Prop :=
  ∀ (pins : List (Addr × Obj)) (s : Shared) (σ : St) (H : Hp) (B : List Addr) (da db d : D) (x y : V) (v u : Value), Inv X pins σ H s → (∀ a ∈ B, ∃ o, H a = some o) → RelV x v → RelV y u → Rep X.K B H da x → Rep X.K B H db y → g da db = .ok d →
    wpAny (model X.prog X.w) X.A (f v u) (EP X pins σ fun z H' => Same H H' ∧ Rep X.K B H' d z) X.xe s
def e2 (g : D → D → R D) (fa fb : FD) : FD := fun δ => (fa δ).bind fun a => (fb δ).bind fun b => g a b
theorem OpD.r {f : Value → Value → Sem Value} {g : D → D → R D} (h : OpD X f g) : OpR X f (fun x y H Q => ∃ B da db d, (∀ a ∈ B, ∃ o, H a = some o) ∧ Rep X.K B H da x ∧ Rep X.K B H db y ∧ g da db = .ok d ∧ ∀ z H', Same H H' → Rep X.K B H' d z → Q z H') := by
  intro pins s σ H x y v u Q I rx ry ⟨B, da, db, d, hb, ha, hb', hg, q⟩
  exact thn (h pins s σ H B da db d x y v u I hb rx ry ha hb' hg) fun z s' ⟨zv, H', I', r', s1, r1⟩ => ⟨zv, H', I', r', q zv H' s1 r1⟩
theorem e2_r {K : PySem.W.Frag} {g : D → D → R D} {fa fb : FD} {σ : St} {H : Hp} {Q : VK} (h : tD K (e2 g fa fb) σ H Q) :
    tOp (fun x y H Q => ∃ B da db d, (∀ a ∈ B, ∃ o, H a = some o) ∧ Rep K B H da x ∧ Rep K B H db y ∧ g da db = .ok d ∧ ∀ z H', Same H H' → Rep K B H' d z → Q z H') (tD K fa) (tD K fb) σ H Q := by
  obtain ⟨Z, B, δ, d, E, hf, q⟩ := h
  obtain ⟨d1, h1, h2⟩ := R.bind_ok hf
  obtain ⟨d2, h3, h4⟩ := R.bind_ok h2
  exact ⟨Z, B, δ, d1, E, h1, fun v1 H1 s1 r1 => ⟨Z, B, δ, d2, E.same s1, h3, fun v2 H2 s2 r2 => ⟨B, d1, d2, d, (E.same (s1.trans s2)).bs, r1.same s2, r2, h4, fun z H' s3 r3 => q z H' (s1.trans (s2.trans s3)) r3⟩⟩⟩
theorem pd_op {op : Operator} {g : D → D → R D} {a b : Expr} {fa fb : FD} {pos : Pos} (ho : OpD X (binaryOp op) g) (ha : PD X a fa) (hb : PD X b fb) : PD X (.BinOp a op b pos) (e2 g fa fb) :=
  (pe_op ho.r ha hb).imp fun σ H Q h => e2_r h
theorem pd_cmp {op : CmpOp} {g : D → D → R D} {a b : Expr} {fa fb : FD} {pos : Pos} (ho : OpD X (compareOp op) g) (ha : PD X a fa) (hb : PD X b fb) (hm : behindInMarks op b = false) : PD X (.Compare a [op] [b] pos) (e2 g fa fb) :=
  (pe_cmpR ho.r ha hb hm).imp fun σ H Q h => e2_r h
/-- a bool as a test -/
def b2 (g : D → D → R D) (fa fb : FD) : DEnv → R Bool := fun δ => (e2 g fa fb δ).bind fun d => match d with | .bl b => .ok b | _ => .no
theorem pb_cmp {op : CmpOp} {g : D → D → R D} {a b : Expr} {fa fb : FD} {pos : Pos} (ho : OpD X (compareOp op) g) (ha : PD X a fa) (hb : PD X b fb) (hm : behindInMarks op b = false) : PB X (.Compare a [op] [b] pos) (b2 g fa fb) :=
  (pt_cmpR ho.r ha hb hm).imp fun σ H Q ⟨Z, B, δ, b, E, hf, q⟩ => by
    obtain ⟨d, h1, h2⟩ := R.bind_ok hf
    cases d with
    | bl k =>
      cases h2
      exact e2_r (g := g) (Q := fun x H' => ∃ k, x = .bl k ∧ Q k H') ⟨Z, B, δ, .bl b, E, h1, fun v H' s r => ⟨b, by unfold Rep at r; exact r, q H' s⟩⟩
    | _ => cases h2
/-- a op1 b op2 c -/
def eChain (g g' : D → D → R D) (fa fb fc : FD) : FD := fun δ => (fa δ).bind fun a => (fb δ).bind fun b => (g a b).bind fun r => match r with
  | .bl true => (fc δ).bind fun c => g' b c
  | .bl false => .ok (.bl false)
  | _ => .no
/-! truth, and, or, not, if -/
def truD : D → R Bool
  | .non => .ok false
  | .bl b => .ok b
  | .int i => .ok (i != 0)
  | .str x => R.when (decide (x.length ≤ sizeLine)) (.ok ((x.length : Int) != 0))
  | .lst ds => .ok (!ds.isEmpty)
  | .tup ds => .ok (!ds.isEmpty)
  | .dct _ _ => .no
def bTru (f : FD) : DEnv → R Bool := fun δ => (f δ).bind truD
def bAnd (f g : DEnv → R Bool) : DEnv → R Bool := fun δ => (f δ).bind fun b => if b then g δ else .ok false
def bOr (f g : DEnv → R Bool) : DEnv → R Bool := fun δ => (f δ).bind fun b => if b then .ok true else g δ
def bNot (f : DEnv → R Bool) : DEnv → R Bool := fun δ => (f δ).bind fun b => .ok (!b)
def PBW (X : Cx) (e : Expr) (f : DEnv → R Bool) : Prop := PW X e (tTD X.K f)
theorem PBW.pb {e : Expr} {f : DEnv → R Bool} (h : PBW X e f) : PB X e f := PW.pt h
theorem pbw_and1 {a : Expr} {f : DEnv → R Bool} {pos : Pos} (h : PB X a f) : PBW X (.BoolOp .And [a] pos) f := pw_and1 h
theorem pbw_or1 {a : Expr} {f : DEnv → R Bool} {pos : Pos} (h : PB X a f) : PBW X (.BoolOp .Or [a] pos) f := pw_or1 h
theorem pbw_and {a b : Expr} {rest : List Expr} {f g : DEnv → R Bool} {pos : Pos} (ha : PB X a f) (hb : PBW X (.BoolOp .And (b :: rest) pos) g) : PBW X (.BoolOp .And (a :: b :: rest) pos) (bAnd f g) := by
  intro wh pins s σ H Q I ⟨Z, B, δ, k, E, hf, q⟩
  refine pw_and ha hb wh pins s σ H Q I ?_
  obtain ⟨c, h1, h2⟩ := R.bind_ok hf
  refine ⟨Z, B, δ, c, E, h1, fun H1 s1 => ?_⟩
  cases c with
  | true => rw [if_pos rfl] at h2 ⊢; exact ⟨Z, B, δ, k, E.same s1, h2, fun H' s2 => q H' (s1.trans s2)⟩
  | false => rw [if_neg (by decide)] at h2 ⊢; cases h2; exact q H1 s1
theorem pbw_or {a b : Expr} {rest : List Expr} {f g : DEnv → R Bool} {pos : Pos} (ha : PB X a f) (hb : PBW X (.BoolOp .Or (b :: rest) pos) g) : PBW X (.BoolOp .Or (a :: b :: rest) pos) (bOr f g) := by
  intro wh pins s σ H Q I ⟨Z, B, δ, k, E, hf, q⟩
  refine pw_or ha hb wh pins s σ H Q I ?_
  obtain ⟨c, h1, h2⟩ := R.bind_ok hf
  refine ⟨Z, B, δ, c, E, h1, fun H1 s1 => ?_⟩
  cases c with
  | true => rw [if_pos rfl] at h2 ⊢; cases h2; exact q H1 s1
  | false => rw [if_neg (by decide)] at h2 ⊢; exact ⟨Z, B, δ, k, E.same s1, h2, fun H' s2 => q H' (s1.trans s2)⟩
/-- .. as values (bools) -/
def asB (f : FD) : DEnv → R Bool := fun δ => (f δ).bind fun d => match d with | .bl b => .ok b | _ => .no
def eAnd (f g : FD) : FD := fun δ => (asB f δ).bind fun b => if b then g δ else .ok (.bl false)
def eOr (f g : FD) : FD := fun δ => (asB f δ).bind fun b => if b then .ok (.bl true) else g δ
def eNot (f : FD) : FD := fun δ => (asB f δ).bind fun b => .ok (.bl (!b))
def eIf (c : DEnv → R Bool) (f g : FD) : FD := fun δ => (c δ).bind fun b => if b then f δ else g δ
theorem pd_if {c a b : Expr} {fc : DEnv → R Bool} {f g : FD} {pos : Pos} (hc : PB X c fc) (ha : PD X a f) (hb : PD X b g) : PD X (.IfExp c a b pos) (eIf fc f g) := (pe_ifExp hc ha hb).imp fun σ H Q ⟨Z, B, δ, k, E, hf, q⟩ => by
  obtain ⟨c, h1, h2⟩ := R.bind_ok hf
  refine ⟨Z, B, δ, c, E, h1, fun H1 s1 => ?_⟩
  cases c with
  | true => rw [if_pos rfl] at h2 ⊢; exact ⟨Z, B, δ, k, E.same s1, h2, fun v H' s2 r2 => q v H' (s1.trans s2) r2⟩
  | false => rw [if_neg (by decide)] at h2 ⊢; exact ⟨Z, B, δ, k, E.same s1, h2, fun v H' s2 r2 => q v H' (s1.trans s2) r2⟩

/-! calls -/
/-- a call of a known value -/
def CallD (X : Cx) (f : Value) (g : List D → R D) : Prop :=
  ∀ (pins : List (Addr × Obj)) (s : Shared) (σ : St) (H : Hp) (B : List Addr) (ds : List D) (d : D) (xs : List V) (us : List Value), Inv X pins σ H s → (∀ a ∈ B, ∃ o, H a = some o) → Vals xs us → Reps X.K B H ds xs → g ds = .ok d →
    wpAny (model X.prog X.w) X.A (call f us) (EP X pins σ fun z H' => Same H H' ∧ Rep X.K B H' d z) X.xe s
def eCall (g : List D → R D) (fs : DEnv → R (List D)) : FD := fun δ => (fs δ).bind g
theorem CallD.r {f : Value} {g : List D → R D} (h : CallD X f g) : CallR X f (fun xs H Q => ∃ B ds d, (∀ a ∈ B, ∃ o, H a = some o) ∧ Reps X.K B H ds xs ∧ g ds = .ok d ∧ ∀ z H', Same H H' → Rep X.K B H' d z → Q z H') := by
  intro pins s σ H xs us Q I rx ⟨B, ds, d, hb, hr, hg, q⟩
  exact thn (h pins s σ H B ds d xs us I hb rx hr hg) fun z s' ⟨zv, H', I', r', s1, r1⟩ => ⟨zv, H', I', r', q zv H' s1 r1⟩
theorem eCall_r {K : PySem.W.Frag} {g : List D → R D} {fs : DEnv → R (List D)} {σ : St} {H : Hp} {Q : VK} (h : tD K (eCall g fs) σ H Q) :
    tAD K fs σ H fun vs H1 => ∃ B ds d, (∀ a ∈ B, ∃ o, H1 a = some o) ∧ Reps K B H1 ds vs ∧ g ds = .ok d ∧ ∀ z H', Same H1 H' → Rep K B H' d z → Q z H' := by
  obtain ⟨Z, B, δ, d, E, hf, q⟩ := h
  obtain ⟨ds, h1, h2⟩ := R.bind_ok hf
  exact ⟨Z, B, δ, ds, E, h1, fun vs H1 s1 r1 => ⟨B, ds, d, (E.same s1).bs, r1, h2, fun z H' s2 r2 => q z H' (s1.trans s2) r2⟩⟩
theorem pd_callB {g : List D → R D} {x : Str} {id : String} {p pos : Pos} {e : Expr} {es : List Expr} {fs : DEnv → R (List D)} (hc : CallD X (.builtin id) g) (hg : Gl X x) (hm : X.mg x = none) (hv : bootBuiltins x = some (.builtin id)) (ha : PAs X (e :: es) fs) (hn : x ≠ "__name__" := by decide) (hdb : (x == ("__debug__" : Str)) = false := by decide)
    (he : starEach (e :: es) X.env = (false, eval e X.env) :: starEach es X.env := by rfl) (hpl : (backTo pos (starEach es X.env)).any (·.1) = false := by rfl) : PD X (.Call (.Name x p) (e :: es) [] pos) (eCall g fs) :=
  (pe_callB hc.r hg hm hv ha hn hdb he hpl).imp fun σ H Q h => eCall_r h
theorem pd_callTy {g : List D → R D} {x : Str} {T : String} {p pos : Pos} {e : Expr} {es : List Expr} {fs : DEnv → R (List D)} (hc : CallD X (.type T) g) (hg : Gl X x) (hm : X.mg x = none) (hv : bootBuiltins x = some (.type T)) (ha : PAs X (e :: es) fs) (hn : x ≠ "__name__" := by decide) (hdb : (x == ("__debug__" : Str)) = false := by decide)
    (he : starEach (e :: es) X.env = (false, eval e X.env) :: starEach es X.env := by rfl) (hpl : (backTo pos (starEach es X.env)).any (·.1) = false := by rfl) : PD X (.Call (.Name x p) (e :: es) [] pos) (eCall g fs) :=
  (pe_callTy hc.r hg hm hv ha hn hdb he hpl).imp fun σ H Q h => eCall_r h
/-- what a pure def promises -/
def spD (K : PySem.W.Frag) (n : Nat) (g : List D → R D) : Sp := fun vs H Q _ => vs.length = n ∧ ∃ B ds d, (∀ a ∈ B, ∃ o, H a = some o) ∧ Reps K B H ds vs ∧ g ds = .ok d ∧ ∀ z H', Same H H' → Rep K B H' d z → Q z H'
theorem pd_call {g : List D → R D} {k n : Nat} {f : Addr} {fd : FuncData} {ps : List Str} {x : Str} {p pos : Pos} {e : Expr} {es : List Expr} {fs : DEnv → R (List D)}
    (F : FnOk X.prog X.w X.K X.mg X.base CX0 k f fd ps (spD X.K n g)) (hr : Room k X.A) (hg : Gl X x) (hm : X.mg x = some (.ref f)) (hk : PySem.W.keepIn X.K (.ref f) = true) (hb : Binds X.K fd ps []) (ha : PAs X (e :: es) fs)
    (hn : ∀ δ ds, fs δ = .ok ds → ds.length = n) (hdb : (x == ("__debug__" : Str)) = false := by decide) (he : starEach (e :: es) X.env = (false, eval e X.env) :: starEach es X.env := by rfl) (hpl : (backTo pos (starEach es X.env)).any (·.1) = false := by rfl) :
    PD X (.Call (.Name x p) (e :: es) [] pos) (eCall g fs) :=
  (pe_call F hr hg hm hk hb .nil pass0 ha hdb he hpl).imp fun σ H Q ⟨Z, B, δ, d, E, hf, q⟩ => by
    obtain ⟨ds, h1, h2⟩ := R.bind_ok hf
    refine ⟨Z, B, δ, ds, E, h1, fun vs H1 s1 r1 => ?_⟩
    show spD X.K n g (vs ++ []) H1 Q E0
    rw [List.append_nil]
    exact ⟨by rw [← r1.length]; exact hn δ ds h1, B, ds, d, (E.same s1).bs, r1, h2, fun z H' s2 r2 => q z H' (s1.trans s2) r2⟩
end
end L2

end
section
set_option maxRecDepth 100000
set_option maxHeartbeats 4000000
/-! ## THE DATUM LAYER: statements, loops, comprehensions, defs (own) -/
namespace L2
open PySem PySem.Spec PyProof.Rows

inductive Out where
  | nx (δ : DEnv) | rt (d : D)
abbrev FS := DEnv → R Out

/-- from (B, H) to (B', H'): what is not built here stands still -/
structure Ev (Z B : List Addr) (H : Hp) (B' : List Addr) (H' : Hp) : Prop where
  pres : Pres B H B' H'
  zs : ∀ b o, H b = some o → b ∈ Z → H' b = some o ∧ b ∈ B'
theorem Ev.refl (Z B : List Addr) (H : Hp) (zb : ∀ a ∈ Z, a ∈ B) : Ev Z B H B H := ⟨Pres.refl B H, fun b o e z => ⟨e, zb b z⟩⟩
theorem Ev.trans {Z B B' B'' : List Addr} {H H' H'' : Hp} (a : Ev Z B H B' H') (b : Ev Z B' H' B'' H'') : Ev Z B H B'' H'' :=
  ⟨a.pres.trans b.pres, fun c o e z => let ⟨e1, _⟩ := a.zs c o e z; b.zs c o e1 z⟩
theorem Ev.same {Z B : List Addr} {H H' : Hp} (zb : ∀ a ∈ Z, a ∈ B) (s : Same H H') : Ev Z B H B H' := ⟨Pres.same s, fun b o e z => ⟨s b o e, zb b z⟩⟩

/-- what is wanted behind an outcome -/
def OutOk (K : PySem.W.Frag) (Z B : List Addr) (H : Hp) (D : Ends) : Out → Prop
  | .nx δ' => ∀ σ' B' H', Ev Z B H B' H' → EnvR K Z B' H' σ' δ' → D.nx σ' H'
  | .rt d => ∀ v B' H', Ev Z B H B' H' → (∀ a ∈ Z, a ∈ B') → Rep K B' H' d v → D.rt v H'
theorem OutOk.ev {K : PySem.W.Frag} {Z B B1 : List Addr} {H H1 : Hp} {D : Ends} {o : Out} (q : OutOk K Z B H D o) (ev : Ev Z B H B1 H1) : OutOk K Z B1 H1 D o := by
  cases o with
  | nx δ' => exact fun σ' B' H' ev' E' => q σ' B' H' (ev.trans ev') E'
  | rt d => exact fun v B' H' ev' z r => q v B' H' (ev.trans ev') z r
/-- a statement worth F -/
def sD (K : PySem.W.Frag) (F : FS) : TS := fun D σ H => ∃ Z B δ o, EnvR K Z B H σ δ ∧ F δ = .ok o ∧ OutOk K Z B H D o
abbrev PDs (X : Cx) (st : Stmt) (F : FS) : Prop := PS X st (sD X.K F)
abbrev PDss (X : Cx) (st : List Stmt) (F : FS) : Prop := PSs X st (sD X.K F)

section
variable {X : Cx}
def sNil : FS := fun δ => .ok (.nx δ)
def sSeq (F G : FS) : FS := fun δ => (F δ).bind fun o => match o with | .nx δ' => G δ' | .rt d => .ok (.rt d)
theorem pds_nil : PDss X [] sNil := pss_nil.imp fun D σ H ⟨Z, B, δ, o, E, hf, q⟩ => by
  cases hf
  exact q σ B H (Ev.refl Z B H E.zb) E
theorem sSeq_r {K : PySem.W.Frag} {F G : FS} {D : Ends} {σ : St} {H : Hp} (h : sD K (sSeq F G) D σ H) : tSeq (sD K F) (sD K G) D σ H := by
  obtain ⟨Z, B, δ, o, E, hf, q⟩ := h
  obtain ⟨o1, h1, h2⟩ := R.bind_ok hf
  refine ⟨Z, B, δ, o1, E, h1, ?_⟩
  cases o1 with
  | nx δ1 =>
    intro σ1 B1 H1 ev E1
    refine ⟨Z, B1, δ1, o, E1, h2, ?_⟩
    cases o with
    | nx δ2 => exact fun σ' B' H' ev' E' => q σ' B' H' (ev.trans ev') E'
    | rt d => exact fun v B' H' ev' z r => q v B' H' (ev.trans ev') z r
  | rt d =>
    cases h2
    exact q
theorem pds_cons {st : Stmt} {rest : List Stmt} {F G : FS} (h1 : PDs X st F) (h2 : PDss X rest G) : PDss X (st :: rest) (sSeq F G) := (pss_cons h1 h2).imp fun D σ H h => sSeq_r h
theorem pds_one {st : Stmt} {F : FS} (h1 : PDs X st F) : PDss X [st] F := pss_one h1

theorem EnvR.set {K : PySem.W.Frag} {Z B : List Addr} {H : Hp} {σ : St} {δ : DEnv} (E : EnvR K Z B H σ δ) {i : Nat} {d : D} {v : V} (hi : i < σ.length) (r : Rep K B H d v) : EnvR K Z B H (σ.set i (some v)) (δ.set i (.val d)) where
  len := by rw [List.length_set, List.length_set]; exact E.len
  bs := E.bs
  zb := E.zb
  val := fun j d' e => by
    by_cases h : i = j
    · subst h
      rw [List.getElem?_set_self (by rw [E.len]; exact hi)] at e
      cases e
      exact ⟨v, List.getElem?_set_self hi, r⟩
    · rw [List.getElem?_set_ne h] at e ⊢
      exact E.val j d' e
  bld := fun j ds e => by
    by_cases h : i = j
    · subst h
      rw [List.getElem?_set_self (by rw [E.len]; exact hi)] at e
      cases e
    · rw [List.getElem?_set_ne h] at e ⊢
      exact E.bld j ds e
  dis := fun j k a ds es e1 e2 e3 e4 => by
    by_cases h : i = j
    · subst h
      rw [List.getElem?_set_self (by rw [E.len]; exact hi)] at e1
      cases e1
    · by_cases h' : i = k
      · subst h'
        rw [List.getElem?_set_self (by rw [E.len]; exact hi)] at e2
        cases e2
      · rw [List.getElem?_set_ne h] at e1 e3
        rw [List.getElem?_set_ne h'] at e2 e4
        exact E.dis j k a ds es e1 e2 e3 e4
theorem EnvR.setB {K : PySem.W.Frag} {Z B : List Addr} {H : Hp} {σ : St} {δ : DEnv} (E : EnvR K Z B H σ δ) {i : Nat} {ds : List D} {a : Addr} {xs : List V} (hi : i < σ.length) (hB : a ∈ B) (hZ : a ∉ Z) (hH : H a = some (.lst xs)) (r : Reps K B H ds xs)
    (new : ∀ j es, j ≠ i → δ[j]? = some (.bld es) → σ[j]? ≠ some (some (.ref a))) : EnvR K Z B H (σ.set i (some (.ref a))) (δ.set i (.bld ds)) where
  len := by rw [List.length_set, List.length_set]; exact E.len
  bs := E.bs
  zb := E.zb
  val := fun j d' e => by
    by_cases h : i = j
    · subst h
      rw [List.getElem?_set_self (by rw [E.len]; exact hi)] at e
      cases e
    · rw [List.getElem?_set_ne h] at e ⊢
      exact E.val j d' e
  bld := fun j es e => by
    by_cases h : i = j
    · subst h
      rw [List.getElem?_set_self (by rw [E.len]; exact hi)] at e
      cases e
      exact ⟨a, xs, List.getElem?_set_self hi, hB, hZ, hH, r⟩
    · rw [List.getElem?_set_ne h] at e ⊢
      exact E.bld j es e
  dis := fun j k b ds1 es1 e1 e2 e3 e4 => by
    by_cases h : i = j
    · subst h
      by_cases h' : i = k
      · exact h'
      · rw [List.getElem?_set_self hi] at e3
        cases e3
        rw [List.getElem?_set_ne h'] at e2 e4
        exact absurd e4 (new k es1 (Ne.symm h') e2)
    · by_cases h' : i = k
      · subst h'
        rw [List.getElem?_set_self hi] at e4
        cases e4
        rw [List.getElem?_set_ne h] at e1 e3
        exact absurd e3 (new j ds1 (Ne.symm h) e1)
      · rw [List.getElem?_set_ne h] at e1 e3
        rw [List.getElem?_set_ne h'] at e2 e4
        exact E.dis j k b ds1 es1 e1 e2 e3 e4

/-- name = e -/
def sSet (i : Nat) (f : FD) : FS := fun δ => (f δ).bind fun d => R.when (decide (i < δ.length)) (.ok (.nx (δ.set i (.val d))))
theorem sSet_r {K : PySem.W.Frag} {i : Nat} {f : FD} {D : Ends} {σ : St} {H : Hp} (h : sD K (sSet i f) D σ H) : tAsg (tD K f) (gName i) D σ H := by
  obtain ⟨Z, B, δ, o, E, hf, q⟩ := h
  obtain ⟨d, h1, h2⟩ := R.bind_ok hf
  obtain ⟨hi, h3⟩ := R.when_ok h2
  cases h3
  refine ⟨Z, B, δ, d, E, h1, fun v H1 s1 r1 => ?_⟩
  exact q _ B H1 (Ev.same E.zb s1) ((E.same s1).set (by rw [← E.len]; exact of_decide_eq_true hi) r1)
theorem pds_set {i : Nat} {x : Str} {e : Expr} {f : FD} {pos pos' : Pos} (hN : X.N.Nodup) (hi : X.N[i]? = some x) (hx : Loc X.env.scope x) (he : PD X e f) (hs : swapsWith e (some (.Name x pos')) pos.line X.env = pure false := by rfl) (hf : X.fn x = true ∨ X.env.scope.names.lookup x = some .local := by first | exact .inl rfl | exact .inr rfl | assumption) :
    PDs X (.Assign [.Name x pos'] e pos) (sSet i f) := (ps_set hN hi hx he hs hf).imp fun D σ H h => sSet_r h
/-- name = e, a new list that will be built on -/
def sBld (i : Nat) (f : DEnv → R (List D)) : FS := fun δ => (f δ).bind fun ds => R.when (decide (i < δ.length)) (.ok (.nx (δ.set i (.bld ds))))
theorem sBld_r {K : PySem.W.Frag} {i : Nat} {f : DEnv → R (List D)} {D : Ends} {σ : St} {H : Hp} (h : sD K (sBld i f) D σ H) : tAsg (tN K f) (gName i) D σ H := by
  obtain ⟨Z, B, δ, o, E, hf, q⟩ := h
  obtain ⟨ds, h1, h2⟩ := R.bind_ok hf
  obtain ⟨hi, h3⟩ := R.when_ok h2
  cases h3
  refine ⟨Z, B, δ, ds, E, h1, fun a xs H1 s1 n e r => ?_⟩
  have E1 := E.same s1
  have aB : a ∉ B := fun ha => by obtain ⟨o, ho⟩ := E.bs a ha; rw [n] at ho; cases ho
  have nZ : a ∉ Z := fun ha => aB (E.zb a ha)
  have p0 : Pres B H (a :: B) H1 := fun b o e' nb => ⟨s1 b o e', fun hb => by
    rcases List.mem_cons.mp hb with z | z
    · subst z; rw [n] at e'; cases e'
    · exact nb z⟩
  have E2 : EnvR K Z (a :: B) H1 σ δ := {
    len := E.len
    bs := fun b hb => by
      rcases List.mem_cons.mp hb with z | z
      · subst z; exact ⟨_, e⟩
      · exact E1.bs b z
    zb := fun b hb => List.mem_cons_of_mem _ (E.zb b hb)
    val := fun j d e => let ⟨v, q1, q2⟩ := E.val j d e; ⟨v, q1, q2.pres p0⟩
    bld := fun j es e => let ⟨b, ys, q1, q2, q3, q4, q5⟩ := E.bld j es e; ⟨b, ys, q1, List.mem_cons_of_mem _ q2, q3, s1 b _ q4, q5.pres p0⟩
    dis := E.dis }
  refine q _ (a :: B) H1 ⟨p0, fun b o e' hb => ⟨s1 b o e', List.mem_cons_of_mem _ (E.zb b hb)⟩⟩ (E2.setB (by rw [← E.len]; exact of_decide_eq_true hi) List.mem_cons_self nZ e r fun j es hj ej hσ => ?_)
  obtain ⟨b, ys, q1, _, _, q4, _⟩ := E.bld j es ej
  rw [hσ] at q1
  cases q1
  rw [n] at q4; cases q4
theorem pds_bld {i : Nat} {x : Str} {e : Expr} {f : DEnv → R (List D)} {pos pos' : Pos} (hN : X.N.Nodup) (hi : X.N[i]? = some x) (hx : Loc X.env.scope x) (he : PN X e f) (hs : swapsWith e (some (.Name x pos')) pos.line X.env = pure false := by rfl) (hf : X.fn x = true ∨ X.env.scope.names.lookup x = some .local := by first | exact .inl rfl | exact .inr rfl | assumption) :
    PDs X (.Assign [.Name x pos'] e pos) (sBld i f) := (ps_set hN hi hx he hs hf).imp fun D σ H h => sBld_r h

/-- a list that is built: one more, some more -/
theorem EnvR.grow {K : PySem.W.Frag} {Z B : List Addr} {H : Hp} {σ : St} {δ : DEnv} (E : EnvR K Z B H σ δ) {i : Nat} {ds es : List D} {a : Addr} {xs ys : List V} (hd : δ[i]? = some (.bld ds)) (hσ : σ[i]? = some (some (.ref a))) (hB : a ∈ B) (hH : H a = some (.lst xs)) (r : Reps K B H es ys) :
    EnvR K Z B (upd H a (.lst ys)) σ (δ.set i (.bld es)) ∧ Pres B H B (upd H a (.lst ys)) := by
  have p : Pres B H B (upd H a (.lst ys)) := fun b o e nb => ⟨by rw [upd_ne (fun (z : b = a) => nb (by rw [z]; exact hB))]; exact e, nb⟩
  have hi : i < δ.length := (List.getElem?_eq_some_iff.mp hd).1
  refine ⟨{
    len := by rw [List.length_set]; exact E.len
    bs := fun b hb => by
      by_cases z : b = a
      · subst z; exact ⟨_, upd_same⟩
      · rw [upd_ne z]; exact E.bs b hb
    zb := E.zb
    val := fun j d e => by
      by_cases h : i = j
      · subst h; rw [List.getElem?_set_self hi] at e; cases e
      · rw [List.getElem?_set_ne h] at e
        obtain ⟨v, q1, q2⟩ := E.val j d e
        exact ⟨v, q1, q2.pres p⟩
    bld := fun j fs e => by
      by_cases h : i = j
      · subst h; rw [List.getElem?_set_self hi] at e; cases e
        obtain ⟨b, zs, q1, q2, q3, _, _⟩ := E.bld i ds hd
        rw [hσ] at q1; cases q1
        exact ⟨a, ys, hσ, hB, q3, upd_same, r.pres p⟩
      · rw [List.getElem?_set_ne h] at e
        obtain ⟨b, zs, q1, q2, q3, q4, q5⟩ := E.bld j fs e
        have ne : b ≠ a := fun z => by subst z; exact h (E.dis i j b ds fs hd e hσ q1)
        exact ⟨b, zs, q1, q2, q3, by rw [upd_ne ne]; exact q4, q5.pres p⟩
    dis := fun j k b ds1 es1 e1 e2 e3 e4 => by
      have f1 : ∃ fs, δ[j]? = some (.bld fs) := by
        by_cases h : i = j
        · subst h; exact ⟨ds, hd⟩
        · rw [List.getElem?_set_ne h] at e1; exact ⟨_, e1⟩
      have f2 : ∃ fs, δ[k]? = some (.bld fs) := by
        by_cases h : i = k
        · subst h; exact ⟨ds, hd⟩
        · rw [List.getElem?_set_ne h] at e2; exact ⟨_, e2⟩
      obtain ⟨_, f1⟩ := f1
      obtain ⟨_, f2⟩ := f2
      exact E.dis j k b _ _ f1 f2 e3 e4 }, p⟩
theorem Ev.grow {Z B : List Addr} {H : Hp} {a : Addr} {o : HO} (zb : ∀ a ∈ Z, a ∈ B) (hZ : a ∉ Z) (p : Pres B H B (upd H a o)) : Ev Z B H B (upd H a o) :=
  ⟨p, fun b u e hb => ⟨by rw [upd_ne (fun (z : b = a) => hZ (by rw [← z]; exact hb))]; exact e, zb b hb⟩⟩
def bldAt (δ : DEnv) (i : Nat) : R (List D) := match δ[i]? with | some (.bld ds) => .ok ds | _ => .no
theorem bldAt_ok {δ : DEnv} {i : Nat} {ds : List D} (h : bldAt δ i = .ok ds) : δ[i]? = some (.bld ds) := by
  unfold bldAt at h
  split at h
  · rename_i q; cases h; exact q
  · cases h
/-- x.append(e) -/
def sApp (i : Nat) (f : FD) : FS := fun δ => (f δ).bind fun d => (bldAt δ i).bind fun ds => R.when (decide (ds.length < sizeLine)) (.ok (.nx (δ.set i (.bld (ds ++ [d])))))
theorem pds_app {i : Nat} {x : Str} {e : Expr} {f : FD} {npos apos cpos pos : Pos} (hN : X.N[i]? = some x) (hv : Vis X.env.scope x) (he : PD X e f)
    (hd : (x == ("__debug__" : Str)) = false := by decide) (hcd : (x == ("__classdict__" : Str)) = false := by decide)
    (hs : starEach [e] X.env = (false, eval e X.env) :: starEach [] X.env := by rfl) (hline : (apos.endLine == cpos.line) = true := by rfl)
    (hfew : ((backTo cpos (starEach [e] X.env)).all (fun x => !x.1) && (backToKw cpos (keywordEach [] X.env)).all (fun x => x.1.isSome)
      && decide (([e] : List Expr).length + ([] : List Keyword).length + (if ([] : List Keyword).isEmpty then 0 else 1) < 30)) = true := by rfl)
    (hsw : swapsWith (.Call (.Attribute (.Name x npos) "append" apos) [e] [] cpos) none pos.line X.env = pure false := by rfl)
    (hbase : attributeBase (.Name x npos) "append" X.env (eval (.Name x npos) X.env) = eval (.Name x npos) X.env := by rfl) :
    PDs X (.Expr (.Call (.Attribute (.Name x npos) "append" apos) [e] [] cpos) pos) (sApp i f) := by
  refine (ps_expr (pe_bm (X := X) PySem.F.plainAttrs_list PySem.F.slot_list_append PySem.F.type_list_append mt_append (pe_var hN hv hd hcd) (pa_cons he pa_nil hs) hbase hfew hline hs) hsw).imp fun D σ H ⟨Z, B, δ, o, E, hf, q⟩ => ?_
  obtain ⟨d, h1, h2⟩ := R.bind_ok hf
  obtain ⟨ds, h3, h4⟩ := R.bind_ok h2
  obtain ⟨hl, h5⟩ := R.when_ok h4
  cases h5
  have hb := bldAt_ok h3
  obtain ⟨a, xs, q1, q2, q3, q4, q5⟩ := E.bld i ds hb
  refine ⟨.ref a, q1, .inl ⟨rfl, xs, SqL.of q4⟩, ⟨Z, B, δ, d, E, h1, fun v H1 s1 r1 => ?_⟩⟩
  have E1 := E.same s1
  refine ⟨a, xs, v, rfl, rfl, s1 a _ q4, by rw [← q5.length]; exact of_decide_eq_true hl, ?_⟩
  obtain ⟨E2, p2⟩ := E1.grow (es := ds ++ [d]) (ys := xs ++ [v]) hb q1 q2 (s1 a _ q4) ((q5.same s1).append (Reps.cons r1 Reps.nil))
  exact q σ B _ ((Ev.same E.zb s1).trans (Ev.grow E.zb q3 p2)) E2
/-- x.extend(e), e a new list -/
def sExt (i : Nat) (f : DEnv → R (List D)) : FS := fun δ => (f δ).bind fun es => (bldAt δ i).bind fun ds => R.when (decide (ds.length + es.length ≤ sizeLine)) (.ok (.nx (δ.set i (.bld (ds ++ es)))))
/-- a list is built no more -/
def frz (i : Nat) (δ : DEnv) : DEnv := match δ[i]? with | some (.bld ds) => δ.set i (.val (.lst ds)) | _ => δ
theorem EnvR.frz {K : PySem.W.Frag} {Z B : List Addr} {H : Hp} {σ : St} {δ : DEnv} (E : EnvR K Z B H σ δ) (i : Nat) : ∃ B', Ev Z B H B' H ∧ EnvR K Z B' H σ (frz i δ) := by
  unfold L2.frz
  cases hd : δ[i]? with
  | none => exact ⟨B, Ev.refl Z B H E.zb, E⟩
  | some x =>
    cases x with
    | un => exact ⟨B, Ev.refl Z B H E.zb, E⟩
    | val d => exact ⟨B, Ev.refl Z B H E.zb, E⟩
    | bld ds =>
      obtain ⟨a, xs, q1, q2, q3, q4, q5⟩ := E.bld i ds hd
      have hi : i < δ.length := (List.getElem?_eq_some_iff.mp hd).1
      have p : Pres B H (B.filter fun b => decide (b ≠ a)) H := fun b o e nb => ⟨e, fun hb => nb (List.mem_filter.mp hb).1⟩
      have zb : ∀ b ∈ Z, b ∈ B.filter fun b => decide (b ≠ a) := fun b hb => List.mem_filter.mpr ⟨E.zb b hb, decide_eq_true fun z => q3 (z ▸ hb)⟩
      refine ⟨B.filter fun b => decide (b ≠ a), ⟨p, fun b o e hb => ⟨e, zb b hb⟩⟩, {
        len := by rw [List.length_set]; exact E.len
        bs := fun b hb => E.bs b (List.mem_filter.mp hb).1
        zb := zb
        val := fun j d e => by
          by_cases h : i = j
          · subst h; rw [List.getElem?_set_self hi] at e; cases e
            refine ⟨.ref a, q1, ?_⟩
            unfold Rep
            exact ⟨a, xs, rfl, .inl ⟨fun hb => by simpa using (List.mem_filter.mp hb).2, .inl q4⟩, q5.pres p⟩
          · rw [List.getElem?_set_ne h] at e
            obtain ⟨v, z1, z2⟩ := E.val j d e
            exact ⟨v, z1, z2.pres p⟩
        bld := fun j fs e => by
          by_cases h : i = j
          · subst h; rw [List.getElem?_set_self hi] at e; cases e
          · rw [List.getElem?_set_ne h] at e
            obtain ⟨b, zs, z1, z2, z3, z4, z5⟩ := E.bld j fs e
            exact ⟨b, zs, z1, List.mem_filter.mpr ⟨z2, decide_eq_true fun z => by subst z; exact h (E.dis i j b ds fs hd e q1 z1)⟩, z3, z4, z5.pres p⟩
        dis := fun j k b ds1 es1 e1 e2 e3 e4 => by
          by_cases h : i = j
          · subst h; rw [List.getElem?_set_self hi] at e1; cases e1
          · by_cases h' : i = k
            · subst h'; rw [List.getElem?_set_self hi] at e2; cases e2
            · rw [List.getElem?_set_ne h] at e1
              rw [List.getElem?_set_ne h'] at e2
              exact E.dis j k b ds1 es1 e1 e2 e3 e4 }⟩
def sFrz (i : Nat) (F : FS) : FS := fun δ => F (frz i δ)
theorem sFrz_r {K : PySem.W.Frag} {i : Nat} {F : FS} {D : Ends} {σ : St} {H : Hp} (h : sD K (sFrz i F) D σ H) : sD K F D σ H := by
  obtain ⟨Z, B, δ, o, E, hf, q⟩ := h
  obtain ⟨B1, ev, E1⟩ := E.frz i
  refine ⟨Z, B1, L2.frz i δ, o, E1, hf, ?_⟩
  cases o with
  | nx δ' => exact fun σ' B' H' ev' E' => q σ' B' H' (ev.trans ev') E'
  | rt d => exact fun v B' H' ev' z r => q v B' H' (ev.trans ev') z r
theorem pds_frz (i : Nat) {sts : List Stmt} {F : FS} (h : PDss X sts F) : PDss X sts (sFrz i F) := h.imp fun D σ H h => sFrz_r h
/-- e, dropped; return e; if -/
def sRet (f : FD) : FS := fun δ => (f δ).bind fun d => .ok (.rt d)
theorem pds_ret {e : Expr} {f : FD} {pos : Pos} (he : PD X e f) : PDs X (.Return (some e) pos) (sRet f) := (ps_ret he).imp fun D σ H ⟨Z, B, δ, o, E, hf, q⟩ => by
  obtain ⟨d, h1, h2⟩ := R.bind_ok hf
  cases h2
  exact ⟨Z, B, δ, d, E, h1, fun v H1 s1 r1 => q v B H1 (Ev.same E.zb s1) E.zb r1⟩
def sIf (c : DEnv → R Bool) (F G : FS) : FS := fun δ => (c δ).bind fun b => if b then F δ else G δ
theorem pds_if {c : Expr} {a b : List Stmt} {fc : DEnv → R Bool} {F G : FS} {pos : Pos} (hc : PB X c fc) (ha : PDss X a F) (hb : PDss X b G) : PDs X (.If c a b pos) (sIf fc F G) := (ps_if hc ha hb).imp fun D σ H ⟨Z, B, δ, o, E, hf, q⟩ => by
  obtain ⟨k, h1, h2⟩ := R.bind_ok hf
  refine ⟨Z, B, δ, k, E, h1, fun H1 s1 => ?_⟩
  have q' := q.ev (Ev.same E.zb s1)
  cases k with
  | true => rw [if_pos rfl] at h2; exact iteT ⟨Z, B, δ, o, E.same s1, h2, q'⟩
  | false => rw [if_neg (by decide)] at h2; exact iteF ⟨Z, B, δ, o, E.same s1, h2, q'⟩
/-! targets -/
abbrev FT := D → DEnv → R DEnv
def gD (K : PySem.W.Frag) (t : FT) : TG := fun v σ H Q => ∃ Z B δ d δ', EnvR K Z B H σ δ ∧ Rep K B H d v ∧ t d δ = .ok δ' ∧ ∀ σ' H', Same H H' → EnvR K Z B H' σ' δ' → σ'.length = σ.length → Q σ' H'
abbrev PTg (X : Cx) (tg : Expr) (t : FT) : Prop := PG X tg (gD X.K t)
def gNameD (i : Nat) : FT := fun d δ => R.when (decide (i < δ.length)) (.ok (δ.set i (.val d)))
theorem ptg_name {i : Nat} {x : Str} {pos : Pos} (hN : X.N.Nodup) (hi : X.N[i]? = some x) (hx : Loc X.env.scope x) (hf : X.fn x = true ∨ X.env.scope.names.lookup x = some .local := by first | exact .inl rfl | exact .inr rfl | assumption) : PTg X (.Name x pos) (gNameD i) :=
  (pg_name hN hi hx hf).imp fun v σ H Q ⟨Z, B, δ, d, δ', E, r, ht, q⟩ => by
    obtain ⟨hi, h⟩ := R.when_ok ht
    cases h
    exact q _ H (Same.refl H) (E.set (by rw [← E.len]; exact of_decide_eq_true hi) r) (List.length_set ..)
abbrev FTs := List D → DEnv → R DEnv
def gDs (K : PySem.W.Frag) (t : FTs) : TGs := fun vs σ H Q => ∃ Z B δ ds δ', EnvR K Z B H σ δ ∧ Reps K B H ds vs ∧ t ds δ = .ok δ' ∧ ∀ σ' H', Same H H' → EnvR K Z B H' σ' δ' → σ'.length = σ.length → Q σ' H'
abbrev PTgs (X : Cx) (ts : List Expr) (t : FTs) : Prop := PGs X ts (gDs X.K t)
theorem PGs.imp {X : Cx} {e : List Expr} {t t' : TGs} (h : PGs X e t) (w : ∀ v σ H Q, t' v σ H Q → t v σ H Q) : PGs X e t' := fun pins s σ H v u Q I r hq => h pins s σ H v u Q I r (w v σ H Q hq)
def gNilD : FTs := fun ds δ => match ds with | [] => .ok δ | _ => .no
def gConsD (t : FT) (u : FTs) : FTs := fun ds δ => match ds with | d :: r => (t d δ).bind fun δ' => u r δ' | [] => .no
theorem ptgs_nil : PTgs X [] gNilD := pgs_nil.imp fun vs σ H Q ⟨Z, B, δ, ds, δ', E, r, ht, q⟩ => by
  cases ds with
  | nil => unfold Reps at r; cases ht; exact ⟨r, q σ H (Same.refl H) E rfl⟩
  | cons => cases ht
theorem ptgs_cons {e : Expr} {es : List Expr} {t : FT} {u : FTs} (h1 : PTg X e t) (h2 : PTgs X es u) (hs : (assignEach (e :: es) X.env).map (·.2) = assign e X.env :: (assignEach es X.env).map (·.2) := by rfl) : PTgs X (e :: es) (gConsD t u) :=
  (pgs_cons h1 h2 hs).imp fun vs σ H Q ⟨Z, B, δ, ds, δ', E, r, ht, q⟩ => by
    cases ds with
    | nil => cases ht
    | cons d ds =>
      obtain ⟨x, xs, rfl, r1, r2⟩ := r.uncons
      obtain ⟨δ1, h1, h2⟩ := R.bind_ok ht
      exact ⟨x, xs, rfl, Z, B, δ, d, δ1, E, r1, h1, fun σ1 H1 s1 E1 l1 => ⟨Z, B, δ1, ds, δ', E1, r2.same s1, h2, fun σ2 H2 s2 E2 l2 => q σ2 H2 (s1.trans s2) E2 (l2.trans l1)⟩⟩
def gTupD (n : Nat) (t : FTs) : FT := fun d δ => match d with | .tup ds => R.when (decide (ds.length = n)) (t ds δ) | _ => .no
theorem ptg_tup {es : List Expr} {k : Nat} {t : FTs} {n : Nat} {pos : Pos} (hc : X.calm = true) (h : PTgs X es t) (hn : (assignEach es X.env).length = n := by rfl) (hst : (assignEach es X.env).findIdx? (·.1) = none := by rfl) : PTg X (.Tuple es k pos) (gTupD n t) :=
  (pg_tup hc h hn hst).imp fun v σ H Q ⟨Z, B, δ, d, δ', E, r, ht, q⟩ => by
    cases d with
    | tup ds =>
      unfold Rep at r
      obtain ⟨a, xs, rfl, l, r⟩ := r
      obtain ⟨hl, h⟩ := R.when_ok ht
      exact ⟨a, xs, rfl, l.sq, by rw [← r.length]; exact of_decide_eq_true hl, Z, B, δ, ds, δ', E, r, h, q⟩
    | _ => cases ht
/-- target = e -/
def sAsg (f : FD) (t : FT) : FS := fun δ => (f δ).bind fun d => (t d δ).bind fun δ' => .ok (.nx δ')
/-! what is walked -/
/-- J yields what shows ds, as long as what is not built stands still -/
def ItRep (K : PySem.W.Frag) (B : List Addr) (H : Hp) (J : It) (ds : List D) : Prop := ∀ B' H', Pres B H B' H' → (∀ (i : Nat) (d : D), ds[i]? = some d → J.go i H' ∧ ∀ x H'', J.yld i H' x H'' → (∀ a ∈ B', ∃ o, H' a = some o) → Same H' H'' ∧ Rep K B' H'' d x) ∧ J.stop ds.length H'
def iD (K : PySem.W.Frag) (f : DEnv → R (List D)) : TI := fun σ H R => ∃ Z B δ ds, EnvR K Z B H σ δ ∧ f δ = .ok ds ∧ ∀ J H1, Same H H1 → ItRep K B H1 J ds → R J H1
abbrev PIt (X : Cx) (tg e : Expr) (f : DEnv → R (List D)) : Prop := PI X tg e (iD X.K f)
def itSeq (f : FD) : DEnv → R (List D) := fun δ => (f δ).bind fun d => match d with | .lst ds => .ok ds | .tup ds => .ok ds | _ => .no
theorem pit_seq {tg e : Expr} {f : FD} (h : PD X e f) : PIt X tg e (itSeq f) := by
  intro pins s σ H RR I ⟨Z, B, δ, ds, E, hf, q⟩
  obtain ⟨d, h1, h2⟩ := R.bind_ok hf
  refine thn (h pins s σ H (fun v H1 => Same H H1 ∧ Rep X.K B H1 d v) I ⟨Z, B, δ, d, E, h1, fun v H1 s1 r1 => ⟨s1, r1⟩⟩) fun v s1 ⟨x, H1, I1, r1, ss, rr⟩ => ?_
  cases d with
  | lst es =>
    cases h2
    unfold Rep at rr
    obtain ⟨a, xs, rfl, l, rr⟩ := rr
    cases r1
    obtain ⟨its, rv, p, hz⟩ := I1.list l.sq
    refine wpAny_pyIter_list p.isList ?_
    refine ⟨s1.heap.objs.size, [s1.heap.objs.size], _, _, H1, rfl, I1.kept (t' := s1.toks) fun b o e => Heap.get?_push_of_some _ e, turn_list a _, ⟨_, Heap.get?_push_size _ rfl, rfl, rfl⟩, fun b hb => ?_, q _ H1 ss fun B' H' pr => ?_⟩
    · have e : b = s1.heap.objs.size := by simpa using hb
      subst e
      exact I1.fpOk (Nat.le_refl _) (I1.hok.fresh (Nat.le_refl _))
    · have l' : LsF X.K B' H' a xs := l.pres pr
      have rr' := rr.pres pr
      refine ⟨fun i d hd => ?_, ⟨xs, l'.sq, by rw [rr.length]; exact Nat.le_refl _⟩⟩
      obtain ⟨x, hx, rx⟩ := rr'.get hd
      exact ⟨⟨xs, x, l'.sq, hx⟩, fun y H'' ⟨e1, e2⟩ _ => by
        subst e1
        have := e2 xs l'.sq
        rw [hx] at this
        cases this
        exact ⟨Same.refl _, rx⟩⟩
  | tup es =>
    cases h2
    unfold Rep at rr
    obtain ⟨a, xs, rfl, l, rr⟩ := rr
    cases r1
    obtain ⟨its, rv, p, hz⟩ := I1.tuple l.sq
    refine wpAny_pyIter_tuple (show s1.heap.IsTuple a its.toArray from p) ?_
    refine ⟨s1.heap.objs.size, [s1.heap.objs.size], _, _, H1, rfl, I1.kept (t' := s1.toks) fun b o e => Heap.get?_push_of_some _ e, turn_tuple a _, ⟨_, Heap.get?_push_size _ rfl, rfl, rfl⟩, fun b hb => ?_, q _ H1 ss fun B' H' pr => ?_⟩
    · have e : b = s1.heap.objs.size := by simpa using hb
      subst e
      exact I1.fpOk (Nat.le_refl _) (I1.hok.fresh (Nat.le_refl _))
    · have l' : TpF X.K B' H' a xs := l.elim (fun z => .inl ⟨(pr.rd z.2 z.1).2, (pr.rd z.2 z.1).1⟩) .inr
      have rr' := rr.pres pr
      refine ⟨fun i d hd => ?_, ⟨xs, l'.sq, by rw [rr.length]; exact Nat.le_refl _⟩⟩
      obtain ⟨x, hx, rx⟩ := rr'.get hd
      exact ⟨⟨xs, x, l'.sq, hx⟩, fun y H'' ⟨e1, e2⟩ _ => by
        subst e1
        have := e2 xs l'.sq
        rw [hx] at this
        cases this
        exact ⟨Same.refl _, rx⟩⟩
  | _ => cases h2
def rngD (lo : Int) (n : Nat) : List D := (List.range n).map fun (i : Nat) => D.int (lo + i)
theorem rng_it {K : PySem.W.Frag} {B : List Addr} {H : Hp} (lo : Int) (n : Nat) : ItRep K B H (Itr lo n) (rngD lo n) := fun B' H' _ => by
  refine ⟨fun i d hd => ?_, ?_⟩
  · unfold rngD at hd
    rw [List.getElem?_map] at hd
    cases e : (List.range n)[i]? with
    | none => rw [e] at hd; cases hd
    | some j =>
      rw [e] at hd
      cases hd
      obtain ⟨hi, ej⟩ := List.getElem?_eq_some_iff.mp e
      rw [List.getElem_range] at ej
      subst ej
      rw [List.length_range] at hi
      exact ⟨hi, fun x H'' ⟨e1, e2⟩ _ => by subst e1 e2; exact ⟨Same.refl _, by unfold Rep; rfl⟩⟩
  · show n ≤ (rngD lo n).length
    unfold rngD
    rw [List.length_map, List.length_range]
    exact Nat.le_refl _
def itRng1 (f : FD) : DEnv → R (List D) := fun δ => (f δ).bind fun d => match d with | .int j => R.when (decide (-(2 ^ 62) ≤ j ∧ j < 2 ^ 62)) (.ok (rngD 0 j.toNat)) | _ => .no
theorem pit_range1 {tg a : Expr} {f : FD} {p pos : Pos} (h : PD X a f) (hg : Gl X "range") (hm : X.mg "range" = none) (hs : starEach [a] X.env = [(false, eval a X.env)] := by rfl) : PIt X tg (.Call (.Name "range" p) [a] [] pos) (itRng1 f) :=
  (pi_range1 hg hm (pa_cons h pa_nil hs) hs).imp fun σ H RR ⟨Z, B, δ, ds, E, hf, q⟩ => by
    obtain ⟨d, h1, h2⟩ := R.bind_ok hf
    cases d with
    | int j =>
      obtain ⟨hb, h3⟩ := R.when_ok h2
      cases h3
      have hb := of_decide_eq_true hb
      refine ⟨Z, B, δ, .int j, E, h1, fun v H1 s1 r1 => ⟨j, ?_, hb.1, hb.2, q _ H1 s1 (rng_it 0 _)⟩⟩
      unfold Rep at r1
      rw [r1]
    | _ => cases h2
def itRng2 (f g : FD) : DEnv → R (List D) := fun δ => (f δ).bind fun d => (g δ).bind fun e => match d, e with
  | .int i, .int j => R.when (decide (-(2 ^ 62) ≤ i ∧ i < 2 ^ 62 ∧ -(2 ^ 62) ≤ j ∧ j < 2 ^ 62)) (.ok (rngD i (j - i).toNat)) | _, _ => .no
/-! for -/
def loopD (t : FT) (body : FS) : List D → FS
  | [], δ => .ok (.nx δ)
  | d :: ds, δ => (t d δ).bind fun δ1 => (body δ1).bind fun o => match o with | .nx δ2 => loopD t body ds δ2 | .rt r => .ok (.rt r)
def sFor (it : DEnv → R (List D)) (t : FT) (body : FS) : FS := fun δ => (it δ).bind fun ds => loopD t body ds δ
theorem pds_for {tg iter : Expr} {body : List Stmt} {it : DEnv → R (List D)} {t : FT} {F : FS} {pos : Pos} (hp : PassesOwn (model X.prog X.w) X.A X.env X.xe) (hc : X.calm = true) (hi : PIt X tg iter it) (hg : PTg X tg t) (hb : PDss X body F)
    (hs : ∀ x, foldedSetIterable iter X.env x = pure x := by intro _; rfl) : PDs X (.For tg iter body [] pos) (sFor it t F) := (ps_for hp hc hi hg hb hs).imp fun D σ H ⟨Z, B, δ, o, E, hf, q⟩ => by
  obtain ⟨ds, h1, h2⟩ := R.bind_ok hf
  refine ⟨Z, B, δ, ds, E, h1, fun J H1 s1 ir => ?_⟩
  refine ⟨fun i m σ' H' => m = ds.length - i ∧ i ≤ ds.length ∧ ∃ B' δ', Ev Z B H1 B' H' ∧ EnvR X.K Z B' H' σ' δ' ∧ loopD t F (ds.drop i) δ' = .ok o, ⟨ds.length, rfl, Nat.zero_le _, B, δ, Ev.refl Z B H1 E.zb, E.same s1, by simpa using h2⟩, ?_⟩
  rintro i m σ' H' ⟨rfl, hi, B', δ', ev, E', hl⟩
  obtain ⟨go, stop⟩ := ir B' H' ev.pres
  by_cases hlt : i < ds.length
  · have hd : ds[i]? = some ds[i] := List.getElem?_eq_getElem hlt
    have hdrop : ds.drop i = ds[i] :: ds.drop (i + 1) := List.drop_eq_getElem_cons hlt
    rw [hdrop] at hl
    obtain ⟨δ1, h3, h4⟩ := R.bind_ok hl
    obtain ⟨o1, h5, h6⟩ := R.bind_ok h4
    obtain ⟨g1, g2⟩ := go i _ hd
    refine .inr ⟨g1, fun σ2 H2 => ∃ B2 δ2, Ev Z B H1 B2 H2 ∧ EnvR X.K Z B2 H2 σ2 δ2 ∧ loopD t F (ds.drop (i + 1)) δ2 = .ok o, fun σ2 H2 n => ⟨ds.length - (i + 1), by omega, rfl, hlt, n⟩, fun x H'' y => ?_⟩
    obtain ⟨ss, rr⟩ := g2 x H'' y E'.bs
    refine ⟨Z, B', δ', ds[i], δ1, E'.same ss, rr, h3, fun σ2 H2 s2 E2 l2 => ⟨Z, B', δ1, o1, E2, h5, ?_⟩⟩
    have ev2 : Ev Z B H1 B' H2 := ev.trans (Ev.same E'.zb (ss.trans s2))
    cases o1 with
    | nx δ2 => exact fun σ3 B3 H3 ev3 E3 => ⟨B3, δ2, ev2.trans ev3, E3, h6⟩
    | rt d =>
      cases h6
      exact fun v B3 H3 ev3 z r => q v B3 H3 ((Ev.same E.zb s1).trans (ev2.trans ev3)) z r
  · have e : i = ds.length := by omega
    subst e
    rw [List.drop_length] at hl
    cases hl
    exact .inl ⟨stop, q σ' B' H' ((Ev.same E.zb s1).trans ev) E'⟩
/-! while, by fuel -/
def whileD (c : DEnv → R Bool) (body : FS) : Nat → FS
  | 0, _ => .no
  | n + 1, δ => (c δ).bind fun b => if b then (body δ).bind fun o => match o with | .nx δ2 => whileD c body n δ2 | .rt r => .ok (.rt r) else .ok (.nx δ)
def sWhile (n : Nat) (c : DEnv → R Bool) (body : FS) : FS := fun δ => whileD c body n δ
/-! comprehensions -/
def keepD (δ : DEnv) (i : Nat) : Sl := match δ[i]? with | some (.val d) => .val d | _ => .un
def cEnv (own : List Str) (kp : List Nat) (δ : DEnv) : DEnv := List.replicate own.length .un ++ kp.map (keepD δ)
def compL (t : FT) (c : DEnv → R Bool) (f : FD) (δ : DEnv) : List D → R (List D)
  | [] => .ok []
  | d :: ds => (t d δ).bind fun δ1 => (c δ1).bind fun b => if b then (f δ1).bind fun y => (compL t c f δ ds).bind fun ys => .ok (y :: ys) else compL t c f δ ds
def nComp (it : DEnv → R (List D)) (t : FT) (c : DEnv → R Bool) (f : FD) (own : List Str) (kp : List Nat) : DEnv → R (List D) := fun δ => (it δ).bind fun ds => R.when (decide (ds.length ≤ sizeLine)) (compL t c f (cEnv own kp δ) ds)
theorem cEnv_r {K : PySem.W.Frag} {Z B B' : List Addr} {H H' : Hp} {σ : St} {δ : DEnv} {own : List Str} {kp : List Nat} (E : EnvR K Z B H σ δ) (p : Pres B H B' H') (hB : ∀ a ∈ B', ∃ o, H' a = some o) : EnvR K [] B' H' (cStart own kp σ) (cEnv own kp δ) where
  len := by unfold cStart cEnv; simp
  bs := hB
  zb := fun a ha => by cases ha
  val := fun i d e => by
    unfold cEnv at e
    unfold cStart
    by_cases hi : i < own.length
    · rw [List.getElem?_append_left (by simpa using hi), List.getElem?_replicate] at e
      split at e <;> cases e
    · rw [List.getElem?_append_right (by simpa using hi), List.length_replicate, List.getElem?_map] at e ⊢
      cases q : kp[i - own.length]? with
      | none => rw [q] at e; cases e
      | some j =>
        rw [q] at e
        have e : keepD δ j = .val d := Option.some.inj e
        unfold keepD at e
        split at e
        · rename_i d' ed
          cases e
          obtain ⟨v, h1, h2⟩ := E.val j d ed
          exact ⟨v, by simp [h1], h2.pres p⟩
        · cases e
  bld := fun i ds e => by
    unfold cEnv at e
    by_cases hi : i < own.length
    · rw [List.getElem?_append_left (by simpa using hi), List.getElem?_replicate] at e
      split at e <;> cases e
    · rw [List.getElem?_append_right (by simpa using hi), List.length_replicate, List.getElem?_map] at e
      cases q : kp[i - own.length]? with
      | none => rw [q] at e; cases e
      | some j =>
        rw [q] at e
        have e : keepD δ j = .bld ds := Option.some.inj e
        unfold keepD at e
        split at e <;> cases e
  dis := fun i j a ds es e => by
    unfold cEnv at e
    by_cases hi : i < own.length
    · rw [List.getElem?_append_left (by simpa using hi), List.getElem?_replicate] at e
      split at e <;> cases e
    · rw [List.getElem?_append_right (by simpa using hi), List.length_replicate, List.getElem?_map] at e
      cases q : kp[i - own.length]? with
      | none => rw [q] at e; cases e
      | some j =>
        rw [q] at e
        have e : keepD δ j = .bld ds := Option.some.inj e
        unfold keepD at e
        split at e <;> cases e
theorem nComp_r {K : PySem.W.Frag} {it : DEnv → R (List D)} {t : FT} {c : DEnv → R Bool} {f : FD} {own : List Str} {kp : List Nat} {σ : St} {H : Hp} {Q : VK} (h : tN K (nComp it t c f own kp) σ H Q) :
    tComp (iD K it) (gD K t) (tTD K c) (tD K f) own kp σ H Q := by
  obtain ⟨Z, B, δ, ds, E, hf, q⟩ := h
  obtain ⟨es, h1, h2⟩ := R.bind_ok hf
  obtain ⟨hl, h3⟩ := R.when_ok h2
  have hl := of_decide_eq_true hl
  refine ⟨Z, B, δ, es, E, h1, fun J H1 s1 ir Dd hD => ?_⟩
  have E1 := E.same s1
  have pD : Pres B H1 (Dd :: B) (upd H1 Dd (.lst [])) := pres_new hD
  refine ⟨fun i m ys H' => m = es.length - i ∧ i ≤ es.length ∧ ys.length ≤ i ∧ H' Dd = some (.lst ys) ∧ Same H1 H' ∧ ∃ done rest, ds = done ++ rest ∧ Reps K (Dd :: B) H' done ys ∧ compL t c f (cEnv own kp δ) (es.drop i) = .ok rest,
    ⟨es.length, rfl, Nat.zero_le _, Nat.le_refl _, upd_same, same_upd hD, [], ds, rfl, Reps.nil, by simpa using h3⟩, ?_⟩
  rintro i m ys H' ⟨rfl, hi, hy, hDl, ss, done, rest, rfl, rd, hc⟩
  have dB : Dd ∉ B := fun hb => by obtain ⟨o, ho⟩ := E1.bs Dd hb; rw [hD] at ho; cases ho
  have p' : Pres B H1 (Dd :: B) H' := fun b o e nb => ⟨ss b o e, fun hb => by
    rcases List.mem_cons.mp hb with z | z
    · exact ne_of_none e hD z
    · exact nb z⟩
  have hB' : ∀ a ∈ Dd :: B, ∃ o, H' a = some o := fun a ha => by
    rcases List.mem_cons.mp ha with z | z
    · subst z; exact ⟨_, hDl⟩
    · obtain ⟨o, ho⟩ := E1.bs a z; exact ⟨o, ss a o ho⟩
  obtain ⟨go, stop⟩ := ir (Dd :: B) H' p'
  by_cases hlt : i < es.length
  · have hd : es[i]? = some es[i] := List.getElem?_eq_getElem hlt
    have hdrop : es.drop i = es[i] :: es.drop (i + 1) := List.drop_eq_getElem_cons hlt
    rw [hdrop] at hc
    obtain ⟨δ1, h4, h5⟩ := R.bind_ok hc
    obtain ⟨b, h6, h7⟩ := R.bind_ok h5
    obtain ⟨g1, g2⟩ := go i _ hd
    refine .inr ⟨g1, fun x H2 y => ?_⟩
    obtain ⟨sy, ry⟩ := g2 x H2 y hB'
    have Ec : EnvR K [] (Dd :: B) H2 (cStart own kp σ) (cEnv own kp δ) := cEnv_r E1 (p'.trans (Pres.same sy)) fun a ha => let ⟨o, ho⟩ := hB' a ha; ⟨o, sy a o ho⟩
    refine ⟨[], Dd :: B, cEnv own kp δ, es[i], δ1, Ec, ry, h4, fun σ3 H3 s3 E3 _ => ⟨[], Dd :: B, δ1, b, E3, h6, fun H4 s4 => ?_⟩⟩
    have sAll : Same H' H4 := sy.trans (s3.trans s4)
    cases b with
    | true =>
      rw [if_pos rfl] at h7
      refine iteT ?_
      obtain ⟨yv, h8, h9⟩ := R.bind_ok h7
      obtain ⟨rs, h10, h11⟩ := R.bind_ok h9
      cases h11
      refine ⟨[], Dd :: B, δ1, yv, E3.same s4, h8, fun v H5 s5 r5 => ?_⟩
      have s' : Same H' H5 := sAll.trans s5
      have hD5 : H5 Dd = some (.lst ys) := s' Dd _ hDl
      have pu : Pres (Dd :: B) H5 (Dd :: B) (upd H5 Dd (.lst (ys ++ [v]))) := fun b o e nb => ⟨by rw [upd_ne (fun (z : b = Dd) => nb (by rw [z]; exact List.mem_cons_self))]; exact e, nb⟩
      refine ⟨hD5, by omega, es.length - (i + 1), by omega, rfl, hlt, by rw [List.length_append, List.length_singleton]; omega, upd_same, fun b o e => ?_, done ++ [yv], rs, by simp, ((rd.same s').append (Reps.cons r5 Reps.nil)).pres pu, h10⟩
      rw [upd_ne (ne_of_none e hD)]
      exact s' b o (ss b o e)
    | false =>
      rw [if_neg (by decide)] at h7
      refine iteF ?_
      exact ⟨es.length - (i + 1), by omega, rfl, hlt, by omega, sAll Dd _ hDl, ss.trans sAll, done, rest, rfl, rd.same sAll, h7⟩
  · have e : i = es.length := by omega
    subst e
    rw [List.drop_length] at hc
    cases hc
    rw [List.append_nil] at q
    exact .inl ⟨stop, q Dd ys H' (s1.trans ss) (s1.free hD) hDl rd⟩
theorem pn_comp {scope : Scope} {own : List Str} {kp : List Nat} {kn : List Str} {tg iter elt : Expr} {ifs : List Expr} {it : DEnv → R (List D)} {t : FT} {c : DEnv → R Bool} {f : FD} {pos : Pos} (hc : X.calm = true) (C : CScope X scope own kp kn) (hi : PIt X tg iter it)
    (hg : ∀ fp s H, PTg (cxComp X scope (own ++ kn) fp s H) tg t) (hif : ∀ fp s H, PIfs (cxComp X scope (own ++ kn) fp s H) ifs (tTD X.K c)) (he : ∀ fp s H, PD (cxComp X scope (own ++ kn) fp s H) elt f)
    (hs : ∀ x, foldedSetIterable iter X.env x = pure x := by intro _; rfl) : PN X (.ListComp elt [⟨tg, iter, ifs, 0⟩] scope pos) (nComp it t c f own kp) :=
  (pe_comp hc C hi hg hif he hs).imp fun σ H Q h => nComp_r h
def cYes : DEnv → R Bool := fun _ => .ok true
theorem pifs_yes : PIfs X [] (tTD X.K cYes) := fun pins s σ H Q I ⟨Z, B, δ, b, E, hf, q⟩ => pifs_nil pins s σ H Q I (by cases hf; exact q H (Same.refl H))
/-- name = [..] where the name is a plain local -/
theorem pds_setComp {i : Nat} {x : Str} {pos' spos : Pos} {scope : Scope} {own : List Str} {kp : List Nat} {kn : List Str} {tg iter elt : Expr} {ifs : List Expr} {it : DEnv → R (List D)} {t : FT} {c : DEnv → R Bool} {f : FD} {pos : Pos} (hc : X.calm = true)
    (hN : X.N.Nodup) (hx : X.N[i]? = some x) (hxl : X.env.scope.names.lookup x = some .local) (C : CScope X scope own kp kn) (hi : PIt X tg iter it)
    (hg : ∀ fp s H, PTg (cxComp X scope (own ++ kn) fp s H) tg t) (hif : ∀ fp s H, PIfs (cxComp X scope (own ++ kn) fp s H) ifs (tTD X.K c)) (he : ∀ fp s H, PD (cxComp X scope (own ++ kn) fp s H) elt f)
    (hsw : swapsWith (.ListComp elt [⟨tg, iter, ifs, 0⟩] scope pos) (some (.Name x pos')) spos.line X.env = pure true := by rfl)
    (hs : ∀ x, foldedSetIterable iter X.env x = pure x := by intro _; rfl) : PDs X (.Assign [.Name x pos'] (.ListComp elt [⟨tg, iter, ifs, 0⟩] scope pos) spos) (sSet i (eNew (nComp it t c f own kp))) :=
  (ps_setComp hc hN hx hxl C hi hg hif he hsw hs).imp fun D σ H h => by
    have h1 := sSet_r h
    obtain ⟨Z, B, δ, d, E, hf, q⟩ := h1
    obtain ⟨ds, h2, h3⟩ := R.bind_ok hf
    cases h3
    refine nComp_r ⟨Z, B, δ, ds, E, h2, fun a xs H' s n e r => q _ H' s ?_⟩
    unfold Rep
    refine ⟨a, xs, rfl, .inl ⟨fun ha => ?_, .inl e⟩, r.pres fun b o e nb => ⟨e, fun hb => nb (List.mem_cons_of_mem _ hb)⟩⟩
    obtain ⟨o, ho⟩ := E.bs a ha
    rw [n] at ho; cases ho
end

/-! defs -/
def dStart (N : List Str) (ds : List D) : DEnv := ds.map .val ++ List.replicate (N.length - ds.length) .un
def fnD (N : List Str) (F : FS) : List D → R D := fun ds => (F (dStart N ds)).bind fun o => match o with | .rt d => .ok d | .nx _ => .ok .non
theorem start_r {K : PySem.W.Frag} {B : List Addr} {H : Hp} {N : List Str} {ds : List D} {vs : List V} (hB : ∀ a ∈ B, ∃ o, H a = some o) (r : Reps K B H ds vs) : EnvR K B B H (start N vs) (dStart N ds) where
  len := by unfold start dStart; simp [r.length]
  bs := hB
  zb := fun a ha => ha
  val := fun i d e => by
    unfold dStart at e
    unfold start
    by_cases hi : i < ds.length
    · rw [List.getElem?_append_left (by simpa using hi), List.getElem?_map] at e
      cases q : ds[i]? with
      | none => rw [q] at e; cases e
      | some d' =>
        rw [q] at e
        cases e
        obtain ⟨x, h1, h2⟩ := r.get q
        exact ⟨x, by rw [List.getElem?_append_left (by rw [List.length_map, ← r.length]; exact hi), List.getElem?_map, h1]; rfl, h2⟩
    · rw [List.getElem?_append_right (by simpa using hi), List.getElem?_replicate] at e
      split at e <;> cases e
  bld := fun i es e => by
    unfold dStart at e
    by_cases hi : i < ds.length
    · rw [List.getElem?_append_left (by simpa using hi), List.getElem?_map] at e
      cases q : ds[i]? with
      | none => rw [q] at e; cases e
      | some d' => rw [q] at e; cases e
    · rw [List.getElem?_append_right (by simpa using hi), List.getElem?_replicate] at e
      split at e <;> cases e
  dis := fun i j a es fs e => by
    unfold dStart at e
    by_cases hi : i < ds.length
    · rw [List.getElem?_append_left (by simpa using hi), List.getElem?_map] at e
      cases q : ds[i]? with
      | none => rw [q] at e; cases e
      | some d' => rw [q] at e; cases e
    · rw [List.getElem?_append_right (by simpa using hi), List.getElem?_replicate] at e
      split at e <;> cases e
/-- THE RULE for a pure def -/
theorem fn_pure {P : Program} {w : World} {K : PySem.W.Frag} {mg : Str → Option Value} {base : Heap} {x qual : Str} {st : Stmt} {f : Addr} {fd : FuncData} {N ps : List Str} {k : Nat} {F : FS} (Fn : Fun K x qual st f fd) (S : FnScope N ps (defScope st))
    (hbody : ∀ (cdv : Value) (A : Around) (outer : List Env) (s : Shared) (H : Hp) (E : XK), Room k (A.deeper (envOfC qual (defScope st) s.heap.objs.size f cdv)) →
      PDss (cxOf CX0 P w K mg base N qual (defScope st) f cdv A outer s H E).nox (defBody st) F) : FnOk P w K mg base CX0 (k + 1) f fd ps (spD K ps.length (fnD N F)) := by
  refine Fn.ok S (fun vs H Q E h => h.1) (fun cdv A outer s H vs Q E hr h => ⟨_, hbody cdv A outer s H E hr, ?_⟩)
  obtain ⟨_, B, ds, d, hB, r, hg, q⟩ := h
  obtain ⟨o, h1, h2⟩ := R.bind_ok hg
  refine ⟨B, B, dStart N ds, o, start_r hB r, h1, ?_⟩
  have sm : ∀ {B' : List Addr} {H' : Hp}, Ev B B H B' H' → Same H H' := fun {B' H'} ev b u e => by
    by_cases hb : b ∈ B
    · exact (ev.zs b u e hb).1
    · exact (ev.pres b u e hb).1
  cases o with
  | nx δ' =>
    cases h2
    exact fun σ' B' H' ev _ => q _ H' (sm ev) (by unfold Rep; rfl)
  | rt d' =>
    cases h2
    exact fun v B' H' ev z rr => q v H' (sm ev) (rr.pres fun b o e nb => ⟨e, fun hb => nb (z b hb)⟩)
end L2

end
section
set_option maxRecDepth 100000
set_option maxHeartbeats 4000000
/-! ## THE DATUM LAYER: operations (own) -/
namespace L2
open PySem PySem.Spec PyProof.Rows

theorem Rep.int {K : PySem.W.Frag} {B : List Addr} {H : Hp} {i : Int} {v : V} : Rep K B H (.int i) v ↔ v = .int i := by unfold Rep; exact Iff.rfl
theorem Rep.bl {K : PySem.W.Frag} {B : List Addr} {H : Hp} {i : Bool} {v : V} : Rep K B H (.bl i) v ↔ v = .bl i := by unfold Rep; exact Iff.rfl
theorem Rep.str {K : PySem.W.Frag} {B : List Addr} {H : Hp} {i : Str} {v : V} : Rep K B H (.str i) v ↔ v = .str i := by unfold Rep; exact Iff.rfl
theorem Rep.non {K : PySem.W.Frag} {B : List Addr} {H : Hp} {v : V} : Rep K B H .non v ↔ v = .non := by unfold Rep; exact Iff.rfl
theorem Rep.lst {K : PySem.W.Frag} {B : List Addr} {H : Hp} {ds : List D} {v : V} : Rep K B H (.lst ds) v ↔ ∃ a xs, v = .ref a ∧ LsF K B H a xs ∧ Reps K B H ds xs := by rw [Rep]
theorem Rep.tup {K : PySem.W.Frag} {B : List Addr} {H : Hp} {ds : List D} {v : V} : Rep K B H (.tup ds) v ↔ ∃ a xs, v = .ref a ∧ TpF K B H a xs ∧ Reps K B H ds xs := by rw [Rep]

section
variable {X : Cx}
theorem OpD.of {f : Value → Value → Sem Value} {r : R2} {g : D → D → R D} (h : OpR X f r)
    (w : ∀ (B : List Addr) (H : Hp) (da db d : D) (x y : V) (Q : VK), (∀ a ∈ B, ∃ o, H a = some o) → Rep X.K B H da x → Rep X.K B H db y → g da db = .ok d → (∀ z H', Same H H' → Rep X.K B H' d z → Q z H') → r x y H Q) : OpD X f g := by
  intro pins s σ H B da db d x y v u I hb rx ry ra rb hg
  exact h pins s σ H x y v u _ I rx ry (w B H da db d x y _ hb ra rb hg fun z H' s1 r1 => ⟨s1, r1⟩)
theorem CallD.of {f : Value} {r : List V → Hp → VK → Prop} {g : List D → R D} (h : CallR X f r)
    (w : ∀ (B : List Addr) (H : Hp) (ds : List D) (d : D) (xs : List V) (Q : VK), (∀ a ∈ B, ∃ o, H a = some o) → Reps X.K B H ds xs → g ds = .ok d → (∀ z H', Same H H' → Rep X.K B H' d z → Q z H') → r xs H Q) : CallD X f g := by
  intro pins s σ H B ds d xs us I hb rx rs hg
  exact h pins s σ H xs us _ I rx (w B H ds d xs _ hb rs hg fun z H' s1 r1 => ⟨s1, r1⟩)
theorem CallD.or {f : Value} {g g1 g2 : List D → R D} (h1 : CallD X f g1) (h2 : CallD X f g2) (e : ∀ a d, g a = .ok d → g1 a = .ok d ∨ g2 a = .ok d) : CallD X f g := by
  intro pins s σ H B ds d xs us I hb rx rs hg
  rcases e ds d hg with q | q
  · exact h1 pins s σ H B ds d xs us I hb rx rs q
  · exact h2 pins s σ H B ds d xs us I hb rx rs q

/-! ints -/
def dII (C : Int → Int → Bool) (g : Int → Int → Int) : D → D → R D
  | .int i, .int j => R.when (C i j) (.ok (.int (g i j)))
  | _, _ => .no
theorem op_II {f : Value → Value → Sem Value} {C : Int → Int → Bool} {Cp : Int → Int → Prop} {g : Int → Int → Int} (h : OpR X f (rI Cp fun i j => .int (g i j))) (hc : ∀ i j, C i j = true → Cp i j) : OpD X f (dII C g) :=
  OpD.of h fun B H da db d x y Q _ ra rb hg q => by
    unfold dII at hg
    split at hg
    · obtain ⟨h1, h2⟩ := R.when_ok hg
      cases h2
      exact ⟨_, _, Rep.int.mp ra, Rep.int.mp rb, hc _ _ h1, q _ H (Same.refl H) (Rep.int.mpr rfl)⟩
    · cases hg
def dII0 (g : Int → Int → Int) : D → D → R D
  | .int i, .int j => .ok (.int (g i j))
  | _, _ => .no
theorem op_II0 {f : Value → Value → Sem Value} {g : Int → Int → Int} (h : OpR X f (rI0 fun i j => .int (g i j))) : OpD X f (dII0 g) :=
  OpD.of h fun B H da db d x y Q _ ra rb hg q => by
    unfold dII0 at hg
    split at hg
    · cases hg
      exact ⟨_, _, Rep.int.mp ra, Rep.int.mp rb, q _ H (Same.refl H) (Rep.int.mpr rfl)⟩
    · cases hg
def dIB (g : Int → Int → Bool) : D → D → R D
  | .int i, .int j => .ok (.bl (g i j))
  | _, _ => .no
theorem op_IB {f : Value → Value → Sem Value} {g : Int → Int → Bool} (h : OpR X f (rI0 fun i j => .bl (g i j))) : OpD X f (dIB g) :=
  OpD.of h fun B H da db d x y Q _ ra rb hg q => by
    unfold dIB at hg
    split at hg
    · cases hg
      exact ⟨_, _, Rep.int.mp ra, Rep.int.mp rb, q _ H (Same.refl H) (Rep.bl.mpr rfl)⟩
    · cases hg
abbrev dSub : D → D → R D := dII0 fun i j => i - j
theorem o_sub : OpD X (binaryOp .Sub) dSub := op_II0 op_sub
abbrev dFdiv : D → D → R D := dII (fun _ j => decide (0 < j ∧ j < 1073741824)) fun i j => i / j
abbrev dMod : D → D → R D := dII (fun _ j => decide (0 < j)) fun i j => i % j
theorem o_mod : OpD X (binaryOp .Mod) dMod := op_II op_mod fun i j h => of_decide_eq_true h
abbrev dPow : D → D → R D := dII (fun i j => decide (0 ≤ j ∧ j ≤ 1000000 ∧ i.natAbs < 2 ^ 64)) fun i j => i ^ j.toNat
theorem o_pow : OpD X (binaryOp .Pow) dPow := op_II op_pow fun i j h => (of_decide_eq_true h : 0 ≤ j ∧ j ≤ 1000000 ∧ i.natAbs < 2 ^ 64)
abbrev dShr : D → D → R D := dII (fun _ j => decide (0 ≤ j)) fun i j => i / 2 ^ j.toNat
abbrev dBa : D → D → R D := dII0 fun i j => Builtin.bitAnd i j
theorem o_ba : OpD X (binaryOp .BitAnd) dBa := op_II0 op_and
abbrev dBo : D → D → R D := dII0 fun i j => Builtin.bitOr i j
theorem o_bo : OpD X (binaryOp .BitOr) dBo := op_II0 op_or
abbrev dBx : D → D → R D := dII0 fun i j => Builtin.bitXor i j
theorem o_bx : OpD X (binaryOp .BitXor) dBx := op_II0 op_xor
abbrev dLt : D → D → R D := dIB fun i j => decide (i < j)
theorem o_lt : OpD X (compareOp .Lt) dLt := op_IB op_lt
abbrev dLe : D → D → R D := dIB fun i j => decide (i ≤ j)
abbrev dGt : D → D → R D := dIB fun i j => decide (j < i)
theorem o_gt : OpD X (compareOp .Gt) dGt := op_IB op_gt
abbrev dGe : D → D → R D := dIB fun i j => decide (j ≤ i)
theorem o_ge : OpD X (compareOp .GtE) dGe := op_IB op_ge

/-! + * -/
theorem LsF.of_new {K : PySem.W.Frag} {B : List Addr} {H : Hp} {a : Addr} {xs : List V} (h : H a = some (.lst xs)) (n : a ∉ B) : LsF K B H a xs := .inl ⟨n, .inl h⟩
theorem Inv.rdL {pins : List (Addr × Obj)} {σ : St} {H : Hp} {s : Shared} {a : Addr} {xs : List V} {B : List Addr} (I : Inv X pins σ H s) (h : LsF X.K B H a xs) : ∃ (its : List Value) (n : Nat), Vals xs its ∧ s.heap.get? a = some { cls := .type "list", data := .seq its.toArray n } ∧ xs.length ≤ sizeLine := by
  rcases h with ⟨_, h⟩ | ⟨its, n, hk, hz, r⟩
  · obtain ⟨z, its, n, r, e⟩ := h.ok I.hok
    exact ⟨its, n, r, e, z⟩
  · exact ⟨its, n, r, I.kIn a _ hk, hz⟩
theorem op_catS : OpR X (binaryOp .Add) (fun x y H Q => ∃ B l b xs zs, x = .ref l ∧ y = .ref b ∧ LsF X.K B H l xs ∧ LsF X.K B H b zs ∧ xs.length + zs.length ≤ sizeLine ∧ ∀ p, H p = none → Q (.ref p) (upd H p (.lst (xs ++ zs)))) := by
  intro pins s σ H x y v u Q I rx ry h
  obtain ⟨B, l, b, xs, zs, rfl, rfl, hH, hB, hz, q⟩ := h
  cases rx
  cases ry
  obtain ⟨its, n, r, e, _⟩ := I.rdL hH
  obtain ⟨its2, n2, r2, e2, _⟩ := I.rdL hB
  have l1 := r.length
  have l2 := r2.length
  refine PySem.P.add_list e e2 ?_ (by rw [List.size_toArray, List.size_toArray]; omega)
  have ea : its.toArray ++ its2.toArray = (its ++ its2).toArray := by simp
  rw [ea]
  exact ⟨.ref _, _, I.lnew (t' := s.toks) (r.append r2) (by rw [List.length_append]; omega), rfl, q _ I.fresh⟩
def dAdd : D → D → R D
  | .int i, .int j => .ok (.int (i + j))
  | .str a, .str b => R.when (decide (a.length + b.length ≤ sizeLine)) (.ok (.str (a ++ b)))
  | .lst a, .lst b => R.when (decide (a.length + b.length ≤ sizeLine)) (.ok (.lst (a ++ b)))
  | _, _ => .no
theorem o_add : OpD X (binaryOp .Add) dAdd := by
  intro pins s σ H B da db d x y v u I hb rx ry ra rb hg
  unfold dAdd at hg
  split at hg
  · cases hg
    exact op_add pins s σ H x y v u _ I rx ry ⟨_, _, Rep.int.mp ra, Rep.int.mp rb, Same.refl H, Rep.int.mpr rfl⟩
  · obtain ⟨h1, h2⟩ := R.when_ok hg
    cases h2
    exact op_add_str pins s σ H x y v u _ I rx ry ⟨_, _, Rep.str.mp ra, Rep.str.mp rb, of_decide_eq_true h1, Same.refl H, Rep.str.mpr rfl⟩
  · obtain ⟨h1, h2⟩ := R.when_ok hg
    cases h2
    obtain ⟨a1, xs1, rfl, l1, r1⟩ := Rep.lst.mp ra
    obtain ⟨a2, xs2, rfl, l2, r2⟩ := Rep.lst.mp rb
    refine op_catS pins s σ H _ _ v u _ I rx ry ⟨B, a1, a2, xs1, xs2, rfl, rfl, l1, l2, by rw [← r1.length, ← r2.length]; exact of_decide_eq_true h1, fun p hp => ⟨same_upd hp, Rep.lst.mpr ⟨p, _, rfl, .of_new upd_same fun ha => ?_, (r1.append r2).same (same_upd hp)⟩⟩⟩
    obtain ⟨o, ho⟩ := hb p ha
    rw [hp] at ho; cases ho
  · cases hg
theorem op_mulS : OpR X (binaryOp .Mult) (fun x y H Q => ∃ z n, x = .str z ∧ y = .int n ∧ MulOk z n ∧ Q (.str (Txt.mul z n)) H) := by
  intro pins s σ H x y v u Q I rx ry h
  obtain ⟨z, n, rfl, rfl, hm, q⟩ := h
  obtain ⟨t, rfl⟩ := rx
  obtain ⟨t', rfl⟩ := ry
  exact SB.mul hm fun t2 k => ⟨.str _, H, I.tok _, ⟨_, rfl⟩, q⟩
end
end L2

end
section
set_option maxRecDepth 100000
set_option maxHeartbeats 4000000
/-! ## THE DATUM LAYER: more operations (own) -/
namespace L2
open PySem PySem.Spec PyProof.Rows

section
variable {X : Cx}
/-! * -/
theorem mulOk_of {x : Str} {n : Int} (h1 : -(2 ^ 63) ≤ n) (h2 : n < 2 ^ 63) (h3 : x.length * n.toNat ≤ sizeLine) : MulOk x n := by
  refine ⟨by simp only [Bool.or_eq_false_iff, decide_eq_false_iff_not]; omega, fun hn _ => ?_, fun hn _ => ?_⟩
  · have hz : sizeLine = 16777216 := sizeLine_eq
    have e : (n.toNat : Int) = n := by omega
    have h4 : (x.length : Int) * n ≤ 16777216 := by
      have : ((x.length * n.toNat : Nat) : Int) ≤ ((16777216 : Nat) : Int) := Int.ofNat_le.mpr (by omega)
      rw [Int.natCast_mul, e] at this
      exact this
    have : (x.length : Int) ≤ (2 ^ 63 - 1) / n := (Int.le_ediv_iff_mul_le (by omega)).mpr (by omega)
    omega
  · unfold Builtin.Str.tooLong; exact decide_eq_false (by omega)
def dMul : D → D → R D
  | .int i, .int j => R.when (decide ((-(2 ^ 64) < i ∧ i < 2 ^ 64) ∨ (-(2 ^ 64) < j ∧ j < 2 ^ 64))) (.ok (.int (i * j)))
  | .str x, .int n => R.when (decide (-(2 ^ 63) ≤ n ∧ n < 2 ^ 63 ∧ x.length * n.toNat ≤ sizeLine)) (.ok (.str (Txt.mul x n)))
  | _, _ => .no
theorem o_mul : OpD X (binaryOp .Mult) dMul := by
  intro pins s σ H B da db d x y v u I hb rx ry ra rb hg
  unfold dMul at hg
  split at hg
  · obtain ⟨h1, h2⟩ := R.when_ok hg
    cases h2
    have h1 := of_decide_eq_true h1
    exact op_mul pins s σ H x y v u _ I rx ry ⟨_, _, Rep.int.mp ra, Rep.int.mp rb, h1, Same.refl H, Rep.int.mpr rfl⟩
  · obtain ⟨h1, h2⟩ := R.when_ok hg
    cases h2
    have h1 := of_decide_eq_true h1
    exact op_mulS pins s σ H x y v u _ I rx ry ⟨_, _, Rep.str.mp ra, Rep.int.mp rb, mulOk_of h1.1 h1.2.1 h1.2.2, Same.refl H, Rep.str.mpr rfl⟩
  · cases hg

/-! == != -/
mutual
def toPy : D → PyData
  | .non => .none
  | .bl b => .bool b
  | .int i => .int i
  | .str x => .str x
  | .lst ds => .list (toPys ds)
  | .tup ds => .tuple (toPys ds)
  | .dct _ _ => .dict []
def toPys : List D → List PyData
  | [] => []
  | d :: ds => toPy d :: toPys ds
end
mutual
def plainD : D → Bool
  | .dct _ _ => false
  | .lst ds => plainDs ds
  | .tup ds => plainDs ds
  | _ => true
def plainDs : List D → Bool
  | [] => true
  | d :: ds => plainD d && plainDs ds
end
mutual
theorem Rep.reads {pins : List (Addr × Obj)} {σ : St} {H : Hp} {s : Shared} {B : List Addr} (I : Inv X pins σ H s) : ∀ {d : D} {v : V} {u : Value}, plainD d = true → Rep X.K B H d v → RelV v u → ∃ as, Reads s.heap u (toPy d) as
  | .non, v, u, _, r, q => by rw [Rep.non.mp r] at q; cases q; unfold toPy; exact ⟨_, .none⟩
  | .bl b, v, u, _, r, q => by rw [Rep.bl.mp r] at q; cases q; unfold toPy; exact ⟨_, .bool b⟩
  | .int i, v, u, _, r, q => by rw [Rep.int.mp r] at q; obtain ⟨t, rfl⟩ := q; unfold toPy; exact ⟨_, .int i t⟩
  | .str x, v, u, _, r, q => by rw [Rep.str.mp r] at q; obtain ⟨t, rfl⟩ := q; unfold toPy; exact ⟨_, .str x t⟩
  | .lst ds, v, u, hp, r, q => by
    obtain ⟨a, xs, rfl, l, rs⟩ := Rep.lst.mp r
    cases q
    obtain ⟨its, rv, ⟨o, n, e, hc, hd, he⟩, _⟩ := I.list l.sq
    obtain ⟨as, ra⟩ := Reps.reads I (by unfold plainD at hp; exact hp) rs rv
    unfold toPy
    exact ⟨_, .list e hc he (by simpa using ra)⟩
  | .tup ds, v, u, hp, r, q => by
    obtain ⟨a, xs, rfl, l, rs⟩ := Rep.tup.mp r
    cases q
    obtain ⟨its, rv, ⟨o, e, hc, n, hd⟩, _⟩ := I.tuple l.sq
    obtain ⟨as, ra⟩ := Reps.reads I (by unfold plainD at hp; exact hp) rs rv
    unfold toPy
    exact ⟨_, .tuple e hc hd (by simpa using ra)⟩
  | .dct _ _, v, u, hp, r, q => by unfold plainD at hp; cases hp
theorem Reps.reads {pins : List (Addr × Obj)} {σ : St} {H : Hp} {s : Shared} {B : List Addr} (I : Inv X pins σ H s) : ∀ {ds : List D} {vs : List V} {us : List Value}, plainDs ds = true → Reps X.K B H ds vs → Vals vs us → ∃ as, ReadsAll s.heap us (toPys ds) as
  | [], vs, us, _, r, q => by unfold Reps at r; subst r; cases q; unfold toPys; exact ⟨_, .nil⟩
  | d :: ds, vs, us, hp, r, q => by
    obtain ⟨x, xs, rfl, r1, r2⟩ := r.uncons
    cases q with
    | cons q1 q2 =>
      unfold plainDs at hp
      obtain ⟨h1, h2⟩ := Bool.and_eq_true_iff.mp hp
      obtain ⟨as, a1⟩ := Rep.reads I h1 r1 q1
      obtain ⟨bs, a2⟩ := Reps.reads I h2 r2 q2
      unfold toPys
      exact ⟨_, .cons a1 a2⟩
end
/-- == : atoms of one kind by themselves, else by the data -/
def eqD : D → D → R Bool
  | .int i, .int j => .ok (decide (i = j))
  | .str x, .str y => .ok (decide (x = y))
  | .bl a, .bl b => .ok (decide (a = b))
  | d, e => R.when (plainD d && plainD e && SeqAt.shaped (toPy d) && SeqAt.shaped (toPy e)) (.ok (PyData.eqv (toPy d) (toPy e)))
def dEq (d e : D) : R D := (eqD d e).bind fun b => .ok (.bl b)
def dNe (d e : D) : R D := (eqD d e).bind fun b => .ok (.bl (!b))
theorem o_eq (hu : X.A.units + 64 < cLine) : OpD X (compareOp .Eq) dEq := by
  intro pins s σ H B da db d x y v u I hb rx ry ra rb hg
  obtain ⟨b, h1, h2⟩ := R.bind_ok hg
  cases h2
  unfold eqD at h1
  split at h1
  · cases h1
    rename_i i j
    have := op_eq pins s σ H x y v u (fun z H' => Same H H' ∧ Rep X.K B H' (.bl (decide (i = j))) z) I rx ry
    rw [Rep.int.mp ra, Rep.int.mp rb] at this
    refine this ⟨rfl, Same.refl H, Rep.bl.mpr ?_⟩
    simp [V.int.injEq]
  · cases h1
    rename_i i j
    have := op_eq pins s σ H x y v u (fun z H' => Same H H' ∧ Rep X.K B H' (.bl (decide (i = j))) z) I rx ry
    rw [Rep.str.mp ra, Rep.str.mp rb] at this
    refine this ⟨rfl, Same.refl H, Rep.bl.mpr ?_⟩
    simp [V.str.injEq]
  · cases h1
    rename_i i j
    have := op_eq pins s σ H x y v u (fun z H' => Same H H' ∧ Rep X.K B H' (.bl (decide (i = j))) z) I rx ry
    rw [Rep.bl.mp ra, Rep.bl.mp rb] at this
    refine this ⟨rfl, Same.refl H, Rep.bl.mpr ?_⟩
    simp [V.bl.injEq]
  · obtain ⟨h3, h4⟩ := R.when_ok h1
    cases h4
    simp only [Bool.and_eq_true] at h3
    obtain ⟨⟨⟨p1, p2⟩, s1⟩, s2⟩ := h3
    obtain ⟨as, r1⟩ := ra.reads I p1 rx
    obtain ⟨bs, r2⟩ := rb.reads I p2 ry
    exact eq_dataH r1 r2 s1 s2 hu ⟨.bl _, H, I, rfl, Same.refl H, Rep.bl.mpr rfl⟩
theorem o_ne (hu : X.A.units + 64 < cLine) : OpD X (compareOp .NotEq) dNe := by
  intro pins s σ H B da db d x y v u I hb rx ry ra rb hg
  obtain ⟨b, h1, h2⟩ := R.bind_ok hg
  cases h2
  unfold eqD at h1
  split at h1
  · cases h1
    rename_i i j
    have := op_ne pins s σ H x y v u (fun z H' => Same H H' ∧ Rep X.K B H' (.bl (!decide (i = j))) z) I rx ry
    rw [Rep.int.mp ra, Rep.int.mp rb] at this
    refine this ⟨rfl, Same.refl H, Rep.bl.mpr ?_⟩
    simp [V.int.injEq]
  · cases h1
    rename_i i j
    have := op_ne pins s σ H x y v u (fun z H' => Same H H' ∧ Rep X.K B H' (.bl (!decide (i = j))) z) I rx ry
    rw [Rep.str.mp ra, Rep.str.mp rb] at this
    refine this ⟨rfl, Same.refl H, Rep.bl.mpr ?_⟩
    simp [V.str.injEq]
  · cases h1
    rename_i i j
    have := op_ne pins s σ H x y v u (fun z H' => Same H H' ∧ Rep X.K B H' (.bl (!decide (i = j))) z) I rx ry
    rw [Rep.bl.mp ra, Rep.bl.mp rb] at this
    refine this ⟨rfl, Same.refl H, Rep.bl.mpr ?_⟩
    simp [V.bl.injEq]
  · obtain ⟨h3, h4⟩ := R.when_ok h1
    cases h4
    simp only [Bool.and_eq_true] at h3
    obtain ⟨⟨⟨p1, p2⟩, s1⟩, s2⟩ := h3
    obtain ⟨as, r1⟩ := ra.reads I p1 rx
    obtain ⟨bs, r2⟩ := rb.reads I p2 ry
    exact ne_dataH r1 r2 s1 s2 hu ⟨.bl _, H, I, rfl, Same.refl H, Rep.bl.mpr rfl⟩

/-! in, not in: texts in lists and tuples of texts, a text in a text -/
def strs? : List D → Option (List Str)
  | [] => some []
  | .str x :: ds => (strs? ds).map (x :: ·)
  | _ :: _ => none
theorem strs_reps {K : PySem.W.Frag} {B : List Addr} {H : Hp} : ∀ {ds : List D} {xs : List V} {ss : List Str}, Reps K B H ds xs → strs? ds = some ss → xs = ss.map V.str
  | [], xs, ss, r, h => by unfold Reps at r; subst r; cases h; rfl
  | d :: ds, xs, ss, r, h => by
    obtain ⟨x, r', rfl, r1, r2⟩ := r.uncons
    cases d with
    | str z =>
      unfold strs? at h
      cases e : strs? ds with
      | none => rw [e] at h; cases h
      | some tt =>
        rw [e] at h
        cases h
        rw [Rep.str.mp r1, strs_reps r2 e]
        rfl
    | _ => cases h
def ints? : List D → Option (List Int)
  | [] => some []
  | .int x :: ds => (ints? ds).map (x :: ·)
  | _ :: _ => none
theorem ints_reps {K : PySem.W.Frag} {B : List Addr} {H : Hp} : ∀ {ds : List D} {xs : List V} {ss : List Int}, Reps K B H ds xs → ints? ds = some ss → xs = ss.map V.int
  | [], xs, ss, r, h => by unfold Reps at r; subst r; cases h; rfl
  | d :: ds, xs, ss, r, h => by
    obtain ⟨x, r', rfl, r1, r2⟩ := r.uncons
    cases d with
    | int z =>
      unfold ints? at h
      cases e : ints? ds with
      | none => rw [e] at h; cases h
      | some tt =>
        rw [e] at h
        cases h
        rw [Rep.int.mp r1, ints_reps r2 e]
        rfl
    | _ => cases h
def inD (d e : D) : R Bool := match d, e with
  | .str x, .lst ds => (match strs? ds with | some ss => .ok (ss.contains x) | none => .no)
  | .str x, .tup ds => (match strs? ds with | some ss => .ok (ss.contains x) | none => .no)
  | .str x, .str y => .ok (!(Builtin.Str.occurrences y x 0 y.length 1).isEmpty)
  | .int x, .lst ds => (match ints? ds with | some ss => .ok (ss.contains x) | none => .no)
  | .int x, .tup ds => (match ints? ds with | some ss => .ok (ss.contains x) | none => .no)
  | _, _ => .no
def dIn (d e : D) : R D := (inD d e).bind fun b => .ok (.bl b)
def dNotIn (d e : D) : R D := (inD d e).bind fun b => .ok (.bl (!b))
theorem inV_strs (x : Str) : ∀ ss : List Str, inV (.str x) (ss.map V.str) = ss.contains x
  | [] => rfl
  | y :: ss => by
    unfold inV
    rw [List.map_cons, List.any_cons]
    have ih := inV_strs x ss
    unfold inV at ih
    rw [ih]
    show (y == x || ss.contains x) = _
    rw [List.contains_cons]
    congr 1
    exact Bool.eq_iff_iff.mpr ⟨fun h => by simpa using (beq_iff_eq.mp h).symm, fun h => by simpa using (beq_iff_eq.mp h).symm⟩
theorem inV_ints (x : Int) : ∀ ss : List Int, inV (.int x) (ss.map V.int) = ss.contains x
  | [] => rfl
  | y :: ss => by
    unfold inV
    rw [List.map_cons, List.any_cons]
    have ih := inV_ints x ss
    unfold inV at ih
    rw [ih]
    show (y == x || ss.contains x) = _
    rw [List.contains_cons]
    congr 1
    exact Bool.eq_iff_iff.mpr ⟨fun h => by simpa using (beq_iff_eq.mp h).symm, fun h => by simpa using (beq_iff_eq.mp h).symm⟩
theorem flat_ints (ss : List Int) : (ss.map V.int).all flatV = true := by
  rw [List.all_map]
  simp [List.all_eq_true, flatV]
theorem flat_strs (ss : List Str) : (ss.map V.str).all flatV = true := by
  rw [List.all_map]
  simp [List.all_eq_true, flatV]
theorem in_gen {neg : Bool} {op : CmpOp} {g : D → D → R D} (h1 : OpR X (compareOp op) (rIn X.K neg)) (h2 : OpR X (compareOp op) (fun x y H Q => ∃ i j, x = .str i ∧ y = .str j ∧ Q (.bl (if neg then !(!(Builtin.Str.occurrences j i 0 j.length 1).isEmpty) else (!(Builtin.Str.occurrences j i 0 j.length 1).isEmpty))) H))
    (hg : ∀ d e r, g d e = .ok r → ∃ b, inD d e = .ok b ∧ r = .bl (if neg then !b else b)) : OpD X (compareOp op) g := by
  intro pins s σ H B da db d x y v u I hb rx ry ra rb hg'
  obtain ⟨b, hi, rfl⟩ := hg da db d hg'
  unfold inD at hi
  split at hi
  · rename_i z ds
    split at hi
    · rename_i ss e
      cases hi
      obtain ⟨a, xs, rfl, l, rs⟩ := Rep.lst.mp rb
      refine h1 pins s σ H x _ v u _ I rx ry ⟨a, xs, rfl, .inl l.sq, by rw [Rep.str.mp ra]; rfl, by rw [strs_reps rs e]; exact flat_strs _, Same.refl H, Rep.bl.mpr ?_⟩
      rw [strs_reps rs e, Rep.str.mp ra, inV_strs]
    · cases hi
  · rename_i z ds
    split at hi
    · rename_i ss e
      cases hi
      obtain ⟨a, xs, rfl, l, rs⟩ := Rep.tup.mp rb
      refine h1 pins s σ H x _ v u _ I rx ry ⟨a, xs, rfl, .inr l.sq, by rw [Rep.str.mp ra]; rfl, by rw [strs_reps rs e]; exact flat_strs _, Same.refl H, Rep.bl.mpr ?_⟩
      rw [strs_reps rs e, Rep.str.mp ra, inV_strs]
    · cases hi
  · cases hi
    exact h2 pins s σ H x y v u _ I rx ry ⟨_, _, Rep.str.mp ra, Rep.str.mp rb, Same.refl H, Rep.bl.mpr rfl⟩
  · rename_i z ds
    split at hi
    · rename_i ss e
      cases hi
      obtain ⟨a, xs, rfl, l, rs⟩ := Rep.lst.mp rb
      refine h1 pins s σ H x _ v u _ I rx ry ⟨a, xs, rfl, .inl l.sq, by rw [Rep.int.mp ra]; rfl, by rw [ints_reps rs e]; exact flat_ints _, Same.refl H, Rep.bl.mpr ?_⟩
      rw [ints_reps rs e, Rep.int.mp ra, inV_ints]
    · cases hi
  · rename_i z ds
    split at hi
    · rename_i ss e
      cases hi
      obtain ⟨a, xs, rfl, l, rs⟩ := Rep.tup.mp rb
      refine h1 pins s σ H x _ v u _ I rx ry ⟨a, xs, rfl, .inr l.sq, by rw [Rep.int.mp ra]; rfl, by rw [ints_reps rs e]; exact flat_ints _, Same.refl H, Rep.bl.mpr ?_⟩
      rw [ints_reps rs e, Rep.int.mp ra, inV_ints]
    · cases hi
  · cases hi
theorem o_in : OpD X (compareOp .In) dIn := in_gen (neg := false) op_in_seq op_in_str fun d e r h => by
  obtain ⟨b, h1, h2⟩ := R.bind_ok h
  cases h2
  exact ⟨b, h1, rfl⟩
theorem o_notIn : OpD X (compareOp .NotIn) dNotIn := in_gen (neg := true) op_notIn_seq op_notin_str fun d e r h => by
  obtain ⟨b, h1, h2⟩ := R.bind_ok h
  cases h2
  exact ⟨b, h1, rfl⟩

/-! subscripts -/
def ixD (d e : D) : R D := match d, e with
  | .lst ds, .int i => (match atI ds i with | some x => .ok x | none => .no)
  | .tup ds, .int i => (match atI ds i with | some x => .ok x | none => .no)
  | .str x, .int i => R.when (decide (x.length ≤ sizeLine)) (match atI x.cps.toList i with | some c => .ok (.str ⟨#[c]⟩) | none => .no)
  | _, _ => .no
theorem atI_reps {K : PySem.W.Frag} {B : List Addr} {H : Hp} {ds : List D} {xs : List V} {i : Int} {d : D} (r : Reps K B H ds xs) (h : atI ds i = some d) : ∃ x, atI xs i = some x ∧ Rep K B H d x := by
  unfold atI at h ⊢
  rw [← r.length]
  cases e : ixN ds.length i with
  | none => rw [e] at h; cases h
  | some j =>
    rw [e] at h
    exact r.get h
theorem pd_ix {a b : Expr} {fa fb : FD} {pos : Pos} (ha : PD X a fa) (hb : PD X b fb) (hs : PlainIx b) : PD X (.Subscript a b pos) (e2 ixD fa fb) := by
  refine (pe_ix (r := rIx X.K) ix_seq ha hb hs).imp fun σ H Q ⟨Z, B, δ, d, E, hf, q⟩ => ?_
  obtain ⟨d1, h1, h2⟩ := R.bind_ok hf
  obtain ⟨d2, h3, h4⟩ := R.bind_ok h2
  refine ⟨Z, B, δ, d1, E, h1, fun v1 H1 s1 r1 => ⟨Z, B, δ, d2, E.same s1, h3, fun v2 H2 s2 r2 => ?_⟩⟩
  have r1' := r1.same s2
  unfold ixD at h4
  split at h4
  · split at h4
    · rename_i e
      cases h4
      obtain ⟨p, xs, rfl, l, rs⟩ := Rep.lst.mp r1'
      obtain ⟨y, e1, e2⟩ := atI_reps rs e
      exact .inl ⟨p, xs, _, y, rfl, Rep.int.mp r2, l.sq, e1, q y H2 (s1.trans s2) e2⟩
    · cases h4
  · split at h4
    · rename_i e
      cases h4
      obtain ⟨p, xs, rfl, l, rs⟩ := Rep.tup.mp r1'
      obtain ⟨y, e1, e2⟩ := atI_reps rs e
      exact .inr (.inl ⟨p, xs, _, y, rfl, Rep.int.mp r2, l.sq, e1, q y H2 (s1.trans s2) e2⟩)
    · cases h4
  · obtain ⟨hl, h5⟩ := R.when_ok h4
    split at h5
    · rename_i e
      cases h5
      exact .inr (.inr ⟨_, _, _, Rep.str.mp r1', Rep.int.mp r2, of_decide_eq_true hl, e, q _ H2 (s1.trans s2) (Rep.str.mpr rfl)⟩)
    · cases h5
  · cases h4

/-! slices -/
abbrev FO := DEnv → R (Option Int)
def tOD (K : PySem.W.Frag) (f : FO) : TO := fun σ H Q => ∃ Z B δ o, EnvR K Z B H σ δ ∧ f δ = .ok o ∧ ∀ H', Same H H' → Q o H'
theorem PO.imp {X : Cx} {e : Option Expr} {t t' : TO} (h : PO X e t) (w : ∀ σ H Q, t' σ H Q → t σ H Q) : PO X e t' := fun pins s σ H Q I hq => h pins s σ H Q I (w σ H Q hq)
abbrev PP (X : Cx) (e : Option Expr) (f : FO) : Prop := PO X e (tOD X.K f)
def oNone : FO := fun _ => .ok none
def oSome (f : FD) : FO := fun δ => (f δ).bind fun d => match d with | .int i => .ok (some i) | _ => .no
theorem pp_none : PP X none oNone := po_none.imp fun σ H Q ⟨Z, B, δ, o, E, hf, q⟩ => by cases hf; exact q H (Same.refl H)
theorem pp_some {e : Expr} {f : FD} (h : PD X e f) : PP X (some e) (oSome f) := (po_some h).imp fun σ H Q ⟨Z, B, δ, o, E, hf, q⟩ => by
  obtain ⟨d, h1, h2⟩ := R.bind_ok hf
  cases d with
  | int i => cases h2; exact ⟨Z, B, δ, .int i, E, h1, fun v H1 s1 r1 => ⟨i, Rep.int.mp r1, q H1 s1⟩⟩
  | _ => cases h2
theorem sl_str : SlR X (fun x lo hi H Q => ∃ z, x = .str z ∧ z.length ≤ sizeLine ∧ Q (.str (Txt.slice z lo hi)) H) := by
  intro pins s σ H x v vl vu lo hi sl Q I rx hs pl pu h
  obtain ⟨z, rfl, hz, q⟩ := h
  obtain ⟨t, rfl⟩ := rx
  refine ⟨"str", _, F.slot_str_getitem.lookup, typeIs_str _ _ _, ?_⟩
  have fin : ∀ t' k, EP X pins σ Q (.str (Txt.slice z lo hi) t') { s with toks := k } := fun t' k => ⟨.str _, H, I.tok _, ⟨_, rfl⟩, q⟩
  obtain ⟨o, ho, hc, hd⟩ := hs
  cases pl with
  | none =>
    cases pu with
    | none => exact wpAny_getItem_str_slice (l := none) (u := none) (st := none) ⟨o, ho, hc, hd⟩ rfl (post_val_or_str ⟨Nat.le_trans (Txt.slice_le z _ _) hz, fin⟩)
    | int j u => exact wpAny_getItem_str_slice (l := none) (u := some (j, u)) (st := none) ⟨o, ho, hc, hd⟩ rfl (post_val_or_str ⟨Nat.le_trans (Txt.slice_le z _ _) hz, fin⟩)
  | int i t1 =>
    cases pu with
    | none => exact wpAny_getItem_str_slice (l := some (i, t1)) (u := none) (st := none) ⟨o, ho, hc, hd⟩ rfl (post_val_or_str ⟨Nat.le_trans (Txt.slice_le z _ _) hz, fin⟩)
    | int j u => exact wpAny_getItem_str_slice (l := some (i, t1)) (u := some (j, u)) (st := none) ⟨o, ho, hc, hd⟩ rfl (post_val_or_str ⟨Nat.le_trans (Txt.slice_le z _ _) hz, fin⟩)
def cutD {α : Type} (xs : List α) (lo hi : Option Int) : List α := (xs.drop (HT.sIx xs.length 0 lo)).take (HT.sIx xs.length xs.length hi - HT.sIx xs.length 0 lo)
def slD (d : D) (lo hi : Option Int) : R D := match d with
  | .str x => R.when (decide (x.length ≤ sizeLine)) (.ok (.str (Txt.slice x lo hi)))
  | .lst ds => .ok (.lst (cutD ds lo hi))
  | _ => .no
theorem cut_reps {K : PySem.W.Frag} {B : List Addr} {H : Hp} {ds : List D} {xs : List V} (r : Reps K B H ds xs) (lo hi : Option Int) : Reps K B H (cutD ds lo hi) (cutV xs lo hi) := by
  unfold cutD cutV
  rw [← r.length]
  exact (r.drop _).take _
def eSl (f : FD) (fl fh : FO) : FD := fun δ => (f δ).bind fun d => (fl δ).bind fun lo => (fh δ).bind fun hi => slD d lo hi
theorem pd_sl {e : Expr} {lo hi : Option Expr} {f : FD} {fl fh : FO} {p2 pos : Pos} (he : PD X e f) (hl : PP X lo fl) (hh : PP X hi fh) : PD X (.Subscript e (.Slice lo hi none p2) pos) (eSl f fl fh) := by
  refine (pe_slice (sl_str.or sl_list) he hl hh).imp fun σ H Q ⟨Z, B, δ, d, E, hf, q⟩ => ?_
  obtain ⟨d1, h1, h2⟩ := R.bind_ok hf
  obtain ⟨l, h3, h4⟩ := R.bind_ok h2
  obtain ⟨h, h5, h6⟩ := R.bind_ok h4
  refine ⟨Z, B, δ, d1, E, h1, fun v1 H1 s1 r1 => ⟨Z, B, δ, l, E.same s1, h3, fun H2 s2 => ⟨Z, B, δ, h, (E.same s1).same s2, h5, fun H3 s3 => ?_⟩⟩⟩
  have sA : Same H H3 := s1.trans (s2.trans s3)
  have r1' := r1.same (s2.trans s3)
  unfold slD at h6
  split at h6
  · obtain ⟨hz, h7⟩ := R.when_ok h6
    cases h7
    exact .inl ⟨_, Rep.str.mp r1', of_decide_eq_true hz, q _ H3 sA (Rep.str.mpr rfl)⟩
  · cases h6
    obtain ⟨a, xs, rfl, ls, rs⟩ := Rep.lst.mp r1'
    refine .inr ⟨a, xs, rfl, ls.sq, fun p hp => q _ _ (sA.trans (same_upd hp)) (Rep.lst.mpr ⟨p, _, rfl, .of_new upd_same fun ha => ?_, (cut_reps rs l h).same (same_upd hp)⟩)⟩
    obtain ⟨o, ho⟩ := (E.same sA).bs p ha
    rw [hp] at ho; cases ho
  · cases h6

end
end L2

end
section
set_option maxRecDepth 100000
set_option maxHeartbeats 4000000
/-! ## THE DATUM LAYER: calls, methods, f-strings, more that is walked (own) -/
namespace L2
open PySem PySem.Spec PyProof.Rows

section
variable {X : Cx}
theorem Reps.one {K : PySem.W.Frag} {B : List Addr} {H : Hp} {d : D} {xs : List V} (h : Reps K B H [d] xs) : ∃ x, xs = [x] ∧ Rep K B H d x := by
  obtain ⟨x, r, rfl, h1, h2⟩ := h.uncons
  unfold Reps at h2
  subst h2
  exact ⟨x, rfl, h1⟩
theorem Reps.two {K : PySem.W.Frag} {B : List Addr} {H : Hp} {d e : D} {xs : List V} (h : Reps K B H [d, e] xs) : ∃ x y, xs = [x, y] ∧ Rep K B H d x ∧ Rep K B H e y := by
  obtain ⟨x, r, rfl, h1, h2⟩ := h.uncons
  obtain ⟨y, rfl, h3⟩ := h2.one
  exact ⟨x, y, rfl, h1, h3⟩
/-! built-in functions -/
def cLen : List D → R D
  | [.str x] => R.when (decide (x.length ≤ sizeLine)) (.ok (.int x.length))
  | [.lst ds] => .ok (.int ds.length)
  | [.tup ds] => .ok (.int ds.length)
  | _ => .no
theorem c_len : CallD X (.builtin "len") cLen := CallD.of call_len fun B H ds d xs Q _ rs hg q => by
  unfold cLen at hg
  split at hg
  · obtain ⟨h1, h2⟩ := R.when_ok hg
    cases h2
    obtain ⟨x, rfl, r⟩ := rs.one
    exact ⟨x, _, rfl, by rw [Rep.str.mp r]; exact ⟨of_decide_eq_true h1, rfl⟩, q _ H (Same.refl H) (Rep.int.mpr rfl)⟩
  · cases hg
    obtain ⟨x, rfl, r⟩ := rs.one
    obtain ⟨a, ys, rfl, l, r⟩ := Rep.lst.mp r
    exact ⟨_, _, rfl, .inl ⟨ys, l.sq, rfl⟩, q _ H (Same.refl H) (Rep.int.mpr (by rw [r.length]))⟩
  · cases hg
    obtain ⟨x, rfl, r⟩ := rs.one
    obtain ⟨a, ys, rfl, l, r⟩ := Rep.tup.mp r
    exact ⟨_, _, rfl, .inr ⟨ys, l.sq, rfl⟩, q _ H (Same.refl H) (Rep.int.mpr (by rw [r.length]))⟩
  · cases hg
def cInt : List D → R D
  | [.int i] => .ok (.int i)
  | [.bl b] => .ok (.int (if b then 1 else 0))
  | _ => .no
theorem c_int : CallD X (.type "int") cInt := CallD.of call_int1 fun B H ds d xs Q _ rs hg q => by
  unfold cInt at hg
  split at hg
  · cases hg
    obtain ⟨x, rfl, r⟩ := rs.one
    exact .inl ⟨_, by rw [Rep.int.mp r], q _ H (Same.refl H) (Rep.int.mpr rfl)⟩
  · cases hg
    obtain ⟨x, rfl, r⟩ := rs.one
    exact .inr ⟨_, by rw [Rep.bl.mp r], q _ H (Same.refl H) (Rep.int.mpr rfl)⟩
  · cases hg
def cStr : List D → R D
  | [.int i] => R.when (decide (i.natAbs.log2 < 1920)) (.ok (.str (toString i)))
  | _ => .no
def cMin : List D → R D
  | [.int i, .int j] => .ok (.int (if j < i then j else i))
  | _ => .no
theorem c_min (hc : X.calm = true) : CallD X (.builtin "min") cMin := CallD.of (call_min2 hc) fun B H ds d xs Q _ rs hg q => by
  unfold cMin at hg
  split at hg
  · cases hg
    obtain ⟨x, y, rfl, r1, r2⟩ := rs.two
    exact ⟨_, _, by rw [Rep.int.mp r1, Rep.int.mp r2], q _ H (Same.refl H) (Rep.int.mpr rfl)⟩
  · cases hg
def cMax : List D → R D
  | [.int i, .int j] => .ok (.int (if j > i then j else i))
  | _ => .no
def cTuple : List D → R D
  | [.lst ds] => .ok (.tup ds)
  | [.tup ds] => .ok (.tup ds)
  | _ => .no
theorem c_tuple : CallD X (.type "tuple") cTuple := CallD.of call_tuple_of fun B H ds d xs Q hb rs hg q => by
  unfold cTuple at hg
  split at hg
  · cases hg
    obtain ⟨x, rfl, r⟩ := rs.one
    obtain ⟨a, ys, rfl, l, r⟩ := Rep.lst.mp r
    refine ⟨a, ys, rfl, .inl ⟨l.sq, fun p hp => q _ _ (same_upd hp) (Rep.tup.mpr ⟨p, ys, rfl, .inl ⟨fun ha => ?_, .inl upd_same⟩, r.same (same_upd hp)⟩)⟩⟩
    obtain ⟨o, ho⟩ := hb p ha
    rw [hp] at ho; cases ho
  · cases hg
    obtain ⟨x, rfl, r⟩ := rs.one
    have r0 := r
    obtain ⟨a, ys, rfl, l, r⟩ := Rep.tup.mp r
    exact ⟨a, ys, rfl, .inr ⟨l.sq, q _ H (Same.refl H) r0⟩⟩
  · cases hg
def cList : List D → R D
  | [.lst ds] => .ok (.lst ds)
  | [.tup ds] => .ok (.lst ds)
  | _ => .no
def cAbs : List D → R D
  | [.int i] => .ok (.int (if i < 0 then -i else i))
  | _ => .no
theorem c_abs : CallD X (.builtin "abs") cAbs := CallD.of call_abs fun B H ds d xs Q _ rs hg q => by
  unfold cAbs at hg
  split at hg
  · cases hg
    obtain ⟨x, rfl, r⟩ := rs.one
    exact ⟨_, by rw [Rep.int.mp r], q _ H (Same.refl H) (Rep.int.mpr rfl)⟩
  · cases hg
def cSum : List D → R D
  | [.lst ds] => (match ints? ds with | some ns => .ok (.int ns.sum) | none => .no)
  | _ => .no
theorem vals_intItems : ∀ {ns : List Int} {us : List Value}, Vals (ns.map V.int) us → ∃ l : List (Int × Tok), us = l.map (fun p => Value.int p.1 p.2) ∧ l.map (·.1) = ns
  | [], _, .nil => ⟨[], rfl, rfl⟩
  | n :: ns, _, .cons r t => by
    obtain ⟨l, rfl, e⟩ := vals_intItems t
    obtain ⟨tk, rfl⟩ := r
    exact ⟨(n, tk) :: l, rfl, by rw [List.map_cons, e]⟩
theorem c_sum (hc : X.calm = true) : CallD X (.builtin "sum") cSum := by
  intro pins s σ H B ds d xs us I hb rx rs hg
  unfold cSum at hg
  split at hg
  · split at hg
    · rename_i es ns e
      cases hg
      obtain ⟨x, rfl, r⟩ := rs.one
      obtain ⟨a, ys, rfl, l, r⟩ := Rep.lst.mp r
      obtain ⟨u, rfl, ru⟩ := vals1 rx
      cases ru
      obtain ⟨its, n, rv, e1, hz⟩ := I.rdL l
      rw [ints_reps r e] at rv
      obtain ⟨ps, rfl, rfl⟩ := vals_intItems rv
      have hl : s.heap.IsList a (intItems ps.toArray) := ⟨_, e1, rfl, n, by simp [intItems]⟩
      refine sum_intListG (I.ok.hd hc) hl fun h' tk t' k => ⟨.int _, H, I.kept k, ⟨t', rfl⟩, Same.refl H, Rep.int.mpr ?_⟩
      rw [preSum_eq, List.take_of_length_le (by simp)]
    · cases hg
  · cases hg
/-! isinstance(x, T) for a built-in T -/
def tyName : D → String
  | .non => "NoneType" | .bl _ => "bool" | .int _ => "int" | .str _ => "str" | .lst _ => "list" | .tup _ => "tuple" | .dct _ _ => "dict"
/-- isinstance of a text and str; of a bool and bool -/
def eIsT (T : String) (f : FD) : FD := fun δ => (f δ).bind fun d => R.when (tyName d == T && d.atom) (.ok (.bl true))
/-! methods -/
def MtD (X : Cx) (id : String) (g : D → List D → R D) : Prop :=
  ∀ (pins : List (Addr × Obj)) (s : Shared) (σ : St) (H : Hp) (B : List Addr) (da d : D) (ds : List D) (x : V) (xs : List V) (v : Value) (us : List Value), Inv X pins σ H s → (∀ a ∈ B, ∃ o, H a = some o) → RelV x v → Vals xs us → Rep X.K B H da x → Reps X.K B H ds xs → g da ds = .ok d →
    wpAny (model X.prog X.w) X.A (call (.builtin id) (v :: us)) (EP X pins σ fun z H' => Same H H' ∧ Rep X.K B H' d z) X.xe s
def eMt (T : String) (g : D → List D → R D) (f : FD) (fs : DEnv → R (List D)) : FD := fun δ => (f δ).bind fun d => R.when (tyName d == T && (d.atom || T == "list")) ((fs δ).bind fun ds => g d ds)
theorem MtD.r {id : String} {g : D → List D → R D} (h : MtD X id g) : MtR X id (fun x xs H Q => ∃ B da ds d, (∀ a ∈ B, ∃ o, H a = some o) ∧ Rep X.K B H da x ∧ Reps X.K B H ds xs ∧ g da ds = .ok d ∧ ∀ z H', Same H H' → Rep X.K B H' d z → Q z H') := by
  intro pins s σ H x xs v us Q I rx rxs ⟨B, da, ds, d, hb, ra, rs, hg, q⟩
  exact thn (h pins s σ H B da d ds x xs v us I hb rx rxs ra rs hg) fun z s' ⟨zv, H', I', r', s1, r1⟩ => ⟨zv, H', I', r', q zv H' s1 r1⟩
theorem pd_mt {T id : String} {name : Str} {g : D → List D → R D} {o e : Expr} {es : List Expr} {f : FD} {fs : DEnv → R (List D)} {apos cpos : Pos} (pa : PlainAttrs T) (slot : Slot T name id) (hty : typeOf (.builtin id) = pure (.type "method_descriptor")) (hm : MtD X id g) (ho : PD X o f) (ha : PAs X (e :: es) fs)
    (hT : T = "str" ∨ T = "int" ∨ T = "list")
    (hbase : attributeBase o name X.env (eval o X.env) = eval o X.env := by rfl)
    (hfew : ((backTo cpos (starEach (e :: es) X.env)).all (fun x => !x.1) && (backToKw cpos (keywordEach [] X.env)).all (fun x => x.1.isSome)
      && decide ((e :: es).length + ([] : List Keyword).length + (if ([] : List Keyword).isEmpty then 0 else 1) < 30)) = true := by rfl)
    (hline : (apos.endLine == cpos.line) = true := by rfl) (hs : starEach (e :: es) X.env = (false, eval e X.env) :: starEach es X.env := by rfl) (hplain : (backTo cpos (starEach es X.env)).any (·.1) = false := by rfl) :
    PD X (.Call (.Attribute o name apos) (e :: es) [] cpos) (eMt T g f fs) := by
  refine (pe_bm pa slot hty hm.r ho ha hbase hfew hline hs hplain).imp fun σ H Q ⟨Z, B, δ, d, E, hf, q⟩ => ?_
  obtain ⟨d1, h1, h2⟩ := R.bind_ok hf
  obtain ⟨h3, h4⟩ := R.when_ok h2
  obtain ⟨ds, h5, h6⟩ := R.bind_ok h4
  obtain ⟨h7, h8⟩ := Bool.and_eq_true_iff.mp h3
  have h7 : tyName d1 = T := by simpa using h7
  refine ⟨Z, B, δ, d1, E, h1, fun v1 H1 s1 r1 => ⟨?_, Z, B, δ, ds, E.same s1, h5, fun vs H2 s2 r2 => ⟨B, d1, ds, d, (E.same (s1.trans s2)).bs, r1.same s2, r2, h6, fun z H' s3 r3 => q z H' (s1.trans (s2.trans s3)) r3⟩⟩⟩
  cases d1 with
  | str z => rw [Rep.str.mp r1]; exact h7.symm
  | int i => rw [Rep.int.mp r1]; exact h7.symm
  | lst es => obtain ⟨a, xs, rfl, l, _⟩ := Rep.lst.mp r1; exact .inl ⟨h7.symm, xs, l.sq⟩
  | non => rcases hT with z | z | z <;> (rw [z] at h7; exact absurd (show ("NoneType" : String) = _ from h7) (by decide))
  | bl _ => rcases hT with z | z | z <;> (rw [z] at h7; exact absurd (show ("bool" : String) = _ from h7) (by decide))
  | tup _ => rcases hT with z | z | z <;> (rw [z] at h7; exact absurd (show ("tuple" : String) = _ from h7) (by decide))
  | dct _ _ => rcases hT with z | z | z <;> (rw [z] at h7; exact absurd (show ("dict" : String) = _ from h7) (by decide))
def mJoin (d : D) (ds : List D) : R D := match d, ds with
  | .str sep, [.lst es] => (match strs? es with | some ss => R.when (JoinOk sep ss) (.ok (.str (Str.join sep ss))) | none => .no)
  | _, _ => .no
/-! f-strings -/
abbrev PJ (X : Cx) (es : List Expr) (f : DEnv → R (List Str)) : Prop :=
  ∀ (pins : List (Addr × Obj)) (s : Shared) (σ : St) (H : Hp) (Z B : List Addr) (δ : DEnv) (acc : Str) (ss : List Str) (Q : VK), Inv X pins σ H s → EnvR X.K Z B H σ δ → f δ = .ok ss → (ss.foldl (· ++ ·) acc).length ≤ sizeLine → (∀ H', Same H H' → Q (.str (ss.foldl (· ++ ·) acc)) H') →
    wpAny (model X.prog X.w) X.A (joinParts acc (evalEach es X.env)) (EP X pins σ Q) X.xe s
def jNil : DEnv → R (List Str) := fun _ => .ok []
def jCons (f : FD) (g : DEnv → R (List Str)) : DEnv → R (List Str) := fun δ => (f δ).bind fun d => match d with | .str x => (g δ).bind fun ss => .ok (x :: ss) | _ => .no
def eJoined (g : DEnv → R (List Str)) : FD := fun δ => (g δ).bind fun ss => R.when (decide ((ss.foldl (· ++ ·) Str.empty).length ≤ sizeLine)) (.ok (.str (ss.foldl (· ++ ·) Str.empty)))
def fmtD : D → R D
  | .str x => R.when (decide (x.length ≤ sizeLine)) (.ok (.str x))
  | .int i => R.when (decide (i.natAbs.log2 < 1920)) (.ok (.str (toString i)))
  | _ => .no
def eFmt (f : FD) : FD := fun δ => (f δ).bind fmtD
/-! {..}.get(k, d): a written dict of texts to atoms -/
def lookD : List (D × D) → Str → R (Option D)
  | [], _ => .ok none
  | (.str y, d) :: r, x => (lookD r x).bind fun o => .ok (match o with | some e => some e | none => if y = x then some d else none)
  | _ :: _, _ => .no

/-! a text's signs -/
def signD (x : Str) : List D := x.cps.toList.map fun c => .str ⟨#[c]⟩
def Its (x : Str) : It := ⟨fun i _ => i < x.cps.size, fun i H v H' => H' = H ∧ ∃ c, x.cps[i]? = some c ∧ v = .str ⟨#[c]⟩, fun i _ => x.cps.size ≤ i⟩
def itStr (f : FD) : DEnv → R (List D) := fun δ => (f δ).bind fun d => match d with | .str x => .ok (signD x) | _ => .no
/-! enumerate -/
def Ite (K : PySem.W.Frag) (a : Addr) : It :=
  ⟨fun i H => ∃ xs x, SqL K H a xs ∧ xs[i]? = some x, fun i H v H' => ∃ p x, H p = none ∧ v = .ref p ∧ (∀ xs, SqL K H a xs → xs[i]? = some x) ∧ H' = upd H p (.tup [.int i, x]), fun i H => ∃ xs, SqL K H a xs ∧ xs.length ≤ i⟩
theorem turn_enum {P : Program} {w : World} {K : PySem.W.Frag} {elts : List Expr} {k : Nat} {pos : Pos} (a e it : Addr) (hei : e ≠ it) : Turn P w K (.Tuple elts k pos) (Ite K a) [e, it] e (fun i h => (∃ old, IsEnum h e it ((i : Nat) : Int) old) ∧ h.IsListIter it a i) where
  mem := by simp
  obj := fun i h st b hb => by
    obtain ⟨⟨old, he⟩, o, ho, c, d⟩ := st
    rcases List.mem_cons.mp hb with rfl | hb
    · exact ⟨_, he, fun v z => by cases z⟩
    · have e : b = it := by simpa using hb
      subst e
      exact ⟨o, ho, fun v z => by rw [d] at z; cases z⟩
  keep := fun i h h' st k => by
    obtain ⟨⟨old, he⟩, hi⟩ := st
    exact ⟨⟨old, k e (by simp) _ he⟩, hi.at fun o x => k it (by simp) o x⟩
  item := by
    intro X hP hw hK hc i pins s σ H E I hf st hg
    subst hP hw hK
    obtain ⟨xs, x, hq, hx⟩ := hg
    obtain ⟨its, rv, p, hz⟩ := I.list hq
    obtain ⟨u, hu, ru⟩ := rv.get hx
    obtain ⟨⟨old, he⟩, hit⟩ := st
    obtain ⟨f0, f1, f2, f3, f4, f5⟩ := hf e (by simp)
    obtain ⟨g0, g1, g2, g3, g4, g5⟩ := hf it (by simp)
    refine wpAny_pyNext_enum_item he hit p.isList (x := u) (by simpa using hu) hei fun h₁ heo hit₁ ht₁ hz₁ hk₁ => ⟨_, rfl, ?_⟩
    refine wpAny_letOwnedTupleGo_enum heo fun h₂ he₂ hs₂ => ?_
    replace hs₂ : Heap.SameBut e h₁ h₂ := hs₂
    have hel : e < s.heap.objs.size := Heap.lt_size he
    have ht₂ : h₂.get? s.heap.objs.size = some { cls := .type "tuple", data := .seq #[.int i s.toks, u] } := (hs₂.2 _ (Nat.ne_of_gt hel)).trans ht₁
    have kk : ∀ b o, b ≠ e → b ≠ it → s.heap.get? b = some o → h₂.get? b = some o := fun b o h1 h2 q => (hs₂.2 b h1).trans (hk₁ b o h1 h2 q)
    have hn : H s.heap.objs.size = none := I.fresh
    have sm : Same H (upd H s.heap.objs.size (.tup [.int i, x])) := same_upd hn
    have nit : ∀ b o, H b = some o → b ≠ e ∧ b ≠ it := fun b o q => ⟨fun z => (by rw [z, f0] at q; cases q), fun z => (by rw [z, g0] at q; cases q)⟩
    have hok : HOk X.prog X.w (upd H s.heap.objs.size (.tup [.int i, x])) h₂ := fun b ob q => by
      by_cases hb : b = s.heap.objs.size
      · subst hb
        rw [upd_same] at q
        cases q
        exact ⟨by show 2 ≤ sizeLine; decide, [.int i s.toks, u], .cons ⟨_, rfl⟩ (.cons ru .nil), ⟨_, ht₂, rfl, _, rfl⟩⟩
      · rw [upd_ne hb] at q
        refine (I.hok b ob q).stay (fun c v hc z => ?_) (fun c z => sm c _ z) fun c ys z => sm c _ z
        rcases hc with rfl | hc
        · exact kk c v (nit c _ q).1 (nit c _ q).2 z
        · exact kk c v (nit c _ hc).1 (nit c _ hc).2 z
    have nch : ∀ b, b ∉ [e, it] → b ≠ e ∧ b ≠ it := fun b hb => ⟨fun z => hb (by simp [z]), fun z => hb (by simp [z])⟩
    have I2 : Inv X pins σ (upd H s.heap.objs.size (.tup [.int i, x])) { s with heap := h₂, toks := s.toks + 1 } := by
      refine I.step (g' := s.gens) (d' := s.drawn) (ch := [e, it]) (fun b hb => ?_) (fun b o _ _ hb q _ => kk b o (nch b hb).1 (nch b hb).2 q) (fun b o _ _ hb q _ => ⟨o.slots, kk b o (nch b hb).1 (nch b hb).2 q⟩)
        (fun b o hb q n => by rw [upd_ne (Nat.ne_of_lt (Heap.lt_size q))]; exact n) (fun b o hb q => ⟨o, kk b o (nch b hb).1 (nch b hb).2 q⟩) (fun b ys z => sm b _ z) (fun b o u z => sm b _ z) (fun b ps z => ⟨#[], by rw [sm b _ z]; simp⟩) (fun m hm => ?_) hok I.bare
      · rcases List.mem_cons.mp hb with rfl | hb
        · exact ⟨f3, f1, f4, f5⟩
        · have z : b = it := by simpa using hb
          subst z
          exact ⟨g3, g1, g4, g5⟩
      · obtain ⟨o, es, ep, ho, r⟩ := hm
        exact ⟨o, es, ep, kk _ o (Ne.symm f1) (Ne.symm g1) ho, r⟩
    refine ⟨.ref s.heap.objs.size, _, I2, rfl, ⟨s.heap.objs.size, x, hn, rfl, fun ys hy => (by rw [I.list_inj hy hq]; exact hx), rfl⟩, ⟨⟨_, by simpa using he₂⟩, hit₁.at fun o q => (hs₂.2 it (Ne.symm hei)).trans q⟩, fun b hb => ?_⟩
    rcases List.mem_cons.mp hb with rfl | hb
    · rw [upd_ne (Nat.ne_of_lt hel)]; exact f0
    · have z : b = it := by simpa using hb
      subst z
      obtain ⟨o, ho, _⟩ := hit
      rw [upd_ne (Nat.ne_of_lt (Heap.lt_size ho))]; exact g0
  done := by
    intro X hP hw hK hc i pins s σ H E I hf st hg
    subst hP hw hK
    obtain ⟨xs, hq, hx⟩ := hg
    obtain ⟨its, rv, p, hz⟩ := I.list hq
    obtain ⟨⟨old, he⟩, hit⟩ := st
    obtain ⟨g0, g1, g2, g3, g4, g5⟩ := hf it (by simp)
    have hl := rv.length
    exact wpAny_pyNext_enum_end (I.ok.hd hc) he hit p.isList (by simp; omega) fun h' eb => ⟨rfl, I.turned (t' := s.toks) (fun b o hb q => eb b o hb q) g0 g1 g3 g4 g5⟩
  self := fun A i s Q E st h => let ⟨⟨_, he⟩, _⟩ := st; wpAny_pyIter_enum he h
def enumD (ds : List D) : List D := ds.zipIdx.map fun p => .tup [.int p.2, p.1]
def itEnum (f : FD) : DEnv → R (List D) := fun δ => (f δ).bind fun d => match d with | .lst ds => .ok (enumD ds) | _ => .no
theorem pit_enum {elts : List Expr} {k : Nat} {tpos : Pos} {a : Expr} {f : FD} {p pos : Pos} (h : PD X a f) (hg : Gl X "enumerate") (hm : X.mg "enumerate" = none) (hs : starEach [a] X.env = [(false, eval a X.env)] := by rfl) : PIt X (.Tuple elts k tpos) (.Call (.Name "enumerate" p) [a] [] pos) (itEnum f) := by
  intro pins s σ H RR I ⟨Z, B, δ, ds, E, hf, q⟩
  obtain ⟨d, h1, h2⟩ := R.bind_ok hf
  have hA := pa_cons h pa_nil hs pos pins s σ H (fun vs H1 => Same H H1 ∧ ∃ v, vs = [v] ∧ Rep X.K B H1 d v) I ⟨Z, B, δ, d, E, h1, fun v H1 s1 r1 => ⟨s1, v, rfl, r1⟩⟩
  refine Call_ (ld_blt I hg hm boot_enumerate (PyProof.Rows.callWith_type1 (thn hA fun us s1 ⟨vs, H1, I1, r1, ss, v, ev, rr⟩ => ?_) hs rfl))
  subst ev
  obtain ⟨u, rfl, ru⟩ := vals1 r1
  cases d with
  | lst es =>
    cases h2
    obtain ⟨b, xs, rfl, l, rs⟩ := Rep.lst.mp rr
    cases ru
    obtain ⟨its, n, rv, e1, hz⟩ := I1.rdL l
    refine call_enumerate_list (items := its.toArray) ⟨_, e1, rfl, n, rfl⟩ fun h' he hit hsz kk => wpAny_pyIter_enum he ?_
    have I2 : Inv X pins σ H1 { s1 with heap := h' } := I1.kept (t' := s1.toks) kk
    refine ⟨s1.heap.objs.size + 1, [s1.heap.objs.size + 1, s1.heap.objs.size], _, _, H1, rfl, I2, turn_enum b (s1.heap.objs.size + 1) s1.heap.objs.size (Nat.succ_ne_self _), ⟨⟨_, he⟩, hit⟩, fun c hc => ?_, q _ H1 ss fun B' H' pr => ?_⟩
    · have hle : s1.heap.objs.size ≤ c := by
        rcases List.mem_cons.mp hc with z | hc
        · rw [z]; exact Nat.le_succ _
        · have z : c = s1.heap.objs.size := by simpa using hc
          rw [z]; exact Nat.le_refl _
      exact I1.fpOk hle (I1.hok.fresh hle)
    · have l' : LsF X.K B' H' b xs := l.pres pr
      have rs' := rs.pres pr
      refine ⟨fun i d hd => ?_, ⟨xs, l'.sq, by rw [← rs.length]; unfold enumD; simp⟩⟩
      unfold enumD at hd
      rw [List.getElem?_map, List.getElem?_zipIdx] at hd
      cases e : es[i]? with
      | none => rw [e] at hd; cases hd
      | some d0 =>
        rw [e] at hd
        have hd : D.tup [.int ((0 + i : Nat) : Int), d0] = d := Option.some.inj hd
        rw [Nat.zero_add] at hd
        obtain ⟨x, hx, rx⟩ := rs'.get e
        refine ⟨⟨xs, x, l'.sq, hx⟩, fun v H'' y hB' => ?_⟩
        obtain ⟨p, y, hp, rfl, hy, rfl⟩ := y
        refine ⟨same_upd hp, ?_⟩
        subst hd
        have hy2 := hy xs l'.sq
        rw [hx] at hy2
        cases hy2
        refine Rep.tup.mpr ⟨p, _, rfl, .inl ⟨fun ha => ?_, .inl upd_same⟩, Reps.cons (Rep.int.mpr rfl) (Reps.cons (rx.same (same_upd hp)) Reps.nil)⟩
        obtain ⟨o, ho⟩ := hB' p ha
        rw [hp] at ho; cases ho
  | _ => cases h2
end
end L2

end
section
set_option maxRecDepth 100000
set_option maxHeartbeats 4000000
/-! ## THE DATUM LAYER: glue for a text's defs (own) -/
namespace L2
open PySem PySem.Spec PyProof.Rows

/-- a def of the text, by its name -/
def Def (K : PySem.W.Frag) (mg : Str → Option Value) (x : Str) (st : Stmt) : Prop := ∃ f fd, Fun K x x st f fd ∧ mg x = some (.ref f)
/-- a pure def that may be called -/
def Callee (P : Program) (w : World) (K : PySem.W.Frag) (mg : Str → Option Value) (base : Heap) (k : Nat) (x : Str) (n : Nat) (g : List D → R D) : Prop :=
  ∃ f fd ps, FnOk P w K mg base CX0 k f fd ps (spD K n g) ∧ mg x = some (.ref f) ∧ PySem.W.keepIn K (.ref f) = true ∧ Binds K fd ps []
theorem alen_nil : ∀ (δ : DEnv) (ds : List D), aNil δ = .ok ds → ds.length = 0 := fun δ ds h => by cases h; rfl
theorem alen_cons {f : FD} {g : DEnv → R (List D)} {n : Nat} (h : ∀ (δ : DEnv) (ds : List D), g δ = .ok ds → ds.length = n) : ∀ (δ : DEnv) (ds : List D), aCons f g δ = .ok ds → ds.length = n + 1 := fun δ ds e => by
  obtain ⟨d, h1, h2⟩ := R.bind_ok e
  obtain ⟨es, h3, h4⟩ := R.bind_ok h2
  cases h4
  rw [List.length_cons, h δ es h3]
/-- THE RULE for a pure def, its body and scope as they are written out -/
theorem fn_pureB {P : Program} {w : World} {K : PySem.W.Frag} {mg : Str → Option Value} {base : Heap} {x qual : Str} {st : Stmt} {f : Addr} {fd : FuncData} {N ps : List Str} {k : Nat} {F : FS} {b : List Stmt} {sc : Scope} (hb : defBody st = b) (hs : defScope st = sc) (Fn : Fun K x qual st f fd) (S : FnScope N ps sc)
    (hbody : ∀ (cdv : Value) (A : Around) (outer : List Env) (s : Shared) (H : Hp) (E : XK), Room k (A.deeper (envOfC qual sc s.heap.objs.size f cdv)) →
      PDss (cxOf CX0 P w K mg base N qual sc f cdv A outer s H E).nox b F) : FnOk P w K mg base CX0 (k + 1) f fd ps (spD K ps.length (fnD N F)) := by
  subst hb hs
  exact fn_pure Fn S hbody
section
variable {X : Cx}
theorem pd_callC {g : List D → R D} {k j n : Nat} {x : Str} {p pos : Pos} {e : Expr} {es : List Expr} {fs : DEnv → R (List D)} (C : Callee X.prog X.w X.K X.mg X.base k x n g) (hr : Room j X.A) (hkj : k ≤ j) (hg : Gl X x) (ha : PAs X (e :: es) fs)
    (hn : ∀ δ ds, fs δ = .ok ds → ds.length = n) (hdb : (x == ("__debug__" : Str)) = false := by decide) (he : starEach (e :: es) X.env = (false, eval e X.env) :: starEach es X.env := by rfl) (hpl : (backTo pos (starEach es X.env)).any (·.1) = false := by rfl) :
    PD X (.Call (.Name x p) (e :: es) [] pos) (eCall g fs) := by
  obtain ⟨f, fd, ps, F, hm, hk, hb⟩ := C
  exact pd_call F (hr.mono hkj) hg hm hk hb ha hn hdb he hpl
/-- what a block's scope is, by a look -/
def csOk (sc : Scope) (N : List Str) (scope : Scope) (kp : List Nat) (kn : List Str) : Bool :=
  decide (scope.kind = .function) && scope.names.all (fun y => decide (y.2 ≠ .cell)) && scope.names.all (fun y => decide (y.2 = .local → scope.names.lookup y.1 = some .local))
    && scope.names.all (fun y => decide (y.2 = .free → (sc.names.lookup y.1 = some .cell ∨ sc.names.lookup y.1 = some .free))) && decide (kn.length = kp.length)
    && (List.range kp.length).all (fun j => decide ((kp[j]?).bind (N[·]?) = kn[j]?)) && kn.all (fun x => decide (scope.names.lookup x = some .free))
theorem CScope.of {scope : Scope} {own : List Str} {kp : List Nat} {kn : List Str} {sc : Scope} {N : List Str} (h1 : X.env.scope = sc) (h2 : X.N = N) (h : csOk sc N scope kp kn = true) : CScope X scope own kp kn := by
  unfold csOk at h
  simp only [Bool.and_eq_true, decide_eq_true_eq, List.all_eq_true] at h
  obtain ⟨⟨⟨⟨⟨⟨a1, a2⟩, a3⟩, a4⟩, a5⟩, a6⟩, a7⟩ := h
  refine ⟨a1, a2, a3, fun y hy hf => ?_, a5, fun j i x hj hx => ?_, a7⟩
  · have := a4 y hy hf
    unfold Env.kindOf
    rw [h1]
    exact this
  · have hlt : j < kp.length := (List.getElem?_eq_some_iff.mp hj).1
    have := a6 j (List.mem_range.mpr hlt)
    rw [hj] at this
    rw [h2]
    exact this.trans hx
/-- {k: v, ..}.get(e, d): written texts to written ints -/
def eGet (kvs : List (Key × V)) (f g : FD) : FD := fun δ => (f δ).bind fun k => (g δ).bind fun d => match k with
  | .str x => (match valV (mergeK [] kvs) (Sum.inr x) with | some (.int i) => .ok (.int i) | none => .ok d | _ => .no)
  | _ => .no
theorem pd_get {keys : List (Option Expr)} {values : List Expr} {trs : List (TE × TE)} {dpos apos cpos : Pos} {e f : Expr} {fe ff : FD} {kvs : List (Key × V)} (hu : X.A.units + 1 < cLine) (h : PPs X dpos keys values trs) (hall : keys.all (·.isSome) = true) (hl : keys.length = values.length) (h0 : keys ≠ [])
    (hc : ∀ σ H Q, Q (kvs.map fun kv => (kV kv.1, kv.2)) H → tPairs trs σ H Q) (hlen : kvs.length ≤ 15) (he : PD X e fe) (hf : PD X f ff) (m : M2 X (.Dict keys values dpos) "get" apos e f cpos)
    (hd : PE X (.Dict keys values dpos) (tDisp trs)) : PD X (.Call (.Attribute (.Dict keys values dpos) "get" apos) [e, f] [] cpos) (eGet kvs fe ff) := by
  refine (pe_dget2 hu hd he hf m).imp fun σ H Q ⟨Z, B, δ, d, E, hfd, q⟩ => ?_
  obtain ⟨k, h1, h2⟩ := R.bind_ok hfd
  obtain ⟨dd, h3, h4⟩ := R.bind_ok h2
  intro p hp
  refine hc σ _ _ ⟨upd_same, kvs, rfl, hlen, p, rfl, .inl ⟨_, .inl upd_same⟩, ?_⟩
  rw [upd_upd]
  have s0 : Same H (upd H p (.dK (mergeK [] kvs))) := same_upd hp
  refine ⟨Z, B, δ, k, E.same s0, h1, fun v1 H1 s1 r1 => ⟨Z, B, δ, dd, (E.same s0).same s1, h3, fun v2 H2 s2 r2 => ?_⟩⟩
  have hH2 : H2 p = some (.dK (mergeK [] kvs)) := s2 p _ (s1 p _ upd_same)
  have sA : Same H H2 := s0.trans (s1.trans s2)
  split at h4
  · rename_i x
    refine ⟨valV (mergeK [] kvs) (Sum.inr x), ?_, ?_⟩
    · rw [Rep.str.mp r1]; exact DGet.k (k := Sum.inr x) hH2
    · split at h4
      · rename_i i e1
        cases h4
        rw [e1]
        exact q _ H2 sA (Rep.int.mpr rfl)
      · rename_i e1
        cases h4
        rw [e1]
        exact q _ H2 sA r2
      · cases h4
  · cases h4
def sExtV (i : Nat) (f : FD) : FS := fun δ => (f δ).bind fun d => match d with
  | .lst es => (bldAt δ i).bind fun ds => R.when (decide (ds.length + es.length ≤ sizeLine)) (.ok (.nx (δ.set i (.bld (ds ++ es)))))
  | _ => .no
end
end L2

end
section
set_option maxRecDepth 100000
set_option maxHeartbeats 4000000
/-! ## THE DATUM LAYER: its judgements, shut (own) -/
namespace L2
open PySem PySem.Spec PyProof.Rows
structure QD (X : Cx) (e : Expr) (f : FD) : Prop where
  h : PD X e f
structure QN (X : Cx) (e : Expr) (f : DEnv → R (List D)) : Prop where
  h : PN X e f
structure QB (X : Cx) (e : Expr) (f : DEnv → R Bool) : Prop where
  h : PB X e f
structure QBW (X : Cx) (e : Expr) (f : DEnv → R Bool) : Prop where
  h : PBW X e f
structure QAs (X : Cx) (e : List Expr) (f : DEnv → R (List D)) : Prop where
  h : PAs X e f
structure QDs (X : Cx) (e : Stmt) (f : FS) : Prop where
  h : PDs X e f
structure QDss (X : Cx) (e : List Stmt) (f : FS) : Prop where
  h : PDss X e f
structure QTg (X : Cx) (e : Expr) (f : FT) : Prop where
  h : PTg X e f
structure QTgs (X : Cx) (e : List Expr) (f : FTs) : Prop where
  h : PTgs X e f
structure QIt (X : Cx) (tg e : Expr) (f : DEnv → R (List D)) : Prop where
  h : PIt X tg e f
structure QP (X : Cx) (e : Option Expr) (f : FO) : Prop where
  h : PP X e f
structure QJ (X : Cx) (e : List Expr) (f : DEnv → R (List Str)) : Prop where
  h : PJ X e f
structure QIfs (X : Cx) (e : List Expr) (c : DEnv → R Bool) : Prop where
  h : PIfs X e (tTD X.K c)
section
variable {X : Cx}
theorem qpd_new {e : Expr} {f : DEnv → R (List D)} (h : QN X e f) : QD X e (eNew f) := ⟨pd_new h.1⟩
theorem qpd_var (i : Nat) {x : Str} {pos : Pos} (hN : X.N[i]? = some x := by rfl) (hv : Vis X.env.scope x := by first | exact Or.inl rfl | exact Or.inr (Or.inl rfl) | exact Or.inr (Or.inr rfl)) (hd : (x == ("__debug__" : Str)) = false := by decide) (hcd : (x == ("__classdict__" : Str)) = false := by decide) : QD X (.Name x pos) (eVar i) := ⟨pd_var i hN hv hd hcd⟩
theorem qpd_int {i j pos} : QD X (.Constant (.int i) j pos) (eC (.int i)) := ⟨pd_int⟩
theorem qpd_bl {b j pos} : QD X (.Constant (.bool b) j pos) (eC (.bl b)) := ⟨pd_bl⟩
theorem qpd_str {x j pos} : QD X (.Constant (.str x) j pos) (eC (.str x)) := ⟨pd_str⟩
theorem qpas_nil  : QAs X [] aNil := ⟨pas_nil⟩
theorem qpas_cons {e : Expr} {es : List Expr} {f : FD} {g : DEnv → R (List D)} (h : QD X e f) (t : QAs X es g) (hs : starEach (e :: es) X.env = (false, eval e X.env) :: starEach es X.env := by rfl) : QAs X (e :: es) (aCons f g) := ⟨pas_cons h.1 t.1 hs⟩
theorem qpd_tup {es : List Expr} {g : DEnv → R (List D)} {x1 pos} (h : QAs X es g) : QD X (.Tuple es x1 pos) (eTup g) := ⟨pd_tup h.1⟩
theorem qpn_lst {es : List Expr} {g : DEnv → R (List D)} {pos} (h : QAs X es g) : QN X (.List es pos) (nLst g) := ⟨pn_lst h.1⟩
theorem qpd_op {op : Operator} {g : D → D → R D} {a b : Expr} {fa fb : FD} {pos : Pos} (ho : OpD X (binaryOp op) g) (ha : QD X a fa) (hb : QD X b fb) : QD X (.BinOp a op b pos) (e2 g fa fb) := ⟨pd_op ho ha.1 hb.1⟩
theorem qpd_cmp {op : CmpOp} {g : D → D → R D} {a b : Expr} {fa fb : FD} {pos : Pos} (ho : OpD X (compareOp op) g) (ha : QD X a fa) (hb : QD X b fb) (hm : behindInMarks op b = false) : QD X (.Compare a [op] [b] pos) (e2 g fa fb) := ⟨pd_cmp ho ha.1 hb.1 hm⟩
theorem qpb_cmp {op : CmpOp} {g : D → D → R D} {a b : Expr} {fa fb : FD} {pos : Pos} (ho : OpD X (compareOp op) g) (ha : QD X a fa) (hb : QD X b fb) (hm : behindInMarks op b = false) : QB X (.Compare a [op] [b] pos) (b2 g fa fb) := ⟨pb_cmp ho ha.1 hb.1 hm⟩
theorem qPBW_pb {e : Expr} {f : DEnv → R Bool} (h : QBW X e f) : QB X e f := ⟨PBW.pb h.1⟩
theorem qpbw_and1 {a : Expr} {f : DEnv → R Bool} {pos : Pos} (h : QB X a f) : QBW X (.BoolOp .And [a] pos) f := ⟨pbw_and1 h.1⟩
theorem qpbw_or1 {a : Expr} {f : DEnv → R Bool} {pos : Pos} (h : QB X a f) : QBW X (.BoolOp .Or [a] pos) f := ⟨pbw_or1 h.1⟩
theorem qpbw_and {a b : Expr} {rest : List Expr} {f g : DEnv → R Bool} {pos : Pos} (ha : QB X a f) (hb : QBW X (.BoolOp .And (b :: rest) pos) g) : QBW X (.BoolOp .And (a :: b :: rest) pos) (bAnd f g) := ⟨pbw_and ha.1 hb.1⟩
theorem qpbw_or {a b : Expr} {rest : List Expr} {f g : DEnv → R Bool} {pos : Pos} (ha : QB X a f) (hb : QBW X (.BoolOp .Or (b :: rest) pos) g) : QBW X (.BoolOp .Or (a :: b :: rest) pos) (bOr f g) := ⟨pbw_or ha.1 hb.1⟩
theorem qpd_if {c a b : Expr} {fc : DEnv → R Bool} {f g : FD} {pos : Pos} (hc : QB X c fc) (ha : QD X a f) (hb : QD X b g) : QD X (.IfExp c a b pos) (eIf fc f g) := ⟨pd_if hc.1 ha.1 hb.1⟩
theorem qpd_callB {g : List D → R D} {x : Str} {id : String} {p pos : Pos} {e : Expr} {es : List Expr} {fs : DEnv → R (List D)} (hc : CallD X (.builtin id) g) (hg : Gl X x) (hm : X.mg x = none) (hv : bootBuiltins x = some (.builtin id)) (ha : QAs X (e :: es) fs) (hn : x ≠ "__name__" := by decide) (hdb : (x == ("__debug__" : Str)) = false := by decide) (he : starEach (e :: es) X.env = (false, eval e X.env) :: starEach es X.env := by rfl) (hpl : (backTo pos (starEach es X.env)).any (·.1) = false := by rfl) : QD X (.Call (.Name x p) (e :: es) [] pos) (eCall g fs) := ⟨pd_callB hc hg hm hv ha.1 hn hdb he hpl⟩
theorem qpd_callTy {g : List D → R D} {x : Str} {T : String} {p pos : Pos} {e : Expr} {es : List Expr} {fs : DEnv → R (List D)} (hc : CallD X (.type T) g) (hg : Gl X x) (hm : X.mg x = none) (hv : bootBuiltins x = some (.type T)) (ha : QAs X (e :: es) fs) (hn : x ≠ "__name__" := by decide) (hdb : (x == ("__debug__" : Str)) = false := by decide) (he : starEach (e :: es) X.env = (false, eval e X.env) :: starEach es X.env := by rfl) (hpl : (backTo pos (starEach es X.env)).any (·.1) = false := by rfl) : QD X (.Call (.Name x p) (e :: es) [] pos) (eCall g fs) := ⟨pd_callTy hc hg hm hv ha.1 hn hdb he hpl⟩
theorem qpds_nil  : QDss X [] sNil := ⟨pds_nil⟩
theorem qpds_cons {st : Stmt} {rest : List Stmt} {F G : FS} (h1 : QDs X st F) (h2 : QDss X rest G) : QDss X (st :: rest) (sSeq F G) := ⟨pds_cons h1.1 h2.1⟩
theorem qpds_one {st : Stmt} {F : FS} (h1 : QDs X st F) : QDss X [st] F := ⟨pds_one h1.1⟩
theorem qpds_set {i : Nat} {x : Str} {e : Expr} {f : FD} {pos pos' : Pos} (hN : X.N.Nodup) (hi : X.N[i]? = some x) (hx : Loc X.env.scope x) (he : QD X e f) (hs : swapsWith e (some (.Name x pos')) pos.line X.env = pure false := by rfl) (hf : X.fn x = true ∨ X.env.scope.names.lookup x = some .local := by first | exact .inl rfl | exact .inr rfl | assumption) : QDs X (.Assign [.Name x pos'] e pos) (sSet i f) := ⟨pds_set hN hi hx he.1 hs hf⟩
theorem qpds_bld {i : Nat} {x : Str} {e : Expr} {f : DEnv → R (List D)} {pos pos' : Pos} (hN : X.N.Nodup) (hi : X.N[i]? = some x) (hx : Loc X.env.scope x) (he : QN X e f) (hs : swapsWith e (some (.Name x pos')) pos.line X.env = pure false := by rfl) (hf : X.fn x = true ∨ X.env.scope.names.lookup x = some .local := by first | exact .inl rfl | exact .inr rfl | assumption) : QDs X (.Assign [.Name x pos'] e pos) (sBld i f) := ⟨pds_bld hN hi hx he.1 hs hf⟩
theorem qpds_app {i : Nat} {x : Str} {e : Expr} {f : FD} {npos apos cpos pos : Pos} (hN : X.N[i]? = some x) (hv : Vis X.env.scope x) (he : QD X e f) (hd : (x == ("__debug__" : Str)) = false := by decide) (hcd : (x == ("__classdict__" : Str)) = false := by decide) (hs : starEach [e] X.env = (false, eval e X.env) :: starEach [] X.env := by rfl) (hline : (apos.endLine == cpos.line) = true := by rfl) (hfew : ((backTo cpos (starEach [e] X.env)).all (fun x => !x.1) && (backToKw cpos (keywordEach [] X.env)).all (fun x => x.1.isSome)
      && decide (([e] : List Expr).length + ([] : List Keyword).length + (if ([] : List Keyword).isEmpty then 0 else 1) < 30)) = true := by rfl) (hsw : swapsWith (.Call (.Attribute (.Name x npos) "append" apos) [e] [] cpos) none pos.line X.env = pure false := by rfl) (hbase : attributeBase (.Name x npos) "append" X.env (eval (.Name x npos) X.env) = eval (.Name x npos) X.env := by rfl) : QDs X (.Expr (.Call (.Attribute (.Name x npos) "append" apos) [e] [] cpos) pos) (sApp i f) := ⟨pds_app hN hv he.1 hd hcd hs hline hfew hsw hbase⟩
theorem qpds_frz (i : Nat) {sts : List Stmt} {F : FS} (h : QDss X sts F) : QDss X sts (sFrz i F) := ⟨pds_frz i h.1⟩
theorem qpds_ret {e : Expr} {f : FD} {pos : Pos} (he : QD X e f) : QDs X (.Return (some e) pos) (sRet f) := ⟨pds_ret he.1⟩
theorem qpds_if {c : Expr} {a b : List Stmt} {fc : DEnv → R Bool} {F G : FS} {pos : Pos} (hc : QB X c fc) (ha : QDss X a F) (hb : QDss X b G) : QDs X (.If c a b pos) (sIf fc F G) := ⟨pds_if hc.1 ha.1 hb.1⟩
theorem qptg_name {i : Nat} {x : Str} {pos : Pos} (hN : X.N.Nodup) (hi : X.N[i]? = some x) (hx : Loc X.env.scope x) (hf : X.fn x = true ∨ X.env.scope.names.lookup x = some .local := by first | exact .inl rfl | exact .inr rfl | assumption) : QTg X (.Name x pos) (gNameD i) := ⟨ptg_name hN hi hx hf⟩
theorem qptgs_nil  : QTgs X [] gNilD := ⟨ptgs_nil⟩
theorem qptgs_cons {e : Expr} {es : List Expr} {t : FT} {u : FTs} (h1 : QTg X e t) (h2 : QTgs X es u) (hs : (assignEach (e :: es) X.env).map (·.2) = assign e X.env :: (assignEach es X.env).map (·.2) := by rfl) : QTgs X (e :: es) (gConsD t u) := ⟨ptgs_cons h1.1 h2.1 hs⟩
theorem qptg_tup {es : List Expr} {k : Nat} {t : FTs} {n : Nat} {pos : Pos} (hc : X.calm = true) (h : QTgs X es t) (hn : (assignEach es X.env).length = n := by rfl) (hst : (assignEach es X.env).findIdx? (·.1) = none := by rfl) : QTg X (.Tuple es k pos) (gTupD n t) := ⟨ptg_tup hc h.1 hn hst⟩
theorem qpit_seq {tg e : Expr} {f : FD} (h : QD X e f) : QIt X tg e (itSeq f) := ⟨pit_seq h.1⟩
theorem qpit_range1 {tg a : Expr} {f : FD} {p pos : Pos} (h : QD X a f) (hg : Gl X "range") (hm : X.mg "range" = none) (hs : starEach [a] X.env = [(false, eval a X.env)] := by rfl) : QIt X tg (.Call (.Name "range" p) [a] [] pos) (itRng1 f) := ⟨pit_range1 h.1 hg hm hs⟩
theorem qpds_for {tg iter : Expr} {body : List Stmt} {it : DEnv → R (List D)} {t : FT} {F : FS} {pos : Pos} (hp : PassesOwn (model X.prog X.w) X.A X.env X.xe) (hc : X.calm = true) (hi : QIt X tg iter it) (hg : QTg X tg t) (hb : QDss X body F) (hs : ∀ x, foldedSetIterable iter X.env x = pure x := by intro _; rfl) : QDs X (.For tg iter body [] pos) (sFor it t F) := ⟨pds_for hp hc hi.1 hg.1 hb.1 hs⟩
theorem qpn_comp {scope : Scope} {own : List Str} {kp : List Nat} {kn : List Str} {tg iter elt : Expr} {ifs : List Expr} {it : DEnv → R (List D)} {t : FT} {c : DEnv → R Bool} {f : FD} {pos : Pos} (hc : X.calm = true) (C : CScope X scope own kp kn) (hi : QIt X tg iter it) (hg : ∀ fp s H, QTg (cxComp X scope (own ++ kn) fp s H) tg t) (hif : ∀ fp s H, QIfs (cxComp X scope (own ++ kn) fp s H) ifs c) (he : ∀ fp s H, QD (cxComp X scope (own ++ kn) fp s H) elt f) (hs : ∀ x, foldedSetIterable iter X.env x = pure x := by intro _; rfl) : QN X (.ListComp elt [⟨tg, iter, ifs, 0⟩] scope pos) (nComp it t c f own kp) := ⟨pn_comp hc C hi.1 (fun fp s H => (hg fp s H).1) (fun fp s H => (hif fp s H).1) (fun fp s H => (he fp s H).1) hs⟩
theorem qpifs_yes  : QIfs X [] cYes := ⟨pifs_yes⟩
theorem qpds_setComp {i : Nat} {x : Str} {pos' spos : Pos} {scope : Scope} {own : List Str} {kp : List Nat} {kn : List Str} {tg iter elt : Expr} {ifs : List Expr} {it : DEnv → R (List D)} {t : FT} {c : DEnv → R Bool} {f : FD} {pos : Pos} (hc : X.calm = true) (hN : X.N.Nodup) (hx : X.N[i]? = some x) (hxl : X.env.scope.names.lookup x = some .local) (C : CScope X scope own kp kn) (hi : QIt X tg iter it) (hg : ∀ fp s H, QTg (cxComp X scope (own ++ kn) fp s H) tg t) (hif : ∀ fp s H, QIfs (cxComp X scope (own ++ kn) fp s H) ifs c) (he : ∀ fp s H, QD (cxComp X scope (own ++ kn) fp s H) elt f) (hsw : swapsWith (.ListComp elt [⟨tg, iter, ifs, 0⟩] scope pos) (some (.Name x pos')) spos.line X.env = pure true := by rfl) (hs : ∀ x, foldedSetIterable iter X.env x = pure x := by intro _; rfl) : QDs X (.Assign [.Name x pos'] (.ListComp elt [⟨tg, iter, ifs, 0⟩] scope pos) spos) (sSet i (eNew (nComp it t c f own kp))) := ⟨pds_setComp hc hN hx hxl C hi.1 (fun fp s H => (hg fp s H).1) (fun fp s H => (hif fp s H).1) (fun fp s H => (he fp s H).1) hsw hs⟩
theorem qpd_ix {a b : Expr} {fa fb : FD} {pos : Pos} (ha : QD X a fa) (hb : QD X b fb) (hs : PlainIx b) : QD X (.Subscript a b pos) (e2 ixD fa fb) := ⟨pd_ix ha.1 hb.1 hs⟩
theorem qpp_none  : QP X none oNone := ⟨pp_none⟩
theorem qpp_some {e : Expr} {f : FD} (h : QD X e f) : QP X (some e) (oSome f) := ⟨pp_some h.1⟩
theorem qpd_sl {e : Expr} {lo hi : Option Expr} {f : FD} {fl fh : FO} {p2 pos : Pos} (he : QD X e f) (hl : QP X lo fl) (hh : QP X hi fh) : QD X (.Subscript e (.Slice lo hi none p2) pos) (eSl f fl fh) := ⟨pd_sl he.1 hl.1 hh.1⟩
theorem qpit_enum {elts : List Expr} {k : Nat} {tpos : Pos} {a : Expr} {f : FD} {p pos : Pos} (h : QD X a f) (hg : Gl X "enumerate") (hm : X.mg "enumerate" = none) (hs : starEach [a] X.env = [(false, eval a X.env)] := by rfl) : QIt X (.Tuple elts k tpos) (.Call (.Name "enumerate" p) [a] [] pos) (itEnum f) := ⟨pit_enum h.1 hg hm hs⟩
theorem qfn_pureB {P : Program} {w : World} {K : PySem.W.Frag} {mg : Str → Option Value} {base : Heap} {x qual : Str} {st : Stmt} {f : Addr} {fd : FuncData} {N ps : List Str} {k : Nat} {F : FS} {b : List Stmt} {sc : Scope} (hb : defBody st = b) (hs : defScope st = sc) (Fn : Fun K x qual st f fd) (S : FnScope N ps sc) (hbody : ∀ (cdv : Value) (A : Around) (outer : List Env) (s : Shared) (H : Hp) (E : XK), Room k (A.deeper (envOfC qual sc s.heap.objs.size f cdv)) →
      QDss (cxOf CX0 P w K mg base N qual sc f cdv A outer s H E).nox b F) : FnOk P w K mg base CX0 (k + 1) f fd ps (spD K ps.length (fnD N F)) := fn_pureB hb hs Fn S (fun cdv A outer s H E hr => (hbody cdv A outer s H E hr).1)
theorem qpd_callC {g : List D → R D} {k j n : Nat} {x : Str} {p pos : Pos} {e : Expr} {es : List Expr} {fs : DEnv → R (List D)} (C : Callee X.prog X.w X.K X.mg X.base k x n g) (hr : Room j X.A) (hkj : k ≤ j) (hg : Gl X x) (ha : QAs X (e :: es) fs) (hn : ∀ δ ds, fs δ = .ok ds → ds.length = n) (hdb : (x == ("__debug__" : Str)) = false := by decide) (he : starEach (e :: es) X.env = (false, eval e X.env) :: starEach es X.env := by rfl) (hpl : (backTo pos (starEach es X.env)).any (·.1) = false := by rfl) : QD X (.Call (.Name x p) (e :: es) [] pos) (eCall g fs) := ⟨pd_callC C hr hkj hg ha.1 hn hdb he hpl⟩
theorem qpd_get {keys : List (Option Expr)} {values : List Expr} {trs : List (TE × TE)} {dpos apos cpos : Pos} {e f : Expr} {fe ff : FD} {kvs : List (Key × V)} (hu : X.A.units + 1 < cLine) (h : PPs X dpos keys values trs) (hall : keys.all (·.isSome) = true) (hl : keys.length = values.length) (h0 : keys ≠ []) (hc : ∀ σ H Q, Q (kvs.map fun kv => (kV kv.1, kv.2)) H → tPairs trs σ H Q) (hlen : kvs.length ≤ 15) (he : QD X e fe) (hf : QD X f ff) (m : M2 X (.Dict keys values dpos) "get" apos e f cpos) (hd : PE X (.Dict keys values dpos) (tDisp trs)) : QD X (.Call (.Attribute (.Dict keys values dpos) "get" apos) [e, f] [] cpos) (eGet kvs fe ff) := ⟨pd_get hu h hall hl h0 hc hlen he.1 hf.1 m hd⟩
end
end L2

end
section
set_option maxRecDepth 100000
set_option maxHeartbeats 4000000
/-! ## a law that is a pure def (own; law_call of the layer, with the script's object told whole) -/
namespace L2
open PySem PySem.Spec PyProof.Rows
theorem law_callR {P : Program} {w : World} {K : PySem.W.Frag} {mg mb : Str → Option Value} {CX : CXT} {k : Nat} {fa a : Addr} {fd : FuncData} {x : Str} {sp : Sp} {s₁ : Shared} {vs : List Value} {ns : List Int}
    (KX : K.In s₁.heap) (hns : s₁.heap.Ns mainGlobals mg) (hb : s₁.heap.Ns builtinsNs mb) (hbb : ∀ x : Str, x ≠ "__name__" → mb x = bootBuiltins x) (hlim : s₁.heap.NoLimit) (hg : s₁.gens = #[])
    (ha : s₁.heap.get? a = some { cls := .type "list", data := .seq vs.toArray }) (hi : IntsAre vs ns) (hl : ns.length ≤ sizeLine) (hr : Room k callerA)
    (F : ∀ base : Heap, K.In base → base.Ns mainGlobals mg → FnOk P w K mg base CX k fa fd [x] sp) (hbind : ∀ (s : Shared) (u : Value), BindsTo s fd ⟨[u], []⟩ [(x, u)])
    (hsp : ∀ H : Hp, Only H → LsF K [] H a (ns.map V.int) → sp [.ref a] H (fun v _ => v = .bl true) fun _ _ _ => False)
    (hCX : ∀ H e s', CX [] H s₁ (fun _ _ _ => False) e s' → False) :
    codeAny (model P w) callerA (.call (.ref fa) ⟨[.ref a], []⟩) (fun r s' => r = .ok (.ret (.bool true)) ∧ OldK s₁.heap s'.heap ∧ s'.os = s₁.os ∧ AllBare s'.gens) s₁ := by
  have rv := vals_ints hi
  have lenV := hi.length
  -- from an abstract heap in which nothing but the script may be tracked
  have core : ∀ H : Hp, Only H → LsF K [] H a (ns.map V.int) → HOk P w H s₁.heap → (∀ b, H b ≠ none → b = a) → (H a ≠ none → K.lookup a = none) →
      codeAny (model P w) callerA (.call (.ref fa) ⟨[.ref a], []⟩) (fun r s' => r = .ok (.ret (.bool true)) ∧ OldK s₁.heap s'.heap ∧ s'.os = s₁.os ∧ AllBare s'.gens) s₁ := by
    intro H hO hS hok hA hK
    have base_of : ∀ {b : Addr} {o : Obj}, s₁.heap.get? b = some o → H b = none → (hidT s₁.heap H).get? b = some o := fun e n => hidT_get e n
    have noA : ∀ {b : Addr} {o : Obj} {es : Array DictEntry} {ep : Nat}, s₁.heap.get? b = some o → o.data = .dict es ep → H b = none := fun {b o es ep} e d => by
      cases q : H b with
      | none => rfl
      | some u =>
        have e' : b = a := hA b (by rw [q]; simp)
        subst e'
        rw [ha] at e; cases e
        have d' : Data.seq vs.toArray _ = Data.dict es ep := d
        cases d'
    have nsK : ∀ {b : Addr} {m : Str → Option Value}, s₁.heap.Ns b m → (hidT s₁.heap H).Ns b m := fun {b m} ⟨o, es, ep, e, d, r⟩ => ⟨o, es, ep, base_of e (noA e d), d, r⟩
    have hKb : K.In (hidT s₁.heap H) := fun b o e => base_of (KX b o e) (by
      cases q : H b with
      | none => rfl
      | some u =>
        have e' : b = a := hA b (by rw [q]; simp)
        subst e'
        rw [hK (by rw [q]; simp)] at e; cases e)
    have hM : Mod K mg (hidT s₁.heap H) := ⟨hKb, nsK hns, ⟨mb, nsK hb, hbb⟩, let ⟨mc, h1, h2⟩ := hlim; ⟨mc, nsK h1, h2⟩⟩
    have e0 : Env0 P w K mg (hidT s₁.heap H) callerA [] s₁ H := ⟨rfl, hM, fun b o e => of_hidT e, Nat.le_of_eq (hidT_size _ _), trivial, fun b hb => absurd (show b ∈ ([] : List Addr) from hb) (by simp), hok, .of_eq hg⟩
    refine codeAny_mono ((F _ hKb (nsK hns)).run callerA [] s₁ H ⟨[.ref a], []⟩ [.ref a] [.ref a] _ _ hr e0 (hbind s₁ (.ref a)) (.cons rfl .nil) (hsp H hO hS)) fun r s' h => ?_
    cases r with
    | error e => exact (hCX H e s' h).elim
    | ok fl =>
      cases fl with
      | next => exact False.elim h
      | brk => exact False.elim h
      | cont => exact False.elim h
      | ret u =>
        obtain ⟨v, H', os, bare, un, hok', r', q⟩ := h
        have q' : v = .bl true := q
        subst q'
        obtain rfl : u = Value.bool true := r'
        refine ⟨rfl, OldK.of_keep fun b o e => ?_, os, bare⟩
        cases q : H b with
        | none => exact un.keep b o e q (by intro z; exact absurd (show b ∈ ([] : List Addr) from z) (by simp)) (by simp)
        | some u =>
          rcases hO b with z | ⟨ob, xs, z⟩
          · rw [q] at z; cases z
          · have z2 := un.frzs b ob _ z
            obtain ⟨e1, _⟩ := hok b _ z
            obtain ⟨e2, _⟩ := hok' b _ z2
            rw [e] at e1; cases e1
            exact e2
  cases hk : K.lookup a with
  | some o =>
    -- the script is one of the module's own objects
    have e := KX a o hk
    rw [ha] at e
    cases e
    refine core (fun _ => none) (fun _ => .inl rfl) (.inr ⟨vs, _, hk, by rw [List.length_map]; exact hl, rv⟩) (fun b u z => by have z' : (none : Option HO) = some u := z; cases z') (fun b z => absurd rfl z) fun z => absurd rfl z
  | none =>
    refine core (fun b => if b = a then some (.frz { cls := .type "list", data := .seq vs.toArray } (.lst (ns.map V.int))) else none) (fun b => ?_) (.inl ⟨by simp, .inr ⟨{ cls := .type "list", data := .seq vs.toArray }, if_pos rfl⟩⟩) (fun b u z => ?_) (fun b z => ?_) fun _ => hk
    · by_cases hb : b = a
      · exact .inr ⟨_, _, if_pos hb⟩
      · exact .inl (if_neg hb)
    · by_cases hb : b = a
      · have z' := (if_pos hb).symm.trans z
        cases z'
        subst hb
        exact ⟨ha, by rw [List.length_map]; exact hl, vs, _, rv, ha⟩
      · have z' := (if_neg hb).symm.trans z
        cases z'
    · by_cases hb : b = a
      · exact hb
      · exact absurd (if_neg hb) z

theorem ints_rep {K : PySem.W.Frag} {B : List Addr} {H : Hp} : ∀ ns : List Int, Reps K B H (ns.map D.int) (ns.map V.int)
  | [] => Reps.nil
  | n :: ns => Reps.cons (Rep.int.mpr rfl) (ints_rep ns)
theorem walkL {l : PySem.W.OpenLaw} {n k : Nat} {q : Program} {loose : List Str} {XP : (Str → Option Value) → Heap → Prop} {YP : World → Heap → Prop} {d : DefRec} {K : Params → PySem.W.Frag} {x : Str} {g : List D → R D}
    (hn : l.most = some n) (hn2 : n ≤ sizeLine) (hdf : d.params.defaults = []) (hr : Room k callerA) (hY : ∀ (w : World) (h : Heap), YP w h → (K w.params).In h)
    (F : ∀ (w : World) (mg : Str → Option Value) (fa : Addr) (h : Heap), (K w.params).In h → h.Ns mainGlobals mg → mg d.name = some (.ref fa) →
      ∃ fd : FuncData, (∀ (s : Shared) (u : Value), BindsTo s fd ⟨[u], []⟩ [(x, u)]) ∧ ∀ base : Heap, (K w.params).In base → base.Ns mainGlobals mg → FnOk l.prog w (K w.params) mg base CX0 k fa fd [x] (spD (K w.params) 1 g))
    (hg : ∀ ns : List Int, ns.length ≤ n → g [.lst (ns.map D.int)] = .ok (.bl true)) : PySem.W.WalkO q loose XP YP l.row.toRowW d [] (fun f vs => PySem.call f vs) := by
  refine Att.attach_call hn hdf fun w s₀ s₁ mg mb fa o pm cd doc a vs ns G Y ho hd hcd hmg hobj hints hlen hgen => ?_
  have KX := hY w _ Y
  obtain ⟨fd, hb, hF⟩ := F w mg fa _ KX G.T.g hmg
  refine law_callR KX G.T.g G.T.b G.T.builtins G.T.nolimit hgen hobj hints (Nat.le_trans hlen hn2) hr hF hb (fun H hO hS => ?_) fun H e s' h => h
  refine ⟨rfl, [], [.lst (ns.map D.int)], .bl true, fun b hb => (by cases hb), Reps.cons (Rep.lst.mpr ⟨_, _, rfl, hS, ints_rep ns⟩) Reps.nil, hg ns hlen, fun z H' _ r => Rep.bl.mp r⟩
theorem def_mk {K : PySem.W.Frag} {h : Heap} {mg : Str → Option Value} {x : Str} {st : Stmt} {f : Addr} {oc : Value} {od an : Option Addr} {osl : Array (Option Value)} {kV doc pm cdv ct : Value} (X : K.In h) (G : h.Ns mainGlobals mg) (a : PySem.W.nsIn K mainGlobals x = some (some (.ref f)))
    (l : K.lookup f = some ⟨oc, od, .func (PySem.W.fnOf x x (defArgs st) (defBody st) (defScope st) .none kV doc pm an cdv ct), osl⟩) (c : PySem.W.codeIn K cdv x = true) (k : PySem.W.keepIn K (.ref f) = true) : Def K mg x st :=
  ⟨f, _, fun_mk l c k, PySem.W.mg_of X G a⟩
end L2

end
section
set_option maxRecDepth 100000
set_option maxHeartbeats 4000000
/-! ## what loops and comprehensions are worth (own) -/
namespace L2
open PySem PySem.Spec PyProof.Rows

theorem loopD_from {t : FT} {body : FS} : ∀ (ds : List D) (n : Nat) (P : Nat → DEnv → Prop) {δ : DEnv}, P n δ →
    (∀ i d δ, ds[i]? = some d → P (n + i) δ → ∃ δ', ((t d δ).bind body) = .ok (.nx δ') ∧ P (n + i + 1) δ') → ∃ δ', loopD t body ds δ = .ok (.nx δ') ∧ P (n + ds.length) δ'
  | [], n, P, δ, h0, _ => ⟨δ, rfl, h0⟩
  | d :: ds, n, P, δ, h0, hs => by
    obtain ⟨δ1, e1, p1⟩ := hs 0 d δ rfl h0
    obtain ⟨δ2, e2, p2⟩ := loopD_from ds (n + 1) P p1 (fun i d' δ' hi hp => by
      have := hs (i + 1) d' δ' (by simpa using hi) (by rw [show n + (i + 1) = n + 1 + i by omega]; exact hp)
      rw [show n + (i + 1) + 1 = n + 1 + i + 1 by omega] at this
      exact this)
    refine ⟨δ2, ?_, by rw [List.length_cons, show n + (ds.length + 1) = n + 1 + ds.length by omega]; exact p2⟩
    obtain ⟨δ0, h1, h2⟩ := R.bind_ok e1
    show (t d δ).bind (fun δ1 => (body δ1).bind fun o => match o with | .nx δ2 => loopD t body ds δ2 | .rt r => .ok (.rt r)) = _
    rw [h1, R.ok_bind, h2, R.ok_bind]
    exact e2
theorem loopD_inv {t : FT} {body : FS} {ds : List D} (P : Nat → DEnv → Prop) {δ : DEnv} (h0 : P 0 δ)
    (hs : ∀ i d δ, ds[i]? = some d → P i δ → ∃ δ', ((t d δ).bind body) = .ok (.nx δ') ∧ P (i + 1) δ') : ∃ δ', loopD t body ds δ = .ok (.nx δ') ∧ P ds.length δ' := by
  have := loopD_from (t := t) (body := body) ds 0 P h0 (fun i d δ hi hp => by simpa using hs i d δ hi (by simpa using hp))
  simpa using this
theorem compL_map {t : FT} {c : DEnv → R Bool} {f : FD} {δ : DEnv} (g : D → D) : ∀ {ds : List D}, (∀ d ∈ ds, ∃ δ1, t d δ = .ok δ1 ∧ c δ1 = .ok true ∧ f δ1 = .ok (g d)) → compL t c f δ ds = .ok (ds.map g)
  | [], _ => rfl
  | d :: ds, h => by
    obtain ⟨δ1, h1, h2, h3⟩ := h d List.mem_cons_self
    have ih := compL_map (t := t) (c := c) (f := f) (δ := δ) g (fun d' hd => h d' (List.mem_cons_of_mem _ hd))
    unfold compL
    rw [h1, R.ok_bind, h2, R.ok_bind, if_pos rfl, h3, R.ok_bind, ih]
    rfl
/-- more things than places: one is not there -/
theorem pigeon {α : Type} [DecidableEq α] : ∀ (L F : List α), L.Nodup → (∀ x ∈ L, x ∈ F) → L.length ≤ F.length
  | [], _, _, _ => Nat.zero_le _
  | x :: L, F, hn, hs => by
    obtain ⟨h1, h2⟩ := List.nodup_cons.mp hn
    have hx : x ∈ F := hs x List.mem_cons_self
    have ih := pigeon L (F.erase x) h2 (fun y hy => (List.mem_erase_of_ne (fun (e : y = x) => h1 (by rw [← e]; exact hy))).mpr (hs y (List.mem_cons_of_mem _ hy)))
    rw [List.length_erase_of_mem hx] at ih
    have : 0 < F.length := List.length_pos_of_mem hx
    rw [List.length_cons]
    omega
theorem atI_of {α : Type} {xs : List α} {i : Int} (h0 : 0 ≤ i) (h : i.toNat < xs.length) : atI xs i = some xs[i.toNat] := by
  unfold atI ixN
  rw [if_pos h0, if_pos (by omega)]
  simp [h]
theorem strs_map : ∀ ss : List Str, strs? (ss.map D.str) = some ss
  | [] => rfl
  | s :: ss => by show (strs? (ss.map D.str)).map (s :: ·) = _; rw [strs_map ss]; rfl
theorem ints_map : ∀ ss : List Int, ints? (ss.map D.int) = some ss
  | [] => rfl
  | s :: ss => by show (ints? (ss.map D.int)).map (s :: ·) = _; rw [ints_map ss]; rfl
theorem str_ext {a b : Str} (h : a.cps.toList = b.cps.toList) : a = b := by
  obtain ⟨a⟩ := a; obtain ⟨b⟩ := b
  congr 1
  exact Array.toList_inj.mp h
theorem str_app (a b : Str) : (a ++ b).cps.toList = a.cps.toList ++ b.cps.toList := by
  show (a.cps ++ b.cps).toList = _
  simp
theorem sSeq_ok {F G : FS} {δ δ1 : DEnv} {r : R Out} (h : F δ = .ok (.nx δ1)) (h2 : G δ1 = r) : sSeq F G δ = r := by unfold sSeq; rw [h, R.ok_bind]; exact h2
theorem eNew_ok {f : DEnv → R (List D)} {δ : DEnv} {ds : List D} (h : f δ = .ok ds) : eNew f δ = .ok (.lst ds) := by unfold eNew; rw [h]; rfl
theorem sIf_t {c : DEnv → R Bool} {F G : FS} {δ : DEnv} {r : R Out} (h : c δ = .ok true) (h2 : F δ = r) : sIf c F G δ = r := by unfold sIf; rw [h, R.ok_bind, if_pos rfl]; exact h2
theorem sIf_f {c : DEnv → R Bool} {F G : FS} {δ : DEnv} {r : R Out} (h : c δ = .ok false) (h2 : G δ = r) : sIf c F G δ = r := by unfold sIf; rw [h, R.ok_bind, if_neg (by decide)]; exact h2
theorem sFor_ok {it : DEnv → R (List D)} {t : FT} {F : FS} {δ : DEnv} {ds : List D} {r : R Out} (h : it δ = .ok ds) (h2 : loopD t F ds δ = r) : sFor it t F δ = r := by unfold sFor; rw [h, R.ok_bind]; exact h2
theorem sRet_ok {f : FD} {δ : DEnv} {d : D} (h : f δ = .ok d) : sRet f δ = .ok (.rt d) := by unfold sRet; rw [h]; rfl
theorem fnD_ok {N : List Str} {F : FS} {ds : List D} {d : D} (h : F (dStart N ds) = .ok (.rt d)) : fnD N F ds = .ok d := by unfold fnD; rw [h]; rfl
theorem when_of {α : Type} {p : Prop} [Decidable p] (r : R α) (h : p) : R.when (decide p) r = r := by rw [decide_eq_true h]; rfl
theorem sSet_ok {i : Nat} {f : FD} {δ : DEnv} {d : D} (h : f δ = .ok d) (hi : i < δ.length) : sSet i f δ = .ok (.nx (δ.set i (.val d))) := by unfold sSet; rw [h, R.ok_bind, when_of _ hi]
theorem sBld_ok {i : Nat} {f : DEnv → R (List D)} {δ : DEnv} {ds : List D} (h : f δ = .ok ds) (hi : i < δ.length) : sBld i f δ = .ok (.nx (δ.set i (.bld ds))) := by unfold sBld; rw [h, R.ok_bind, when_of _ hi]
theorem sApp_ok {i : Nat} {f : FD} {δ : DEnv} {d : D} {ds : List D} (h : f δ = .ok d) (hb : δ[i]? = some (.bld ds)) (hl : ds.length < sizeLine) : sApp i f δ = .ok (.nx (δ.set i (.bld (ds ++ [d])))) := by unfold sApp bldAt; rw [h, R.ok_bind, hb]; show R.when _ _ = _; rw [when_of _ hl]
theorem nComp_ok {it : DEnv → R (List D)} {t : FT} {c : DEnv → R Bool} {f : FD} {own : List Str} {kp : List Nat} {δ : DEnv} {ds ys : List D} (h1 : it δ = .ok ds) (h2 : ds.length ≤ sizeLine) (h3 : compL t c f (cEnv own kp δ) ds = .ok ys) : nComp it t c f own kp δ = .ok ys := by unfold nComp; rw [h1, R.ok_bind, when_of _ h2, h3]
theorem ixL_of {ds : List D} {i : Int} {d : D} (h : atI ds i = some d) : ixD (.lst ds) (.int i) = .ok d := by unfold ixD; simp only [h]
theorem ixS_of {x : Str} {i : Int} {c : Nat} (hz : x.length ≤ sizeLine) (h : atI x.cps.toList i = some c) : ixD (.str x) (.int i) = .ok (.str ⟨#[c]⟩) := by unfold ixD; simp only [h, when_of _ hz]
end L2

end
section
set_option maxRecDepth 100000
/-! ## what expressions are worth, part by part (own) -/
namespace L2
open PySem PySem.Spec PyProof.Rows
theorem e2_ok {g : D → D → R D} {fa fb : FD} {δ : DEnv} {a b : D} {r : R D} (ha : fa δ = .ok a) (hb : fb δ = .ok b) (h : g a b = r) : e2 g fa fb δ = r := by unfold e2; rw [ha, R.ok_bind, hb, R.ok_bind]; exact h
theorem b2_ok {g : D → D → R D} {fa fb : FD} {δ : DEnv} {a b : D} {k : Bool} (ha : fa δ = .ok a) (hb : fb δ = .ok b) (h : g a b = .ok (.bl k)) : b2 g fa fb δ = .ok k := by unfold b2; rw [e2_ok ha hb h]; rfl
theorem aCons_ok {f : FD} {g : DEnv → R (List D)} {δ : DEnv} {d : D} {ds : List D} (h : f δ = .ok d) (h2 : g δ = .ok ds) : aCons f g δ = .ok (d :: ds) := by unfold aCons; rw [h, R.ok_bind, h2]; rfl
theorem eCall_ok {g : List D → R D} {fs : DEnv → R (List D)} {δ : DEnv} {ds : List D} {r : R D} (h : fs δ = .ok ds) (h2 : g ds = r) : eCall g fs δ = r := by unfold eCall; rw [h, R.ok_bind]; exact h2
theorem eTup_ok {g : DEnv → R (List D)} {δ : DEnv} {ds : List D} (h : g δ = .ok ds) (hl : ds.length ≤ sizeLine) : eTup g δ = .ok (.tup ds) := by unfold eTup; rw [h, R.ok_bind, when_of _ hl]
theorem nLst_ok {g : DEnv → R (List D)} {δ : DEnv} {ds : List D} (h : g δ = .ok ds) (hl : ds.length ≤ sizeLine) : nLst g δ = .ok ds := by unfold nLst; rw [h, R.ok_bind, when_of _ hl]
theorem eMtS_ok {g : D → List D → R D} {f : FD} {fs : DEnv → R (List D)} {δ : DEnv} {x : Str} {ds : List D} {r : R D} (h : f δ = .ok (.str x)) (h2 : fs δ = .ok ds) (h3 : g (.str x) ds = r) : eMt "str" g f fs δ = r := by
  unfold eMt; rw [h, R.ok_bind, h2, R.ok_bind]; exact h3
theorem eSl_ok {f : FD} {fl fh : FO} {δ : DEnv} {d : D} {lo hi : Option Int} {r : R D} (h : f δ = .ok d) (h1 : fl δ = .ok lo) (h2 : fh δ = .ok hi) (h3 : slD d lo hi = r) : eSl f fl fh δ = r := by unfold eSl; rw [h, R.ok_bind, h1, R.ok_bind, h2, R.ok_bind]; exact h3
theorem slS_ok {x : Str} {lo hi : Option Int} (h : x.length ≤ sizeLine) : slD (.str x) lo hi = .ok (.str (Txt.slice x lo hi)) := by unfold slD; exact when_of _ h
theorem addS_ok {a b : Str} (h : a.length + b.length ≤ sizeLine) : dAdd (.str a) (.str b) = .ok (.str (a ++ b)) := by unfold dAdd; exact when_of _ h
theorem addL_ok {a b : List D} (h : a.length + b.length ≤ sizeLine) : dAdd (.lst a) (.lst b) = .ok (.lst (a ++ b)) := by unfold dAdd; exact when_of _ h
theorem mod_ok {a b : Int} (h : 0 < b) : dMod (.int a) (.int b) = .ok (.int (a % b)) := by unfold dMod dII; exact when_of _ h
theorem rng1_ok {f : FD} {δ : DEnv} {n : Nat} (h : f δ = .ok (.int n)) (hn : n < 1000000) : itRng1 f δ = .ok (rngD 0 n) := by
  unfold itRng1; rw [h, R.ok_bind]; show R.when (decide (-(2 ^ 62) ≤ (n : Int) ∧ (n : Int) < 2 ^ 62)) _ = _
  rw [when_of _ ⟨by omega, by omega⟩, Int.toNat_natCast]
theorem itL_ok {f : FD} {δ : DEnv} {ds : List D} (h : f δ = .ok (.lst ds)) : itSeq f δ = .ok ds := by unfold itSeq; rw [h]; rfl
theorem itT_ok {f : FD} {δ : DEnv} {ds : List D} (h : f δ = .ok (.tup ds)) : itSeq f δ = .ok ds := by unfold itSeq; rw [h]; rfl
theorem lenL (ds : List D) : cLen [.lst ds] = .ok (.int ds.length) := rfl
end L2

end
section
set_option maxRecDepth 100000
set_option maxHeartbeats 4000000
/-! ## THE STORE LAYER (own): the datum layer with a store of lists, dicts and objects that change -/
namespace L3
open PySem PySem.Spec PyProof.Rows L2

/-- a value: a datum, a place of the store, a list or a tuple that holds such -/
inductive V3 where
  | d (x : D) | loc (k : Nat) | lst (vs : List V3) | tup (vs : List V3)
/-- a thing of the store -/
inductive SO where
  | lst (ds : List D) | dct (kvs : List (Key × D)) | ins (c : Nat) (fs : List (Str × V3)) | frz
abbrev Sto := List SO
inductive R3 (α : Type) where
  | ok (a : α) (S : Sto) | ex (c : Nat) (S : Sto) | no
def R3.bind {α β : Type} : R3 α → (α → Sto → R3 β) → R3 β
  | .ok a S, f => f a S
  | .ex c S, _ => .ex c S
  | .no, _ => .no
theorem R3.bind_ok {α β : Type} {r : R3 α} {f : α → Sto → R3 β} {b : β} {S' : Sto} (h : r.bind f = .ok b S') : ∃ a S, r = .ok a S ∧ f a S = .ok b S' := by
  cases r with
  | ok a S => exact ⟨a, S, rfl, h⟩
  | ex c S => cases h
  | no => cases h
@[simp] theorem R3.ok_bind {α β : Type} (a : α) (S : Sto) (f : α → Sto → R3 β) : (R3.ok a S).bind f = f a S := rfl
def R3.when {α : Type} (c : Bool) (r : R3 α) : R3 α := if c then r else .no
theorem R3.when_ok {α : Type} {c : Bool} {r : R3 α} {a : α} {S : Sto} (h : R3.when c r = .ok a S) : c = true ∧ r = .ok a S := by
  cases c with
  | true => exact ⟨rfl, h⟩
  | false => cases h
def R3.of {α : Type} (r : R α) (S : Sto) : R3 α := match r with | .ok a => .ok a S | _ => .no
theorem R3.of_ok {α : Type} {r : R α} {S S' : Sto} {a : α} (h : R3.of r S = .ok a S') : r = .ok a ∧ S' = S := by
  cases r with
  | ok b => cases h; exact ⟨rfl, rfl⟩
  | ex c => cases h
  | no => cases h

/-- where the store's things lie; z: lists under way elsewhere, that nothing here touches -/
structure P3 where
  r : List Addr
  z : List Addr
  f : List Addr
def P3.b (ρ : P3) : List Addr := ρ.r.filter (fun a => !ρ.f.contains a) ++ ρ.z
theorem P3.mem_b {ρ : P3} {a : Addr} : a ∈ ρ.b ↔ (a ∈ ρ.r ∧ a ∉ ρ.f) ∨ a ∈ ρ.z := by
  unfold P3.b
  rw [List.mem_append, List.mem_filter]
  simp
def P3.push (ρ : P3) (a : Addr) : P3 := ⟨ρ.r ++ [a], ρ.z, ρ.f⟩
def P3.cut (ρ : P3) (n : Nat) : P3 := ⟨ρ.r.take n, ρ.z, ρ.f⟩
mutual
def Rep3 (K : PySem.W.Frag) (ρ : P3) (H : Hp) : V3 → V → Prop
  | .d x, v => Rep K ρ.b H x v
  | .loc k, v => ∃ a, ρ.r[k]? = some a ∧ v = .ref a
  | .lst vs, v => ∃ a xs, v = .ref a ∧ LsF K ρ.b H a xs ∧ Reps3 K ρ H vs xs
  | .tup vs, v => ∃ a xs, v = .ref a ∧ TpF K ρ.b H a xs ∧ Reps3 K ρ H vs xs
def Reps3 (K : PySem.W.Frag) (ρ : P3) (H : Hp) : List V3 → List V → Prop
  | [], xs => xs = []
  | d :: ds, xs => ∃ x r, xs = x :: r ∧ Rep3 K ρ H d x ∧ Reps3 K ρ H ds r
end
structure Pre (ρ : P3) (H : Hp) (ρ' : P3) (H' : Hp) : Prop where
  pres : Pres ρ.b H ρ'.b H'
  zz : ρ'.z = ρ.z
  zs : ∀ (b : Addr) (o : HO), b ∈ ρ.z → H b = some o → H' b = some o
  ext : ∀ (k : Nat) (a : Addr), ρ.r[k]? = some a → ρ'.r[k]? = some a
theorem Pre.refl (ρ : P3) (H : Hp) : Pre ρ H ρ H := ⟨Pres.refl ρ.b H, rfl, fun _ _ _ h => h, fun _ _ h => h⟩
theorem Pre.trans {ρ ρ' ρ'' : P3} {H H' H'' : Hp} (a : Pre ρ H ρ' H') (b : Pre ρ' H' ρ'' H'') : Pre ρ H ρ'' H'' := ⟨a.pres.trans b.pres, b.zz.trans a.zz, fun c o hc h => b.zs c o (by rw [a.zz]; exact hc) (a.zs c o hc h), fun k x h => b.ext k x (a.ext k x h)⟩
theorem Pre.same {ρ : P3} {H H' : Hp} (s : Same H H') : Pre ρ H ρ H' := ⟨Pres.same s, rfl, fun b o _ h => s b o h, fun _ _ h => h⟩
theorem TpF.pres {K : PySem.W.Frag} {B B' : List Addr} {H H' : Hp} (p : Pres B H B' H') {a : Addr} {xs : List V} (l : TpF K B H a xs) : TpF K B' H' a xs :=
  l.elim (fun z => .inl ⟨(p.rd z.2 z.1).2, (p.rd z.2 z.1).1⟩) .inr
mutual
theorem Rep3.pre {K : PySem.W.Frag} {ρ ρ' : P3} {H H' : Hp} (p : Pre ρ H ρ' H') : ∀ {d : V3} {v : V}, Rep3 K ρ H d v → Rep3 K ρ' H' d v
  | .d x, v, h => by unfold Rep3 at h ⊢; exact h.pres p.pres
  | .loc k, v, h => by unfold Rep3 at h ⊢; obtain ⟨a, h1, h2⟩ := h; exact ⟨a, p.ext k a h1, h2⟩
  | .lst vs, v, h => by unfold Rep3 at h ⊢; obtain ⟨a, xs, e, l, r⟩ := h; exact ⟨a, xs, e, l.pres p.pres, Reps3.pre p r⟩
  | .tup vs, v, h => by unfold Rep3 at h ⊢; obtain ⟨a, xs, e, l, r⟩ := h; exact ⟨a, xs, e, TpF.pres p.pres l, Reps3.pre p r⟩
theorem Reps3.pre {K : PySem.W.Frag} {ρ ρ' : P3} {H H' : Hp} (p : Pre ρ H ρ' H') : ∀ {ds : List V3} {xs : List V}, Reps3 K ρ H ds xs → Reps3 K ρ' H' ds xs
  | [], _, h => by unfold Reps3 at h ⊢; exact h
  | d :: ds, xs, h => by
    unfold Reps3 at h ⊢
    obtain ⟨x, r, e, h1, h2⟩ := h
    exact ⟨x, r, e, Rep3.pre p h1, Reps3.pre p h2⟩
end
/-- what the values need to stand -/
structure PW (ρ : P3) (H : Hp) (ρ' : P3) (H' : Hp) : Prop where
  pres : Pres ρ.b H ρ'.b H'
  ext : ∀ (k : Nat) (a : Addr), ρ.r[k]? = some a → ρ'.r[k]? = some a
theorem Pre.pw {ρ ρ' : P3} {H H' : Hp} (p : Pre ρ H ρ' H') : PW ρ H ρ' H' := ⟨p.pres, p.ext⟩
theorem PW.trans {ρ ρ' ρ'' : P3} {H H' H'' : Hp} (a : PW ρ H ρ' H') (b : PW ρ' H' ρ'' H'') : PW ρ H ρ'' H'' := ⟨a.pres.trans b.pres, fun k x h => b.ext k x (a.ext k x h)⟩
mutual
theorem Rep3.pw {K : PySem.W.Frag} {ρ ρ' : P3} {H H' : Hp} (p : PW ρ H ρ' H') : ∀ {d : V3} {v : V}, Rep3 K ρ H d v → Rep3 K ρ' H' d v
  | .d x, v, h => by unfold Rep3 at h ⊢; exact h.pres p.pres
  | .loc k, v, h => by unfold Rep3 at h ⊢; obtain ⟨a, h1, h2⟩ := h; exact ⟨a, p.ext k a h1, h2⟩
  | .lst vs, v, h => by unfold Rep3 at h ⊢; obtain ⟨a, xs, e, l, r⟩ := h; exact ⟨a, xs, e, l.pres p.pres, Reps3.pw p r⟩
  | .tup vs, v, h => by unfold Rep3 at h ⊢; obtain ⟨a, xs, e, l, r⟩ := h; exact ⟨a, xs, e, TpF.pres p.pres l, Reps3.pw p r⟩
theorem Reps3.pw {K : PySem.W.Frag} {ρ ρ' : P3} {H H' : Hp} (p : PW ρ H ρ' H') : ∀ {ds : List V3} {xs : List V}, Reps3 K ρ H ds xs → Reps3 K ρ' H' ds xs
  | [], _, h => by unfold Reps3 at h ⊢; exact h
  | d :: ds, xs, h => by
    unfold Reps3 at h ⊢
    obtain ⟨x, r, e, h1, h2⟩ := h
    exact ⟨x, r, e, Rep3.pw p h1, Reps3.pw p h2⟩
end
theorem Reps3.nil {K : PySem.W.Frag} {ρ : P3} {H : Hp} : Reps3 K ρ H [] [] := by unfold Reps3; rfl
theorem Reps3.cons {K : PySem.W.Frag} {ρ : P3} {H : Hp} {d : V3} {ds : List V3} {x : V} {xs : List V} (h : Rep3 K ρ H d x) (t : Reps3 K ρ H ds xs) : Reps3 K ρ H (d :: ds) (x :: xs) := by
  unfold Reps3; exact ⟨x, xs, rfl, h, t⟩
theorem Reps3.uncons {K : PySem.W.Frag} {ρ : P3} {H : Hp} {d : V3} {ds : List V3} {xs : List V} (h : Reps3 K ρ H (d :: ds) xs) : ∃ x r, xs = x :: r ∧ Rep3 K ρ H d x ∧ Reps3 K ρ H ds r := by
  unfold Reps3 at h; exact h
theorem Reps3.length {K : PySem.W.Frag} {ρ : P3} {H : Hp} : ∀ {ds : List V3} {xs : List V}, Reps3 K ρ H ds xs → ds.length = xs.length
  | [], _, h => by unfold Reps3 at h; rw [h]; rfl
  | d :: ds, xs, h => by
    obtain ⟨x, r, rfl, _, h2⟩ := h.uncons
    simp [h2.length]
theorem Reps3.of {K : PySem.W.Frag} {ρ : P3} {H : Hp} : ∀ {ds : List D} {xs : List V}, Reps K ρ.b H ds xs → Reps3 K ρ H (ds.map .d) xs
  | [], _, h => by unfold Reps at h; subst h; exact Reps3.nil
  | d :: ds, xs, h => by
    obtain ⟨x, r, rfl, h1, h2⟩ := h.uncons
    exact Reps3.cons (by unfold Rep3; exact h1) (Reps3.of h2)
theorem Reps3.to {K : PySem.W.Frag} {ρ : P3} {H : Hp} : ∀ {ds : List D} {xs : List V}, Reps3 K ρ H (ds.map .d) xs → Reps K ρ.b H ds xs
  | [], _, h => by unfold Reps3 at h; subst h; exact Reps.nil
  | d :: ds, xs, h => by
    obtain ⟨x, r, rfl, h1, h2⟩ := Reps3.uncons h
    unfold Rep3 at h1
    exact Reps.cons h1 (Reps3.to h2)

/-- a thing of the store shows itself in the heap -/
def ObR (K : PySem.W.Frag) (cl : Nat → Addr) (ρ : P3) (H : Hp) : SO → Option HO → Prop
  | .lst ds, h => ∃ xs, h = some (.lst xs) ∧ Reps K ρ.b H ds xs
  | .dct kvs, h => ∃ ys, h = some (.dK ys) ∧ ys.map (·.1) = kvs.map (·.1) ∧ Reps K ρ.b H (kvs.map (·.2)) (ys.map (·.2))
  | .ins c fs, h => ∃ dx ys, h = some (.ins (cl c) dx ys) ∧ ys.map (·.1) = fs.map (·.1) ∧ Reps3 K ρ H (fs.map (·.2)) (ys.map (·.2))
  | .frz, h => ∃ u, h = some u
theorem ObR.pre {K : PySem.W.Frag} {cl : Nat → Addr} {ρ ρ' : P3} {H H' : Hp} (p : Pre ρ H ρ' H') {o : SO} {h : Option HO} (r : ObR K cl ρ H o h) : ObR K cl ρ' H' o h := by
  cases o with
  | lst ds => obtain ⟨xs, e, q⟩ := r; exact ⟨xs, e, q.pres p.pres⟩
  | dct kvs => obtain ⟨ys, e, e2, q⟩ := r; exact ⟨ys, e, e2, q.pres p.pres⟩
  | ins c fs => obtain ⟨dx, ys, e, e2, q⟩ := r; exact ⟨dx, ys, e, e2, q.pre p⟩
  | frz => exact r
theorem ObR.pw {K : PySem.W.Frag} {cl : Nat → Addr} {ρ ρ' : P3} {H H' : Hp} (p : PW ρ H ρ' H') {o : SO} {h : Option HO} (r : ObR K cl ρ H o h) : ObR K cl ρ' H' o h := by
  cases o with
  | lst ds => obtain ⟨xs, e, q⟩ := r; exact ⟨xs, e, q.pres p.pres⟩
  | dct kvs => obtain ⟨ys, e, e2, q⟩ := r; exact ⟨ys, e, e2, q.pres p.pres⟩
  | ins c fs => obtain ⟨dx, ys, e, e2, q⟩ := r; exact ⟨dx, ys, e, e2, q.pw p⟩
  | frz => exact r
theorem ObR.some {K : PySem.W.Frag} {cl : Nat → Addr} {ρ : P3} {H : Hp} {o : SO} {h : Option HO} (r : ObR K cl ρ H o h) : ∃ u, h = some u := by
  cases o with
  | lst ds => obtain ⟨xs, e, q⟩ := r; exact ⟨_, e⟩
  | dct kvs => obtain ⟨ys, e, e2, q⟩ := r; exact ⟨_, e⟩
  | ins c fs => obtain ⟨dx, ys, e, e2, q⟩ := r; exact ⟨_, e⟩
  | frz => exact r
structure SW (K : PySem.W.Frag) (cl : Nat → Addr) (ρ : P3) (H : Hp) (S : Sto) : Prop where
  len : ρ.r.length = S.length
  nd : ∀ (i j : Nat) (a : Addr), ρ.r[i]? = some a → ρ.r[j]? = some a → i = j
  ob : ∀ (k : Nat) (a : Addr) (o : SO), ρ.r[k]? = some a → S[k]? = some o → ObR K cl ρ H o (H a)
  zb : ∀ b ∈ ρ.z, (∃ xs, H b = some (.lst xs)) ∧ b ∉ ρ.r
  fz : ∀ (k : Nat) (a : Addr), ρ.r[k]? = some a → S[k]? ≠ some .frz → a ∉ ρ.f
  ff : ∀ a ∈ ρ.f, ∃ o, H a = some o
  fi : ∀ (k : Nat) (a : Addr), ρ.r[k]? = some a → S[k]? = some .frz → a ∈ ρ.f
theorem SW.rs {K : PySem.W.Frag} {cl : Nat → Addr} {ρ : P3} {H : Hp} {S : Sto} (w : SW K cl ρ H S) : ∀ a ∈ ρ.r, ∃ o, H a = some o := fun a z => by
  obtain ⟨k, hk⟩ := List.getElem?_of_mem z
  have hl := (List.getElem?_eq_some_iff.mp hk).1
  exact (w.ob k a _ hk (List.getElem?_eq_getElem (by rw [← w.len]; exact hl))).some
theorem SW.bs {K : PySem.W.Frag} {cl : Nat → Addr} {ρ : P3} {H : Hp} {S : Sto} (w : SW K cl ρ H S) : ∀ a ∈ ρ.b, ∃ o, H a = some o := fun a ha => by
  rcases P3.mem_b.mp ha with z | z
  · exact w.rs a z.1
  · obtain ⟨xs, h⟩ := (w.zb a z).1
    exact ⟨_, h⟩
theorem SW.same {K : PySem.W.Frag} {cl : Nat → Addr} {ρ : P3} {H H' : Hp} {S : Sto} (w : SW K cl ρ H S) (s : Same H H') : SW K cl ρ H' S :=
  ⟨w.len, w.nd, fun k a o h1 h2 => by
    have r := w.ob k a o h1 h2
    obtain ⟨u, hu⟩ := r.some
    rw [s a u hu, ← hu]
    exact r.pre (Pre.same s), fun b hb => let ⟨⟨o, ho⟩, n⟩ := w.zb b hb; ⟨⟨o, s b _ ho⟩, n⟩, w.fz, fun a ha => let ⟨o, ho⟩ := w.ff a ha; ⟨o, s a o ho⟩, w.fi⟩
theorem P3.mem_push {ρ : P3} {a b : Addr} (h : b ∈ (ρ.push a).b) : b ∈ ρ.b ∨ b = a := by
  rcases P3.mem_b.mp h with ⟨z, n⟩ | z
  · rcases List.mem_append.mp z with y | y
    · exact .inl (P3.mem_b.mpr (.inl ⟨y, n⟩))
    · exact .inr (List.mem_singleton.mp y)
  · exact .inl (P3.mem_b.mpr (.inr z))
/-- a thing more -/
theorem SW.new {K : PySem.W.Frag} {cl : Nat → Addr} {ρ : P3} {H H' : Hp} {S : Sto} (w : SW K cl ρ H S) {a : Addr} {o : SO} (s : Same H H') (n : H a = none) (r : ObR K cl (ρ.push a) H' o (H' a)) (hne : o ≠ SO.frz := by intro h; cases h) :
    SW K cl (ρ.push a) H' (S ++ [o]) ∧ Pre ρ H (ρ.push a) H' := by
  have na : a ∉ ρ.b := fun ha => by obtain ⟨o, ho⟩ := w.bs a ha; rw [n] at ho; cases ho
  have nr : a ∉ ρ.r := fun ha => by obtain ⟨o, ho⟩ := w.rs a ha; rw [n] at ho; cases ho
  have nf : a ∉ ρ.f := fun ha => by obtain ⟨o, ho⟩ := w.ff a ha; rw [n] at ho; cases ho
  have p : Pre ρ H (ρ.push a) H' := ⟨fun b u e nb => ⟨s b u e, fun hb => by
    rcases P3.mem_push hb with z | z
    · exact nb z
    · subst z; rw [n] at e; cases e⟩, rfl, fun b o _ h => s b o h, fun k x hx => by
      show (ρ.r ++ [a])[k]? = _
      rw [List.getElem?_append_left (List.getElem?_eq_some_iff.mp hx).1]; exact hx⟩
  have last : ∀ (i : Nat) (b : Addr), (ρ.push a).r[i]? = some b → (i < ρ.r.length ∧ ρ.r[i]? = some b) ∨ (i = ρ.r.length ∧ b = a) := fun i b h => by
    have h : (ρ.r ++ [a])[i]? = some b := h
    by_cases q : i < ρ.r.length
    · rw [List.getElem?_append_left q] at h; exact .inl ⟨q, h⟩
    · rw [List.getElem?_append_right (by omega)] at h
      have h0 : i - ρ.r.length = 0 := by
        have := (List.getElem?_eq_some_iff.mp h).1
        simp at this; omega
      rw [h0] at h
      cases h
      exact .inr ⟨by omega, rfl⟩
  refine ⟨⟨by show (ρ.r ++ [a]).length = _; rw [List.length_append, List.length_append, w.len]; rfl, fun i j b hi hj => ?_, fun k b u hk hu => ?_, fun b hb => ?_, fun k b hk hu => ?_, fun b hb => ?_, fun k b hk hu => ?_⟩, p⟩
  · rcases last i b hi with ⟨q1, q2⟩ | ⟨q1, rfl⟩
    · rcases last j b hj with ⟨z1, z2⟩ | ⟨z1, rfl⟩
      · exact w.nd i j b q2 z2
      · exact absurd (List.mem_of_getElem? q2) nr
    · rcases last j b hj with ⟨z1, z2⟩ | ⟨z1, z3⟩
      · exact absurd (List.mem_of_getElem? z2) nr
      · omega
  · rcases last k b hk with ⟨q1, q2⟩ | ⟨q1, rfl⟩
    · rw [List.getElem?_append_left (by rw [← w.len]; exact q1)] at hu
      have r0 := w.ob k b u q2 hu
      obtain ⟨x, hx⟩ := r0.some
      rw [s b x hx, ← hx]
      exact r0.pre p
    · rw [List.getElem?_append_right (by rw [← w.len]; omega), q1, w.len, Nat.sub_self] at hu
      cases hu
      exact r
  · obtain ⟨⟨o, ho⟩, nb⟩ := w.zb b hb
    refine ⟨⟨o, s b _ ho⟩, fun h => ?_⟩
    rcases List.mem_append.mp h with y | y
    · exact nb y
    · rw [List.mem_singleton] at y; subst y; rw [n] at ho; cases ho
  · rcases last k b hk with ⟨q1, q2⟩ | ⟨q1, rfl⟩
    · rw [List.getElem?_append_left (by rw [← w.len]; exact q1)] at hu
      exact w.fz k b q2 hu
    · exact nf
  · obtain ⟨o, ho⟩ := w.ff b hb
    exact ⟨o, s b o ho⟩
  · rcases last k b hk with ⟨q1, q2⟩ | ⟨q1, rfl⟩
    · rw [List.getElem?_append_left (by rw [← w.len]; exact q1)] at hu
      exact w.fi k b q2 hu
    · rw [List.getElem?_append_right (by rw [← w.len]; omega), q1, w.len, Nat.sub_self] at hu
      cases hu
      exact absurd rfl hne
/-- a thing changed -/
theorem SW.put {K : PySem.W.Frag} {cl : Nat → Addr} {ρ : P3} {H : Hp} {S : Sto} (w : SW K cl ρ H S) {k : Nat} {a : Addr} {o : SO} {u : HO} (hk : ρ.r[k]? = some a) (hf : a ∉ ρ.f) (r : ObR K cl ρ H o (some u)) (hne : o ≠ SO.frz := by intro h; cases h) :
    SW K cl ρ (upd H a u) (S.set k o) ∧ Pre ρ H ρ (upd H a u) := by
  have ha : a ∈ ρ.r := List.mem_of_getElem? hk
  have hb : a ∈ ρ.b := P3.mem_b.mpr (.inl ⟨ha, hf⟩)
  have nz : ∀ b ∈ ρ.z, b ≠ a := fun b hb z => (w.zb b hb).2 (by rw [z]; exact ha)
  have p : Pre ρ H ρ (upd H a u) := ⟨fun b x e nb => ⟨by rw [upd_ne (fun (z : b = a) => nb (by rw [z]; exact hb))]; exact e, nb⟩, rfl, fun b o hb h => by rw [upd_ne (nz b hb)]; exact h, fun _ _ h => h⟩
  have hl : k < S.length := by rw [← w.len]; exact (List.getElem?_eq_some_iff.mp hk).1
  refine ⟨⟨by rw [List.length_set]; exact w.len, w.nd, fun j b x hj hx => ?_, fun b hb => ?_, fun j b hj hx => ?_, fun b hb => ?_, fun j b hj hx => ?_⟩, p⟩
  · by_cases q : k = j
    · subst q
      rw [hk] at hj; cases hj
      rw [List.getElem?_set_self hl] at hx; cases hx
      rw [upd_same]
      exact r.pre p
    · rw [List.getElem?_set_ne q] at hx
      have ne : b ≠ a := fun z => by subst z; exact q (w.nd k j b hk hj)
      rw [upd_ne ne]
      exact (w.ob j b x hj hx).pre p
  · obtain ⟨⟨o, ho⟩, nb⟩ := w.zb b hb
    exact ⟨⟨o, by rw [upd_ne (nz b hb)]; exact ho⟩, nb⟩
  · by_cases q : k = j
    · subst q
      rw [hk] at hj; cases hj
      exact hf
    · rw [List.getElem?_set_ne q] at hx
      exact w.fz j b hj hx
  · obtain ⟨o, ho⟩ := w.ff b hb
    exact ⟨o, by rw [upd_ne (fun z => hf (by rw [← z]; exact hb))]; exact ho⟩
  · by_cases q : k = j
    · subst q
      rw [List.getElem?_set_self hl] at hx; cases hx
      exact absurd rfl hne
    · rw [List.getElem?_set_ne q] at hx
      exact w.fi j b hj hx
/-! data of atoms and tuples alone -/
mutual
def tupD : D → Bool
  | .lst _ => false
  | .dct _ _ => false
  | .tup ds => tupDs ds
  | _ => true
def tupDs : List D → Bool
  | [] => true
  | d :: ds => tupD d && tupDs ds
end
mutual
theorem Rep.ofTup {K : PySem.W.Frag} {B : List Addr} {H : Hp} (hB : ∀ b ∈ B, ∀ xs, ¬ Rd H b (.tup xs)) : ∀ {d : D} {v : V}, tupD d = true → Rep K [] H d v → Rep K B H d v
  | .non, v, _, r => Rep.non.mpr (Rep.non.mp r)
  | .bl _, v, _, r => Rep.bl.mpr (Rep.bl.mp r)
  | .int _, v, _, r => Rep.int.mpr (Rep.int.mp r)
  | .str _, v, _, r => Rep.str.mpr (Rep.str.mp r)
  | .lst _, v, h, _ => by unfold tupD at h; cases h
  | .dct _ _, v, h, _ => by unfold tupD at h; cases h
  | .tup ds, v, h, r => by
    unfold tupD at h
    obtain ⟨a, xs, rfl, l, rs⟩ := Rep.tup.mp r
    exact Rep.tup.mpr ⟨a, xs, rfl, l.elim (fun z => .inl ⟨fun hb => hB a hb xs z.2, z.2⟩) .inr, Reps.ofTup hB h rs⟩
theorem Reps.ofTup {K : PySem.W.Frag} {B : List Addr} {H : Hp} (hB : ∀ b ∈ B, ∀ xs, ¬ Rd H b (.tup xs)) : ∀ {ds : List D} {vs : List V}, tupDs ds = true → Reps K [] H ds vs → Reps K B H ds vs
  | [], _, _, r => by unfold Reps at r; subst r; exact Reps.nil
  | d :: ds, vs, h, r => by
    unfold tupDs at h
    obtain ⟨h1, h2⟩ := Bool.and_eq_true_iff.mp h
    obtain ⟨x, xs, rfl, r1, r2⟩ := r.uncons
    exact Reps.cons (Rep.ofTup hB h1 r1) (Reps.ofTup hB h2 r2)
end
theorem SW.nt {K : PySem.W.Frag} {cl : Nat → Addr} {ρ : P3} {H : Hp} {S : Sto} (w : SW K cl ρ H S) : ∀ b ∈ ρ.b, ∀ xs, ¬ Rd H b (.tup xs) := fun b hb xs h => by
  have key : ∀ o, H b = some o → (∀ xs, o ≠ .tup xs) → (∀ ob xs, o ≠ .frz ob (.tup xs)) → False := fun o e h1 h2 => by
    rcases h with z | ⟨ob, z⟩
    · rw [e] at z; cases z; exact h1 _ rfl
    · rw [e] at z; cases z; exact h2 _ _ rfl
  rcases P3.mem_b.mp hb with ⟨z, n⟩ | z
  · obtain ⟨k, hk⟩ := List.getElem?_of_mem z
    have hl := (List.getElem?_eq_some_iff.mp hk).1
    have hS : S[k]? = some (S[k]'(by rw [← w.len]; exact hl)) := List.getElem?_eq_getElem (by rw [← w.len]; exact hl)
    have r := w.ob k b _ hk hS
    generalize S[k]'(by rw [← w.len]; exact hl) = o at r hS
    cases o with
    | lst ds => obtain ⟨ys, e, _⟩ := r; exact key _ e (fun _ q => by cases q) (fun _ _ q => by cases q)
    | dct kvs => obtain ⟨ys, e, _⟩ := r; exact key _ e (fun _ q => by cases q) (fun _ _ q => by cases q)
    | ins c fs => obtain ⟨dx, ys, e, _⟩ := r; exact key _ e (fun _ q => by cases q) (fun _ _ q => by cases q)
    | frz => exact n (w.fi k b hk hS)
  · obtain ⟨⟨ys, e⟩, _⟩ := w.zb b z
    exact key _ e (fun _ q => by cases q) (fun _ _ q => by cases q)

abbrev DE := List (Option V3)
structure EnvX (K : PySem.W.Frag) (cl : Nat → Addr) (ρ : P3) (H : Hp) (S : Sto) (σ : L2.St) (δ : DE) : Prop where
  len : δ.length = σ.length
  sw : SW K cl ρ H S
  val : ∀ (i : Nat) (d : V3), δ[i]? = some (some d) → ∃ v, σ[i]? = some (some v) ∧ Rep3 K ρ H d v
theorem EnvX.to {K : PySem.W.Frag} {cl : Nat → Addr} {ρ ρ' : P3} {H H' : Hp} {S S' : Sto} {σ : L2.St} {δ : DE} (E : EnvX K cl ρ H S σ δ) (p : Pre ρ H ρ' H') (w : SW K cl ρ' H' S') : EnvX K cl ρ' H' S' σ δ :=
  ⟨E.len, w, fun i d e => let ⟨v, h1, h2⟩ := E.val i d e; ⟨v, h1, h2.pre p⟩⟩
theorem EnvX.set {K : PySem.W.Frag} {cl : Nat → Addr} {ρ : P3} {H : Hp} {S : Sto} {σ : L2.St} {δ : DE} (E : EnvX K cl ρ H S σ δ) {i : Nat} {d : V3} {v : V} (hi : i < σ.length) (r : Rep3 K ρ H d v) : EnvX K cl ρ H S (σ.set i (some v)) (δ.set i (some d)) :=
  ⟨by rw [List.length_set, List.length_set]; exact E.len, E.sw, fun j d' e => by
    by_cases h : i = j
    · subst h
      rw [List.getElem?_set_self (by rw [E.len]; exact hi)] at e
      cases e
      exact ⟨v, List.getElem?_set_self hi, r⟩
    · rw [List.getElem?_set_ne h] at e ⊢
      exact E.val j d' e⟩
/-- what a pure expression sees -/
def down (δ : DE) : DEnv := δ.map fun x => match x with | some (.d d) => .val d | _ => .un
theorem EnvX.down {K : PySem.W.Frag} {cl : Nat → Addr} {ρ : P3} {H : Hp} {S : Sto} {σ : L2.St} {δ : DE} (E : EnvX K cl ρ H S σ δ) : EnvR K [] ρ.b H σ (down δ) where
  len := by unfold L3.down; rw [List.length_map]; exact E.len
  bs := E.sw.bs
  zb := fun a ha => by cases ha
  val := fun i d e => by
    unfold L3.down at e
    rw [List.getElem?_map] at e
    cases q : δ[i]? with
    | none => rw [q] at e; cases e
    | some x =>
      rw [q] at e
      match x, e, q with
      | some (.d y), e, q =>
        cases e
        obtain ⟨v, h1, h2⟩ := E.val i _ q
        unfold Rep3 at h2
        exact ⟨v, h1, h2⟩
      | some (.loc k), e, q => cases e
      | some (.lst k), e, q => cases e
      | some (.tup k), e, q => cases e
      | none, e, q => cases e
  bld := fun i ds e => by
    unfold L3.down at e
    rw [List.getElem?_map] at e
    cases q : δ[i]? with
    | none => rw [q] at e; cases e
    | some x =>
      rw [q] at e
      match x, e with
      | some (.d y), e => cases e
      | some (.loc k), e => cases e
      | some (.lst k), e => cases e
      | some (.tup k), e => cases e
      | none, e => cases e
  dis := fun i j a ds es e => by
    unfold L3.down at e
    rw [List.getElem?_map] at e
    cases q : δ[i]? with
    | none => rw [q] at e; cases e
    | some x =>
      rw [q] at e
      match x, e with
      | some (.d y), e => cases e
      | some (.loc k), e => cases e
      | some (.lst k), e => cases e
      | some (.tup k), e => cases e
      | none, e => cases e
/-! what a pure expression sees that reads lists of the store, too -/
mutual
def res (S : Sto) : V3 → Option D
  | .d x => some x
  | .loc k => (match S[k]? with | some (.lst ds) => some (.lst ds) | _ => none)
  | .lst vs => (ress S vs).map D.lst
  | .tup vs => (ress S vs).map D.tup
def ress (S : Sto) : List V3 → Option (List D)
  | [] => some []
  | v :: vs => (res S v).bind fun d => (ress S vs).map (d :: ·)
end
def downT (S : Sto) (δ : DE) : DEnv := δ.map fun x => match x with | some v => (match res S v with | some d => .val d | none => .un) | none => .un
theorem omap_some {α β : Type} {o : Option α} {f : α → β} {b : β} (h : o.map f = some b) : ∃ a, o = some a ∧ f a = b := by
  cases o with
  | none => cases h
  | some a => cases h; exact ⟨a, rfl, rfl⟩
theorem obind_some {α β : Type} {o : Option α} {f : α → Option β} {b : β} (h : o.bind f = some b) : ∃ a, o = some a ∧ f a = some b := by
  cases o with
  | none => cases h
  | some a => exact ⟨a, rfl, h⟩
/-! the places of a value that is told lie behind the n first of the store -/
mutual
def geOk (n : Nat) : V3 → Bool
  | .d _ => true
  | .loc k => decide (n ≤ k)
  | .lst vs => gesOk n vs
  | .tup vs => gesOk n vs
def gesOk (n : Nat) : List V3 → Bool
  | [] => true
  | v :: vs => geOk n v && gesOk n vs
end
mutual
/-- a value told, its lists read: none of its own lists lies in B' -/
theorem Rep3.resB {K : PySem.W.Frag} {cl : Nat → Addr} {ρ : P3} {H : Hp} {S : Sto} {B' : List Addr} {n : Nat} (w : SW K cl ρ H S) (p : Pres ρ.b H B' H) (hn : ∀ (k : Nat) (a : Addr), n ≤ k → ρ.r[k]? = some a → a ∉ B') : ∀ {v : V3} {d : D} {x : V}, geOk n v = true → res S v = some d → Rep3 K ρ H v x → Rep K B' H d x
  | .d y, d, x, _, h, r => by unfold L3.res at h; cases h; unfold Rep3 at r; exact r.pres p
  | .loc k, d, x, g, h, r => by
    unfold L3.res at h
    unfold Rep3 at r
    unfold geOk at g
    obtain ⟨a, h1, rfl⟩ := r
    split at h
    · rename_i ds e
      cases h
      obtain ⟨xs, e2, q⟩ := w.ob k a _ h1 e
      unfold Rep
      exact ⟨a, xs, rfl, .inl ⟨hn k a (of_decide_eq_true g) h1, .inl e2⟩, q.pres p⟩
    · cases h
  | .lst vs, d, x, g, h, r => by
    unfold L3.res at h
    unfold geOk at g
    obtain ⟨ds, e, rfl⟩ := omap_some h
    unfold Rep3 at r
    obtain ⟨a, xs, rfl, l, r⟩ := r
    unfold Rep
    exact ⟨a, xs, rfl, l.pres p, Reps3.resB w p hn g e r⟩
  | .tup vs, d, x, g, h, r => by
    unfold L3.res at h
    unfold geOk at g
    obtain ⟨ds, e, rfl⟩ := omap_some h
    unfold Rep3 at r
    obtain ⟨a, xs, rfl, l, r⟩ := r
    unfold Rep
    exact ⟨a, xs, rfl, TpF.pres p l, Reps3.resB w p hn g e r⟩
theorem Reps3.resB {K : PySem.W.Frag} {cl : Nat → Addr} {ρ : P3} {H : Hp} {S : Sto} {B' : List Addr} {n : Nat} (w : SW K cl ρ H S) (p : Pres ρ.b H B' H) (hn : ∀ (k : Nat) (a : Addr), n ≤ k → ρ.r[k]? = some a → a ∉ B') : ∀ {vs : List V3} {ds : List D} {xs : List V}, gesOk n vs = true → ress S vs = some ds → Reps3 K ρ H vs xs → Reps K B' H ds xs
  | [], ds, xs, _, h, r => by unfold ress at h; cases h; unfold Reps3 at r; subst r; exact Reps.nil
  | v :: vs, ds, xs, g, h, r => by
    unfold ress at h
    unfold gesOk at g
    obtain ⟨g1, g2⟩ := Bool.and_eq_true_iff.mp g
    obtain ⟨d, e1, h2⟩ := obind_some h
    obtain ⟨es, e2, rfl⟩ := omap_some h2
    obtain ⟨y, ys, rfl, r1, r2⟩ := r.uncons
    exact Reps.cons (Rep3.resB w p hn g1 e1 r1) (Reps3.resB w p hn g2 e2 r2)
end
mutual
theorem geOk_zero : ∀ v : V3, geOk 0 v = true
  | .d _ => by unfold geOk; rfl
  | .loc k => by unfold geOk; exact decide_eq_true (Nat.zero_le _)
  | .lst vs => by unfold geOk; exact gesOk_zero vs
  | .tup vs => by unfold geOk; exact gesOk_zero vs
theorem gesOk_zero : ∀ vs : List V3, gesOk 0 vs = true
  | [] => by unfold gesOk; rfl
  | v :: vs => by unfold gesOk; rw [geOk_zero v, gesOk_zero vs]; rfl
end
theorem Rep3.res {K : PySem.W.Frag} {cl : Nat → Addr} {ρ : P3} {H : Hp} {S : Sto} (w : SW K cl ρ H S) {v : V3} {d : D} {x : V} (h : res S v = some d) (r : Rep3 K ρ H v x) : Rep K [] H d x :=
  r.resB w (fun b o e _ => ⟨e, by simp⟩) (n := 0) (fun _ _ _ _ => by simp) (geOk_zero v) h
theorem downT_get {S : Sto} {δ : DE} {i : Nat} {y : Sl} (e : (downT S δ)[i]? = some y) : (∃ v d, δ[i]? = some (some v) ∧ res S v = some d ∧ y = .val d) ∨ y = .un := by
  unfold downT at e
  rw [List.getElem?_map] at e
  cases q : δ[i]? with
  | none => rw [q] at e; cases e
  | some x =>
    rw [q] at e
    cases x with
    | none => cases e; exact .inr rfl
    | some v =>
      cases z : res S v with
      | none =>
        have e : some (match res S v with | some d => Sl.val d | none => .un) = some y := e
        rw [z] at e; cases e; exact .inr rfl
      | some d =>
        have e : some (match res S v with | some d => Sl.val d | none => .un) = some y := e
        rw [z] at e; cases e; exact .inl ⟨v, d, rfl, z, rfl⟩
theorem EnvX.downT {K : PySem.W.Frag} {cl : Nat → Addr} {ρ : P3} {H : Hp} {S : Sto} {σ : L2.St} {δ : DE} (E : EnvX K cl ρ H S σ δ) : EnvR K [] [] H σ (downT S δ) where
  len := by unfold L3.downT; rw [List.length_map]; exact E.len
  bs := fun a ha => by cases ha
  zb := fun a ha => by cases ha
  val := fun i d e => by
    rcases downT_get e with ⟨v, d', h1, h2, h3⟩ | h
    · cases h3
      obtain ⟨x, q1, q2⟩ := E.val i v h1
      exact ⟨x, q1, q2.res E.sw h2⟩
    · cases h
  bld := fun i ds e => by
    rcases downT_get e with ⟨v, d', h1, h2, h3⟩ | h
    · cases h3
    · cases h
  dis := fun i j a ds es e => by
    rcases downT_get e with ⟨v, d', h1, h2, h3⟩ | h
    · cases h3
    · cases h

/-! ### readings -/
abbrev FX := DE → Sto → R3 V3
abbrev FB := DE → Sto → R3 Bool
abbrev FA := DE → Sto → R3 (List V3)
def tX (K : PySem.W.Frag) (cl : Nat → Addr) (f : FX) : TE := fun σ H Q => ∃ ρ S δ v S', EnvX K cl ρ H S σ δ ∧ f δ S = .ok v S' ∧ ∀ u ρ' H', Pre ρ H ρ' H' → SW K cl ρ' H' S' → Rep3 K ρ' H' v u → Q u H'
def tXB (K : PySem.W.Frag) (cl : Nat → Addr) (f : FB) : TT := fun σ H Q => ∃ ρ S δ b S', EnvX K cl ρ H S σ δ ∧ f δ S = .ok b S' ∧ ∀ ρ' H', Pre ρ H ρ' H' → SW K cl ρ' H' S' → Q b H'
def tXA (K : PySem.W.Frag) (cl : Nat → Addr) (f : FA) : TA := fun σ H Q => ∃ ρ S δ vs S', EnvX K cl ρ H S σ δ ∧ f δ S = .ok vs S' ∧ ∀ us ρ' H', Pre ρ H ρ' H' → SW K cl ρ' H' S' → Reps3 K ρ' H' vs us → Q us H'
structure PX (X : Cx) (cl : Nat → Addr) (e : Expr) (f : FX) : Prop where
  go : PE X e (tX X.K cl f)
structure PXB (X : Cx) (cl : Nat → Addr) (e : Expr) (f : FB) : Prop where
  go : PT X e (tXB X.K cl f)
structure PXA (X : Cx) (cl : Nat → Addr) (es : List Expr) (f : FA) : Prop where
  go : PA X es (tXA X.K cl f)
section
variable {X : Cx} {cl : Nat → Addr}
/-- a pure expression -/
def xP (f : FD) : FX := fun δ S => (R3.of (f (down δ)) S).bind fun d S => .ok (.d d) S
theorem px_pure {e : Expr} {f : FD} (h : QD X e f) : PX X cl e (xP f) := ⟨h.1.imp fun σ H Q ⟨ρ, S, δ, v, S', E, hf, q⟩ => by
  obtain ⟨d, S1, h1, h2⟩ := R3.bind_ok hf
  obtain ⟨h3, e3⟩ := R3.of_ok h1
  cases h2
  subst e3
  exact ⟨[], ρ.b, down δ, d, E.down, h3, fun v H' s r => q v ρ H' (Pre.same s) (E.sw.same s) (by unfold Rep3; exact r)⟩⟩
/-- an atom, of lists of the store too -/
def xT (f : FD) : FX := fun δ S => (R3.of (f (downT S δ)) S).bind fun d S => R3.when (tupD d) (.ok (.d d) S)
theorem px_thaw {e : Expr} {f : FD} (h : QD X e f) : PX X cl e (xT f) := ⟨h.1.imp fun σ H Q ⟨ρ, S, δ, v, S', E, hf, q⟩ => by
  obtain ⟨d, S1, h1, h2⟩ := R3.bind_ok hf
  obtain ⟨h4, e3⟩ := R3.of_ok h1
  obtain ⟨ha, h3⟩ := R3.when_ok h2
  cases h3
  subst e3
  exact ⟨[], [], downT _ δ, d, E.downT, h4, fun v H' s r => q v ρ H' (Pre.same s) (E.sw.same s) (by unfold Rep3; exact Rep.ofTup (E.sw.same s).nt ha r)⟩⟩
def bP (f : DEnv → R Bool) : FB := fun δ S => R3.of (f (down δ)) S
theorem pxb_pure {e : Expr} {f : DEnv → R Bool} (h : QB X e f) : PXB X cl e (bP f) := ⟨h.1.imp fun σ H Q ⟨ρ, S, δ, v, S', E, hf, q⟩ => by
  obtain ⟨h1, e3⟩ := R3.of_ok hf
  subst e3
  exact ⟨[], ρ.b, down δ, v, E.down, h1, fun H' s => q ρ H' (Pre.same s) (E.sw.same s)⟩⟩
def bT (f : DEnv → R Bool) : FB := fun δ S => R3.of (f (downT S δ)) S
theorem pxb_thaw {e : Expr} {f : DEnv → R Bool} (h : QB X e f) : PXB X cl e (bT f) := ⟨h.1.imp fun σ H Q ⟨ρ, S, δ, v, S', E, hf, q⟩ => by
  obtain ⟨h1, e3⟩ := R3.of_ok hf
  subst e3
  exact ⟨[], [], downT _ δ, v, E.downT, h1, fun H' s => q ρ H' (Pre.same s) (E.sw.same s)⟩⟩
/-- a name -/
def xVar (i : Nat) : FX := fun δ S => match δ[i]? with | some (some v) => .ok v S | _ => .no
theorem px_var (i : Nat) {x : Str} {pos : Pos} (hN : X.N[i]? = some x := by rfl) (hv : Vis X.env.scope x := by first | exact Or.inl rfl | exact Or.inr (Or.inl rfl) | exact Or.inr (Or.inr rfl)) (hd : (x == ("__debug__" : Str)) = false := by decide)
    (hcd : (x == ("__classdict__" : Str)) = false := by decide) : PX X cl (.Name x pos) (xVar i) := ⟨(pe_var hN hv hd hcd).imp fun σ H Q ⟨ρ, S, δ, v, S', E, hf, q⟩ => by
  unfold xVar at hf
  split at hf
  · rename_i d' e
    cases hf
    obtain ⟨u, h1, h2⟩ := E.val i _ e
    exact ⟨u, h1, q u ρ H (Pre.refl ρ H) E.sw h2⟩
  · cases hf⟩
/-- a new list of the store -/
def xNew (f : DEnv → R (List D)) : FX := fun δ S => (R3.of (f (down δ)) S).bind fun ds S => .ok (.loc S.length) (S ++ [.lst ds])
theorem px_new {e : Expr} {f : DEnv → R (List D)} (h : QN X e f) : PX X cl e (xNew f) := ⟨h.1.imp fun σ H Q ⟨ρ, S, δ, v, S', E, hf, q⟩ => by
  obtain ⟨ds, S1, h1, h2⟩ := R3.bind_ok hf
  obtain ⟨h3, e3⟩ := R3.of_ok h1
  cases h2
  subst e3
  refine ⟨[], ρ.b, down δ, ds, E.down, h3, fun a xs H' s n e r => ?_⟩
  have r' : Reps X.K (ρ.push a).b H' ds xs := r.pres fun b o e nb => ⟨e, fun hb => nb (by
    rcases P3.mem_push hb with z | z
    · exact List.mem_cons_of_mem _ z
    · subst z; exact List.mem_cons_self)⟩
  obtain ⟨w, p⟩ := E.sw.new (o := .lst ds) s n ⟨xs, e, r'⟩
  exact q _ _ H' p w (by unfold Rep3; exact ⟨a, by show (ρ.r ++ [a])[_]? = _; rw [← E.sw.len, List.getElem?_append_right (by omega), Nat.sub_self]; rfl, rfl⟩)⟩
end
end L3

end
section
set_option maxRecDepth 100000
set_option maxHeartbeats 4000000
/-! ## THE STORE LAYER: expressions with deeds, statements, loops (own) -/
namespace L3
open PySem PySem.Spec PyProof.Rows L2
section
variable {X : Cx} {cl : Nat → Addr}
/-! arguments -/
def xNil : FA := fun _ S => .ok [] S
def xCons (f : FX) (g : FA) : FA := fun δ S => (f δ S).bind fun v S1 => (g δ S1).bind fun vs S2 => .ok (v :: vs) S2
theorem pxa_nil : PXA X cl [] xNil := ⟨pa_nil.imp fun σ H Q ⟨ρ, S, δ, v, S', E, hf, q⟩ => by
  cases hf
  exact q [] ρ H (Pre.refl ρ H) E.sw Reps3.nil⟩
theorem pxa_cons {e : Expr} {es : List Expr} {f : FX} {g : FA} (h : PX X cl e f) (t : PXA X cl es g) (hs : starEach (e :: es) X.env = (false, eval e X.env) :: starEach es X.env := by rfl) : PXA X cl (e :: es) (xCons f g) :=
  ⟨(pa_cons h.1 t.1 hs).imp fun σ H Q ⟨ρ, S, δ, v, S', E, hf, q⟩ => by
    obtain ⟨v1, S1, h1, h2⟩ := R3.bind_ok hf
    obtain ⟨vs, S2, h3, h4⟩ := R3.bind_ok h2
    cases h4
    exact ⟨ρ, S, δ, v1, S1, E, h1, fun u ρ1 H1 p1 w1 r1 => ⟨ρ1, S1, δ, vs, _, E.to p1 w1, h3, fun us ρ2 H2 p2 w2 r2 => q _ ρ2 H2 (p1.trans p2) w2 (Reps3.cons (r1.pre p2) r2)⟩⟩⟩
def allD : List V3 → Option (List D)
  | [] => some []
  | .d x :: r => (allD r).map (x :: ·)
  | _ :: _ => none
theorem allD_some : ∀ {vs : List V3} {ds : List D}, allD vs = some ds → vs = ds.map .d
  | [], ds, h => by cases h; rfl
  | .d x :: r, ds, h => by
    cases e : allD r with
    | none => have h : (allD r).map (x :: ·) = some ds := h; rw [e] at h; cases h
    | some es =>
      have h : (allD r).map (x :: ·) = some ds := h
      rw [e] at h
      cases h
      rw [allD_some e]
      rfl
  | .loc _ :: _, _, h => by cases h
  | .lst _ :: _, _, h => by cases h
  | .tup _ :: _, _, h => by cases h
theorem allD_map : ∀ ds : List D, allD (ds.map .d) = some ds
  | [] => rfl
  | d :: ds => by show (allD (ds.map .d)).map (d :: ·) = _; rw [allD_map ds]; rfl
def mkTup (vs : List V3) : V3 := match allD vs with | some ds => .d (.tup ds) | none => .tup vs
def mkLst (vs : List V3) : V3 := match allD vs with | some ds => .d (.lst ds) | none => .lst vs
/-- a tuple, a list that doesn't change -/
def xTup (g : FA) : FX := fun δ S => (g δ S).bind fun vs S => R3.when (decide (vs.length ≤ sizeLine)) (.ok (mkTup vs) S)
theorem new_pre {ρ : P3} {H : Hp} {p : Addr} {o : HO} (hp : H p = none) : Pre ρ H ρ (upd H p o) := Pre.same (same_upd hp)
theorem mkTup_rep {K : PySem.W.Frag} {ρ : P3} {H : Hp} {vs : List V3} {xs : List V} {a : Addr} (l : TpF K ρ.b H a xs) (r : Reps3 K ρ H vs xs) : Rep3 K ρ H (mkTup vs) (.ref a) := by
  unfold mkTup
  split
  · rename_i ds e
    rw [allD_some e] at r
    unfold Rep3 Rep
    exact ⟨a, xs, rfl, l, r.to⟩
  · unfold Rep3
    exact ⟨a, xs, rfl, l, r⟩
theorem mkLst_rep {K : PySem.W.Frag} {ρ : P3} {H : Hp} {vs : List V3} {xs : List V} {a : Addr} (l : LsF K ρ.b H a xs) (r : Reps3 K ρ H vs xs) : Rep3 K ρ H (mkLst vs) (.ref a) := by
  unfold mkLst
  split
  · rename_i ds e
    rw [allD_some e] at r
    unfold Rep3 Rep
    exact ⟨a, xs, rfl, l, r.to⟩
  · unfold Rep3
    exact ⟨a, xs, rfl, l, r⟩
theorem px_tup {es : List Expr} {g : FA} {x1 pos} (h : PXA X cl es g) : PX X cl (.Tuple es x1 pos) (xTup g) := ⟨(pe_tup h.1).imp fun σ H Q ⟨ρ, S, δ, v, S', E, hf, q⟩ => by
  obtain ⟨vs, S1, h1, h2⟩ := R3.bind_ok hf
  obtain ⟨hl, h3⟩ := R3.when_ok h2
  cases h3
  refine ⟨ρ, S, δ, vs, _, E, h1, fun us ρ1 H1 p1 w1 r1 => ⟨by rw [← r1.length]; exact of_decide_eq_true hl, fun p hp => q _ ρ1 _ (p1.trans (new_pre hp)) (w1.same (same_upd hp)) ?_⟩⟩
  refine mkTup_rep (.inl ⟨fun ha => ?_, .inl upd_same⟩) (r1.pre (new_pre hp))
  obtain ⟨o, ho⟩ := w1.bs p ha
  rw [hp] at ho; cases ho⟩
def xLst (g : FA) : FX := fun δ S => (g δ S).bind fun vs S => R3.when (decide (vs.length ≤ sizeLine)) (.ok (mkLst vs) S)
theorem px_lst {es : List Expr} {g : FA} {pos} (h : PXA X cl es g) : PX X cl (.List es pos) (xLst g) := ⟨(pe_lst h.1).imp fun σ H Q ⟨ρ, S, δ, v, S', E, hf, q⟩ => by
  obtain ⟨vs, S1, h1, h2⟩ := R3.bind_ok hf
  obtain ⟨hl, h3⟩ := R3.when_ok h2
  cases h3
  refine ⟨ρ, S, δ, vs, _, E, h1, fun us ρ1 H1 p1 w1 r1 => ⟨by rw [← r1.length]; exact of_decide_eq_true hl, fun p hp => q _ ρ1 _ (p1.trans (new_pre hp)) (w1.same (same_upd hp)) ?_⟩⟩
  refine mkLst_rep (.inl ⟨fun ha => ?_, .inl upd_same⟩) (r1.pre (new_pre hp))
  obtain ⟨o, ho⟩ := w1.bs p ha
  rw [hp] at ho; cases ho⟩
/-- operations on two data -/
def x2 (g : D → D → R D) (fa fb : FX) : FX := fun δ S => (fa δ S).bind fun a S1 => (fb δ S1).bind fun b S2 => match a, b with
  | .d x, .d y => (R3.of (g x y) S2).bind fun d S => .ok (.d d) S
  | _, _ => .no
theorem x2_r {K : PySem.W.Frag} {g : D → D → R D} {fa fb : FX} {σ : L2.St} {H : Hp} {Q : VK} (h : tX K cl (x2 g fa fb) σ H Q) :
    tOp (fun x y H Q => ∃ B da db d, (∀ a ∈ B, ∃ o, H a = some o) ∧ Rep K B H da x ∧ Rep K B H db y ∧ g da db = .ok d ∧ ∀ z H', Same H H' → Rep K B H' d z → Q z H') (tX K cl fa) (tX K cl fb) σ H Q := by
  obtain ⟨ρ, S, δ, v, S', E, hf, q⟩ := h
  obtain ⟨a, S1, h1, h2⟩ := R3.bind_ok hf
  obtain ⟨b, S2, h3, h4⟩ := R3.bind_ok h2
  match a, b, h1, h3, h4 with
  | .d x, .d y, h1, h3, h4 =>
    obtain ⟨d, S3, h5, h6⟩ := R3.bind_ok h4
    obtain ⟨h7, e⟩ := R3.of_ok h5
    cases h6
    subst e
    refine ⟨ρ, S, δ, .d x, S1, E, h1, fun u1 ρ1 H1 p1 w1 r1 => ⟨ρ1, S1, δ, .d y, _, E.to p1 w1, h3, fun u2 ρ2 H2 p2 w2 r2 => ?_⟩⟩
    have r1' := r1.pre p2
    unfold Rep3 at r1' r2
    exact ⟨ρ2.b, x, y, d, w2.bs, r1', r2, h7, fun z H' s r => q z ρ2 H' (p1.trans (p2.trans (Pre.same s))) (w2.same s) (by unfold Rep3; exact r)⟩
  | .d x, .loc _, _, _, h4 => cases h4
  | .d x, .lst _, _, _, h4 => cases h4
  | .d x, .tup _, _, _, h4 => cases h4
  | .loc _, _, _, _, h4 => cases h4
  | .lst _, _, _, _, h4 => cases h4
  | .tup _, _, _, _, h4 => cases h4
theorem px_op {op : Operator} {g : D → D → R D} {a b : Expr} {fa fb : FX} {pos : Pos} (ho : OpD X (binaryOp op) g) (ha : PX X cl a fa) (hb : PX X cl b fb) : PX X cl (.BinOp a op b pos) (x2 g fa fb) :=
  ⟨(pe_op ho.r ha.1 hb.1).imp fun σ H Q h => x2_r h⟩
theorem px_cmp {op : CmpOp} {g : D → D → R D} {a b : Expr} {fa fb : FX} {pos : Pos} (ho : OpD X (compareOp op) g) (ha : PX X cl a fa) (hb : PX X cl b fb) (hm : behindInMarks op b = false) : PX X cl (.Compare a [op] [b] pos) (x2 g fa fb) :=
  ⟨(pe_cmpR ho.r ha.1 hb.1 hm).imp fun σ H Q h => x2_r h⟩
def xb2 (g : D → D → R D) (fa fb : FX) : FB := fun δ S => (x2 g fa fb δ S).bind fun v S => match v with | .d (.bl b) => .ok b S | _ => .no
theorem pxb_cmp {op : CmpOp} {g : D → D → R D} {a b : Expr} {fa fb : FX} {pos : Pos} (ho : OpD X (compareOp op) g) (ha : PX X cl a fa) (hb : PX X cl b fb) (hm : behindInMarks op b = false) : PXB X cl (.Compare a [op] [b] pos) (xb2 g fa fb) :=
  ⟨(pt_cmpR ho.r ha.1 hb.1 hm).imp fun σ H Q ⟨ρ, S, δ, b, S', E, hf, q⟩ => by
    obtain ⟨v, S1, h1, h2⟩ := R3.bind_ok hf
    have hv : v = .d (.bl b) ∧ S1 = S' := by
      match v, h2 with
      | .d (.bl k), h2 => cases h2; exact ⟨rfl, rfl⟩
      | .d .non, h2 => cases h2
      | .d (.int _), h2 => cases h2
      | .d (.str _), h2 => cases h2
      | .d (.lst _), h2 => cases h2
      | .d (.tup _), h2 => cases h2
      | .d (.dct _ _), h2 => cases h2
      | .loc _, h2 => cases h2
      | .lst _, h2 => cases h2
      | .tup _, h2 => cases h2
    obtain ⟨rfl, rfl⟩ := hv
    exact x2_r (g := g) (Q := fun x H' => ∃ k, x = .bl k ∧ Q k H') ⟨ρ, S, δ, _, _, E, h1, fun u ρ' H' p w r => ⟨b, by unfold Rep3 Rep at r; exact r, q ρ' H' p w⟩⟩⟩
/-! ### statements -/
inductive Ou where
  | nx (δ : DE) | rt (v : V3)
abbrev FZ := DE → Sto → R3 Ou
def OutX (K : PySem.W.Frag) (cl : Nat → Addr) (ρ : P3) (H : Hp) (D : Ends) (S' : Sto) : Ou → Prop
  | .nx δ' => ∀ σ' ρ' H', Pre ρ H ρ' H' → EnvX K cl ρ' H' S' σ' δ' → D.nx σ' H'
  | .rt v => ∀ u ρ' H', Pre ρ H ρ' H' → SW K cl ρ' H' S' → Rep3 K ρ' H' v u → D.rt u H'
theorem OutX.pre {K : PySem.W.Frag} {ρ ρ1 : P3} {H H1 : Hp} {D : Ends} {S' : Sto} {o : Ou} (q : OutX K cl ρ H D S' o) (p : Pre ρ H ρ1 H1) : OutX K cl ρ1 H1 D S' o := by
  cases o with
  | nx δ' => exact fun σ' ρ' H' p' E' => q σ' ρ' H' (p.trans p') E'
  | rt d => exact fun v ρ' H' p' w r => q v ρ' H' (p.trans p') w r
def sX (K : PySem.W.Frag) (cl : Nat → Addr) (F : FZ) : TS := fun D σ H => ∃ ρ S δ o S', EnvX K cl ρ H S σ δ ∧ F δ S = .ok o S' ∧ OutX K cl ρ H D S' o
structure PZ (X : Cx) (cl : Nat → Addr) (st : Stmt) (F : FZ) : Prop where
  go : PS X st (sX X.K cl F)
structure PZs (X : Cx) (cl : Nat → Addr) (st : List Stmt) (F : FZ) : Prop where
  go : PSs X st (sX X.K cl F)
def zNil : FZ := fun δ S => .ok (.nx δ) S
def zSeq (F G : FZ) : FZ := fun δ S => (F δ S).bind fun o S1 => match o with | .nx δ' => G δ' S1 | .rt d => .ok (.rt d) S1
theorem pzs_nil : PZs X cl [] zNil := ⟨pss_nil.imp fun D σ H ⟨ρ, S, δ, o, S', E, hf, q⟩ => by
  cases hf
  exact q σ ρ H (Pre.refl ρ H) E⟩
theorem pzs_cons {st : Stmt} {rest : List Stmt} {F G : FZ} (h1 : PZ X cl st F) (h2 : PZs X cl rest G) : PZs X cl (st :: rest) (zSeq F G) := ⟨(pss_cons h1.1 h2.1).imp fun D σ H ⟨ρ, S, δ, o, S', E, hf, q⟩ => by
  obtain ⟨o1, S1, h1, h2⟩ := R3.bind_ok hf
  refine ⟨ρ, S, δ, o1, S1, E, h1, ?_⟩
  cases o1 with
  | nx δ1 =>
    intro σ1 ρ1 H1 p1 E1
    exact ⟨ρ1, S1, δ1, o, S', E1, h2, q.pre p1⟩
  | rt d =>
    cases h2
    exact q⟩
theorem pzs_one {st : Stmt} {F : FZ} (h1 : PZ X cl st F) : PZs X cl [st] F := ⟨pss_one h1.1⟩
def zSet (i : Nat) (f : FX) : FZ := fun δ S => (f δ S).bind fun v S => R3.when (decide (i < δ.length)) (.ok (.nx (δ.set i (some v))) S)
theorem pz_set {i : Nat} {x : Str} {e : Expr} {f : FX} {pos pos' : Pos} (hN : X.N.Nodup) (hi : X.N[i]? = some x) (hx : Loc X.env.scope x) (he : PX X cl e f) (hs : swapsWith e (some (.Name x pos')) pos.line X.env = pure false := by rfl) (hf : X.fn x = true ∨ X.env.scope.names.lookup x = some .local := by first | exact .inl rfl | exact .inr rfl | assumption) :
    PZ X cl (.Assign [.Name x pos'] e pos) (zSet i f) := ⟨(ps_set hN hi hx he.1 hs hf).imp fun D σ H ⟨ρ, S, δ, o, S', E, hf, q⟩ => by
  obtain ⟨v, S1, h1, h2⟩ := R3.bind_ok hf
  obtain ⟨hi, h3⟩ := R3.when_ok h2
  cases h3
  refine ⟨ρ, S, δ, v, _, E, h1, fun u ρ1 H1 p1 w1 r1 => ?_⟩
  exact q _ ρ1 H1 p1 ((E.to p1 w1).set (by rw [← E.len]; exact of_decide_eq_true hi) r1)⟩
def zRet (f : FX) : FZ := fun δ S => (f δ S).bind fun v S => .ok (.rt v) S
theorem pz_ret {e : Expr} {f : FX} {pos : Pos} (he : PX X cl e f) : PZ X cl (.Return (some e) pos) (zRet f) := ⟨(ps_ret he.1).imp fun D σ H ⟨ρ, S, δ, o, S', E, hf, q⟩ => by
  obtain ⟨v, S1, h1, h2⟩ := R3.bind_ok hf
  cases h2
  exact ⟨ρ, S, δ, v, _, E, h1, fun u ρ1 H1 p1 w1 r1 => q u ρ1 H1 p1 w1 r1⟩⟩
def zIf (c : FB) (F G : FZ) : FZ := fun δ S => (c δ S).bind fun b S => if b then F δ S else G δ S
theorem pz_if {c : Expr} {a b : List Stmt} {fc : FB} {F G : FZ} {pos : Pos} (hc : PXB X cl c fc) (ha : PZs X cl a F) (hb : PZs X cl b G) : PZ X cl (.If c a b pos) (zIf fc F G) := ⟨(ps_if hc.1 ha.1 hb.1).imp fun D σ H ⟨ρ, S, δ, o, S', E, hf, q⟩ => by
  obtain ⟨k, S1, h1, h2⟩ := R3.bind_ok hf
  refine ⟨ρ, S, δ, k, S1, E, h1, fun ρ1 H1 p1 w1 => ?_⟩
  cases k with
  | true => rw [if_pos rfl] at h2; exact iteT ⟨ρ1, S1, δ, o, S', E.to p1 w1, h2, q.pre p1⟩
  | false => rw [if_neg (by decide)] at h2; exact iteF ⟨ρ1, S1, δ, o, S', E.to p1 w1, h2, q.pre p1⟩⟩
def zDrop (f : FX) : FZ := fun δ S => (f δ S).bind fun _ S => .ok (.nx δ) S
/-! while -/
def zWhileN (c : FB) (body : FZ) : Nat → FZ
  | 0, _, _ => .no
  | n + 1, δ, S => (c δ S).bind fun b S => if b then (body δ S).bind fun o S => match o with | .nx δ2 => zWhileN c body n δ2 S | .rt r => .ok (.rt r) S else .ok (.nx δ) S
def zWhile (n : Nat) (c : FB) (body : FZ) : FZ := fun δ S => zWhileN c body n δ S
theorem pz_while (n : Nat) {c : Expr} {body : List Stmt} {fc : FB} {F : FZ} {pos : Pos} (hp : PassesOwn (model X.prog X.w) X.A X.env X.xe) (hc : PXB X cl c fc) (hb : PZs X cl body F) : PZ X cl (.While c body [] pos) (zWhile n fc F) :=
  ⟨(ps_while hp hc.1 hb.1).imp fun D σ H ⟨ρ, S, δ, o, S', E, hf, q⟩ => by
    refine ⟨fun m σ' H' => ∃ ρ1 S1 δ1, Pre ρ H ρ1 H' ∧ EnvX X.K cl ρ1 H' S1 σ' δ1 ∧ zWhileN fc F m δ1 S1 = .ok o S', ⟨n, ρ, S, δ, Pre.refl ρ H, E, hf⟩, ?_⟩
    rintro m σ' H' ⟨ρ1, S1, δ1, p1, E1, hw⟩
    cases m with
    | zero => cases hw
    | succ m =>
      obtain ⟨b, S2, h1, h2⟩ := R3.bind_ok hw
      refine ⟨ρ1, S1, δ1, b, S2, E1, h1, fun ρ2 H2 p2 w2 => ?_⟩
      cases b with
      | false =>
        rw [if_neg (by decide)] at h2
        cases h2
        exact iteF (q σ' ρ2 H2 (p1.trans p2) (E1.to p2 w2))
      | true =>
        rw [if_pos rfl] at h2
        obtain ⟨o1, S3, h3, h4⟩ := R3.bind_ok h2
        refine iteT ⟨fun σ4 H4 => ∃ ρ4 S4 δ4, Pre ρ H ρ4 H4 ∧ EnvX X.K cl ρ4 H4 S4 σ4 δ4 ∧ zWhileN fc F m δ4 S4 = .ok o S', fun σ4 H4 n => ⟨m, Nat.lt_succ_self _, n⟩, ρ2, S2, δ1, o1, S3, E1.to p2 w2, h3, ?_⟩
        cases o1 with
        | nx δ2 => exact fun σ3 ρ3 H3 p3 E3 => ⟨ρ3, S3, δ2, (p1.trans p2).trans p3, E3, h4⟩
        | rt d =>
          cases h4
          exact fun v ρ3 H3 p3 w r => q v ρ3 H3 ((p1.trans p2).trans p3) w r⟩
end
end L3

end
section
set_option maxRecDepth 100000
set_option maxHeartbeats 4000000
/-! ## THE STORE LAYER: what is walked, targets, for (own) -/
namespace L3
open PySem PySem.Spec PyProof.Rows L2
theorem Reps3.get {K : PySem.W.Frag} {ρ : P3} {H : Hp} : ∀ {ds : List V3} {xs : List V} {i : Nat} {d : V3}, Reps3 K ρ H ds xs → ds[i]? = some d → ∃ x, xs[i]? = some x ∧ Rep3 K ρ H d x
  | [], _, _, _, _, e => by simp at e
  | d :: ds, xs, 0, d', h, e => by
    obtain ⟨x, r, rfl, h1, h2⟩ := h.uncons
    simp at e; subst e
    exact ⟨x, rfl, h1⟩
  | d :: ds, xs, i + 1, d', h, e => by
    obtain ⟨x, r, rfl, h1, h2⟩ := h.uncons
    obtain ⟨y, e1, e2⟩ := Reps3.get (i := i) h2 (by simpa using e)
    exact ⟨y, by simpa using e1, e2⟩
def ItX (K : PySem.W.Frag) (ρ : P3) (H : Hp) (J : It) (vs : List V3) : Prop := ∀ ρ' H', PW ρ H ρ' H' → (∀ a ∈ ρ'.b, ∃ o, H' a = some o) → (∀ (i : Nat) (d : V3), vs[i]? = some d → J.go i H' ∧ ∀ x H'', J.yld i H' x H'' → Same H' H'' ∧ Rep3 K ρ' H'' d x) ∧ J.stop vs.length H'
theorem ItX.of {K : PySem.W.Frag} {ρ : P3} {H : Hp} {J : It} {ds : List D} (h : ItRep K ρ.b H J ds) : ItX K ρ H J (ds.map .d) := fun ρ' H' p bs => by
  obtain ⟨h1, h2⟩ := h ρ'.b H' p.pres
  refine ⟨fun i v hv => ?_, by rw [List.length_map]; exact h2⟩
  rw [List.getElem?_map] at hv
  cases e : ds[i]? with
  | none => rw [e] at hv; cases hv
  | some d =>
    rw [e] at hv
    cases hv
    obtain ⟨g1, g2⟩ := h1 i d e
    exact ⟨g1, fun x H'' y => let ⟨s, r⟩ := g2 x H'' y bs; ⟨s, by unfold Rep3; exact r⟩⟩
def tIX (K : PySem.W.Frag) (cl : Nat → Addr) (f : FA) : TI := fun σ H R => ∃ ρ S δ vs S', EnvX K cl ρ H S σ δ ∧ f δ S = .ok vs S' ∧ ∀ J ρ1 H1, Pre ρ H ρ1 H1 → SW K cl ρ1 H1 S' → ItX K ρ1 H1 J vs → R J H1
structure PXI (X : Cx) (cl : Nat → Addr) (tg e : Expr) (f : FA) : Prop where
  go : PI X tg e (tIX X.K cl f)
section
variable {X : Cx} {cl : Nat → Addr}
def iP (f : DEnv → R (List D)) : FA := fun δ S => (R3.of (f (down δ)) S).bind fun ds S => .ok (ds.map .d) S
theorem pxi_pure {tg e : Expr} {f : DEnv → R (List D)} (h : QIt X tg e f) : PXI X cl tg e (iP f) := ⟨h.1.imp fun σ H Q ⟨ρ, S, δ, vs, S', E, hf, q⟩ => by
  obtain ⟨ds, S1, h1, h2⟩ := R3.bind_ok hf
  obtain ⟨h3, e3⟩ := R3.of_ok h1
  cases h2
  subst e3
  exact ⟨[], ρ.b, down δ, ds, E.down, h3, fun J H1 s r => q J ρ H1 (Pre.same s) (E.sw.same s) (ItX.of r)⟩⟩
def iRng1 (f : FX) : FA := fun δ S => (f δ S).bind fun v S => match v with | .d (.int j) => R3.when (decide (-(2 ^ 62) ≤ j ∧ j < 2 ^ 62)) (.ok ((rngD 0 j.toNat).map .d) S) | _ => .no
theorem pxi_range1 {tg a : Expr} {f : FX} {p pos : Pos} (h : PX X cl a f) (hg : Gl X "range") (hm : X.mg "range" = none) (hs : starEach [a] X.env = [(false, eval a X.env)] := by rfl) : PXI X cl tg (.Call (.Name "range" p) [a] [] pos) (iRng1 f) :=
  ⟨(pi_range1 hg hm (pa_cons h.1 pa_nil hs) hs).imp fun σ H RR ⟨ρ, S, δ, vs, S', E, hf, q⟩ => by
    obtain ⟨v, S1, h1, h2⟩ := R3.bind_ok hf
    match v, h1, h2 with
    | .d (.int j), h1, h2 =>
      obtain ⟨hb, h3⟩ := R3.when_ok h2
      cases h3
      have hb := of_decide_eq_true hb
      refine ⟨ρ, S, δ, .d (.int j), _, E, h1, fun u ρ1 H1 p1 w1 r1 => ⟨j, ?_, hb.1, hb.2, q _ ρ1 H1 p1 w1 (ItX.of (rng_it 0 _))⟩⟩
      unfold Rep3 Rep at r1
      rw [r1]
    | .d .non, _, h2 => cases h2
    | .d (.bl _), _, h2 => cases h2
    | .d (.str _), _, h2 => cases h2
    | .d (.lst _), _, h2 => cases h2
    | .d (.tup _), _, h2 => cases h2
    | .d (.dct _ _), _, h2 => cases h2
    | .loc _, _, h2 => cases h2
    | .lst _, _, h2 => cases h2
    | .tup _, _, h2 => cases h2⟩
/-- a list that doesn't change, of any values -/
def iSeq (f : FX) : FA := fun δ S => (f δ S).bind fun v S => match v with | .d (.lst ds) => .ok (ds.map .d) S | .lst vs => .ok vs S | _ => .no
/-! targets -/
abbrev FG := V3 → DE → Option DE
abbrev FGs := List V3 → DE → Option DE
def gX (K : PySem.W.Frag) (cl : Nat → Addr) (t : FG) : TG := fun v σ H Q => ∃ ρ S δ x δ', EnvX K cl ρ H S σ δ ∧ Rep3 K ρ H x v ∧ t x δ = some δ' ∧ ∀ σ' H', Same H H' → EnvX K cl ρ H' S σ' δ' → Q σ' H'
def gXs (K : PySem.W.Frag) (cl : Nat → Addr) (t : FGs) : TGs := fun v σ H Q => ∃ ρ S δ x δ', EnvX K cl ρ H S σ δ ∧ Reps3 K ρ H x v ∧ t x δ = some δ' ∧ ∀ σ' H', Same H H' → EnvX K cl ρ H' S σ' δ' → Q σ' H'
structure PXG (X : Cx) (cl : Nat → Addr) (tg : Expr) (t : FG) : Prop where
  go : PG X tg (gX X.K cl t)
structure PXGs (X : Cx) (cl : Nat → Addr) (tg : List Expr) (t : FGs) : Prop where
  go : PGs X tg (gXs X.K cl t)
theorem EnvX.same {K : PySem.W.Frag} {ρ : P3} {H H' : Hp} {S : Sto} {σ : L2.St} {δ : DE} (E : EnvX K cl ρ H S σ δ) (s : Same H H') : EnvX K cl ρ H' S σ δ := E.to (Pre.same s) (E.sw.same s)
def gNm (i : Nat) : FG := fun d δ => if i < δ.length then some (δ.set i (some d)) else none
theorem pxg_name {i : Nat} {x : Str} {pos : Pos} (hN : X.N.Nodup) (hi : X.N[i]? = some x) (hx : Loc X.env.scope x) (hf : X.fn x = true ∨ X.env.scope.names.lookup x = some .local := by first | exact .inl rfl | exact .inr rfl | assumption) : PXG X cl (.Name x pos) (gNm i) :=
  ⟨(pg_name hN hi hx hf).imp fun v σ H Q ⟨ρ, S, δ, d, δ', E, r, ht, q⟩ => by
    unfold gNm at ht
    split at ht
    · rename_i hi
      cases ht
      exact q _ H (Same.refl H) (E.set (by rw [← E.len]; exact hi) r)
    · cases ht⟩
def gNl : FGs := fun ds δ => match ds with | [] => some δ | _ => none
def gCn (t : FG) (u : FGs) : FGs := fun ds δ => match ds with | d :: r => (t d δ).bind fun δ' => u r δ' | [] => none
theorem pxgs_nil : PXGs X cl [] gNl := ⟨pgs_nil.imp fun vs σ H Q ⟨ρ, S, δ, ds, δ', E, r, ht, q⟩ => by
  cases ds with
  | nil => unfold Reps3 at r; cases ht; exact ⟨r, q σ H (Same.refl H) E⟩
  | cons => cases ht⟩
theorem pxgs_cons {e : Expr} {es : List Expr} {t : FG} {u : FGs} (h1 : PXG X cl e t) (h2 : PXGs X cl es u) (hs : (assignEach (e :: es) X.env).map (·.2) = assign e X.env :: (assignEach es X.env).map (·.2) := by rfl) : PXGs X cl (e :: es) (gCn t u) :=
  ⟨(pgs_cons h1.1 h2.1 hs).imp fun vs σ H Q ⟨ρ, S, δ, ds, δ', E, r, ht, q⟩ => by
    cases ds with
    | nil => cases ht
    | cons d ds =>
      obtain ⟨x, xs, rfl, r1, r2⟩ := r.uncons
      have ht : (t d δ).bind (fun δ' => u ds δ') = some δ' := ht
      cases e1 : t d δ with
      | none => rw [e1] at ht; cases ht
      | some δ1 =>
        rw [e1] at ht
        exact ⟨x, xs, rfl, ρ, S, δ, d, δ1, E, r1, e1, fun σ1 H1 s1 E1 => ⟨ρ, S, δ1, ds, δ', E1, r2.pre (Pre.same s1), ht, fun σ2 H2 s2 E2 => q σ2 H2 (s1.trans s2) E2⟩⟩⟩
def gTp (n : Nat) (t : FGs) : FG := fun d δ => match d with
  | .d (.tup ds) => if ds.length = n then t (ds.map .d) δ else none
  | .tup vs => if vs.length = n then t vs δ else none
  | _ => none
theorem pxg_tup {es : List Expr} {k : Nat} {t : FGs} {n : Nat} {pos : Pos} (hc : X.calm = true) (h : PXGs X cl es t) (hn : (assignEach es X.env).length = n := by rfl) (hst : (assignEach es X.env).findIdx? (·.1) = none := by rfl) : PXG X cl (.Tuple es k pos) (gTp n t) :=
  ⟨(pg_tup hc h.1 hn hst).imp fun v σ H Q ⟨ρ, S, δ, d, δ', E, r, ht, q⟩ => by
    have key : ∃ vs a xs, v = .ref a ∧ TpF X.K ρ.b H a xs ∧ Reps3 X.K ρ H vs xs ∧ vs.length = n ∧ t vs δ = some δ' := by
      unfold gTp at ht
      split at ht
      · rename_i ds
        split at ht
        · rename_i hl
          unfold Rep3 Rep at r
          obtain ⟨a, xs, e, l, r⟩ := r
          exact ⟨ds.map .d, a, xs, e, l, Reps3.of r, by rw [List.length_map]; exact hl, ht⟩
        · cases ht
      · rename_i vs
        split at ht
        · rename_i hl
          unfold Rep3 at r
          obtain ⟨a, xs, e, l, r⟩ := r
          exact ⟨vs, a, xs, e, l, r, hl, ht⟩
        · cases ht
      · cases ht
    obtain ⟨vs, a, xs, rfl, l, r, hl, ht⟩ := key
    exact ⟨a, xs, rfl, l.sq, by rw [← r.length]; exact hl, ρ, S, δ, vs, δ', E, r, ht, q⟩⟩
/-- target = e -/
def zAsg (f : FX) (t : FG) : FZ := fun δ S => (f δ S).bind fun d S => match t d δ with | some δ' => .ok (.nx δ') S | none => .no
theorem pz_asg {tg e : Expr} {f : FX} {t : FG} {pos : Pos} (he : PX X cl e f) (hg : PXG X cl tg t) (hs : swapsWithSole [tg] e pos.line X.env = pure false := by rfl) (hw : swappedStores [tg] e X.env = pure none := by rfl)
    (h1 : (assignEach [tg] X.env).map (·.2) = [assign tg X.env] := by rfl) : PZ X cl (.Assign [tg] e pos) (zAsg f t) := ⟨(ps_asg he.1 hg.1 hs hw h1).imp fun D σ H ⟨ρ, S, δ, o, S', E, hf, q⟩ => by
  obtain ⟨d, S1, h1, h2⟩ := R3.bind_ok hf
  split at h2
  · rename_i δ1 e1
    cases h2
    exact ⟨ρ, S, δ, d, _, E, h1, fun v ρ1 H1 p1 w1 r1 => ⟨ρ1, _, δ, d, δ1, E.to p1 w1, r1, e1, fun σ' H2 s2 E2 => q σ' ρ1 H2 (p1.trans (Pre.same s2)) E2⟩⟩
  · cases h2⟩
/-! for -/
def loopX (t : FG) (body : FZ) : List V3 → FZ
  | [], δ, S => .ok (.nx δ) S
  | d :: ds, δ, S => match t d δ with
    | none => .no
    | some δ1 => (body δ1 S).bind fun o S => match o with | .nx δ2 => loopX t body ds δ2 S | .rt r => .ok (.rt r) S
def zFor (it : FA) (t : FG) (body : FZ) : FZ := fun δ S => (it δ S).bind fun vs S => loopX t body vs δ S
theorem pz_for {tg iter : Expr} {body : List Stmt} {it : FA} {t : FG} {F : FZ} {pos : Pos} (hp : PassesOwn (model X.prog X.w) X.A X.env X.xe) (hc : X.calm = true) (hi : PXI X cl tg iter it) (hg : PXG X cl tg t) (hb : PZs X cl body F)
    (hs : ∀ x, foldedSetIterable iter X.env x = pure x := by intro _; rfl) : PZ X cl (.For tg iter body [] pos) (zFor it t F) := ⟨(ps_for hp hc hi.1 hg.1 hb.1 hs).imp fun D σ H ⟨ρ, S, δ, o, S', E, hf, q⟩ => by
  obtain ⟨ds, S0, h1, h2⟩ := R3.bind_ok hf
  refine ⟨ρ, S, δ, ds, S0, E, h1, fun J ρ1 H1 p1 w1 ir => ?_⟩
  refine ⟨fun i m σ' H' => m = ds.length - i ∧ i ≤ ds.length ∧ ∃ ρ' S1 δ', Pre ρ1 H1 ρ' H' ∧ EnvX X.K cl ρ' H' S1 σ' δ' ∧ loopX t F (ds.drop i) δ' S1 = .ok o S', ⟨ds.length, rfl, Nat.zero_le _, ρ1, S0, δ, Pre.refl ρ1 H1, E.to p1 w1, by simpa using h2⟩, ?_⟩
  rintro i m σ' H' ⟨rfl, hi, ρ', S1, δ', pv, E', hl⟩
  obtain ⟨go, stop⟩ := ir ρ' H' pv.pw E'.sw.bs
  by_cases hlt : i < ds.length
  · have hd : ds[i]? = some ds[i] := List.getElem?_eq_getElem hlt
    have hdrop : ds.drop i = ds[i] :: ds.drop (i + 1) := List.drop_eq_getElem_cons hlt
    rw [hdrop] at hl
    unfold loopX at hl
    split at hl
    · cases hl
    · rename_i δ1 h3
      obtain ⟨o1, S2, h5, h6⟩ := R3.bind_ok hl
      obtain ⟨g1, g2⟩ := go i _ hd
      refine .inr ⟨g1, fun σ2 H2 => ∃ ρ2 S2 δ2, Pre ρ1 H1 ρ2 H2 ∧ EnvX X.K cl ρ2 H2 S2 σ2 δ2 ∧ loopX t F (ds.drop (i + 1)) δ2 S2 = .ok o S', fun σ2 H2 n => ⟨ds.length - (i + 1), by omega, rfl, hlt, n⟩, fun x H'' y => ?_⟩
      obtain ⟨ss, rr⟩ := g2 x H'' y
      refine ⟨ρ', S1, δ', ds[i], δ1, E'.same ss, rr, h3, fun σ2 H2 s2 E2 => ⟨ρ', S1, δ1, o1, S2, E2, h5, ?_⟩⟩
      have pv2 : Pre ρ1 H1 ρ' H2 := pv.trans (Pre.same (ss.trans s2))
      cases o1 with
      | nx δ2 => exact fun σ3 ρ3 H3 p3 E3 => ⟨ρ3, S2, δ2, pv2.trans p3, E3, h6⟩
      | rt d =>
        cases h6
        exact fun v ρ3 H3 p3 w r => q v ρ3 H3 (p1.trans (pv2.trans p3)) w r
  · have e : i = ds.length := by omega
    subst e
    rw [List.drop_length] at hl
    cases hl
    exact .inl ⟨stop, q σ' ρ' H' (p1.trans pv) E'⟩⟩
end
end L3

end
section
set_option maxRecDepth 100000
set_option maxHeartbeats 4000000
/-! ## THE STORE LAYER: deeds on the store, defs, calls (own) -/
namespace L3
open PySem PySem.Spec PyProof.Rows L2
/-! the store cut short -/
mutual
def locOk (n : Nat) : V3 → Bool
  | .d _ => true
  | .loc k => decide (k < n)
  | .lst vs => locsOk n vs
  | .tup vs => locsOk n vs
def locsOk (n : Nat) : List V3 → Bool
  | [] => true
  | v :: vs => locOk n v && locsOk n vs
end
def soOk (n : Nat) : SO → Bool
  | .ins _ fs => locsOk n (fs.map (·.2))
  | _ => true
theorem cut_sub {ρ : P3} {n : Nat} {b : Addr} (h : b ∈ (ρ.cut n).b) : b ∈ ρ.b := by
  rcases P3.mem_b.mp h with z | z
  · exact P3.mem_b.mpr (.inl ⟨List.mem_of_mem_take z.1, z.2⟩)
  · exact P3.mem_b.mpr (.inr z)
theorem cut_pres {ρ : P3} {H : Hp} (n : Nat) : Pres ρ.b H (ρ.cut n).b H := fun b o e nb => ⟨e, fun hb => nb (cut_sub hb)⟩
mutual
theorem Rep3.cut {K : PySem.W.Frag} {ρ : P3} {H : Hp} {n : Nat} : ∀ {v : V3} {x : V}, locOk n v = true → Rep3 K ρ H v x → Rep3 K (ρ.cut n) H v x
  | .d y, x, _, h => by unfold Rep3 at h ⊢; exact h.pres (cut_pres n)
  | .loc k, x, o, h => by
    unfold Rep3 at h ⊢
    unfold locOk at o
    obtain ⟨a, h1, h2⟩ := h
    exact ⟨a, by show (ρ.r.take n)[k]? = _; rw [List.getElem?_take_of_lt (of_decide_eq_true o)]; exact h1, h2⟩
  | .lst vs, x, o, h => by
    unfold Rep3 at h ⊢
    unfold locOk at o
    obtain ⟨a, xs, e, l, r⟩ := h
    exact ⟨a, xs, e, l.pres (cut_pres n), Reps3.cut o r⟩
  | .tup vs, x, o, h => by
    unfold Rep3 at h ⊢
    unfold locOk at o
    obtain ⟨a, xs, e, l, r⟩ := h
    exact ⟨a, xs, e, TpF.pres (cut_pres n) l, Reps3.cut o r⟩
theorem Reps3.cut {K : PySem.W.Frag} {ρ : P3} {H : Hp} {n : Nat} : ∀ {vs : List V3} {xs : List V}, locsOk n vs = true → Reps3 K ρ H vs xs → Reps3 K (ρ.cut n) H vs xs
  | [], _, _, h => by unfold Reps3 at h ⊢; exact h
  | v :: vs, xs, o, h => by
    unfold locsOk at o
    obtain ⟨o1, o2⟩ := Bool.and_eq_true_iff.mp o
    obtain ⟨x, r, rfl, h1, h2⟩ := h.uncons
    exact Reps3.cons (Rep3.cut o1 h1) (Reps3.cut o2 h2)
end
theorem SW.cut {K : PySem.W.Frag} {cl : Nat → Addr} {ρ : P3} {H : Hp} {S : Sto} (w : SW K cl ρ H S) {n : Nat} (ok : (S.take n).all (soOk n) = true) : SW K cl (ρ.cut n) H (S.take n) :=
  ⟨by show (ρ.r.take n).length = _; rw [List.length_take, List.length_take, w.len], fun i j a hi hj => by
    have hi : (ρ.r.take n)[i]? = some a := hi
    have hj : (ρ.r.take n)[j]? = some a := hj
    have gi : ρ.r[i]? = some a := by
      rw [List.getElem?_take] at hi; split at hi
      · exact hi
      · cases hi
    have gj : ρ.r[j]? = some a := by
      rw [List.getElem?_take] at hj; split at hj
      · exact hj
      · cases hj
    exact w.nd i j a gi gj, fun k a o hk ho => by
    have hk : (ρ.r.take n)[k]? = some a := hk
    have gk : ρ.r[k]? = some a := by
      rw [List.getElem?_take] at hk; split at hk
      · exact hk
      · cases hk
    have go : S[k]? = some o := by
      rw [List.getElem?_take] at ho; split at ho
      · exact ho
      · cases ho
    have r := w.ob k a o gk go
    have oo : soOk n o = true := List.all_eq_true.mp ok o (List.mem_of_getElem? ho)
    cases o with
    | lst ds => obtain ⟨xs, e, q⟩ := r; exact ⟨xs, e, q.pres (cut_pres n)⟩
    | dct kvs => obtain ⟨ys, e, e2, q⟩ := r; exact ⟨ys, e, e2, q.pres (cut_pres n)⟩
    | ins c fs => obtain ⟨dx, ys, e, e2, q⟩ := r; exact ⟨dx, ys, e, e2, q.cut oo⟩
    | frz => exact r, fun b hb => let ⟨h1, h2⟩ := w.zb b hb; ⟨h1, fun h => h2 (List.mem_of_mem_take h)⟩, (fun k a hk ho => by
    have hk : (ρ.r.take n)[k]? = some a := hk
    rw [List.getElem?_take] at hk
    split at hk
    · rename_i hlt
      rw [List.getElem?_take_of_lt hlt] at ho
      exact w.fz k a hk ho
    · cases hk), w.ff, (fun k a hk ho => by
    have hk : (ρ.r.take n)[k]? = some a := hk
    rw [List.getElem?_take] at hk
    split at hk
    · rename_i hlt
      rw [List.getElem?_take_of_lt hlt] at ho
      exact w.fi k a hk ho
    · cases hk)⟩
theorem SW.cutPre {K : PySem.W.Frag} {cl : Nat → Addr} {ρ ρ' : P3} {H H' : Hp} {n : Nat} (hn : ρ.r.length ≤ n) (p : Pre ρ H ρ' H') : Pre ρ H (ρ'.cut n) H' :=
  ⟨p.pres.trans (cut_pres n), p.zz, p.zs, fun k a h => by show (ρ'.r.take n)[k]? = _; rw [List.getElem?_take_of_lt (Nat.lt_of_lt_of_le (List.getElem?_eq_some_iff.mp h).1 hn)]; exact p.ext k a h⟩
section
variable {X : Cx} {cl : Nat → Addr}
/-! x.append(e) -/
def lstAt (S : Sto) (k : Nat) : Option (List D) := match S[k]? with | some (.lst ds) => some ds | _ => none
theorem lstAt_some {S : Sto} {k : Nat} {ds : List D} (h : lstAt S k = some ds) : S[k]? = some (.lst ds) := by
  unfold lstAt at h
  split at h
  · rename_i e; cases h; exact e
  · cases h
def locAt (δ : DE) (i : Nat) : Option Nat := match δ[i]? with | some (some (.loc k)) => some k | _ => none
theorem locAt_some {δ : DE} {i k : Nat} (h : locAt δ i = some k) : δ[i]? = some (some (.loc k)) := by
  unfold locAt at h
  split at h
  · rename_i e; cases h; exact e
  · cases h
def zApp (i : Nat) (f : FX) : FZ := fun δ S => match locAt δ i with
  | none => .no
  | some k => match lstAt S k with
    | none => .no
    | some _ => (f δ S).bind fun v S1 => match v with
      | .d d => (match lstAt S1 k with | some ds => R3.when (decide (ds.length < sizeLine)) (.ok (.nx δ) (S1.set k (.lst (ds ++ [d])))) | none => .no)
      | _ => .no
theorem pz_app {i : Nat} {x : Str} {e : Expr} {f : FX} {npos apos cpos pos : Pos} (hN : X.N[i]? = some x) (hv : Vis X.env.scope x) (he : PX X cl e f)
    (hd : (x == ("__debug__" : Str)) = false := by decide) (hcd : (x == ("__classdict__" : Str)) = false := by decide)
    (hs : starEach [e] X.env = (false, eval e X.env) :: starEach [] X.env := by rfl) (hline : (apos.endLine == cpos.line) = true := by rfl)
    (hfew : ((backTo cpos (starEach [e] X.env)).all (fun x => !x.1) && (backToKw cpos (keywordEach [] X.env)).all (fun x => x.1.isSome)
      && decide (([e] : List Expr).length + ([] : List Keyword).length + (if ([] : List Keyword).isEmpty then 0 else 1) < 30)) = true := by rfl)
    (hsw : swapsWith (.Call (.Attribute (.Name x npos) "append" apos) [e] [] cpos) none pos.line X.env = pure false := by rfl)
    (hbase : attributeBase (.Name x npos) "append" X.env (eval (.Name x npos) X.env) = eval (.Name x npos) X.env := by rfl) :
    PZ X cl (.Expr (.Call (.Attribute (.Name x npos) "append" apos) [e] [] cpos) pos) (zApp i f) := by
  refine ⟨(ps_expr (pe_bm (X := X) PySem.F.plainAttrs_list PySem.F.slot_list_append PySem.F.type_list_append mt_append (pe_var hN hv hd hcd) (pa_cons he.1 pa_nil hs) hbase hfew hline hs) hsw).imp fun D σ H ⟨ρ, S, δ, o, S', E, hf, q⟩ => ?_⟩
  unfold zApp at hf
  split at hf
  · cases hf
  · rename_i k hk
    split at hf
    · cases hf
    · rename_i ds0 h0
      obtain ⟨v, S1, h1, h2⟩ := R3.bind_ok hf
      split at h2
      · rename_i d
        split at h2
        · rename_i ds h3
          obtain ⟨hl, h4⟩ := R3.when_ok h2
          cases h4
          obtain ⟨u, u1, u2⟩ := E.val i _ (locAt_some hk)
          unfold Rep3 at u2
          obtain ⟨a, a1, rfl⟩ := u2
          obtain ⟨xs0, x0, _⟩ := E.sw.ob k a _ a1 (lstAt_some h0)
          refine ⟨.ref a, u1, .inl ⟨rfl, xs0, SqL.of x0⟩, ⟨ρ, S, δ, .d d, S1, E, h1, fun y ρ1 H1 p1 w1 r1 => ?_⟩⟩
          have b1 := p1.ext k a a1
          obtain ⟨xs, x1, x2⟩ := w1.ob k a _ b1 (lstAt_some h3)
          refine ⟨a, xs, y, rfl, rfl, x1, by rw [← x2.length]; exact of_decide_eq_true hl, ?_⟩
          unfold Rep3 at r1
          obtain ⟨w2, p2⟩ := w1.put (o := .lst (ds ++ [d])) (u := .lst (xs ++ [y])) b1 (w1.fz k a b1 (by rw [lstAt_some h3]; intro h; cases h)) ⟨xs ++ [y], rfl, x2.append (Reps.cons r1 Reps.nil)⟩
          exact q σ ρ1 _ (p1.trans p2) (E.to (p1.trans p2) w2)
        · cases h2
      · cases h2
/-! x[i] = e -/
def zPut (fo fi fe : FX) : FZ := fun δ S => (fe δ S).bind fun v S1 => (fo δ S1).bind fun o S2 => (fi δ S2).bind fun j S3 => match v, o, j with
  | .d d, .loc k, .d (.int n) => (match lstAt S3 k with
    | some ds => (match ixN ds.length n with | some m => .ok (.nx δ) (S3.set k (.lst (ds.set m d))) | none => .no)
    | none => .no)
  | _, _, _ => .no
/-! calls of defs that change the store -/
def spX (K : PySem.W.Frag) (cl : Nat → Addr) (n : Nat) (g : List V3 → Sto → R3 V3) : Sp := fun vs H Q _ => vs.length = n ∧ ∃ ρ S xs v S', SW K cl ρ H S ∧ Reps3 K ρ H xs vs ∧ g xs S = .ok v S' ∧ ∀ u ρ' H', Pre ρ H ρ' H' → SW K cl ρ' H' S' → Rep3 K ρ' H' v u → Q u H'
def xCall (g : List V3 → Sto → R3 V3) (fs : FA) : FX := fun δ S => (fs δ S).bind g
def CalleeX (P : Program) (w : World) (K : PySem.W.Frag) (mg : Str → Option Value) (base : Heap) (cl : Nat → Addr) (k : Nat) (x : Str) (n : Nat) (g : List V3 → Sto → R3 V3) : Prop :=
  ∃ (f : Addr) (fd : FuncData) (ps : List Str), FnOk P w K mg base CX0 k f fd ps (spX K cl n g) ∧ mg x = some (.ref f) ∧ PySem.W.keepIn K (.ref f) = true ∧ Binds K fd ps []
theorem px_call {g : List V3 → Sto → R3 V3} {k j n : Nat} {x : Str} {p pos : Pos} {e : Expr} {es : List Expr} {fs : FA} (C : CalleeX X.prog X.w X.K X.mg X.base cl k x n g) (hr : Room j X.A) (hkj : k ≤ j) (hg : Gl X x) (ha : PXA X cl (e :: es) fs)
    (hn : ∀ δ S ds S', fs δ S = .ok ds S' → ds.length = n) (hdb : (x == ("__debug__" : Str)) = false := by decide) (he : starEach (e :: es) X.env = (false, eval e X.env) :: starEach es X.env := by rfl) (hpl : (backTo pos (starEach es X.env)).any (·.1) = false := by rfl) :
    PX X cl (.Call (.Name x p) (e :: es) [] pos) (xCall g fs) := by
  obtain ⟨f, fd, ps, F, hm, hk, hb⟩ := C
  refine ⟨(pe_call F (hr.mono hkj) hg hm hk hb .nil pass0 ha.1 hdb he hpl).imp fun σ H Q ⟨ρ, S, δ, v, S', E, hf, q⟩ => ?_⟩
  obtain ⟨vs, S1, h1, h2⟩ := R3.bind_ok hf
  refine ⟨ρ, S, δ, vs, S1, E, h1, fun us ρ1 H1 p1 w1 r1 => ?_⟩
  show spX X.K cl n g (us ++ []) H1 Q E0
  rw [List.append_nil]
  exact ⟨by rw [← r1.length]; exact hn δ S vs S1 h1, ρ1, S1, vs, v, S', w1, r1, h2, fun z ρ2 H2 p2 w2 r2 => q z ρ2 H2 (p1.trans p2) w2 r2⟩
end
/-! defs -/
def xStart (N : List Str) (vs : List V3) : DE := vs.map some ++ List.replicate (N.length - vs.length) none
theorem xstart_r {K : PySem.W.Frag} {cl : Nat → Addr} {ρ : P3} {H : Hp} {S : Sto} {N : List Str} {ds : List V3} {vs : List V} (w : SW K cl ρ H S) (r : Reps3 K ρ H ds vs) : EnvX K cl ρ H S (L2.start N vs) (xStart N ds) where
  len := by unfold L2.start xStart; simp [r.length]
  sw := w
  val := fun i d e => by
    unfold xStart at e
    unfold L2.start
    by_cases hi : i < ds.length
    · rw [List.getElem?_append_left (by simpa using hi), List.getElem?_map] at e
      cases q : ds[i]? with
      | none => rw [q] at e; cases e
      | some d' =>
        rw [q] at e
        cases e
        obtain ⟨x, h1, h2⟩ := r.get q
        exact ⟨x, by rw [List.getElem?_append_left (by rw [List.length_map, ← r.length]; exact hi), List.getElem?_map, h1]; rfl, h2⟩
    · rw [List.getElem?_append_right (by simpa using hi), List.getElem?_replicate] at e
      split at e <;> cases e
/-- the def keeps the whole store -/
def fnK (N : List Str) (F : FZ) : List V3 → Sto → R3 V3 := fun vs S => (F (xStart N vs) S).bind fun o S' => match o with | .rt v => .ok v S' | .nx _ => .ok (.d .non) S'
/-- the def tells a datum, and leaves no new things behind -/
def fnP (N : List Str) (F : FZ) : List V3 → Sto → R3 V3 := fun vs S => (fnK N F vs S).bind fun v S' => match res S' v with
  | some d => R3.when ((S'.take S.length).all (soOk S.length) && geOk S.length v) (.ok (.d d) (S'.take S.length))
  | none => .no
theorem fn_keep {P : Program} {w : World} {K : PySem.W.Frag} {mg : Str → Option Value} {base : Heap} {cl : Nat → Addr} {x qual : Str} {st : Stmt} {f : Addr} {fd : FuncData} {N ps : List Str} {k : Nat} {F : FZ} (Fn : Fun K x qual st f fd) (S : FnScope N ps (defScope st))
    (hbody : ∀ (cdv : Value) (A : Around) (outer : List Env) (s : Shared) (H : Hp) (E : XK), Room k (A.deeper (envOfC qual (defScope st) s.heap.objs.size f cdv)) →
      PZs (cxOf CX0 P w K mg base N qual (defScope st) f cdv A outer s H E).nox cl (defBody st) F) : FnOk P w K mg base CX0 (k + 1) f fd ps (spX K cl ps.length (fnK N F)) := by
  refine Fn.ok S (fun vs H Q E h => h.1) (fun cdv A outer s H vs Q E hr h => ⟨_, (hbody cdv A outer s H E hr).1, ?_⟩)
  obtain ⟨_, ρ, S, ds, v, S', w, r, hg, q⟩ := h
  obtain ⟨o, S1, h1, h2⟩ := R3.bind_ok hg
  refine ⟨ρ, S, xStart N ds, o, S1, xstart_r w r, h1, ?_⟩
  cases o with
  | nx δ' =>
    cases h2
    exact fun σ' ρ' H' p' E' => q _ ρ' H' p' E'.sw (by unfold Rep3 Rep; rfl)
  | rt d' =>
    cases h2
    exact fun u ρ' H' p' w' r' => q u ρ' H' p' w' r'
theorem fnP_of {K : PySem.W.Frag} {cl : Nat → Addr} {N : List Str} {F : FZ} {n : Nat} {vs : List V} {H : Hp} {Q : VK} {E : XK} (h : spX K cl n (fnP N F) vs H Q E) : spX K cl n (fnK N F) vs H Q E := by
  obtain ⟨hl, ρ, S, xs, v, S', w, r, hg, q⟩ := h
  obtain ⟨v1, S1, h1, h2⟩ := R3.bind_ok hg
  refine ⟨hl, ρ, S, xs, v1, S1, w, r, h1, fun u ρ1 H1 p1 w1 r1 => ?_⟩
  have pc : Pre ρ H (ρ1.cut S.length) H1 := SW.cutPre (K := K) (cl := cl) (by rw [w.len]; exact Nat.le_refl _) p1
  split at h2
  · rename_i d e
    obtain ⟨ok, h3⟩ := R3.when_ok h2
    obtain ⟨ok, hk⟩ := Bool.and_eq_true_iff.mp ok
    cases h3
    refine q u _ H1 pc (w1.cut ok) ?_
    unfold Rep3
    refine r1.resB w1 (cut_pres _) (fun k a hk a1 ha => ?_) hk e
    rcases P3.mem_b.mp ha with ⟨z, _⟩ | z
    · obtain ⟨j, hj⟩ := List.getElem?_of_mem z
      have hj : (ρ1.r.take S.length)[j]? = some a := hj
      rw [List.getElem?_take] at hj
      split at hj
      · rename_i hjl
        have := w1.nd j k a hj a1
        omega
      · cases hj
    · exact (w1.zb a z).2 (List.mem_of_getElem? a1)
  · cases h2
end L3

end
section
set_option maxRecDepth 100000
set_option maxHeartbeats 4000000
/-! ## THE STORE LAYER: an item set, comprehensions with deeds (own) -/
namespace L3
open PySem PySem.Spec PyProof.Rows L2
theorem Reps.setAt {K : PySem.W.Frag} {ρ : P3} {H : Hp} : ∀ {ds : List D} {xs : List V} {m : Nat} {d : D} {v : V}, Reps K ρ.b H ds xs → Rep K ρ.b H d v → Reps K ρ.b H (ds.set m d) (xs.set m v)
  | [], _, _, _, _, h, _ => by unfold Reps at h; subst h; exact Reps.nil
  | e :: ds, xs, 0, d, v, h, r => by
    obtain ⟨x, r', rfl, h1, h2⟩ := h.uncons
    exact Reps.cons r h2
  | e :: ds, xs, m + 1, d, v, h, r => by
    obtain ⟨x, r', rfl, h1, h2⟩ := h.uncons
    exact Reps.cons h1 (Reps.setAt h2 r)
section
variable {X : Cx} {cl : Nat → Addr}
/-- hg: pg_sub ho.1 hi.1 set_list -/
theorem pz_put {o i e : Expr} {fo fi fe : FX} {spos pos : Pos} (he : PX X cl e fe)
    (hg : PG X (.Subscript o i spos) (gSub (tX X.K cl fo) (tX X.K cl fi) rSetL))
    (hs : swapsWithSole [.Subscript o i spos] e pos.line X.env = pure false := by rfl) (hw : swappedStores [.Subscript o i spos] e X.env = pure none := by rfl)
    (h1 : (assignEach [.Subscript o i spos] X.env).map (·.2) = [assign (.Subscript o i spos) X.env] := by rfl) : PZ X cl (.Assign [.Subscript o i spos] e pos) (zPut fo fi fe) := ⟨(ps_asg he.1 hg hs hw h1).imp fun D σ H ⟨ρ, S, δ, ou, S', E, hf, q⟩ => by
  obtain ⟨v, S1, h1, h2⟩ := R3.bind_ok hf
  obtain ⟨vo, S2, h3, h4⟩ := R3.bind_ok h2
  obtain ⟨vi, S3, h5, h6⟩ := R3.bind_ok h4
  split at h6
  · rename_i d k n
    split at h6
    · rename_i ds hds
      split at h6
      · rename_i m hm
        cases h6
        refine ⟨ρ, S, δ, .d d, S1, E, h1, fun u ρ1 H1 p1 w1 r1 => ⟨ρ1, S1, δ, .loc k, S2, E.to p1 w1, h3, fun u2 ρ2 H2 p2 w2 r2 => ⟨ρ2, S2, δ, .d (.int n), S3, (E.to p1 w1).to p2 w2, h5, fun u3 ρ3 H3 p3 w3 r3 => ?_⟩⟩⟩
        unfold Rep3 at r2
        obtain ⟨a, a1, rfl⟩ := r2
        have a3 := p3.ext k a a1
        obtain ⟨xs, x1, x2⟩ := w3.ob k a _ a3 (lstAt_some hds)
        unfold Rep3 Rep at r3
        have r1' := r1.pre (p2.trans p3)
        unfold Rep3 at r1'
        obtain ⟨w4, p4⟩ := w3.put (o := .lst (ds.set m d)) (u := .lst (xs.set m u)) a3 (w3.fz k a a3 (by rw [lstAt_some hds]; intro h; cases h)) ⟨xs.set m u, rfl, Reps.setAt x2 r1'⟩
        exact ⟨a, xs, n, m, rfl, r3, x1, by rw [← x2.length]; exact hm, q σ ρ3 _ (((p1.trans p2).trans p3).trans p4) (E.to (((p1.trans p2).trans p3).trans p4) w4)⟩
      · cases h6
    · cases h6
  · cases h6⟩
/-! comprehensions -/
def kX (δ : DE) (i : Nat) : Option V3 := match δ[i]? with | some (some v) => some v | _ => none
def cEnvX (own : List Str) (kp : List Nat) (δ : DE) : DE := List.replicate own.length none ++ kp.map (kX δ)
theorem cEnvX_r {K : PySem.W.Frag} {ρ ρ' : P3} {H H' : Hp} {S S' : Sto} {σ : L2.St} {δ : DE} {own : List Str} {kp : List Nat} (E : EnvX K cl ρ H S σ δ) (p : PW ρ H ρ' H') (w : SW K cl ρ' H' S') : EnvX K cl ρ' H' S' (cStart own kp σ) (cEnvX own kp δ) where
  len := by unfold cStart cEnvX; simp
  sw := w
  val := fun i d e => by
    unfold cEnvX at e
    unfold cStart
    by_cases hi : i < own.length
    · rw [List.getElem?_append_left (by simpa using hi), List.getElem?_replicate] at e
      split at e <;> cases e
    · rw [List.getElem?_append_right (by simpa using hi), List.length_replicate, List.getElem?_map] at e ⊢
      cases q : kp[i - own.length]? with
      | none => rw [q] at e; cases e
      | some j =>
        rw [q] at e
        have e : kX δ j = some d := Option.some.inj e
        unfold kX at e
        split at e
        · rename_i d' ed
          cases e
          obtain ⟨v, h1, h2⟩ := E.val j d ed
          exact ⟨v, by simp [h1], h2.pw p⟩
        · cases e
/-- the walk -/
def compX (t : FG) (c : FB) (f : FX) (δ : DE) : List V3 → Sto → R3 (List V3)
  | [], S => .ok [] S
  | v :: vs, S => match t v δ with
    | none => .no
    | some δ1 => (c δ1 S).bind fun b S1 => if b then (f δ1 S1).bind fun y S2 => (compX t c f δ vs S2).bind fun ys S3 => .ok (y :: ys) S3 else compX t c f δ vs S1
def xComp (it : FA) (t : FG) (c : FB) (f : FX) (own : List Str) (kp : List Nat) : FX := fun δ S => (it δ S).bind fun vs S1 => R3.when (decide (vs.length ≤ sizeLine)) ((compX t c f (cEnvX own kp δ) vs S1).bind fun ys S2 => .ok (mkLst ys) S2)
theorem Reps3.append {K : PySem.W.Frag} {ρ : P3} {H : Hp} : ∀ {ds es : List V3} {xs ys : List V}, Reps3 K ρ H ds xs → Reps3 K ρ H es ys → Reps3 K ρ H (ds ++ es) (xs ++ ys)
  | [], _, _, _, h, t => by unfold Reps3 at h; subst h; exact t
  | d :: ds, es, xs, ys, h, t => by
    obtain ⟨x, r, rfl, h1, h2⟩ := h.uncons
    exact Reps3.cons h1 (Reps3.append h2 t)
theorem xComp_r {K : PySem.W.Frag} {it : FA} {t : FG} {c : FB} {f : FX} {own : List Str} {kp : List Nat} {σ : L2.St} {H : Hp} {Q : VK} (h : tX K cl (xComp it t c f own kp) σ H Q) :
    tComp (tIX K cl it) (gX K cl t) (tXB K cl c) (tX K cl f) own kp σ H Q := by
  obtain ⟨ρ, S, δ, v, SF, E, hf, q⟩ := h
  obtain ⟨es, S1, h1, h2⟩ := R3.bind_ok hf
  obtain ⟨hl, h3⟩ := R3.when_ok h2
  have hl := of_decide_eq_true hl
  obtain ⟨vs, S2, h4, h5⟩ := R3.bind_ok h3
  cases h5
  refine ⟨ρ, S, δ, es, S1, E, h1, fun J ρ1 H1 p1 w1 ir Dd hD => ?_⟩
  have nDz : Dd ∉ ρ1.b := fun hb => by obtain ⟨o, ho⟩ := w1.bs Dd hb; rw [hD] at ho; cases ho
  have nDr : Dd ∉ ρ1.r := fun hb => by obtain ⟨o, ho⟩ := w1.rs Dd hb; rw [hD] at ho; cases ho
  have toZ : ∀ {r' f' : List Addr} {H' : Hp}, Pre ρ1 H1 ⟨r', ρ1.z, f'⟩ H' → PW ρ1 H1 ⟨r', Dd :: ρ1.z, f'⟩ H' := fun {r' f' H'} p => ⟨fun b o e nb => ⟨(p.pres b o e nb).1, fun hb => by
    rcases P3.mem_b.mp hb with z | z
    · exact (p.pres b o e nb).2 (P3.mem_b.mpr (.inl z))
    · rcases List.mem_cons.mp z with y | y
      · exact ne_of_none e hD y
      · exact (p.pres b o e nb).2 (P3.mem_b.mpr (.inr y))⟩, p.ext⟩
  have w0 : SW K cl ⟨ρ1.r, Dd :: ρ1.z, ρ1.f⟩ (upd H1 Dd (.lst [])) S1 := by
    have s0 : Same H1 (upd H1 Dd (.lst [])) := same_upd hD
    have ws := w1.same s0
    refine ⟨ws.len, ws.nd, fun k a o hk ho => ?_, fun b hb => ?_, ws.fz, ws.ff, ws.fi⟩
    · have r := w1.ob k a o hk ho
      obtain ⟨u, hu⟩ := r.some
      rw [s0 a u hu, ← hu]
      exact r.pw (toZ (Pre.same s0))
    · rcases List.mem_cons.mp hb with y | y
      · subst y; exact ⟨⟨_, upd_same⟩, nDr⟩
      · exact ws.zb b y
  refine ⟨fun i m ys H' => m = es.length - i ∧ i ≤ es.length ∧ ys.length ≤ i ∧ H' Dd = some (.lst ys) ∧ ∃ r' f' S' done rest, Pre ρ1 H1 ⟨r', ρ1.z, f'⟩ H' ∧ SW K cl ⟨r', Dd :: ρ1.z, f'⟩ H' S' ∧ vs = done ++ rest ∧ Reps3 K ⟨r', Dd :: ρ1.z, f'⟩ H' done ys ∧ compX t c f (cEnvX own kp δ) (es.drop i) S' = .ok rest SF,
    ⟨es.length, rfl, Nat.zero_le _, Nat.le_refl _, upd_same, ρ1.r, ρ1.f, S1, [], vs, Pre.same (same_upd hD), w0, rfl, Reps3.nil, by simpa using h4⟩, ?_⟩
  rintro i m ys H' ⟨rfl, hi, hy, hDl, r', f', S', done, rest, pv, w', rfl, rd, hc⟩
  obtain ⟨go, stop⟩ := ir ⟨r', Dd :: ρ1.z, f'⟩ H' (toZ pv) w'.bs
  have unZ : ∀ {ρ4 : P3} {H4 : Hp}, Pre ⟨r', Dd :: ρ1.z, f'⟩ H' ρ4 H4 → Pre ρ1 H1 ⟨ρ4.r, ρ1.z, ρ4.f⟩ H4 := fun {ρ4 H4} p4 => ⟨fun b o e nb => by
      obtain ⟨e1, n1⟩ := (toZ pv).pres b o e nb
      obtain ⟨e2', n2⟩ := p4.pres b o e1 n1
      refine ⟨e2', fun hb => n2 ?_⟩
      rcases P3.mem_b.mp hb with z | z
      · exact P3.mem_b.mpr (.inl z)
      · exact P3.mem_b.mpr (.inr (by rw [p4.zz]; exact List.mem_cons_of_mem _ z)), rfl, fun b o hb h => p4.zs b o (List.mem_cons_of_mem _ hb) (pv.zs b o hb h), fun k a h => p4.ext k a (pv.ext k a h)⟩
  by_cases hlt : i < es.length
  · have hd : es[i]? = some es[i] := List.getElem?_eq_getElem hlt
    have hdrop : es.drop i = es[i] :: es.drop (i + 1) := List.drop_eq_getElem_cons hlt
    rw [hdrop] at hc
    unfold compX at hc
    split at hc
    · cases hc
    · rename_i δ1 h6
      obtain ⟨b, T1, h7, h8⟩ := R3.bind_ok hc
      obtain ⟨g1, g2⟩ := go i _ hd
      refine .inr ⟨g1, fun x H2 y => ?_⟩
      obtain ⟨sy, ry⟩ := g2 x H2 y
      have Ec : EnvX K cl ⟨r', Dd :: ρ1.z, f'⟩ H2 S' (cStart own kp σ) (cEnvX own kp δ) := cEnvX_r E (p1.pw.trans ((toZ pv).trans (Pre.same sy).pw)) (w'.same sy)
      refine ⟨⟨r', Dd :: ρ1.z, f'⟩, S', cEnvX own kp δ, es[i], δ1, Ec, ry, h6, fun σ3 H3 s3 E3 => ⟨⟨r', Dd :: ρ1.z, f'⟩, S', δ1, b, T1, E3, h7, fun ρ4 H4 p4 w4 => ?_⟩⟩
      have pv4 : Pre ⟨r', Dd :: ρ1.z, f'⟩ H' ρ4 H4 := (Pre.same (sy.trans s3)).trans p4
      cases b with
      | true =>
        rw [if_pos rfl] at h8
        refine iteT ?_
        obtain ⟨yv, T2, h9, h10⟩ := R3.bind_ok h8
        obtain ⟨rs, T3, h11, h12⟩ := R3.bind_ok h10
        cases h12
        refine ⟨ρ4, T1, δ1, yv, T2, E3.to p4 w4, h9, fun v5 ρ5 H5 p5 w5 r5 => ?_⟩
        have pv5 : Pre ⟨r', Dd :: ρ1.z, f'⟩ H' ρ5 H5 := pv4.trans p5
        have hD5 : H5 Dd = some (.lst ys) := pv5.zs Dd _ List.mem_cons_self hDl
        have u5 := unZ pv5
        obtain ⟨r5', z5, f5⟩ := ρ5
        have ez : z5 = Dd :: ρ1.z := pv5.zz
        subst ez
        have nr : Dd ∉ r5' := (w5.zb Dd List.mem_cons_self).2
        have pw : PW ⟨r5', Dd :: ρ1.z, f5⟩ H5 ⟨r5', Dd :: ρ1.z, f5⟩ (upd H5 Dd (.lst (ys ++ [v5]))) := ⟨fun b o e nb => ⟨by rw [upd_ne (fun (z : b = Dd) => nb (by rw [z]; exact P3.mem_b.mpr (.inr List.mem_cons_self)))]; exact e, nb⟩, fun _ _ h => h⟩
        refine ⟨hD5, by omega, es.length - (i + 1), by omega, rfl, hlt, by rw [List.length_append, List.length_singleton]; omega, upd_same, r5', f5, T2, done ++ [yv], rs, ?_, ?_, by simp, Reps3.append ((rd.pre pv5).pw pw) (Reps3.cons (r5.pw pw) Reps3.nil), h11⟩
        · refine ⟨fun b o e nb => ⟨by rw [upd_ne (ne_of_none e hD)]; exact (u5.pres b o e nb).1, (u5.pres b o e nb).2⟩, rfl, fun b o hb h => ?_, u5.ext⟩
          rw [upd_ne (ne_of_none h hD)]
          exact u5.zs b o hb h
        · refine ⟨w5.len, w5.nd, fun k a o hk ho => ?_, fun b hb => ?_, w5.fz, fun b hb => ?_, w5.fi⟩
          · have ne : a ≠ Dd := fun z => nr (by rw [← z]; exact List.mem_of_getElem? hk)
            rw [upd_ne ne]
            exact (w5.ob k a o hk ho).pw pw
          · obtain ⟨⟨o, ho⟩, n⟩ := w5.zb b hb
            refine ⟨?_, n⟩
            by_cases z : b = Dd
            · subst z; exact ⟨_, upd_same⟩
            · rw [upd_ne z]; exact ⟨o, ho⟩
          · obtain ⟨o, ho⟩ := w5.ff b hb
            by_cases z : b = Dd
            · subst z; exact ⟨_, upd_same⟩
            · rw [upd_ne z]; exact ⟨o, ho⟩
      | false =>
        rw [if_neg (by decide)] at h8
        refine iteF ?_
        have hD4 : H4 Dd = some (.lst ys) := pv4.zs Dd _ List.mem_cons_self hDl
        have u4 := unZ pv4
        obtain ⟨r4', z4, f4⟩ := ρ4
        have ez : z4 = Dd :: ρ1.z := pv4.zz
        subst ez
        exact ⟨es.length - (i + 1), by omega, rfl, hlt, by omega, hD4, r4', f4, T1, done, rest, u4, w4, rfl, rd.pre pv4, h8⟩
  · have e : i = es.length := by omega
    subst e
    rw [List.drop_length] at hc
    cases hc
    rw [List.append_nil] at q
    refine .inl ⟨stop, ?_⟩
    have back : PW ⟨r', Dd :: ρ1.z, f'⟩ H' ⟨r', ρ1.z, f'⟩ H' := ⟨fun b o e nb => ⟨e, fun hb => nb (by
      rcases P3.mem_b.mp hb with z | z
      · exact P3.mem_b.mpr (.inl z)
      · exact P3.mem_b.mpr (.inr (List.mem_cons_of_mem _ z)))⟩, fun _ _ h => h⟩
    have wB : SW K cl ⟨r', ρ1.z, f'⟩ H' _ := ⟨w'.len, w'.nd, fun k a o hk ho => (w'.ob k a o hk ho).pw back, fun b hb => w'.zb b (List.mem_cons_of_mem _ hb), w'.fz, w'.ff, w'.fi⟩
    refine q _ ⟨r', ρ1.z, f'⟩ H' (p1.trans pv) wB (mkLst_rep (.inl ⟨fun hb => ?_, .inl hDl⟩) (rd.pw back))
    rcases P3.mem_b.mp hb with z | z
    · exact (w'.zb Dd List.mem_cons_self).2 z.1
    · exact nDz (P3.mem_b.mpr (.inr z))
end
end L3

end
section
set_option maxRecDepth 100000
set_option maxHeartbeats 4000000
/-! ## THE STORE LAYER: comprehensions as expressions, a name set to one; extend (own) -/
namespace L3
open PySem PySem.Spec PyProof.Rows L2
section
variable {X : Cx} {cl : Nat → Addr}
theorem px_comp {scope : Scope} {own : List Str} {kp : List Nat} {kn : List Str} {tg iter elt : Expr} {ifs : List Expr} {it : FA} {t : FG} {c : FB} {f : FX} {pos : Pos} (hc : X.calm = true) (C : CScope X scope own kp kn) (hi : PXI X cl tg iter it)
    (hg : ∀ fp s H, PXG (cxComp X scope (own ++ kn) fp s H) cl tg t) (hif : ∀ fp s H, PIfs (cxComp X scope (own ++ kn) fp s H) ifs (tXB X.K cl c)) (he : ∀ fp s H, PX (cxComp X scope (own ++ kn) fp s H) cl elt f)
    (hs : ∀ x, foldedSetIterable iter X.env x = pure x := by intro _; rfl) : PX X cl (.ListComp elt [⟨tg, iter, ifs, 0⟩] scope pos) (xComp it t c f own kp) :=
  ⟨(pe_comp hc C hi.1 (fun fp s H => (hg fp s H).1) hif (fun fp s H => (he fp s H).1) hs).imp fun σ H Q h => xComp_r h⟩
def bYes : FB := fun _ S => .ok true S
theorem pxifs_yes : PIfs X [] (tXB X.K cl bYes) := fun pins s σ H Q I ⟨ρ, S, δ, b, S', E, hf, q⟩ => pifs_nil pins s σ H Q I (by cases hf; exact q ρ H (Pre.refl ρ H) E.sw)
theorem pxifs_if {e : Expr} {c : FB} (h : PXB X cl e c) : PIfs X [e] (tXB X.K cl c) := pifs_one h.1
theorem zSet_r {K : PySem.W.Frag} {i : Nat} {f : FX} {D : Ends} {σ : L2.St} {H : Hp} (h : sX K cl (zSet i f) D σ H) : tAsg (tX K cl f) (gName i) D σ H := by
  obtain ⟨ρ, S, δ, o, S', E, hf, q⟩ := h
  obtain ⟨v, S1, h1, h2⟩ := R3.bind_ok hf
  obtain ⟨hi, h3⟩ := R3.when_ok h2
  cases h3
  refine ⟨ρ, S, δ, v, _, E, h1, fun u ρ1 H1 p1 w1 r1 => ?_⟩
  exact q _ ρ1 H1 p1 ((E.to p1 w1).set (by rw [← E.len]; exact of_decide_eq_true hi) r1)
theorem pz_setComp {i : Nat} {x : Str} {pos' spos : Pos} {scope : Scope} {own : List Str} {kp : List Nat} {kn : List Str} {tg iter elt : Expr} {ifs : List Expr} {it : FA} {t : FG} {c : FB} {f : FX} {pos : Pos} (hc : X.calm = true)
    (hN : X.N.Nodup) (hx : X.N[i]? = some x) (hxl : X.env.scope.names.lookup x = some .local) (C : CScope X scope own kp kn) (hi : PXI X cl tg iter it)
    (hg : ∀ fp s H, PXG (cxComp X scope (own ++ kn) fp s H) cl tg t) (hif : ∀ fp s H, PIfs (cxComp X scope (own ++ kn) fp s H) ifs (tXB X.K cl c)) (he : ∀ fp s H, PX (cxComp X scope (own ++ kn) fp s H) cl elt f)
    (hsw : swapsWith (.ListComp elt [⟨tg, iter, ifs, 0⟩] scope pos) (some (.Name x pos')) spos.line X.env = pure true := by rfl)
    (hs : ∀ x, foldedSetIterable iter X.env x = pure x := by intro _; rfl) : PZ X cl (.Assign [.Name x pos'] (.ListComp elt [⟨tg, iter, ifs, 0⟩] scope pos) spos) (zSet i (xComp it t c f own kp)) :=
  ⟨(ps_setComp hc hN hx hxl C hi.1 (fun fp s H => (hg fp s H).1) hif (fun fp s H => (he fp s H).1) hsw hs).imp fun D σ H h => xComp_r (zSet_r h)⟩
/-- a list of the store, given by values -/
def xAl (g : FA) : FX := fun δ S => (g δ S).bind fun vs S1 => match allD vs with
  | some ds => R3.when (decide (ds.length ≤ sizeLine)) (.ok (.loc S1.length) (S1 ++ [.lst ds]))
  | none => .no
end
end L3

end
section
set_option maxRecDepth 100000
set_option maxHeartbeats 4000000
/-! ## THE STORE LAYER: calls of what is built in, with deeds in their arguments (own) -/
namespace L3
open PySem PySem.Spec PyProof.Rows L2
section
variable {X : Cx} {cl : Nat → Addr}
def xCallB (g : List D → R D) (fs : FA) : FX := fun δ S => (fs δ S).bind fun vs S1 => match allD vs with
  | some ds => (R3.of (g ds) S1).bind fun d S => .ok (.d d) S
  | none => .no
theorem xCallB_r {K : PySem.W.Frag} {g : List D → R D} {fs : FA} {σ : L2.St} {H : Hp} {Q : VK} (h : tX K cl (xCallB g fs) σ H Q) :
    tXA K cl fs σ H fun vs H1 => ∃ B ds d, (∀ a ∈ B, ∃ o, H1 a = some o) ∧ Reps K B H1 ds vs ∧ g ds = .ok d ∧ ∀ z H', Same H1 H' → Rep K B H' d z → Q z H' := by
  obtain ⟨ρ, S, δ, v, S', E, hf, q⟩ := h
  obtain ⟨vs, S1, h1, h2⟩ := R3.bind_ok hf
  split at h2
  · rename_i ds e
    obtain ⟨d, S2, h3, h4⟩ := R3.bind_ok h2
    obtain ⟨h5, e5⟩ := R3.of_ok h3
    cases h4
    subst e5
    refine ⟨ρ, S, δ, vs, _, E, h1, fun us ρ1 H1 p1 w1 r1 => ?_⟩
    rw [allD_some e] at r1
    exact ⟨ρ1.b, ds, d, w1.bs, r1.to, h5, fun z H' s r => q z ρ1 H' (p1.trans (Pre.same s)) (w1.same s) (by unfold Rep3; exact r)⟩
  · cases h2
theorem px_callTy {g : List D → R D} {x : Str} {T : String} {p pos : Pos} {e : Expr} {es : List Expr} {fs : FA} (hc : CallD X (.type T) g) (hg : Gl X x) (hm : X.mg x = none) (hv : bootBuiltins x = some (.type T)) (ha : PXA X cl (e :: es) fs) (hn : x ≠ "__name__" := by decide) (hdb : (x == ("__debug__" : Str)) = false := by decide)
    (he : starEach (e :: es) X.env = (false, eval e X.env) :: starEach es X.env := by rfl) (hpl : (backTo pos (starEach es X.env)).any (·.1) = false := by rfl) : PX X cl (.Call (.Name x p) (e :: es) [] pos) (xCallB g fs) :=
  ⟨(pe_callTy hc.r hg hm hv ha.1 hn hdb he hpl).imp fun σ H Q h => xCallB_r h⟩
/-- if-expressions -/
def xIf (c : FB) (f g : FX) : FX := fun δ S => (c δ S).bind fun b S => if b then f δ S else g δ S
theorem xlen_nil : ∀ (δ : DE) (S : Sto) (ds : List V3) (S' : Sto), xNil δ S = .ok ds S' → ds.length = 0 := fun δ S ds S' h => by cases h; rfl
theorem xlen_cons {f : FX} {g : FA} {n : Nat} (h : ∀ (δ : DE) (S : Sto) (ds : List V3) (S' : Sto), g δ S = .ok ds S' → ds.length = n) : ∀ (δ : DE) (S : Sto) (ds : List V3) (S' : Sto), xCons f g δ S = .ok ds S' → ds.length = n + 1 := fun δ S ds S' e => by
  obtain ⟨v, S1, h1, h2⟩ := R3.bind_ok e
  obtain ⟨vs, S2, h3, h4⟩ := R3.bind_ok h2
  cases h4
  rw [List.length_cons, h δ S1 vs _ h3]
end
end L3

end
section
set_option maxRecDepth 100000
set_option maxHeartbeats 4000000
/-! ## THE STORE LAYER: subscripts (own) -/
namespace L3
open PySem PySem.Spec PyProof.Rows L2
theorem atI_reps3 {K : PySem.W.Frag} {ρ : P3} {H : Hp} {ds : List V3} {xs : List V} {i : Int} {d : V3} (r : Reps3 K ρ H ds xs) (h : atI ds i = some d) : ∃ x, atI xs i = some x ∧ Rep3 K ρ H d x := by
  unfold atI at h ⊢
  rw [← r.length]
  cases e : ixN ds.length i with
  | none => rw [e] at h; cases h
  | some j =>
    rw [e] at h
    exact r.get h
section
variable {X : Cx} {cl : Nat → Addr}
def xIx (fa fb : FX) : FX := fun δ S => (fa δ S).bind fun a S1 => (fb δ S1).bind fun b S2 => match a, b with
  | .d x, .d y => (R3.of (ixD x y) S2).bind fun d S => .ok (.d d) S
  | .lst vs, .d (.int i) => (match atI vs i with | some v => .ok v S2 | none => .no)
  | .tup vs, .d (.int i) => (match atI vs i with | some v => .ok v S2 | none => .no)
  | _, _ => .no
theorem px_ix {a b : Expr} {fa fb : FX} {pos : Pos} (ha : PX X cl a fa) (hb : PX X cl b fb) (hs : PlainIx b) : PX X cl (.Subscript a b pos) (xIx fa fb) := by
  refine ⟨(pe_ix (r := rIx X.K) ix_seq ha.1 hb.1 hs).imp fun σ H Q ⟨ρ, S, δ, v, S', E, hf, q⟩ => ?_⟩
  obtain ⟨v1, S1, h1, h2⟩ := R3.bind_ok hf
  obtain ⟨v2, S2, h3, h4⟩ := R3.bind_ok h2
  refine ⟨ρ, S, δ, v1, S1, E, h1, fun u1 ρ1 H1 p1 w1 r1 => ⟨ρ1, S1, δ, v2, S2, E.to p1 w1, h3, fun u2 ρ2 H2 p2 w2 r2 => ?_⟩⟩
  have r1' := r1.pre p2
  have p12 := p1.trans p2
  split at h4
  · rename_i x y
    obtain ⟨d, S3, h5, h6⟩ := R3.bind_ok h4
    obtain ⟨h7, e7⟩ := R3.of_ok h5
    cases h6
    subst e7
    unfold Rep3 at r1' r2
    unfold ixD at h7
    split at h7
    · split at h7
      · rename_i e
        cases h7
        obtain ⟨p, xs, rfl, l, rs⟩ := Rep.lst.mp r1'
        obtain ⟨y, e1, e2⟩ := atI_reps rs e
        exact .inl ⟨p, xs, _, y, rfl, Rep.int.mp r2, l.sq, e1, q y ρ2 H2 p12 w2 (by unfold Rep3; exact e2)⟩
      · cases h7
    · split at h7
      · rename_i e
        cases h7
        obtain ⟨p, xs, rfl, l, rs⟩ := Rep.tup.mp r1'
        obtain ⟨y, e1, e2⟩ := atI_reps rs e
        exact .inr (.inl ⟨p, xs, _, y, rfl, Rep.int.mp r2, l.sq, e1, q y ρ2 H2 p12 w2 (by unfold Rep3; exact e2)⟩)
      · cases h7
    · obtain ⟨hl, h8⟩ := R.when_ok h7
      split at h8
      · rename_i e
        cases h8
        exact .inr (.inr ⟨_, _, _, Rep.str.mp r1', Rep.int.mp r2, of_decide_eq_true hl, e, q _ ρ2 H2 p12 w2 (by unfold Rep3; exact Rep.str.mpr rfl)⟩)
      · cases h8
    · cases h7
  · split at h4
    · rename_i e
      cases h4
      unfold Rep3 at r1' r2
      obtain ⟨p, xs, rfl, l, rs⟩ := r1'
      obtain ⟨y, e1, e2⟩ := atI_reps3 rs e
      exact .inl ⟨p, xs, _, y, rfl, Rep.int.mp r2, l.sq, e1, q y ρ2 H2 p12 w2 e2⟩
    · cases h4
  · split at h4
    · rename_i e
      cases h4
      unfold Rep3 at r1' r2
      obtain ⟨p, xs, rfl, l, rs⟩ := r1'
      obtain ⟨y, e1, e2⟩ := atI_reps3 rs e
      exact .inr (.inl ⟨p, xs, _, y, rfl, Rep.int.mp r2, l.sq, e1, q y ρ2 H2 p12 w2 e2⟩)
    · cases h4
  · cases h4
end
end L3

end
section
set_option maxRecDepth 100000
set_option maxHeartbeats 4000000
/-! ## THE STORE LAYER: and, or, not, if-expressions, slices (own) -/
namespace L3
open PySem PySem.Spec PyProof.Rows L2
section
variable {X : Cx} {cl : Nat → Addr}
structure PXW (X : Cx) (cl : Nat → Addr) (e : Expr) (f : FB) : Prop where
  go : L2.PW X e (tXB X.K cl f)
theorem PXW.pb {e : Expr} {f : FB} (h : PXW X cl e f) : PXB X cl e f := ⟨L2.PW.pt h.1⟩
def yAnd (f g : FB) : FB := fun δ S => (f δ S).bind fun b S => if b then g δ S else .ok false S
def yOr (f g : FB) : FB := fun δ S => (f δ S).bind fun b S => if b then .ok true S else g δ S
def yNot (f : FB) : FB := fun δ S => (f δ S).bind fun b S => .ok (!b) S
theorem pxw_and1 {a : Expr} {f : FB} {pos : Pos} (h : PXB X cl a f) : PXW X cl (.BoolOp .And [a] pos) f := ⟨pw_and1 h.1⟩
theorem pxw_or1 {a : Expr} {f : FB} {pos : Pos} (h : PXB X cl a f) : PXW X cl (.BoolOp .Or [a] pos) f := ⟨pw_or1 h.1⟩
theorem pxw_and {a b : Expr} {rest : List Expr} {f g : FB} {pos : Pos} (ha : PXB X cl a f) (hb : PXW X cl (.BoolOp .And (b :: rest) pos) g) : PXW X cl (.BoolOp .And (a :: b :: rest) pos) (yAnd f g) := ⟨by
  intro wh pins s σ H Q I ⟨ρ, S, δ, k, S', E, hf, q⟩
  refine pw_and ha.1 hb.1 wh pins s σ H Q I ?_
  obtain ⟨c, S1, h1, h2⟩ := R3.bind_ok hf
  refine ⟨ρ, S, δ, c, S1, E, h1, fun ρ1 H1 p1 w1 => ?_⟩
  cases c with
  | true => rw [if_pos rfl] at h2 ⊢; exact ⟨ρ1, S1, δ, k, S', E.to p1 w1, h2, fun ρ2 H' p2 w2 => q ρ2 H' (p1.trans p2) w2⟩
  | false => rw [if_neg (by decide)] at h2 ⊢; cases h2; exact q ρ1 H1 p1 w1⟩
theorem pxw_or {a b : Expr} {rest : List Expr} {f g : FB} {pos : Pos} (ha : PXB X cl a f) (hb : PXW X cl (.BoolOp .Or (b :: rest) pos) g) : PXW X cl (.BoolOp .Or (a :: b :: rest) pos) (yOr f g) := ⟨by
  intro wh pins s σ H Q I ⟨ρ, S, δ, k, S', E, hf, q⟩
  refine pw_or ha.1 hb.1 wh pins s σ H Q I ?_
  obtain ⟨c, S1, h1, h2⟩ := R3.bind_ok hf
  refine ⟨ρ, S, δ, c, S1, E, h1, fun ρ1 H1 p1 w1 => ?_⟩
  cases c with
  | true => rw [if_pos rfl] at h2 ⊢; cases h2; exact q ρ1 H1 p1 w1
  | false => rw [if_neg (by decide)] at h2 ⊢; exact ⟨ρ1, S1, δ, k, S', E.to p1 w1, h2, fun ρ2 H' p2 w2 => q ρ2 H' (p1.trans p2) w2⟩⟩
/-- a datum's truth -/
def yTru (f : FX) : FB := fun δ S => (f δ S).bind fun v S => match v with | .d d => R3.of (truD d) S | _ => .no
/-! slices -/
abbrev FOX := DE → Sto → R3 (Option Int)
def tOX (K : PySem.W.Frag) (cl : Nat → Addr) (f : FOX) : TO := fun σ H Q => ∃ ρ S δ o S', EnvX K cl ρ H S σ δ ∧ f δ S = .ok o S' ∧ ∀ ρ' H', Pre ρ H ρ' H' → SW K cl ρ' H' S' → Q o H'
structure PXO (X : Cx) (cl : Nat → Addr) (e : Option Expr) (f : FOX) : Prop where
  go : PO X e (tOX X.K cl f)
def xoNone : FOX := fun _ S => .ok none S
def xoSome (f : FX) : FOX := fun δ S => (f δ S).bind fun v S => match v with | .d (.int i) => .ok (some i) S | _ => .no
def xSl (f : FX) (fl fh : FOX) : FX := fun δ S => (f δ S).bind fun v S1 => (fl δ S1).bind fun lo S2 => (fh δ S2).bind fun hi S3 => match v with
  | .d d => (R3.of (slD d lo hi) S3).bind fun r S => .ok (.d r) S
  | _ => .no
end
end L3

end
section
set_option maxRecDepth 100000
set_option maxHeartbeats 4000000
/-! ## isinstance of any datum; list(..) as a new list; defs and calls of the store layer (own) -/
namespace L2
open PySem PySem.Spec PyProof.Rows
section
variable {X : Cx}
def isTy (t T : String) : Bool := t == T || (t == "bool" && T == "int")
def eIsG (T : String) (f : FD) : FD := fun δ => (f δ).bind fun d => match d with | .dct _ _ => .no | _ => .ok (.bl (isTy (tyName d) T))
/-- list(e), as a new list -/
def nList (f : FD) : DEnv → R (List D) := fun δ => (f δ).bind fun d => match d with | .lst ds => .ok ds | .tup ds => .ok ds | _ => .no
end
end L2
namespace L3
open PySem PySem.Spec PyProof.Rows L2
theorem fn_keepB {P : Program} {w : World} {K : PySem.W.Frag} {mg : Str → Option Value} {base : Heap} {cl : Nat → Addr} {x qual : Str} {st : Stmt} {f : Addr} {fd : FuncData} {N ps : List Str} {k : Nat} {F : FZ} {b : List Stmt} {sc : Scope} (hb : defBody st = b) (hs : defScope st = sc) (Fn : Fun K x qual st f fd) (S : FnScope N ps sc)
    (hbody : ∀ (cdv : Value) (A : Around) (outer : List Env) (s : Shared) (H : Hp) (E : XK), Room k (A.deeper (envOfC qual sc s.heap.objs.size f cdv)) →
      PZs (cxOf CX0 P w K mg base N qual sc f cdv A outer s H E).nox cl b F) : FnOk P w K mg base CX0 (k + 1) f fd ps (spX K cl ps.length (fnK N F)) := by
  subst hb hs
  exact fn_keep Fn S hbody
theorem CalleeX.p {P : Program} {w : World} {K : PySem.W.Frag} {mg : Str → Option Value} {base : Heap} {cl : Nat → Addr} {k : Nat} {x : Str} {n : Nat} {N : List Str} {F : FZ} (C : CalleeX P w K mg base cl k x n (fnK N F)) : CalleeX P w K mg base cl k x n (fnP N F) :=
  let ⟨f, fd, ps, F, h⟩ := C; ⟨f, fd, ps, F.imp fun _ _ _ _ h => fnP_of h, h⟩
/-- a law that changes nothing of what was there -/
def fnL (N : List Str) (F : FZ) : List D → R D := fun ds => match fnP N F (ds.map .d) [] with
  | .ok (.d d) [] => R.when d.atom (.ok d)
  | _ => .no
theorem fnL_of {K : PySem.W.Frag} {cl : Nat → Addr} {N : List Str} {F : FZ} {n : Nat} {vs : List V} {H : Hp} {Q : VK} {E : XK} (h : spD K n (fnL N F) vs H Q E) : spX K cl n (fnK N F) vs H Q E := by
  obtain ⟨hl, B, ds, d, hb, r, hg, q⟩ := h
  unfold fnL at hg
  split at hg
  · rename_i d' e
    obtain ⟨ha, h2⟩ := R.when_ok hg
    cases h2
    have r0 : Reps K (⟨[], [], []⟩ : P3).b H ds vs := r.pres fun b o e _ => ⟨e, by simp [P3.b]⟩
    refine fnP_of ⟨hl, ⟨[], [], []⟩, [], ds.map .d, .d d, [], ⟨rfl, fun i j a hi => by simp at hi, fun k a o hk => by simp at hk, fun b hb => by simp at hb, fun k a hk => by simp at hk, fun b hb => by simp at hb, fun k a hk => by simp at hk⟩, Reps3.of r0, e, fun u ρ' H' p w' r' => q u H' (fun b o eb => ?_) ?_⟩
    · exact (p.pres b o eb (by simp [P3.b])).1
    · unfold Rep3 at r'
      exact r'.atom ha
  · cases hg
section
variable {X : Cx} {cl : Nat → Addr}
/-- a tuple, of any values -/
def iTup (f : FX) : FA := fun δ S => (f δ S).bind fun v S => match v with | .d (.tup ds) => .ok (ds.map .d) S | .tup vs => .ok vs S | _ => .no
end
end L3

end
section
set_option maxRecDepth 100000
set_option maxHeartbeats 4000000
/-! ## THE STORE LAYER: what its worths are, operator by operator (own) -/
namespace L3
open PySem PySem.Spec PyProof.Rows L2
def W3 {α : Type} (r : R3 α) (Q : α → Sto → Prop) : Prop := ∃ a S, r = .ok a S ∧ Q a S
section
variable {α β : Type} {Q Q' : α → Sto → Prop} {S : Sto} {δ : DE}
theorem W3.ok {a : α} (h : Q a S) : W3 (.ok a S) Q := ⟨a, S, rfl, h⟩
theorem W3.bind {Q : β → Sto → Prop} {r : R3 α} {f : α → Sto → R3 β} (h : W3 r fun a S => W3 (f a S) Q) : W3 (r.bind f) Q := by
  obtain ⟨a, S1, e1, b, S2, h2, q⟩ := h
  exact ⟨b, S2, by rw [e1]; exact h2, q⟩
theorem W3.mono {r : R3 α} (h : W3 r Q) (m : ∀ a S, Q a S → Q' a S) : W3 r Q' := let ⟨a, S, e, q⟩ := h; ⟨a, S, e, m a S q⟩
theorem W3.eq {r : R3 α} {a : α} {S' : Sto} (e : r = .ok a S') (h : Q a S') : W3 r Q := ⟨a, S', e, h⟩
theorem W3.wh {c : Bool} {r : R3 α} (hc : c = true) (h : W3 r Q) : W3 (R3.when c r) Q := by rw [hc]; exact h
theorem W3.of {r : R α} {a : α} (e : r = .ok a) (h : Q a S) : W3 (R3.of r S) Q := by rw [e]; exact ⟨a, S, rfl, h⟩
end
section
variable {S : Sto} {δ : DE} {QV : V3 → Sto → Prop} {QB : Bool → Sto → Prop} {QA : List V3 → Sto → Prop} {QO : Ou → Sto → Prop}
theorem w_P {f : FD} {d : D} (e : f (down δ) = .ok d) (h : QV (.d d) S) : W3 (xP f δ S) QV := W3.bind (W3.of e (W3.ok h))
theorem w_T {f : FD} {d : D} (e : f (downT S δ) = .ok d) (ha : tupD d = true) (h : QV (.d d) S) : W3 (xT f δ S) QV := W3.bind (W3.of e (W3.wh ha (W3.ok h)))
theorem w_bP {f : DEnv → R Bool} {b : Bool} (e : f (down δ) = .ok b) (h : QB b S) : W3 (bP f δ S) QB := W3.of e h
theorem w_bT {f : DEnv → R Bool} {b : Bool} (e : f (downT S δ) = .ok b) (h : QB b S) : W3 (bT f δ S) QB := W3.of e h
theorem w_var {i : Nat} {v : V3} (e : δ[i]? = some (some v)) (h : QV v S) : W3 (xVar i δ S) QV := by unfold xVar; rw [e]; exact W3.ok h
theorem w_new {f : DEnv → R (List D)} {ds : List D} (e : f (down δ) = .ok ds) (h : QV (.loc S.length) (S ++ [.lst ds])) : W3 (xNew f δ S) QV := W3.bind (W3.of e (W3.ok h))
theorem w_nil (h : QA [] S) : W3 (xNil δ S) QA := W3.ok h
theorem w_cons {f : FX} {g : FA} (h : W3 (f δ S) fun v S1 => W3 (g δ S1) fun vs S2 => QA (v :: vs) S2) : W3 (xCons f g δ S) QA := W3.bind (h.mono fun _ _ h => W3.bind (h.mono fun _ _ h => W3.ok h))
theorem w_tup {g : FA} (h : W3 (g δ S) fun vs S1 => vs.length ≤ sizeLine ∧ QV (mkTup vs) S1) : W3 (xTup g δ S) QV := W3.bind (h.mono fun _ _ h => W3.wh (decide_eq_true h.1) (W3.ok h.2))
theorem w_lst {g : FA} (h : W3 (g δ S) fun vs S1 => vs.length ≤ sizeLine ∧ QV (mkLst vs) S1) : W3 (xLst g δ S) QV := W3.bind (h.mono fun _ _ h => W3.wh (decide_eq_true h.1) (W3.ok h.2))
theorem w_2 {g : D → D → R D} {fa fb : FX} (h : W3 (fa δ S) fun a S1 => W3 (fb δ S1) fun b S2 => ∃ x y d, a = .d x ∧ b = .d y ∧ g x y = .ok d ∧ QV (.d d) S2) : W3 (x2 g fa fb δ S) QV :=
  W3.bind (h.mono fun _ _ h => W3.bind (h.mono fun _ _ ⟨_, _, _, e1, e2, e3, q⟩ => by subst e1 e2; exact W3.bind (W3.of e3 (W3.ok q))))
theorem w_b2 {g : D → D → R D} {fa fb : FX} (h : W3 (fa δ S) fun a S1 => W3 (fb δ S1) fun b S2 => ∃ x y k, a = .d x ∧ b = .d y ∧ g x y = .ok (.bl k) ∧ QB k S2) : W3 (xb2 g fa fb δ S) QB :=
  W3.bind (w_2 (h.mono fun _ _ h => h.mono fun _ _ ⟨x, y, k, e1, e2, e3, q⟩ => ⟨x, y, .bl k, e1, e2, e3, W3.ok q⟩))
theorem w_ix {fa fb : FX} (h : W3 (fa δ S) fun a S1 => W3 (fb δ S1) fun b S2 => ∃ x y d, a = .d x ∧ b = .d y ∧ ixD x y = .ok d ∧ QV (.d d) S2) : W3 (xIx fa fb δ S) QV :=
  W3.bind (h.mono fun _ _ h => W3.bind (h.mono fun _ _ ⟨_, _, _, e1, e2, e3, q⟩ => by subst e1 e2; exact W3.bind (W3.of e3 (W3.ok q))))
theorem w_call {g : List V3 → Sto → R3 V3} {fs : FA} (h : W3 (fs δ S) fun vs S1 => W3 (g vs S1) QV) : W3 (xCall g fs δ S) QV := W3.bind h
theorem w_callB {g : List D → R D} {fs : FA} (h : W3 (fs δ S) fun vs S1 => ∃ ds d, vs = ds.map .d ∧ g ds = .ok d ∧ QV (.d d) S1) : W3 (xCallB g fs δ S) QV :=
  W3.bind (h.mono fun _ _ ⟨ds, _, e1, e2, q⟩ => by subst e1; rw [allD_map]; exact W3.bind (W3.of e2 (W3.ok q)))
theorem w_comp {it : FA} {t : FG} {c : FB} {f : FX} {own : List Str} {kp : List Nat} (h : W3 (it δ S) fun vs S1 => vs.length ≤ sizeLine ∧ W3 (compX t c f (cEnvX own kp δ) vs S1) fun ys S2 => QV (mkLst ys) S2) : W3 (xComp it t c f own kp δ S) QV :=
  W3.bind (h.mono fun _ _ h => W3.wh (decide_eq_true h.1) (W3.bind (h.2.mono fun _ _ h => W3.ok h)))
theorem w_seq {F G : FZ} (h : W3 (F δ S) fun o S1 => ∃ δ1, o = .nx δ1 ∧ W3 (G δ1 S1) QO) : W3 (zSeq F G δ S) QO := W3.bind (h.mono fun _ _ ⟨_, e, h⟩ => by subst e; exact h)
theorem w_seqR {F G : FZ} (h : W3 (F δ S) fun o S1 => ∃ v, o = .rt v ∧ QO (.rt v) S1) : W3 (zSeq F G δ S) QO := W3.bind (h.mono fun _ _ ⟨_, e, h⟩ => by subst e; exact W3.ok h)
theorem w_set {i : Nat} {f : FX} (hi : i < δ.length) (h : W3 (f δ S) fun v S1 => QO (.nx (δ.set i (some v))) S1) : W3 (zSet i f δ S) QO := W3.bind (h.mono fun _ _ h => W3.wh (decide_eq_true hi) (W3.ok h))
theorem w_ret {f : FX} (h : W3 (f δ S) fun v S1 => QO (.rt v) S1) : W3 (zRet f δ S) QO := W3.bind (h.mono fun _ _ h => W3.ok h)
theorem w_if {c : FB} {F G : FZ} (h : W3 (c δ S) fun b S1 => if b then W3 (F δ S1) QO else W3 (G δ S1) QO) : W3 (zIf c F G δ S) QO := W3.bind (h.mono fun b _ h => by cases b <;> exact h)
theorem w_asg {f : FX} {t : FG} (h : W3 (f δ S) fun v S1 => ∃ δ1, t v δ = some δ1 ∧ QO (.nx δ1) S1) : W3 (zAsg f t δ S) QO := W3.bind (h.mono fun _ _ ⟨_, e, q⟩ => by rw [e]; exact W3.ok q)
theorem w_znil (h : QO (.nx δ) S) : W3 (zNil δ S) QO := W3.ok h
theorem w_iP {f : DEnv → R (List D)} {ds : List D} (e : f (down δ) = .ok ds) (h : QA (ds.map .d) S) : W3 (iP f δ S) QA := W3.bind (W3.of e (W3.ok h))
theorem w_rng1 {f : FX} (h : W3 (f δ S) fun v S1 => ∃ n : Nat, v = .d (.int n) ∧ n < 1000000 ∧ QA ((rngD 0 n).map .d) S1) : W3 (iRng1 f δ S) QA := W3.bind (h.mono fun _ _ ⟨n, e, hn, q⟩ => by
  subst e
  refine W3.wh (decide_eq_true ⟨by omega, by omega⟩) (W3.ok ?_)
  rw [Int.toNat_natCast]; exact q)
theorem w_for {it : FA} {t : FG} {F : FZ} (h : W3 (it δ S) fun vs S1 => W3 (loopX t F vs δ S1) QO) : W3 (zFor it t F δ S) QO := W3.bind h
theorem w_app {i k : Nat} {f : FX} (hk : δ[i]? = some (some (.loc k))) (h0 : ∃ ds, S[k]? = some (.lst ds)) (h : W3 (f δ S) fun v S1 => ∃ d ds, v = .d d ∧ S1[k]? = some (.lst ds) ∧ ds.length < sizeLine ∧ QO (.nx δ) (S1.set k (.lst (ds ++ [d])))) : W3 (zApp i f δ S) QO := by
  obtain ⟨es, h0⟩ := h0
  unfold zApp
  have e1 : locAt δ i = some k := by unfold locAt; rw [hk]
  have e2 : lstAt S k = some es := by unfold lstAt; simp only [h0]
  rw [e1]; show W3 (match lstAt S k with | none => _ | some _ => _) _
  rw [e2]
  refine W3.bind (h.mono fun v S1 ⟨d, ds, e, h1, hl, q⟩ => ?_)
  subst e
  have e3 : lstAt S1 k = some ds := by unfold lstAt; simp only [h1]
  show W3 (match lstAt S1 k with | some ds => _ | none => _) _
  rw [e3]
  exact W3.wh (decide_eq_true hl) (W3.ok q)
theorem w_put {fo fi fe : FX} (h : W3 (fe δ S) fun v S1 => W3 (fo δ S1) fun o S2 => W3 (fi δ S2) fun j S3 => ∃ d k n ds m, v = .d d ∧ o = .loc k ∧ j = .d (.int n) ∧ S3[k]? = some (.lst ds) ∧ ixN ds.length n = some m ∧ QO (.nx δ) (S3.set k (.lst (ds.set m d)))) : W3 (zPut fo fi fe δ S) QO :=
  W3.bind (h.mono fun _ _ h => W3.bind (h.mono fun _ _ h => W3.bind (h.mono fun _ S3 ⟨d, k, n, ds, m, e1, e2, e3, h1, h2, q⟩ => by
    subst e1 e2 e3
    have e3 : lstAt S3 k = some ds := by unfold lstAt; simp only [h1]
    show W3 (match lstAt S3 k with | some ds => _ | none => _) _
    rw [e3]
    show W3 (match ixN ds.length n with | some m => _ | none => _) _
    rw [h2]
    exact W3.ok q)))
theorem loopX_from {t : FG} {body : FZ} : ∀ (vs : List V3) (n : Nat) (P : Nat → DE → Sto → Prop) {δ : DE} {S : Sto}, P n δ S →
    (∀ i v δ S, vs[i]? = some v → P (n + i) δ S → ∃ δ1, t v δ = some δ1 ∧ W3 (body δ1 S) fun o S1 => ∃ δ2, o = .nx δ2 ∧ P (n + i + 1) δ2 S1) → W3 (loopX t body vs δ S) fun o S1 => ∃ δ2, o = .nx δ2 ∧ P (n + vs.length) δ2 S1
  | [], n, P, δ, S, h0, _ => W3.ok ⟨δ, rfl, h0⟩
  | v :: vs, n, P, δ, S, h0, hs => by
    obtain ⟨δ1, e1, o, S1, e2, δ2, rfl, p2⟩ := hs 0 v δ S rfl h0
    have ih := loopX_from vs (n + 1) P p2 (fun i v' δ' S' hi hp => by
      have := hs (i + 1) v' δ' S' (by simpa using hi) (by rw [show n + (i + 1) = n + 1 + i by omega]; exact hp)
      rw [show n + (i + 1) + 1 = n + 1 + i + 1 by omega] at this
      exact this)
    rw [show n + 1 + vs.length = n + (v :: vs).length by rw [List.length_cons]; omega] at ih
    unfold loopX
    rw [e1]
    refine W3.bind ⟨_, _, e2, ?_⟩
    exact ih
theorem loopX_inv {t : FG} {body : FZ} {vs : List V3} (P : Nat → DE → Sto → Prop) {δ : DE} {S : Sto} (h0 : P 0 δ S)
    (hs : ∀ i v δ S, vs[i]? = some v → P i δ S → ∃ δ1, t v δ = some δ1 ∧ W3 (body δ1 S) fun o S1 => ∃ δ2, o = .nx δ2 ∧ P (i + 1) δ2 S1) : W3 (loopX t body vs δ S) fun o S1 => ∃ δ2, o = .nx δ2 ∧ P vs.length δ2 S1 := by
  have := loopX_from (t := t) (body := body) vs 0 P h0 (fun i v δ S hi hp => by simpa using hs i v δ S hi (by simpa using hp))
  simpa using this
/-- a walk whose part done is known by P: how many, what was told, the store -/
theorem compX_from {t : FG} {c : FB} {f : FX} {δ : DE} : ∀ (vs : List V3) (n : Nat) (P : Nat → List V3 → Sto → Prop) {ys : List V3} {S : Sto}, P n ys S →
    (∀ i v ys S, vs[i]? = some v → P (n + i) ys S → ∃ δ1, t v δ = some δ1 ∧ W3 (c δ1 S) fun b S1 => if b then W3 (f δ1 S1) fun y S2 => P (n + i + 1) (ys ++ [y]) S2 else P (n + i + 1) ys S1) → W3 (compX t c f δ vs S) fun zs S1 => P (n + vs.length) (ys ++ zs) S1
  | [], n, P, ys, S, h0, _ => W3.ok (by rw [List.append_nil]; exact h0)
  | v :: vs, n, P, ys, S, h0, hs => by
    obtain ⟨δ1, e1, b, S1, e2, h2⟩ := hs 0 v ys S rfl h0
    have ih : ∀ {ys' S'}, P (n + 1) ys' S' → W3 (compX t c f δ vs S') fun zs S1 => P (n + (v :: vs).length) (ys' ++ zs) S1 := fun {ys' S'} p => by
      have := compX_from (t := t) (c := c) (f := f) (δ := δ) vs (n + 1) P p (fun i v' ys' S' hi hp => by
        have := hs (i + 1) v' ys' S' (by simpa using hi) (by rw [show n + (i + 1) = n + 1 + i by omega]; exact hp)
        rw [show n + (i + 1) + 1 = n + 1 + i + 1 by omega] at this
        exact this)
      rw [show n + 1 + vs.length = n + (v :: vs).length by rw [List.length_cons]; omega] at this
      exact this
    unfold compX
    rw [e1]
    refine W3.bind ⟨b, S1, e2, ?_⟩
    cases b with
    | true =>
      rw [if_pos rfl] at h2 ⊢
      exact W3.bind (h2.mono fun y S2 p => W3.bind ((ih p).mono fun zs S3 q => W3.ok (by rw [List.append_assoc] at q; exact q)))
    | false => rw [if_neg (by decide)] at h2 ⊢; exact ih h2
theorem compX_inv {t : FG} {c : FB} {f : FX} {δ : DE} {vs : List V3} (P : Nat → List V3 → Sto → Prop) {S : Sto} (h0 : P 0 [] S)
    (hs : ∀ i v ys S, vs[i]? = some v → P i ys S → ∃ δ1, t v δ = some δ1 ∧ W3 (c δ1 S) fun b S1 => if b then W3 (f δ1 S1) fun y S2 => P (i + 1) (ys ++ [y]) S2 else P (i + 1) ys S1) : W3 (compX t c f δ vs S) fun zs S1 => P vs.length zs S1 := by
  have := compX_from (t := t) (c := c) (f := f) (δ := δ) vs 0 P h0 (fun i v ys S hi hp => by simpa using hs i v ys S hi (by simpa using hp))
  simpa using this
theorem w_yes {QB : Bool → Sto → Prop} (h : QB true S) : W3 (bYes δ S) QB := W3.ok h
/-! defs -/
theorem w_K {N : List Str} {F : FZ} {vs : List V3} {δ : DE} (e : xStart N vs = δ) (h : W3 (F δ S) fun o S1 => ∃ v, o = .rt v ∧ QV v S1) : W3 (fnK N F vs S) QV := by
  subst e
  exact W3.bind (h.mono fun _ _ ⟨_, e, q⟩ => by subst e; exact W3.ok q)
/-- a store of lists alone -/
def Lists (S : Sto) : Prop := ∀ o ∈ S, ∃ ds, o = SO.lst ds
end
end L3
namespace L3
open PySem PySem.Spec PyProof.Rows L2
section
variable {S : Sto} {δ : DE} {QV : V3 → Sto → Prop}
theorem w_compD {it : FA} {t : FG} {c : FB} {f : FX} {own : List Str} {kp : List Nat} (P : Nat → List D → Sto → Prop) (h : W3 (it δ S) fun vs S1 => vs.length ≤ sizeLine ∧ P 0 [] S1 ∧
    (∀ i v ds S2, vs[i]? = some v → P i ds S2 → ∃ δ1, t v (cEnvX own kp δ) = some δ1 ∧ W3 (c δ1 S2) fun b S3 => if b then W3 (f δ1 S3) fun y S4 => ∃ d, y = .d d ∧ P (i + 1) (ds ++ [d]) S4 else P (i + 1) ds S3) ∧
    ∀ ds S2, P vs.length ds S2 → QV (.d (.lst ds)) S2) : W3 (xComp it t c f own kp δ S) QV := by
  refine w_comp (h.mono fun vs S1 ⟨hl, h0, hs, hq⟩ => ⟨hl, ?_⟩)
  refine (compX_inv (fun i ys S => ∃ ds, ys = ds.map V3.d ∧ P i ds S) ⟨[], rfl, h0⟩ ?_).mono fun zs S2 ⟨ds, e, p⟩ => ?_
  · rintro i v ys S2 hv ⟨ds, rfl, p⟩
    obtain ⟨δ1, e1, h1⟩ := hs i v ds S2 hv p
    refine ⟨δ1, e1, h1.mono fun b S3 h3 => ?_⟩
    cases b with
    | true =>
      rw [if_pos rfl] at h3 ⊢
      exact h3.mono fun y S4 ⟨d, e, p⟩ => by subst e; exact ⟨ds ++ [d], by simp, p⟩
    | false => rw [if_neg (by decide)] at h3 ⊢; exact ⟨ds, rfl, h3⟩
  · subst e
    unfold mkLst
    rw [allD_map]
    exact hq ds S2 p
/-- a datum that can be held against itself -/
structure Fit (n : Nat) (d : D) : Prop where
  pl : plainD d = true
  ly : (toPy d).canLay0 = true
  dp : (toPy d).depth ≤ n
theorem Fit.int (i : Int) : Fit 0 (.int i) := ⟨by unfold plainD; rfl, by unfold toPy PyData.canLay0; rfl, by unfold toPy PyData.depth; omega⟩
theorem Fit.bl (b : Bool) : Fit 0 (.bl b) := ⟨by unfold plainD; rfl, by unfold toPy PyData.canLay0; rfl, by unfold toPy PyData.depth; omega⟩
theorem Fit.str {s : Str} (h : (PyData.str s).canLay0 = true) : Fit 0 (.str s) := ⟨by unfold plainD; rfl, by unfold toPy; exact h, by unfold toPy PyData.depth; omega⟩
theorem Fit.mono {n m : Nat} {d : D} (h : Fit n d) (hm : n ≤ m) : Fit m d := ⟨h.pl, h.ly, Nat.le_trans h.dp hm⟩
theorem Fit.all {n : Nat} : ∀ {ds : List D}, (∀ d ∈ ds, Fit n d) → plainDs ds = true ∧ PyData.canLayAll0 (toPys ds) = true ∧ PyData.depthAll (toPys ds) ≤ n
  | [], _ => ⟨by unfold plainDs; rfl, by unfold toPys PyData.canLayAll0; rfl, by unfold toPys PyData.depthAll; omega⟩
  | d :: ds, h => by
    obtain ⟨h1, h2, h3⟩ := Fit.all (ds := ds) fun x hx => h x (List.mem_cons_of_mem _ hx)
    have f := h d List.mem_cons_self
    refine ⟨by unfold plainDs; rw [f.pl, h1]; rfl, by unfold toPys PyData.canLayAll0; rw [f.ly, h2]; rfl, ?_⟩
    unfold toPys PyData.depthAll
    have := f.dp
    omega
theorem Fit.lst {n : Nat} {ds : List D} (h : ∀ d ∈ ds, Fit n d) : Fit (n + 1) (.lst ds) := by
  obtain ⟨h1, h2, h3⟩ := Fit.all h
  exact ⟨by unfold plainD; exact h1, by unfold toPy PyData.canLay0; exact h2, by unfold toPy PyData.depth; omega⟩
theorem Fit.tup {n : Nat} {ds : List D} (h : ∀ d ∈ ds, Fit n d) : Fit (n + 1) (.tup ds) := by
  obtain ⟨h1, h2, h3⟩ := Fit.all h
  exact ⟨by unfold plainD; exact h1, by unfold toPy PyData.canLay0; exact h2, by unfold toPy PyData.depth; omega⟩
theorem Fit.sh {n : Nat} {d : D} (h : Fit n d) (hn : n ≤ 64) : SeqAt.shaped (toPy d) = true := by
  unfold SeqAt.shaped
  rw [h.ly, decide_eq_true (Nat.le_trans h.dp hn)]
  rfl
theorem eqD_lt {d e : List D} : eqD (.lst d) (.lst e) = R.when (plainD (.lst d) && plainD (.lst e) && SeqAt.shaped (toPy (.lst d)) && SeqAt.shaped (toPy (.lst e))) (.ok (PyData.eqv (toPy (.lst d)) (toPy (.lst e)))) := rfl
theorem Fit.eqL {n : Nat} {ds : List D} (h : Fit n (.lst ds)) (hn : n ≤ 64) : eqD (.lst ds) (.lst ds) = .ok true := by
  rw [eqD_lt, h.pl, h.sh hn, SeqAt.eqv_refl _ h.ly]
  rfl
end
end L3
namespace L3
open PySem PySem.Spec PyProof.Rows L2
end L3

end
section
set_option maxRecDepth 100000
set_option maxHeartbeats 4000000
/-! ## more operations: is None, int of a text, find, dicts that are read; freezing; defs that call themselves (own) -/
namespace L2
open PySem PySem.Spec PyProof.Rows
section
variable {X : Cx}
def isNon : D → Bool | .non => true | _ => false
def dIs (d e : D) : R D := match e with | .non => .ok (.bl (isNon d)) | _ => .no
def dIsN (d e : D) : R D := match e with | .non => .ok (.bl (!isNon d)) | _ => .no
/-! int of a text -/
theorem call_intT : CallR X (.type "int") (fun xs H Q => ∃ x n, xs = [.str x] ∧ PySem.intText? x = some n ∧ x.length ≤ 640 ∧ Q (.int n) H) := by
  intro pins s σ H xs us Q I r h
  obtain ⟨x, n, rfl, h1, h2, q⟩ := h
  obtain ⟨u, rfl, ru⟩ := vals1 r
  obtain ⟨t, rfl⟩ := ru
  exact PySem.W.KIN.call_text h1 h2 ⟨.int n, H, I.tok _, ⟨_, rfl⟩, q⟩
def cIntT : List D → R D
  | [.str x] => R.when (decide (x.length ≤ 640)) (match PySem.intText? x with | some n => .ok (.int n) | none => .no)
  | _ => .no
theorem c_intT : CallD X (.type "int") cIntT := CallD.of call_intT fun B H ds d xs Q _ rs hg q => by
  unfold cIntT at hg
  split at hg
  · obtain ⟨h1, h2⟩ := R.when_ok hg
    split at h2
    · rename_i e
      cases h2
      obtain ⟨x, rfl, r⟩ := rs.one
      exact ⟨_, _, by rw [Rep.str.mp r], e, of_decide_eq_true h1, q _ H (Same.refl H) (Rep.int.mpr rfl)⟩
    · cases h2
  · cases hg
def cIntA (ds : List D) : R D := match ds with | [.str _] => cIntT ds | _ => cInt ds
theorem c_intA : CallD X (.type "int") cIntA := CallD.or c_intT c_int fun a d h => by
  unfold cIntA at h
  split at h
  · exact .inl h
  · exact .inr h
def eNeg (f : FD) : FD := fun δ => (f δ).bind fun d => match d with | .int i => .ok (.int (-i)) | _ => .no
theorem qpd_neg {a : Expr} {f : FD} {pos : Pos} (h : QD X a f) : QD X (.UnaryOp .USub a pos) (eNeg f) := ⟨(pe_un un_neg h.1).imp fun σ H Q ⟨Z, B, δ, d, E, hf, q⟩ => by
  obtain ⟨d1, h1, h2⟩ := R.bind_ok hf
  split at h2
  · cases h2
    exact ⟨Z, B, δ, _, E, h1, fun v H1 s1 r1 => ⟨_, Rep.int.mp r1, q _ H1 s1 (Rep.int.mpr rfl)⟩⟩
  · cases h2⟩
/-! x.find(y) -/
def mFind (d : D) (ds : List D) : R D := match d, ds with
  | .str x, [.str y] => .ok (.int (Txt.find x y))
  | _, _ => .no
theorem m_find : MtD X "str.find" mFind := by
  intro pins s σ H B da d ds x xs v us I hb rx rxs ra rs hg
  unfold mFind at hg
  split at hg
  · cases hg
    rw [Rep.str.mp ra] at rx
    obtain ⟨t, rfl⟩ := rx
    obtain ⟨y, rfl, r⟩ := rs.one
    rw [Rep.str.mp r] at rxs
    obtain ⟨u, rfl, ru⟩ := vals1 rxs
    obtain ⟨t2, rfl⟩ := ru
    exact PySem.SC.find ⟨.int _, H, I.tok _, ⟨_, rfl⟩, Same.refl H, Rep.int.mpr rfl⟩
  · cases hg
theorem qpd_find {o e : Expr} {f : FD} {fs : DEnv → R (List D)} {apos cpos : Pos} (ho : QD X o f) (ha : QAs X [e] fs)
    (hbase : attributeBase o "find" X.env (eval o X.env) = eval o X.env := by rfl)
    (hfew : ((backTo cpos (starEach [e] X.env)).all (fun x => !x.1) && (backToKw cpos (keywordEach [] X.env)).all (fun x => x.1.isSome)
      && decide (([e] : List Expr).length + ([] : List Keyword).length + (if ([] : List Keyword).isEmpty then 0 else 1) < 30)) = true := by rfl)
    (hline : (apos.endLine == cpos.line) = true := by rfl) (hs : starEach [e] X.env = (false, eval e X.env) :: starEach [] X.env := by rfl) :
    QD X (.Call (.Attribute o "find" apos) [e] [] cpos) (eMt "str" mFind f fs) := ⟨pd_mt F.plainAttrs_str F.slot_str_find F.type_str_find m_find ho.1 ha.1 (.inl rfl) hbase hfew hline hs⟩
/-! a dict of written texts to written texts, and what it holds -/
def dctD (kvs : List (Str × Str)) : D := .dct (kvs.map fun p => Sum.inr p.1) (kvs.map fun p => .str p.2)
def kvV (kvs : List (Str × Str)) : List (Key × V) := kvs.map fun p => ((Sum.inr p.1 : Key), V.str p.2)
def dGet (d k : D) : R D := match d, k with
  | .dct ks ds, .str x => (match (ks.zip ds).find? fun p => decide (p.1 = Sum.inr x) with | some p => .ok p.2 | none => .no)
  | _, _ => .no
end
end L2
namespace L3
open PySem PySem.Spec PyProof.Rows L2
section
variable {X : Cx} {cl : Nat → Addr}
/-! and, or as values, with deeds -/
def asX (f : FX) : FB := fun δ S => (f δ S).bind fun v S => match v with | .d (.bl b) => .ok b S | _ => .no
def xAnd (f g : FX) : FX := fun δ S => (asX f δ S).bind fun b S => if b then g δ S else .ok (.d (.bl false)) S
def xOr (f g : FX) : FX := fun δ S => (asX f δ S).bind fun b S => if b then .ok (.d (.bl true)) S else g δ S
/-- from here on a list changes no more -/
def zFrz (i : Nat) (F : FZ) : FZ := fun δ S => match locAt δ i with
  | some k => (match lstAt S k with | some ds => F (δ.set i (some (.d (.lst ds)))) (S.set k .frz) | none => .no)
  | none => .no
end
/-- a store without objects -/
def Flat (S : Sto) : Prop := ∀ o ∈ S, ∀ n, soOk n o = true
theorem Flat.all {S : Sto} (h : Flat S) (n : Nat) : (S.take n).all (soOk n) = true := List.all_eq_true.mpr fun o ho => h o (List.mem_of_mem_take ho) n
theorem Flat.set {S : Sto} (h : Flat S) (k : Nat) {x : SO} (hx : ∀ n, soOk n x = true) : Flat (S.set k x) := fun o ho => by
  rcases List.mem_or_eq_of_mem_set ho with z | z
  · exact h o z
  · rw [z]; exact hx
theorem Flat.push {S : Sto} (h : Flat S) {x : SO} (hx : ∀ n, soOk n x = true) : Flat (S ++ [x]) := fun o ho => by
  rcases List.mem_append.mp ho with z | z
  · exact h o z
  · rw [List.mem_singleton.mp z]; exact hx
theorem Flat.take {S : Sto} (h : Flat S) (n : Nat) : Flat (S.take n) := fun o ho => h o (List.mem_of_mem_take ho)
theorem Flat.nil : Flat [] := fun o ho => by cases ho
theorem w_PnF {N : List Str} {F : FZ} {vs : List V3} {S : Sto} {QV : V3 → Sto → Prop} (h : W3 (fnK N F vs S) fun v S1 => Flat S1 ∧ geOk S.length v = true ∧ ∃ d, res S1 v = some d ∧ QV (.d d) (S1.take S.length)) : W3 (fnP N F vs S) QV :=
  W3.bind (h.mono fun v S1 ⟨hl, hg, d, e, q⟩ => by
    rw [e]
    exact W3.wh (by rw [hl.all, hg]; rfl) (W3.ok q))
end L3

end
section
set_option maxRecDepth 100000
set_option maxHeartbeats 4000000
/-! ## tuple(range(n)) (own) -/
namespace PySem
open Sem (wp)
open AutoSeq1 (wpAny_loadPart')
section
variable {prog : Program} {w : World} {A : Around} {E : Value → Shared → Prop} {s : Shared}
end
end PySem
namespace L2
open PySem PySem.Spec PyProof.Rows
section
variable {X : Cx}
def eTupRng (f : FD) : FD := fun δ => (f δ).bind fun d => match d with
  | .int j => R.when (decide (-(2 ^ 62) ≤ j ∧ j < 16777216)) (.ok (.tup (rngD 0 j.toNat)))
  | _ => .no
theorem items_vals {n : Nat} {acc : Array Value} (h : ItemsOf (fun i v => ∃ t, v = Value.int (0 + (i : Int) * 1) t) acc n) : Vals ((List.range n).map fun (i : Nat) => V.int (0 + (i : Int))) acc.toList := by
  obtain ⟨hl, h⟩ := h
  have gen : ∀ (l : List Value) (m : Nat), (∀ j v, l[j]? = some v → ∃ t, v = Value.int (((m + j : Nat) : Int)) t) → Vals ((List.range' m l.length).map fun (i : Nat) => V.int (0 + (i : Int))) l := by
    intro l
    induction l with
    | nil => intro m _; exact .nil
    | cons x l ih =>
      intro m hv
      rw [List.length_cons, List.range'_succ, List.map_cons]
      obtain ⟨t, e⟩ := hv 0 x rfl
      refine .cons ⟨t, by rw [e]; simp⟩ (ih (m + 1) fun j v hj => ?_)
      obtain ⟨t, e⟩ := hv (j + 1) v (by simpa using hj)
      exact ⟨t, by rw [e]; congr 1; omega⟩
  have := gen acc.toList 0 fun j v hj => by
    obtain ⟨t, e⟩ := h j v (by rw [← hj]; simp)
    exact ⟨t, by rw [e]; congr 1; omega⟩
  rw [← hl, List.range_eq_range']
  simpa using this
theorem rng_reps {K : PySem.W.Frag} {B : List Addr} {H : Hp} : ∀ l : List Nat, Reps K B H (l.map fun (i : Nat) => D.int (0 + (i : Int))) (l.map fun (i : Nat) => V.int (0 + (i : Int)))
  | [] => Reps.nil
  | i :: l => Reps.cons (Rep.int.mpr rfl) (rng_reps l)
end
end L2

end
section
set_option maxRecDepth 100000
set_option maxHeartbeats 4000000
/-! ## enumerate of a tuple (own) -/
namespace PySem
open Sem (wp)
open AutoSeq1 (wpAny_loadPart')
section
variable {prog : Program} {w : World} {A : Around} {E : Value → Shared → Prop} {s : Shared}
theorem nextOf_tup_item {it l : Addr} {i : Nat} {items : Array Value} {x : Value} {Q : Value → Shared → Prop} (hit : s.heap.IsTupleIter it l i) (hl : s.heap.IsTuple l items) (hx : items[i]? = some x)
    (hQ : ∀ h', h'.IsTupleIter it l (i + 1) → Heap.SameBut it s.heap h' → Q x { s with heap := h' }) : wpAny (model prog w) A (Builtin.SmallTypes.nextOf (.ref it)) Q E s := by
  obtain ⟨o, ho, hc, hd⟩ := id hit; obtain ⟨ol, hol, _, nl, hdl⟩ := hl
  unfold Builtin.SmallTypes.nextOf
  refine wpAny_bind (wpAny_callSpecial?_slot (name := Str.ofString "__next__") hit.typeIs F.slot_tuple_iterator_next (wpAny_call_entry F.slot_tuple_iterator_next hit.typeIs F.entry_tuple_iterator_next ?_ (F.args_tuple_iterator_next_1 _)))
  show wpAny _ _ (field (.ref it) 0 >>= _) _ _ s; refine wpAny_bind (wpAny_field ho hd (x := .ref l) rfl ?_)
  show wpAny _ _ (if (Value.ref l == Value.none) = true then _ else _) _ _ s; rw [if_neg (show ¬ ((Value.ref l == Value.none) = true) from Bool.false_ne_true)]
  show wpAny _ _ (field (.ref it) 1 >>= _) _ _ s; refine wpAny_bind (wpAny_field ho hd (x := .int i 0) rfl ?_)
  show wpAny _ _ (seqItems? (.ref l) >>= _) _ _ s; refine wpAny_bind (wpAny_seqItems hol hdl ?_)
  simp only [Int.toNat_natCast, hx]
  refine wpAny_bind (wpAny_setField ho hd (by simp) (wpAny_pure ⟨x, rfl, wpAny_pure (hQ _ ⟨_, Heap.get?_update_self _ ho (Obj.isFreed_of_fields (Obj.data_mapFields hd _)), (Obj.cls_mapFields ..).trans hc, by rw [Obj.data_mapFields hd]; simp [rawInt]⟩ (Heap.SameBut.update ..))⟩))
theorem nextOf_tup_end {it l : Addr} {i : Nat} {items : Array Value} {Q : Value → Shared → Prop} (hh : A.handled = none) (hit : s.heap.IsTupleIter it l i) (hl : s.heap.IsTuple l items) (hx : items[i]? = none)
    (hE : ∀ h' e, Heap.ExtBut it s.heap h' → (∃ o, h'.get? e = some o ∧ o.cls = .type "StopIteration") → E (.ref e) { s with heap := h' }) : wpAny (model prog w) A (Builtin.SmallTypes.nextOf (.ref it)) Q E s := by
  obtain ⟨o, ho, hc, hd⟩ := id hit; obtain ⟨ol, hol, _, nl, hdl⟩ := hl
  unfold Builtin.SmallTypes.nextOf
  refine wpAny_bind (wpAny_callSpecial?_slot (name := Str.ofString "__next__") hit.typeIs F.slot_tuple_iterator_next (wpAny_call_entry F.slot_tuple_iterator_next hit.typeIs F.entry_tuple_iterator_next ?_ (F.args_tuple_iterator_next_1 _)))
  show wpAny _ _ (field (.ref it) 0 >>= _) _ _ s; refine wpAny_bind (wpAny_field ho hd (x := .ref l) rfl ?_)
  show wpAny _ _ (if (Value.ref l == Value.none) = true then _ else _) _ _ s; rw [if_neg (show ¬ ((Value.ref l == Value.none) = true) from Bool.false_ne_true)]
  show wpAny _ _ (field (.ref it) 1 >>= _) _ _ s; refine wpAny_bind (wpAny_field ho hd (x := .int i 0) rfl ?_)
  show wpAny _ _ (seqItems? (.ref l) >>= _) _ _ s; refine wpAny_bind (wpAny_seqItems hol hdl ?_)
  simp only [Int.toNat_natCast, hx]
  refine wpAny_bind (wpAny_rule (wpAny_bind (wpAny_setField ho hd (by simp) ?_)))
  show wpAny _ _ (newExc (.type "StopIteration") [] >>= _) _ _ _; refine wpAny_bind ?_; simp only [newExc, newTuple]
  refine wpAny_bind (wpAny_newObj_type ?_ (by size_fits))
  refine wpAny_bind (m := firstArgMember _ _) (wpAny_of_eq (a := Value.none) (by first | rfl | (simp only [firstArgMember]; rfl)) ?_); refine wpAny_newObj_type ?_ (by size_fits)
  simp only [raiseNew]; refine wpAny_bind (wpAny_handled ?_)
  first | rw [show A.in1.handled = none from hh] | rw [hh]
  exact wpAny_bind (wpAny_pure (wpAny_throw (hE _ _ (((Heap.SameBut.update ..).extBut.push _).push _) ⟨_, Heap.get?_push_size _ rfl, rfl⟩)))
end
theorem draws_tup {prog : Program} {w : World} {A : Around} (hh : A.handled = none) (it l : Addr) (hne : l ≠ it) (items : Array Value) :
    Draws prog w A it [it, l] items.size (fun i v => items[i]? = some v) (fun i h => h.IsTupleIter it l i ∧ h.IsTuple l items) where
  live := fun _ _ st => let ⟨o, ho, _⟩ := st.1; ⟨o, ho⟩
  frame := fun _ _ _ st hk => ⟨st.1.at fun o e => hk it (by simp) o e, Heap.IsTuple.at st.2 fun o e => hk l (by simp) o e⟩
  item := fun i s Q E hi st hQ => nextOf_tup_item st.1 st.2 (x := items[i]) (by simp [hi]) fun h' hit' hs' => hQ _ h' s.toks (by simp [hi]) ⟨hit', st.2.extBut hs'.extBut hne⟩ hs'
  done := fun s Q E st hE => nextOf_tup_end hh st.1 st.2 (by simp) hE
theorem meets_enum_newT (l : Addr) (items : Array Value) (o : Obj) (n : Nat) (hc : o.cls = .type "tuple") (hd : o.data = .seq items n) :
    Meets (Builtin.«enumerate.__new__» ⟨[.type "enumerate", .ref l], []⟩) (fun _ R s => s.heap.get? l = some o ∧
      R (.ok (.ret (.ref (s.heap.push { cls := .type "tuple_iterator", data := .fields #[.ref l, .int 0 0] }).objs.size)))
        { s with heap := (s.heap.push { cls := .type "tuple_iterator", data := .fields #[.ref l, .int 0 0] }).push { cls := .type "enumerate", data := .fields #[.none, .bool false, .ref s.heap.objs.size, rawInt 0, .none, .none] } }) :=
  .of_wp fun prog w A R s h => by
    obtain ⟨hp, g, d, tk, os⟩ := s; obtain ⟨hl, h⟩ := h
    have hsub := sub_enumerate
    have hL : Heap.IsTuple (Shared.heap ⟨hp, g, d, tk, os⟩) l items := ⟨_, hl, hc, n, hd⟩
    wp_walk using wpAny_loadPart' hl
    refine wpAny_stack_any fun st => wpAny_pure ?_
    split
    · rename_i c _ _ _ _ _
      cases (c == Value.type "enumerate") <;> (wp_walk using wpAny_loadPart' hl, wpAny_pyIter_tuple hL; exact ⟨_, rfl, h⟩)
    · wp_walk using wpAny_loadPart' hl, wpAny_pyIter_tuple hL
      exact ⟨_, rfl, h⟩
theorem call_enumT {prog : Program} {w : World} {A : Around} {E : Value → Shared → Prop} {s : Shared} {l : Addr} {items : Array Value} {Q : Value → Shared → Prop} (hL : s.heap.IsTuple l items)
    (h : ∀ h' : Heap, IsEnum h' (s.heap.objs.size + 1) s.heap.objs.size 0 .none → h'.IsTupleIter s.heap.objs.size l 0 → (∀ b o, s.heap.get? b = some o → h'.get? b = some o) → Q (.ref (s.heap.objs.size + 1)) { s with heap := h' }) :
    wpAny (model prog w) A (call (.type "enumerate") [.ref l]) Q E s := by
  obtain ⟨o, hl, hc, n, hd⟩ := hL
  refine callType_new F.called_enumerate (by decide) (F.typeCall_enumerate_1 _) (F.newCall_enumerate_1 _) (fun obj => F.args_object_init_2 obj _) F.entry_enumerate_new (meets_enum_newT l items o n hc hd) ⟨hl, ?_⟩
  have hz : (s.heap.push { cls := .type "tuple_iterator", data := .fields #[.ref l, .int 0 0] }).objs.size = s.heap.objs.size + 1 := Heap.size_push ..
  show _ ∧ _; rw [hz]
  have he : IsEnum ((s.heap.push { cls := .type "tuple_iterator", data := .fields #[.ref l, .int 0 0] }).push { cls := .type "enumerate", data := .fields #[.none, .bool false, .ref s.heap.objs.size, rawInt 0, .none, .none] }) (s.heap.objs.size + 1) s.heap.objs.size 0 .none := by
    have := Heap.get?_push_size (s.heap.push { cls := .type "tuple_iterator", data := .fields #[.ref l, .int 0 0] }) (o := { cls := .type "enumerate", data := .fields #[.none, .bool false, .ref s.heap.objs.size, rawInt 0, .none, .none] }) rfl
    rw [hz] at this; exact this
  exact ⟨⟨_, he, rfl⟩, h _ he ⟨_, Heap.get?_push_of_some _ (Heap.get?_push_size _ rfl), rfl, rfl⟩ fun b o x => Heap.get?_push_of_some _ (Heap.get?_push_of_some _ x)⟩
end PySem
namespace L2
open PySem PySem.Spec PyProof.Rows
def IteT (K : PySem.W.Frag) (a : Addr) : It :=
  ⟨fun i H => ∃ xs x, SqT K H a xs ∧ xs[i]? = some x, fun i H v H' => ∃ p x, H p = none ∧ v = .ref p ∧ (∀ xs, SqT K H a xs → xs[i]? = some x) ∧ H' = upd H p (.tup [.int i, x]), fun i H => ∃ xs, SqT K H a xs ∧ xs.length ≤ i⟩
theorem turn_enumT {P : Program} {w : World} {K : PySem.W.Frag} {elts : List Expr} {k : Nat} {pos : Pos} (a e it : Addr) (hei : e ≠ it) : Turn P w K (.Tuple elts k pos) (IteT K a) [e, it] e (fun i h => (∃ old, IsEnum h e it ((i : Nat) : Int) old) ∧ h.IsTupleIter it a i) where
  mem := by simp
  obj := fun i h st b hb => by
    obtain ⟨⟨old, he⟩, o, ho, c, d⟩ := st
    rcases List.mem_cons.mp hb with rfl | hb
    · exact ⟨_, he, fun v z => by cases z⟩
    · have e : b = it := by simpa using hb
      subst e
      exact ⟨o, ho, fun v z => by rw [d] at z; cases z⟩
  keep := fun i h h' st k => by
    obtain ⟨⟨old, he⟩, hi⟩ := st
    exact ⟨⟨old, k e (by simp) _ he⟩, hi.at fun o x => k it (by simp) o x⟩
  item := by
    intro X hP hw hK hc i pins s σ H E I hf st hg
    subst hP hw hK
    obtain ⟨xs, x, hq, hx⟩ := hg
    obtain ⟨its, rv, p, hz⟩ := I.tuple hq
    have p' : s.heap.IsTuple a its.toArray := p
    obtain ⟨u, hu, ru⟩ := rv.get hx
    obtain ⟨⟨old, he⟩, hit⟩ := st
    obtain ⟨f0, f1, f2, f3, f4, f5⟩ := hf e (by simp)
    obtain ⟨g0, g1, g2, g3, g4, g5⟩ := hf it (by simp)
    have ha_it : a ≠ it := fun z => by
      obtain ⟨o1, h1, c1, _⟩ := p'
      obtain ⟨o2, h2, c2, _⟩ := hit
      rw [z, h2] at h1; cases h1
      rw [c2] at c1; exact absurd c1 (by decide)
    have ha_e : e ∉ [it, a] := fun z => by
      rcases List.mem_cons.mp z with q | q
      · exact hei q
      · have q : e = a := by simpa using q
        obtain ⟨o1, h1, c1, _⟩ := p'
        rw [← q, he] at h1; cases h1
        exact absurd (show Value.type "enumerate" = Value.type "tuple" from c1) (by decide)
    refine wpAny_pyNext_enum_itemD (draws_tup (A := X.A.in1) (I.ok.hd hc) it a ha_it its.toArray) he ⟨hit, p'⟩ (by have := (List.getElem?_eq_some_iff.mp hu).1; simpa using this) hei ha_e fun u2 h₁ tk hu2 heo st₁ ht₁ hz₁ hk₁ => ⟨_, rfl, ?_⟩
    obtain rfl : u2 = u := by
      have h1 : its[i]? = some u2 := by simpa using hu2
      rw [hu] at h1; cases h1; rfl
    obtain ⟨hit₁, _⟩ := st₁
    refine wpAny_letOwnedTupleGo_enum heo fun h₂ he₂ hs₂ => ?_
    replace hs₂ : Heap.SameBut e h₁ h₂ := hs₂
    have hel : e < s.heap.objs.size := Heap.lt_size he
    have ht₂ : h₂.get? s.heap.objs.size = some { cls := .type "tuple", data := .seq #[.int i tk, u2] } := (hs₂.2 _ (Nat.ne_of_gt hel)).trans ht₁
    have kk : ∀ b o, b ≠ e → b ≠ it → s.heap.get? b = some o → h₂.get? b = some o := fun b o h1 h2 q => (hs₂.2 b h1).trans (hk₁ b o h1 h2 q)
    have hn : H s.heap.objs.size = none := I.fresh
    have sm : Same H (upd H s.heap.objs.size (.tup [.int i, x])) := same_upd hn
    have nit : ∀ b o, H b = some o → b ≠ e ∧ b ≠ it := fun b o q => ⟨fun z => (by rw [z, f0] at q; cases q), fun z => (by rw [z, g0] at q; cases q)⟩
    have hok : HOk X.prog X.w (upd H s.heap.objs.size (.tup [.int i, x])) h₂ := fun b ob q => by
      by_cases hb : b = s.heap.objs.size
      · subst hb
        rw [upd_same] at q
        cases q
        exact ⟨by show 2 ≤ sizeLine; decide, [.int i tk, u2], .cons ⟨_, rfl⟩ (.cons ru .nil), ⟨_, ht₂, rfl, _, rfl⟩⟩
      · rw [upd_ne hb] at q
        refine (I.hok b ob q).stay (fun c v hc z => ?_) (fun c z => sm c _ z) fun c ys z => sm c _ z
        rcases hc with rfl | hc
        · exact kk c v (nit c _ q).1 (nit c _ q).2 z
        · exact kk c v (nit c _ hc).1 (nit c _ hc).2 z
    have nch : ∀ b, b ∉ [e, it] → b ≠ e ∧ b ≠ it := fun b hb => ⟨fun z => hb (by simp [z]), fun z => hb (by simp [z])⟩
    have I2 : Inv X pins σ (upd H s.heap.objs.size (.tup [.int i, x])) { s with heap := h₂, toks := tk + 1 } := by
      refine I.step (g' := s.gens) (d' := s.drawn) (ch := [e, it]) (fun b hb => ?_) (fun b o _ _ hb q _ => kk b o (nch b hb).1 (nch b hb).2 q) (fun b o _ _ hb q _ => ⟨o.slots, kk b o (nch b hb).1 (nch b hb).2 q⟩)
        (fun b o hb q n => by rw [upd_ne (Nat.ne_of_lt (Heap.lt_size q))]; exact n) (fun b o hb q => ⟨o, kk b o (nch b hb).1 (nch b hb).2 q⟩) (fun b ys z => sm b _ z) (fun b o u z => sm b _ z) (fun b ps z => ⟨#[], by rw [sm b _ z]; simp⟩) (fun m hm => ?_) hok I.bare
      · rcases List.mem_cons.mp hb with rfl | hb
        · exact ⟨f3, f1, f4, f5⟩
        · have z : b = it := by simpa using hb
          subst z
          exact ⟨g3, g1, g4, g5⟩
      · obtain ⟨o, es, ep, ho, r⟩ := hm
        exact ⟨o, es, ep, kk _ o (Ne.symm f1) (Ne.symm g1) ho, r⟩
    refine ⟨.ref s.heap.objs.size, _, I2, rfl, ⟨s.heap.objs.size, x, hn, rfl, fun ys hy => (by rw [I.tuple_inj hy hq]; exact hx), rfl⟩, ⟨⟨_, by simpa using he₂⟩, hit₁.at fun o q => (hs₂.2 it (Ne.symm hei)).trans q⟩, fun b hb => ?_⟩
    rcases List.mem_cons.mp hb with rfl | hb
    · rw [upd_ne (Nat.ne_of_lt hel)]; exact f0
    · have z : b = it := by simpa using hb
      subst z
      obtain ⟨o, ho, _⟩ := hit
      rw [upd_ne (Nat.ne_of_lt (Heap.lt_size ho))]; exact g0
  done := by
    intro X hP hw hK hc i pins s σ H E I hf st hg
    subst hP hw hK
    obtain ⟨xs, hq, hx⟩ := hg
    obtain ⟨its, rv, p, hz⟩ := I.tuple hq
    have p' : s.heap.IsTuple a its.toArray := p
    obtain ⟨⟨old, he⟩, hit⟩ := st
    obtain ⟨g0, g1, g2, g3, g4, g5⟩ := hf it (by simp)
    have hl := rv.length
    have hT : s.TypeIs (.ref e) "enumerate" := ⟨_, he, rfl⟩
    unfold pyNext
    refine wpAny_bind (wpAny_attempt (wpAny_callSpecial?_slot (name := Str.ofString "__next__") hT F.slot_enumerate_next (wpAny_call_entry F.slot_enumerate_next hT F.entry_enumerate_next ?_ (F.args_enumerate_next_1 _))))
    show wpAny _ _ (field (.ref e) 2 >>= _) _ _ _; refine wpAny_bind (wpAny_field he rfl (x := .ref it) rfl ?_)
    refine wpAny_bind (nextOf_tup_end (A := X.A.in1) (I.ok.hd hc) hit p' (by simp; omega) fun h' x he' hx' => ?_)
    obtain ⟨o, ho, hcl⟩ := hx'
    refine wpAny_bind (wpAny_isInstance (T := "StopIteration") (b := true) ⟨o, ho, hcl⟩ isSubtype_stop ?_)
    exact wpAny_pure ⟨rfl, I.turned (t' := s.toks) (fun b o hb q => he' b o hb q) g0 g1 g3 g4 g5⟩
  self := fun A i s Q E st h => let ⟨⟨_, he⟩, _⟩ := st; wpAny_pyIter_enum he h
section
variable {X : Cx}
def itEnumT (f : FD) : DEnv → R (List D) := fun δ => (f δ).bind fun d => match d with | .tup ds => .ok (enumD ds) | _ => .no
theorem qpit_enumT {elts : List Expr} {k : Nat} {tpos : Pos} {a : Expr} {f : FD} {p pos : Pos} (h : QD X a f) (hg : Gl X "enumerate") (hm : X.mg "enumerate" = none) (hs : starEach [a] X.env = [(false, eval a X.env)] := by rfl) : QIt X (.Tuple elts k tpos) (.Call (.Name "enumerate" p) [a] [] pos) (itEnumT f) := by
  refine ⟨?_⟩
  intro pins s σ H RR I ⟨Z, B, δ, ds, E, hf, q⟩
  obtain ⟨d, h1, h2⟩ := R.bind_ok hf
  have hA := pa_cons h.1 pa_nil hs pos pins s σ H (fun vs H1 => Same H H1 ∧ ∃ v, vs = [v] ∧ Rep X.K B H1 d v) I ⟨Z, B, δ, d, E, h1, fun v H1 s1 r1 => ⟨s1, v, rfl, r1⟩⟩
  refine Call_ (ld_blt I hg hm boot_enumerate (PyProof.Rows.callWith_type1 (thn hA fun us s1 ⟨vs, H1, I1, r1, ss, v, ev, rr⟩ => ?_) hs rfl))
  subst ev
  obtain ⟨u, rfl, ru⟩ := vals1 r1
  cases d with
  | tup es =>
    cases h2
    obtain ⟨b, xs, rfl, l, rs⟩ := Rep.tup.mp rr
    cases ru
    obtain ⟨its, rv, pt, hz⟩ := I1.tuple l.sq
    refine call_enumT (items := its.toArray) pt fun h' he hit kk => wpAny_pyIter_enum he ?_
    have I2 : Inv X pins σ H1 { s1 with heap := h' } := I1.kept (t' := s1.toks) kk
    refine ⟨s1.heap.objs.size + 1, [s1.heap.objs.size + 1, s1.heap.objs.size], _, _, H1, rfl, I2, turn_enumT b (s1.heap.objs.size + 1) s1.heap.objs.size (Nat.succ_ne_self _), ⟨⟨_, he⟩, hit⟩, fun c hc => ?_, q _ H1 ss fun B' H' pr => ?_⟩
    · have hle : s1.heap.objs.size ≤ c := by
        rcases List.mem_cons.mp hc with z | hc
        · rw [z]; exact Nat.le_succ _
        · have z : c = s1.heap.objs.size := by simpa using hc
          rw [z]; exact Nat.le_refl _
      exact I1.fpOk hle (I1.hok.fresh hle)
    · have l' : TpF X.K B' H' b xs := l.elim (fun z => .inl ⟨(pr.rd z.2 z.1).2, (pr.rd z.2 z.1).1⟩) .inr
      have rs' := rs.pres pr
      refine ⟨fun i d hd => ?_, ⟨xs, l'.sq, by rw [← rs.length]; unfold enumD; simp⟩⟩
      unfold enumD at hd
      rw [List.getElem?_map, List.getElem?_zipIdx] at hd
      cases e : es[i]? with
      | none => rw [e] at hd; cases hd
      | some d0 =>
        rw [e] at hd
        have hd : D.tup [.int ((0 + i : Nat) : Int), d0] = d := Option.some.inj hd
        rw [Nat.zero_add] at hd
        obtain ⟨x, hx, rx⟩ := rs'.get e
        refine ⟨⟨xs, x, l'.sq, hx⟩, fun v H'' y hB' => ?_⟩
        obtain ⟨p, y, hp, rfl, hy, rfl⟩ := y
        refine ⟨same_upd hp, ?_⟩
        subst hd
        have hy2 := hy xs l'.sq
        rw [hx] at hy2
        cases hy2
        refine Rep.tup.mpr ⟨p, _, rfl, .inl ⟨fun ha => ?_, .inl upd_same⟩, Reps.cons (Rep.int.mpr rfl) (Reps.cons (rx.same (same_upd hp)) Reps.nil)⟩
        obtain ⟨o, ho⟩ := hB' p ha
        rw [hp] at ho; cases ho
  | _ => cases h2
end
end L2

end
section
set_option maxRecDepth 100000
set_option maxHeartbeats 4000000
/-! ## // by great numbers, list * n, sorted, min and max of a list; list + list as a place, clear (own) -/
namespace L2
open PySem PySem.Spec PyProof.Rows
section
variable {X : Cx}
theorem op_fdivB : OpR X (binaryOp .FloorDiv) (rI (fun _ j => 0 < j ∧ j.natAbs.log2 < 9000) fun i j => .int (i / j)) := opI fun i j _ _ _ _ _ hc q => by
  have h1 : (0 : Int) < j := hc.1
  exact floordiv_int (by omega) (by rw [Int.fdiv_eq_ediv_of_nonneg i (by omega)]; exact q) (.inl (PyProof.noPylong_of_log2 hc.2))
abbrev dFdvB : D → D → R D := dII (fun _ j => decide (0 < j ∧ j.natAbs.log2 < 9000)) fun i j => i / j
theorem o_fdvB : OpD X (binaryOp .FloorDiv) dFdvB := op_II op_fdivB fun i j h => (of_decide_eq_true h : 0 < j ∧ j.natAbs.log2 < 9000)
/-! list * n, of a list that was made just now -/
theorem ints_are : ∀ {ns : List Int} {us : List Value}, Vals (ns.map V.int) us → IntsAre us ns
  | [], _, .nil => .nil
  | n :: ns, _, .cons r t => by obtain ⟨tk, rfl⟩ := r; exact .cons _ _ (ints_are t)
theorem are_vals : ∀ {ns : List Int} {us : List Value}, IntsAre us ns → Vals (ns.map V.int) us := fun h => by
  induction h with
  | nil => exact .nil
  | cons _ _ _ ih => exact .cons ⟨_, rfl⟩ ih
theorem reps_rep {K : PySem.W.Frag} {B : List Addr} {H : Hp} {ds : List D} {xs : List V} (r : Reps K B H ds xs) : ∀ n : Nat, Reps K B H (List.replicate n ds).flatten (List.replicate n xs).flatten
  | 0 => Reps.nil
  | n + 1 => by rw [List.replicate_succ, List.replicate_succ, List.flatten_cons, List.flatten_cons]; exact r.append (reps_rep r n)
def nRep (f : DEnv → R (List D)) (g : FD) : DEnv → R (List D) := fun δ => (f δ).bind fun ds => (g δ).bind fun d => match d with
  | .int k => R.when (decide (0 ≤ k ∧ k < 1000000 ∧ ds.length * k.toNat ≤ sizeLine)) (.ok (List.replicate k.toNat ds).flatten)
  | _ => .no
theorem qpn_rep {a b : Expr} {f : DEnv → R (List D)} {g : FD} {pos : Pos} (ha : QN X a f) (hb : QD X b g) : QN X (.BinOp a .Mult b pos) (nRep f g) := by
  refine ⟨(pe_op op_rep ha.1 hb.1).imp fun σ H Q ⟨Z, B, δ, es, E, hf, q⟩ => ?_⟩
  obtain ⟨ds, h1, h2⟩ := R.bind_ok hf
  obtain ⟨d, h3, h4⟩ := R.bind_ok h2
  split at h4
  · rename_i k
    obtain ⟨h5, h6⟩ := R.when_ok h4
    cases h6
    obtain ⟨k0, k1, k2⟩ := of_decide_eq_true h5
    refine ⟨Z, B, δ, ds, E, h1, fun a xs H1 s1 n1 e1 r1 => ⟨Z, B, δ, .int k, E.same s1, h3, fun v H2 s2 r2 => ⟨a, k, xs, rfl, Rep.int.mp r2, s2 a _ e1, by omega, by omega, by rw [← r1.length]; exact k2, fun p hp => ?_⟩⟩⟩
    refine q p _ _ (s1.trans (s2.trans (same_upd hp))) ((s1.trans s2).free hp) upd_same ?_
    refine (reps_rep r1 k.toNat).pres fun b o e nb => ⟨(s2.trans (same_upd hp)) b o e, fun hm => ?_⟩
    rcases List.mem_cons.mp hm with z | z
    · rw [z] at e; rw [s2 p _ e] at hp; cases hp
    · exact nb (List.mem_cons_of_mem _ z)
  · cases h4
/-! sorted -/
def sortZ (ns : List Int) : List Int := ns.mergeSort fun a b => decide (a ≤ b)
theorem sortZ_is {a ns : List Int} (p : a.Perm ns) (o : a.Pairwise (· ≤ ·)) : a = sortZ ns := by
  refine PySem.W.ksm_same (p.trans (List.mergeSort_perm ns _).symm) o ?_
  have := List.pairwise_mergeSort (le := fun a b : Int => decide (a ≤ b)) (fun a b c h1 h2 => by simp at *; omega) (fun a b => by simp; omega) ns
  exact this.imp fun h => by simpa using h
def cSorted : List D → R D
  | [.lst ds] => (match ints? ds with | some ns => R.when (decide (ns.length < 64)) (.ok (.lst ((sortZ ns).map .int))) | none => .no)
  | _ => .no
theorem c_sorted : CallD X (.builtin "sorted") cSorted := by
  intro pins s σ H B ds d xs us I hb rx rs hg
  unfold cSorted at hg
  split at hg
  · split at hg
    · rename_i es ns e
      obtain ⟨h64, h2⟩ := R.when_ok hg
      cases h2
      have h64 := of_decide_eq_true h64
      obtain ⟨x, rfl, r⟩ := rs.one
      obtain ⟨a, ys, rfl, l, r⟩ := Rep.lst.mp r
      obtain ⟨u, rfl, ru⟩ := vals1 rx
      cases ru
      obtain ⟨its, n, rv, e1, hz⟩ := I.rdL l
      rw [ints_reps r e] at rv
      have hl : s.heap.IsList a its.toArray := ⟨_, e1, rfl, n, rfl⟩
      have hlen : its.length = ns.length := by have := rv.length; simpa using this.symm
      refine sorted_ints hl (ints_are rv) (by omega) fun out ns' a1 a2 a3 => ?_
      obtain ⟨ep, he⟩ := sortedAll_at s.heap its out
      have hs := sortZ_is a2 a3
      subst hs
      have rv2 := are_vals a1
      have hle : ((sortZ ns).map V.int).length ≤ sizeLine := by
        have h1 := a2.length_eq
        have hzz : sizeLine = 16777216 := sizeLine_eq
        rw [List.length_map]; omega
      have hn : H (s.heap.objs.size + 1) = none := I.hok.fresh (Nat.le_succ _)
      have I2 := I.laid (a := s.heap.objs.size + 1) (o := .lst ((sortZ ns).map V.int)) (h' := sortedAll s.heap its out) (t' := s.toks) (fun b o q => sortedAll_old q) (Nat.le_succ _) (show ObjOk X.prog X.w _ _ _ (.lst _) from ⟨hle, out.toList, ep, rv2, by simpa [seqObj] using he⟩)
      refine ⟨.ref (s.heap.objs.size + 1), _, I2, rfl, same_upd hn, Rep.lst.mpr ⟨_, _, rfl, .of_new upd_same fun ha => ?_, ints_rep _⟩⟩
      obtain ⟨o, ho⟩ := hb _ ha
      rw [hn] at ho; cases ho
    · cases hg
  · cases hg
/-! min and max of a list -/
theorem getD_in {l : List Int} {i : Nat} (h : i < l.length) : l.getD i 0 ∈ l := by
  have e : l.getD i 0 = l[i] := by simp [h]
  rw [e]; exact List.getElem_mem h
theorem fold_min : ∀ (ns : List Int) (n : Int), ns.foldl min n ∈ n :: ns ∧ ∀ a ∈ n :: ns, ns.foldl min n ≤ a
  | [], n => ⟨by simp, fun a ha => by simp at ha; subst ha; exact Int.le_refl _⟩
  | x :: ns, n => by
    obtain ⟨h1, h2⟩ := fold_min ns (min n x)
    rw [List.foldl_cons]
    refine ⟨?_, fun a ha => ?_⟩
    · rcases List.mem_cons.mp h1 with z | z
      · rw [z]; by_cases hc : n ≤ x
        · rw [Int.min_eq_left hc]; simp
        · rw [Int.min_eq_right (by omega)]; simp
      · exact List.mem_cons_of_mem _ (List.mem_cons_of_mem _ z)
    · have hm := h2 _ List.mem_cons_self
      rcases List.mem_cons.mp ha with z | z
      · subst z; omega
      · rcases List.mem_cons.mp z with z | z
        · subst z; omega
        · exact h2 a (List.mem_cons_of_mem _ z)
def cMinL : List D → R D
  | [.lst ds] => (match ints? ds with | some (n :: ns) => .ok (.int (ns.foldl min n)) | _ => .no)
  | ds => cMin ds
def cMaxL : List D → R D
  | [.lst ds] => (match ints? ds with | some (n :: ns) => .ok (.int (ns.foldl max n)) | _ => .no)
  | ds => cMax ds
theorem c_minL (hc : X.calm = true) : CallD X (.builtin "min") cMinL := by
  intro pins s σ H B ds d xs us I hb rx rs hg
  unfold cMinL at hg
  split at hg
  · split at hg
    · rename_i es n ns e
      cases hg
      obtain ⟨x, rfl, r⟩ := rs.one
      obtain ⟨a, ys, rfl, l, r⟩ := Rep.lst.mp r
      obtain ⟨u, rfl, ru⟩ := vals1 rx
      cases ru
      obtain ⟨its, k, rv, e1, hz⟩ := I.rdL l
      rw [ints_reps r e] at rv
      obtain ⟨ps, rfl, hps⟩ := vals_intItems rv
      have hl : s.heap.IsList a (intItems ps.toArray) := ⟨_, e1, rfl, k, by simp [intItems]⟩
      have hlp : ps.length = ns.length + 1 := by have := congrArg List.length hps; simpa using this
      refine min_intList (I.ok.hd hc) hl (by simp; omega) fun v h' tk hv hk => ?_
      obtain ⟨t, rfl⟩ := intItems_at hv
      obtain ⟨b1, b2⟩ := argBest_lt (numAt ps.toArray) (ps.toArray.size - 1)
      refine ⟨.int _, H, I.kept hk, ⟨t, rfl⟩, Same.refl H, Rep.int.mpr ?_⟩
      obtain ⟨m1, m2⟩ := fold_min ns n
      have hge : ∀ j, j < ps.length → numAt ps.toArray j = (n :: ns).getD j 0 := fun j hj => by rw [numAt_eq, ← hps]
      have hin : numAt ps.toArray (argBest (fun i j => decide (numAt ps.toArray i < numAt ps.toArray j)) (ps.toArray.size - 1)) ∈ n :: ns := by
        rw [hge _ (by simp at b1 ⊢; omega)]; exact getD_in (by simp at b1 ⊢; omega)
      have hle := m2 _ hin
      obtain ⟨j, hj, ej⟩ := List.getElem_of_mem m1
      have hj' : j < ns.length + 1 := by simpa using hj
      have h3 := b2 j (by simp; omega)
      rw [hge j (by omega)] at h3
      have h4 : (n :: ns).getD j 0 = ns.foldl min n := by rw [← ej, List.getD_eq_getElem?_getD, List.getElem?_eq_getElem hj]; rfl
      rw [h4] at h3
      congr 1
      omega
    · cases hg
  · exact c_min hc pins s σ H B _ d xs us I hb rx rs hg
end
end L2
namespace L3
open PySem PySem.Spec PyProof.Rows L2
/-- the items of a list, of the store or not -/
def lsOf (S : Sto) : V3 → Option (List D)
  | .d (.lst ds) => some ds
  | .loc k => lstAt S k
  | _ => none
theorem lsOf_r {K : PySem.W.Frag} {cl : Nat → Addr} {ρ : P3} {H : Hp} {S : Sto} {v : V3} {x : V} {ds : List D} (w : SW K cl ρ H S) (h : lsOf S v = some ds) (r : Rep3 K ρ H v x) : ∃ a xs, x = .ref a ∧ LsF K [] H a xs ∧ Reps K ρ.b H ds xs := by
  unfold lsOf at h
  split at h
  · cases h
    unfold Rep3 Rep at r
    obtain ⟨a, xs, e, l, rs⟩ := r
    exact ⟨a, xs, e, l.pres (fun b o e _ => ⟨e, by simp⟩), rs⟩
  · unfold Rep3 at r
    obtain ⟨a, a1, rfl⟩ := r
    obtain ⟨xs, e, rs⟩ := w.ob _ a _ a1 (lstAt_some h)
    exact ⟨a, xs, rfl, .inl ⟨by simp, .inl e⟩, rs⟩
  · cases h
section
variable {X : Cx} {cl : Nat → Addr}
/-- xs + ys, a new list of the store -/
def xCat (fa fb : FX) : FX := fun δ S => (fa δ S).bind fun a S1 => (fb δ S1).bind fun b S2 => match lsOf S2 a, lsOf S2 b with
  | some ds, some es => R3.when (decide (ds.length + es.length ≤ sizeLine)) (.ok (.loc S2.length) (S2 ++ [.lst (ds ++ es)]))
  | _, _ => .no
theorem px_cat {a b : Expr} {fa fb : FX} {pos : Pos} (ha : PX X cl a fa) (hb : PX X cl b fb) : PX X cl (.BinOp a .Add b pos) (xCat fa fb) := ⟨(pe_op op_catS ha.1 hb.1).imp fun σ H Q ⟨ρ, S, δ, v, S', E, hf, q⟩ => by
  obtain ⟨a, S1, h1, h2⟩ := R3.bind_ok hf
  obtain ⟨b, S2, h3, h4⟩ := R3.bind_ok h2
  split at h4
  · rename_i ds es e1 e2'
    obtain ⟨hl, h5⟩ := R3.when_ok h4
    cases h5
    refine ⟨ρ, S, δ, a, S1, E, h1, fun u1 ρ1 H1 p1 w1 r1 => ⟨ρ1, S1, δ, b, S2, E.to p1 w1, h3, fun u2 ρ2 H2 p2 w2 r2 => ?_⟩⟩
    obtain ⟨la, xs, rfl, l1, rs1⟩ := lsOf_r w2 e1 (r1.pre p2)
    obtain ⟨lb, ys, rfl, l2, rs2⟩ := lsOf_r w2 e2' r2
    refine ⟨[], la, lb, xs, ys, rfl, rfl, l1, l2, by rw [← rs1.length, ← rs2.length]; exact of_decide_eq_true hl, fun p hp => ?_⟩
    obtain ⟨w3, p3⟩ := w2.new (a := p) (o := .lst (ds ++ es)) (same_upd (o := .lst (xs ++ ys)) hp) hp ⟨xs ++ ys, upd_same, (rs1.append rs2).pres (fun b o e nb => ⟨by rw [upd_ne (ne_of_none e hp)]; exact e, fun hb => by
      rcases P3.mem_push hb with z | z
      · exact nb z
      · exact ne_of_none e hp z⟩)⟩
    exact q _ _ _ (p1.trans (p2.trans p3)) w3 (by unfold Rep3; exact ⟨p, by show (ρ2.r ++ [p])[_]? = _; rw [← w2.len, List.getElem?_append_right (Nat.le_refl _), Nat.sub_self]; rfl, rfl⟩)
  · cases h4⟩
theorem w_cat {fa fb : FX} {δ : DE} {S : Sto} {Q : V3 → Sto → Prop} (h : W3 (fa δ S) fun a S1 => W3 (fb δ S1) fun b S2 => ∃ ds es, lsOf S2 a = some ds ∧ lsOf S2 b = some es ∧ ds.length + es.length ≤ sizeLine ∧ Q (.loc S2.length) (S2 ++ [.lst (ds ++ es)])) : W3 (xCat fa fb δ S) Q :=
  W3.bind (h.mono fun _ _ h => W3.bind (h.mono fun _ _ ⟨ds, es, e1, e2', hl, q⟩ => by
    simp only [e1, e2']
    exact W3.wh (decide_eq_true hl) (W3.ok q)))
/-- x.clear() -/
def zClr (i : Nat) : FZ := fun δ S => match locAt δ i with
  | none => .no
  | some k => (match lstAt S k with | some _ => .ok (.nx δ) (S.set k (.lst [])) | none => .no)
end
end L3

end
section
set_option maxRecDepth 100000
set_option maxHeartbeats 4000000
/-! ## THE STORE LAYER: own objects: fields, methods, making (own) -/
namespace L3
open PySem PySem.Spec PyProof.Rows L2
def insAt (S : Sto) (c k : Nat) : Option (List (Str × V3)) := match S[k]? with | some (.ins c' fs) => (if c' = c then some fs else none) | _ => none
def putX (f : Str) (v : V3) : List (Str × V3) → List (Str × V3)
  | [] => [(f, v)]
  | (g, x) :: r => if g = f then (g, v) :: r else (g, x) :: putX f v r
section
variable {X : Cx} {cl : Nat → Addr}
/-- e.f -/
def xFld (c : Nat) (f : Str) (g : FX) : FX := fun δ S => (g δ S).bind fun v S1 => match v with
  | .loc k => (match insAt S1 c k with | some fs => (match fs.lookup f with | some v => .ok v S1 | none => .no) | none => .no)
  | _ => .no
/-- o.m(..) -/
def MethX (P : Program) (w : World) (K : PySem.W.Frag) (mg : Str → Option Value) (base : Heap) (cl : Nat → Addr) (k c : Nat) (m : Str) (n : Nat) (g : List V3 → Sto → R3 V3) : Prop :=
  ∃ (f : Addr) (fd : FuncData) (ps : List Str), Cls K (cl c) ∧ Meth K (cl c) m f ∧ FnOk P w K mg base CX0 k f fd ps (spX K cl (n + 1) g) ∧ Binds K fd ps []
def xMeth (c : Nat) (m : Str) (g : List V3 → Sto → R3 V3) (fo : FX) (fs : FA) : FX := fun δ S => (fo δ S).bind fun o S1 => match o with
  | .loc k => (match insAt S1 c k with | some ys => (match ys.lookup m with | none => (fs δ S1).bind fun vs S2 => g (.loc k :: vs) S2 | some _ => .no) | none => .no)
  | _ => .no
/-- C(..) -/
def MakeX (P : Program) (w : World) (K : PySem.W.Frag) (mg : Str → Option Value) (base : Heap) (cl : Nat → Addr) (k c : Nat) (x : Str) (n : Nat) (g : List V3 → Sto → R3 V3) : Prop :=
  ∃ (f : Addr) (fd : FuncData) (ps : List Str), Mk K (cl c) f ∧ FnOk P w K mg base CX0 k f fd ps (spX K cl (n + 1) g) ∧ mg x = some (.ref (cl c)) ∧ Binds K fd ps []
def xMake (c : Nat) (g : List V3 → Sto → R3 V3) (fs : FA) : FX := fun δ S => (fs δ S).bind fun vs S1 => (g (.loc S1.length :: vs) (S1 ++ [.ins c []])).bind fun v S2 => match v with
  | .d .non => .ok (.loc S1.length) S2
  | _ => .no
/-- o.f = e -/
def zFld (c : Nat) (f : Str) (fo fe : FX) : FZ := fun δ S => (fe δ S).bind fun v S1 => (fo δ S1).bind fun o S2 => match o with
  | .loc k => (match insAt S2 c k with | some fs => R3.when (decide (fs.length < 1000)) (.ok (.nx δ) (S2.set k (.ins c (putX f v fs)))) | none => .no)
  | _ => .no
end
end L3

end
section
set_option maxRecDepth 100000
set_option maxHeartbeats 4000000
/-! ## zip of lists and tuples, isinstance of two types, range with step -1 (own) -/
namespace PySem
open Sem (wp)
def SqIt (t : Bool) (h : Heap) (i l : Addr) (k : Nat) : Prop := cond t (h.IsTupleIter i l k) (h.IsListIter i l k)
def SqOf (t : Bool) (h : Heap) (l : Addr) (xs : Array Value) : Prop := cond t (h.IsTuple l xs) (h.IsList l xs)
def itName (t : Bool) : String := cond t "tuple_iterator" "list_iterator"
section
variable {prog : Program} {w : World} {A : Around} {E : Value → Shared → Prop} {s : Shared}
end
abbrev zs1 (t : Bool) (h : Heap) (l1 : Addr) : Heap := h.push { cls := .type (itName t), data := .fields #[.ref l1, .int 0 0] }
abbrev zs2 (t u : Bool) (h : Heap) (l1 l2 : Addr) : Heap := (zs1 t h l1).push { cls := .type (itName u), data := .fields #[.ref l2, .int 0 0] }
abbrev zs3 (t u : Bool) (h : Heap) (l1 l2 : Addr) : Heap := (zs2 t u h l1 l2).push { cls := .type "tuple", data := .seq #[.ref h.objs.size, .ref (zs1 t h l1).objs.size] }
abbrev zs4 (t u : Bool) (h : Heap) (l1 l2 : Addr) : Heap := (zs3 t u h l1 l2).push { cls := .type "tuple", data := .seq #[.none, .none] }
abbrev zs5 (t u : Bool) (h : Heap) (l1 l2 : Addr) : Heap := (zs4 t u h l1 l2).push { cls := .type "zip", data := .fields #[.none, .bool false, .bool false, .ref (zs2 t u h l1 l2).objs.size, .ref (zs3 t u h l1 l2).objs.size] }
end PySem
namespace L2
open PySem PySem.Spec PyProof.Rows
def SqX (t : Bool) (K : PySem.W.Frag) (H : Hp) (a : Addr) (xs : List V) : Prop := cond t (SqT K H a xs) (SqL K H a xs)
def Itz (K : PySem.W.Frag) (t u : Bool) (a b : Addr) : It :=
  ⟨fun i H => ∃ xs ys x y, SqX t K H a xs ∧ SqX u K H b ys ∧ xs[i]? = some x ∧ ys[i]? = some y,
   fun i H v H' => ∃ p x y, H p = none ∧ v = .ref p ∧ (∀ xs, SqX t K H a xs → xs[i]? = some x) ∧ (∀ ys, SqX u K H b ys → ys[i]? = some y) ∧ H' = upd H p (.tup [x, y]),
   fun i H => ∃ xs ys, SqX t K H a xs ∧ SqX u K H b ys ∧ (xs.length ≤ i ∨ ys.length ≤ i)⟩
section
variable {X : Cx}
def zipD (ds es : List D) : List D := (ds.zip es).map fun p => .tup [p.1, p.2]
def seqD? : D → Option (List D)
  | .lst ds => some ds
  | .tup ds => some ds
  | _ => none
def itZip (f g : FD) : DEnv → R (List D) := fun δ => (f δ).bind fun d => (g δ).bind fun e => match seqD? d, seqD? e with | some ds, some es => .ok (zipD ds es) | _, _ => .no
/-! isinstance of two types -/
def eIsG2 (T U : String) (f : FD) : FD := fun δ => (f δ).bind fun d => match d with | .dct _ _ => .no | _ => .ok (.bl (isTy (tyName d) T || isTy (tyName d) U))
/-! range with step -1 -/
def Itd (lo : Int) (n : Nat) : It := ⟨fun i _ => i < n, fun i H x H' => H' = H ∧ x = .int (lo - i), fun i _ => n ≤ i⟩
def dwnD (lo : Int) (n : Nat) : List D := (List.range n).map fun (i : Nat) => D.int (lo - i)
def itDwn (f g h : FD) : DEnv → R (List D) := fun δ => (f δ).bind fun d => (g δ).bind fun e => (h δ).bind fun k => match d, e, k with
  | .int i, .int j, .int m => R.when (decide (m = -1 ∧ -(2 ^ 60) ≤ i ∧ i < 2 ^ 60 ∧ -(2 ^ 60) ≤ j ∧ j < 2 ^ 60)) (.ok (dwnD i (i - j).toNat)) | _, _, _ => .no
/-! all, any of a list of truths -/
def bls? : List D → Option (List Bool)
  | [] => some []
  | .bl b :: ds => (bls? ds).map (b :: ·)
  | _ :: _ => none
def cAll : List D → R D
  | [.lst ds] => (match bls? ds with | some bs => .ok (.bl (bs.all id)) | none => .no)
  | _ => .no
def cAny : List D → R D
  | [.lst ds] => (match bls? ds with | some bs => .ok (.bl (bs.any id)) | none => .no)
  | _ => .no
end
end L2

end
section
set_option maxRecDepth 100000
set_option maxHeartbeats 4000000
/-! ## THE STORE LAYER: new lists of the store by comprehensions, extend, calls whose word is dropped, statements that are never reached (own) -/
namespace L2
open PySem PySem.Spec PyProof.Rows
section
variable {X : Cx}
def sNo : FS := fun _ => .no
def sDrop (f : FD) : FS := fun δ => (f δ).bind fun _ => .ok (.nx δ)
end
end L2
namespace L3
open PySem PySem.Spec PyProof.Rows L2
section
variable {X : Cx} {cl : Nat → Addr}
def zNo : FZ := fun _ _ => .no
/-- a new list of the store, its items of lists of the store too -/
def xNewT (f : DEnv → R (List D)) : FX := fun δ S => (R3.of (f (downT S δ)) S).bind fun ds S => R3.when (tupDs ds) (.ok (.loc S.length) (S ++ [.lst ds]))
theorem xNewT_r {K : PySem.W.Frag} {f : DEnv → R (List D)} {σ : L2.St} {H : Hp} {Q : V → Hp → Prop} (h : tX K cl (xNewT f) σ H Q) : tN K f σ H Q := by
  obtain ⟨ρ, S, δ, v, S', E, hf, q⟩ := h
  obtain ⟨ds, S1, h1, h2⟩ := R3.bind_ok hf
  obtain ⟨h3, e3⟩ := R3.of_ok h1
  obtain ⟨ht, h4⟩ := R3.when_ok h2
  cases h4
  subst e3
  refine ⟨[], [], downT _ δ, ds, E.downT, h3, fun a xs H' s n e r => ?_⟩
  have r0 : Reps K [] H' ds xs := r.pres fun b o e nb => ⟨e, by simp⟩
  have r' : Reps K (ρ.push a).b H' ds xs := Reps.ofTup (fun b hb ys hr => by
    rcases P3.mem_push hb with z | z
    · exact (E.sw.same s).nt b z ys hr
    · subst z
      rcases hr with y | ⟨ob, y⟩
      · rw [e] at y; cases y
      · rw [e] at y; cases y) ht r0
  obtain ⟨w, p⟩ := E.sw.new (o := .lst ds) s n ⟨xs, e, r'⟩
  exact q _ _ H' p w (by unfold Rep3; exact ⟨a, by show (ρ.r ++ [a])[_]? = _; rw [← E.sw.len, List.getElem?_append_right (by omega), Nat.sub_self]; rfl, rfl⟩)
theorem px_newT {e : Expr} {f : DEnv → R (List D)} (h : QN X e f) : PX X cl e (xNewT f) := ⟨h.1.imp fun σ H Q h => xNewT_r h⟩
theorem w_newT {f : DEnv → R (List D)} {ds : List D} {δ : DE} {S : Sto} {QV : V3 → Sto → Prop} (e : f (downT S δ) = .ok ds) (ht : tupDs ds = true) (h : QV (.loc S.length) (S ++ [.lst ds])) : W3 (xNewT f δ S) QV := W3.bind (W3.of e (W3.wh ht (W3.ok h)))
/-! x.extend(e) -/
def zExt (i : Nat) (f : FX) : FZ := fun δ S => match locAt δ i with
  | none => .no
  | some k => match lstAt S k with
    | none => .no
    | some _ => (f δ S).bind fun v S1 => match v with
      | .d (.lst es) => (match lstAt S1 k with
        | some ds => R3.when (decide (ds.length + es.length ≤ sizeLine)) (.ok (.nx δ) (S1.set k (.lst (ds ++ es))))
        | none => .no)
      | _ => .no
end
end L3

end
section
set_option maxRecDepth 100000
set_option maxHeartbeats 4000000
/-! ## tuples put together, enumerate of either kind, reversed, zip with deeds, methods (own) -/
namespace L2
open PySem PySem.Spec PyProof.Rows
section
variable {X : Cx}
theorem catT_any {prog : Program} {w : World} {A : Around} {E : Value → Shared → Prop} {s : Shared} {t b : Addr} {vs ws : List Value} {Q : Value → Shared → Prop} (ht : IsTup s.heap t vs.toArray) (hb : IsTup s.heap b ws.toArray)
    (h0 : vs = [] → Q (.ref b) s) (h1 : vs ≠ [] → ws = [] → Q (.ref t) s) (h2 : vs ≠ [] → ws ≠ [] → Q (.ref s.heap.objs.size) { s with heap := s.heap.push { cls := .type "tuple", data := .seq (vs ++ ws).toArray } })
    (hsz : vs.length + ws.length ≤ sizeLine) : wpAny (model prog w) A (binaryOp .Add (.ref t) (.ref b)) Q E s := by
  by_cases hv : vs = []
  · obtain ⟨⟨cls, dd, data, sl⟩, ho, hc, n, hd⟩ := id ht; obtain ⟨⟨cls2, dd2, data2, sl2⟩, ho2, hc2, n2, hd2⟩ := id hb
    simp only at hc hd hc2 hd2; subst hc hd hc2 hd2
    exact concat_meets ⟨_, ho, rfl⟩ ⟨_, ho2, rfl⟩ noFill_tuple_add seq_tuple_add PySem.F.slot_tuple_add PySem.F.entry_tuple_add (PySem.F.args_tuple_add_2 _ _) (tuple_addW0 t b vs.toArray ws.toArray n n2 dd dd2 sl sl2 (by simp [hv])) ⟨ho, ho2, h0 hv⟩
  · exact HT.cat_tup ht hb hv (h1 hv) (h2 hv) hsz
def dAddX (d e : D) : R D := match d, e with
  | .tup a, .tup b => R.when (decide (a.length + b.length ≤ sizeLine)) (.ok (.tup (a ++ b)))
  | d, e => dAdd d e
theorem TpF.fresh {K : PySem.W.Frag} {B : List Addr} {H : Hp} {p : Addr} {xs : List V} (hb : ∀ a ∈ B, ∃ o, H a = some o) (hp : H p = none) : TpF K B (upd H p (.tup xs)) p xs := .inl ⟨fun ha => (by obtain ⟨o, ho⟩ := hb p ha; rw [hp] at ho; cases ho), .inl upd_same⟩
theorem o_addX : OpD X (binaryOp .Add) dAddX := by
  intro pins s σ H B da db d x y v u I hb rx ry ra rb hg
  by_cases ht : ∃ a b, da = .tup a ∧ db = .tup b
  · obtain ⟨a, b, rfl, rfl⟩ := ht
    have hg : R.when (decide (a.length + b.length ≤ sizeLine)) (.ok (.tup (a ++ b))) = .ok d := hg
    obtain ⟨h1, h2⟩ := R.when_ok hg
    cases h2
    have h1 := of_decide_eq_true h1
    have ra' := ra
    have rb' := rb
    obtain ⟨a1, xs1, rfl, l1, r1⟩ := Rep.tup.mp ra
    obtain ⟨a2, xs2, rfl, l2, r2⟩ := Rep.tup.mp rb
    cases rx
    cases ry
    obtain ⟨its, rv1, p1, _⟩ := I.tuple l1.sq
    obtain ⟨its2, rv2, p2, _⟩ := I.tuple l2.sq
    have e1 := rv1.length
    have e2 := rv2.length
    have e3 := r1.length
    have e4 := r2.length
    refine catT_any p1 p2 (fun z => ⟨.ref a2, H, I, rfl, Same.refl H, ?_⟩) (fun _ z => ⟨.ref a1, H, I, rfl, Same.refl H, ?_⟩) (fun _ _ => ?_) (by omega)
    · obtain rfl : a = [] := List.eq_nil_of_length_eq_zero (by rw [e3, e1, z]; rfl)
      exact rb'
    · obtain rfl : b = [] := List.eq_nil_of_length_eq_zero (by rw [e4, e2, z]; rfl)
      rw [List.append_nil]; exact ra'
    · have hp : H s.heap.objs.size = none := I.hok.fresh (Nat.le_refl _)
      refine ⟨.ref s.heap.objs.size, _, I.laid (t' := s.toks) (o := .tup (xs1 ++ xs2)) (fun b ob q => Heap.get?_push_of_some _ q) (Nat.le_refl _) ⟨by rw [List.length_append]; omega, _, rv1.append rv2, IsTup.new _ _⟩, rfl, same_upd hp, Rep.tup.mpr ⟨_, _, rfl, TpF.fresh hb hp, (r1.append r2).same (same_upd hp)⟩⟩
  · have hg : dAdd da db = .ok d := by
      unfold dAddX at hg
      split at hg
      · exact absurd ⟨_, _, rfl, rfl⟩ ht
      · exact hg
    exact o_add pins s σ H B da db d x y v u I hb rx ry ra rb hg
def itEnumG (f : FD) : DEnv → R (List D) := fun δ => (f δ).bind fun d => match d with | .lst ds => .ok (enumD ds) | .tup ds => .ok (enumD ds) | _ => .no
/-! reversed of a list -/
def Itv (K : PySem.W.Frag) (a : Addr) (n : Nat) : It :=
  ⟨fun i H => ∃ xs x, SqL K H a xs ∧ xs.length = n ∧ i < n ∧ xs[n - 1 - i]? = some x, fun i H v H' => H' = H ∧ ∀ xs, SqL K H a xs → xs[n - 1 - i]? = some v, fun i H => (∃ xs, SqL K H a xs) ∧ i = n⟩
def itRev (f : FD) : DEnv → R (List D) := fun δ => (f δ).bind fun d => match d with | .lst ds => .ok ds.reverse | _ => .no
/-- a method of the text; its making def -/
def DefM (K : PySem.W.Frag) (C : Addr) (m qual : Str) (st : Stmt) : Prop := ∃ f fd, Fun K m qual st f fd ∧ Meth K C m f
def DefI (K : PySem.W.Frag) (C : Addr) (m qual : Str) (st : Stmt) : Prop := ∃ f fd, Fun K m qual st f fd ∧ Mk K C f
end
end L2
namespace L3
open PySem PySem.Spec PyProof.Rows L2
section
variable {X : Cx} {cl : Nat → Addr}
end
end L3

end
section
set_option maxRecDepth 100000
set_option maxHeartbeats 4000000
/-! ## list(range(..)), xs[::-1] (own) -/
namespace L2
open PySem PySem.Spec PyProof.Rows
section
variable {X : Cx}
def nRng (f : FD) : DEnv → R (List D) := fun δ => (f δ).bind fun d => match d with | .int j => R.when (decide (-(2 ^ 62) ≤ j ∧ j < 16777216)) (.ok (rngD 0 j.toNat)) | _ => .no
theorem qpn_rng {a : Expr} {f : FD} {p p2 pos pos2 : Pos} (hc : X.calm = true) (h : QD X a f) (hg : Gl X "list") (hm : X.mg "list" = none) (hg2 : Gl X "range") (hm2 : X.mg "range" = none) (hs : starEach [a] X.env = [(false, eval a X.env)] := by rfl)
    (hs2 : starEach [.Call (.Name "range" p2) [a] [] pos2] X.env = (false, eval (.Call (.Name "range" p2) [a] [] pos2) X.env) :: starEach [] X.env := by rfl) (hpl : (backTo pos (starEach [] X.env)).any (·.1) = false := by rfl) :
    QN X (.Call (.Name "list" p) [.Call (.Name "range" p2) [a] [] pos2] [] pos) (nRng f) := by
  refine ⟨?_⟩
  intro pins s σ H Q I ⟨Z, B, δ, ds, E, hf, q⟩
  obtain ⟨d1, h1, h2⟩ := R.bind_ok hf
  have key : ∃ j : Int, d1 = .int j ∧ -(2 ^ 62) ≤ j ∧ j < 16777216 ∧ ds = rngD 0 j.toNat := by
    split at h2
    · obtain ⟨h3, h4⟩ := R.when_ok h2
      cases h4
      have h3 := of_decide_eq_true h3
      exact ⟨_, rfl, h3.1, h3.2, rfl⟩
    · cases h2
  obtain ⟨j, rfl, hj1, hj2, rfl⟩ := key
  refine wpAny_Call_Name_kw (ld_blt I hg hm boot_list ?_ (by decide) (by decide))
  refine PyProof.Rows.callWith_type1 ?_ hs2 hpl
  rw [hs2]
  show wpAny _ _ (spliced ((false, eval (.Call (.Name "range" p2) [a] [] pos2) X.env) :: backTo pos (starEach [] X.env))) _ _ s
  refine Calls.spliced_cons ?_
  have hA := pa_cons h.1 pa_nil hs pos2 pins s σ H (fun vs H1 => Same H H1 ∧ vs = [.int j]) I ⟨Z, B, δ, .int j, E, h1, fun v H1 s1 r1 => ⟨s1, by rw [Rep.int.mp r1]⟩⟩
  refine Call_ (ld_blt I hg2 hm2 boot_range (PyProof.Rows.callWith_type1 (thn hA fun us s1 ⟨vs, H1, I1, r1, ss, ev⟩ => ?_) hs rfl))
  subst ev
  obtain ⟨u, rfl, ru⟩ := vals1 r1
  obtain ⟨t, rfl⟩ := ru
  refine call_range_1 ?_
  have I2 : Inv X pins σ H1 { s1 with heap := s1.heap.push { cls := .type "range", data := .fields #[.int 0 s1.toks, .int j t, .int 1 (s1.toks + 1)] }, toks := s1.toks + 1 + 1 } := I1.kept fun b o e => Heap.get?_push_of_some _ e
  refine Calls.spliced_nil ?_
  have hsz : Builtin.Range.rangeSize 0 j 1 = (j.toNat : Nat) := by rw [rangeSize_one]; split <;> omega
  have hz : sizeLine = 16777216 := sizeLine_eq
  refine call_list_range (n := j.toNat) (I2.ok.hd hc) (IsRange.new ..) (small_one (by omega) (by omega) (by omega) (by omega)) hsz (by omega) fun h' tk acc c' hk hget hacc => ?_
  have rv := items_vals hacc
  have hle : ((List.range j.toNat).map fun (i : Nat) => V.int (0 + (i : Int))).length ≤ sizeLine := by rw [List.length_map, List.length_range]; omega
  have hf' : H1 (s1.heap.push { cls := .type "range", data := .fields #[.int 0 s1.toks, .int j t, .int 1 (s1.toks + 1)] }).objs.size = none := I2.hok.fresh (Nat.le_refl _)
  have I4 := I2.laid (o := .lst ((List.range j.toNat).map fun (i : Nat) => V.int (0 + (i : Int)))) (h' := h') (t' := tk) hk (Nat.le_refl _) (show ObjOk X.prog X.w _ _ _ (.lst _) from ⟨hle, acc.toList, c', rv, by simpa using hget⟩)
  exact ⟨.ref _, _, I4, rfl, q _ _ _ (ss.trans (same_upd hf')) (ss.free hf') upd_same (rng_reps _)⟩
/-! xs[::-1] -/
def eRev (f : FD) : FD := fun δ => (f δ).bind fun d => match d with | .lst ds => .ok (.lst ds.reverse) | _ => .no
theorem Reps.rev {K : PySem.W.Frag} {B : List Addr} {H : Hp} : ∀ {ds : List D} {xs : List V}, Reps K B H ds xs → Reps K B H ds.reverse xs.reverse
  | [], xs, r => by unfold Reps at r; subst r; exact Reps.nil
  | d :: ds, xs, r => by
    obtain ⟨x, q, rfl, r1, r2⟩ := r.uncons
    rw [List.reverse_cons, List.reverse_cons]
    exact r2.rev.append (Reps.cons r1 Reps.nil)
theorem Vals.rev : ∀ {xs : List V} {us : List Value}, Vals xs us → Vals xs.reverse us.reverse
  | [], us, r => by cases r; exact .nil
  | x :: xs, us, r => by
    cases r with
    | cons r t =>
      rw [List.reverse_cons, List.reverse_cons]
      exact (Vals.rev t).append (.cons r .nil)
theorem qpd_rev {e step : Expr} {f : FD} {p2 pos : Pos} (he : QD X e f) (hst : QP X (some step) (oSome (eNeg (eC (.int 1))))) : QD X (.Subscript e (.Slice none none (some step) p2) pos) (eRev f) := by
  refine ⟨?_⟩
  intro pins s σ H Q I ⟨Z, B, δ, d, E, hf, q⟩
  obtain ⟨d1, h1, h2⟩ := R.bind_ok hf
  cases d1 with
  | lst es =>
    cases h2
    refine Subscript_ (thn (he.1 pins s σ H (fun x H1 => Same H H1 ∧ Rep X.K B H1 (.lst es) x) I ⟨Z, B, δ, .lst es, E, h1, fun v H1 s1 r1 => ⟨s1, r1⟩⟩) fun v s1 ⟨x, H1, I1, r1, s01, rr⟩ => ?_)
    refine wpAny_Slice ?_
    rw [evalPart_none]
    refine wpAny_pure ?_
    refine wpAny_pure ?_
    refine thn (hst.1 pins s1 σ H1 (fun o H2 => Same H1 H2 ∧ o = some (-1)) I1 ⟨Z, B, δ, some (-1), E.same s01, rfl, fun H2 s2 => ⟨s2, rfl⟩⟩) fun vk s2 ⟨o, H2, I2, pk, s12, eo⟩ => ?_
    subst eo
    obtain ⟨a, xs, rfl, ls, rs⟩ := Rep.lst.mp (rr.same s12)
    cases r1
    have I3 : Inv X pins σ H2 { s2 with heap := s2.heap.push { cls := .type "slice", data := .fields #[.none, .none, vk] } } := I2.kept (t' := s2.toks) fun b ob q => Heap.get?_push_of_some _ q
    obtain ⟨its, r, ht, hz⟩ := I3.list ls.sq
    show wpAny (model X.prog X.w) X.A (subscriptTail e (.Slice none none (some step) p2) (.ref a) (.ref s2.heap.objs.size)) (EP X pins σ Q) X.xe { s2 with heap := s2.heap.push { cls := .type "slice", data := .fields #[.none, .none, vk] } }
    refine tail_any (ops := [.ref a, .ref s2.heap.objs.size]) ht.isList.typeIs slot_list_getitem.lookup ?_ (by with_unfolding_all rfl)
    have hlen := r.length
    refine wpAny_getItem_list_slice ht.isList (Heap.IsSliceOf.new ..) .none .none pk (by decide) ?_ (by rw [List.size_toArray] <;> omega)
    rw [PySem.W.krv_pick]
    have hp : H2 (s2.heap.push { cls := .type "slice", data := .fields #[.none, .none, vk] }).objs.size = none := I3.hok.fresh (Nat.le_refl _)
    refine ⟨.ref _, _, I3.laid (t' := s2.toks) (o := .lst xs.reverse) (fun b ob q => Heap.get?_push_of_some _ q) (Nat.le_refl _) ?_, rfl, q _ _ ((s01.trans s12).trans (same_upd hp)) (Rep.lst.mpr ⟨_, _, rfl, .of_new upd_same fun ha => ?_, (rs.rev).same (same_upd hp)⟩)⟩
    · exact ⟨by rw [List.length_reverse]; exact hz, _, 0, r.rev, Heap.get?_push_size _ rfl⟩
    · obtain ⟨o, ho⟩ := (E.same (s01.trans s12)).bs _ ha
      rw [hp] at ho; cases ho
  | _ => cases h2
end
end L2

end
section
set_option maxRecDepth 100000
set_option maxHeartbeats 4000000
/-! ## NETS: what the laws' nets are (own) -/
namespace NT
def mx (f : Nat → Nat) (w : List Nat) : Nat := (w.map f).foldl max 0
/-- the places of a walk backwards: what is known of the behinds, all of them; M: how deep -/
structure BA (f : Nat → Nat) (M : Nat) (bs : List Int) : Prop where
  a : ∀ (z : Nat) (v : Int), bs[z]? = some v → v = -1 ∨ (0 ≤ v ∧ v + f z ≤ M)
def BB (f : Nat → Nat) (M : Nat) (bs : List Int) (n : Nat) : Prop := ∃ (z : Nat) (v : Int), z < n ∧ bs[z]? = some v ∧ 0 ≤ v ∧ (M : Int) ≤ v + f z
/-- no place falls -/
def Up (bs bs' : List Int) : Prop := bs'.length = bs.length ∧ ∀ (z : Nat) (v : Int), bs[z]? = some v → ∃ v', bs'[z]? = some v' ∧ v ≤ v'
end NT
namespace NT
open PySem PySem.Spec PyProof.Rows L2 L3
structure Gt where
  k : Str
  w : List Nat
  s : Bool
def nN (z : Nat) : D := .int z
def wN (w : List Nat) : D := .tup (w.map nN)
def gN (g : Gt) : D := .tup [.str g.k, wN g.w, .bl g.s]
def iN (x : Str × Nat) : D := .tup [.str x.1, .int x.2]
def oN (x : Str × List Nat) : D := .tup [.str x.1, wN x.2]
structure Net where
  i : List (Str × Nat)
  g : List Gt
  o : List (Str × List Nat)
def Net.d (n : Net) : D := .tup [.lst (n.i.map iN), .lst (n.g.map gN), .lst (n.o.map oN)]
def Net.first (n : Net) : Nat := (n.i.map (·.2)).sum
structure WOk (n : Nat) (w : List Nat) : Prop where
  ne : w ≠ []
  le : w.length ≤ 3
  lt : ∀ z ∈ w, z < n
structure Net.Ok (n : Net) : Prop where
  i1 : 1 ≤ n.i.length
  i6 : n.i.length ≤ 6
  iw : ∀ x ∈ n.i, 1 ≤ x.2 ∧ x.2 ≤ 3
  is : ∀ x ∈ n.i, Fit 0 (.str x.1)
  g60 : n.g.length ≤ 60
  gw : ∀ (p : Nat) (g : Gt), n.g[p]? = some g → WOk (n.first + p) g.w
  gs : ∀ g ∈ n.g, Fit 0 (.str g.k)
  o1 : 1 ≤ n.o.length
  o6 : n.o.length ≤ 6
  ow : ∀ x ∈ n.o, WOk (n.first + n.g.length) x.2
  os : ∀ x ∈ n.o, Fit 0 (.str x.1)
/-- a datum held against itself by the laws' own words -/
inductive Sm : Nat → D → Prop where
  | int (n : Nat) (i : Int) : Sm n (.int i)
  | bl (n : Nat) (b : Bool) : Sm n (.bl b)
  | str (n : Nat) (s : Str) : Sm n (.str s)
  | lst {n : Nat} {ds : List D} (h : ∀ d ∈ ds, Sm n d) (hl : ds.length ≤ 1000000) : Sm (n + 1) (.lst ds)
  | tup {n : Nat} {ds : List D} (h : ∀ d ∈ ds, Sm n d) (hl : ds.length ≤ 1000000) : Sm (n + 1) (.tup ds)
theorem map_at {α : Type} {l : List α} {f : α → D} {i : Nat} {v : V3} (h : ((l.map f).map V3.d)[i]? = some v) : ∃ x, l[i]? = some x ∧ v = .d (f x) := by
  rw [List.getElem?_map, List.getElem?_map] at h
  cases q : l[i]? with
  | none => rw [q] at h; cases h
  | some x => rw [q] at h; cases h; exact ⟨x, rfl, rfl⟩
theorem map_atD {α : Type} {l : List α} {f : α → D} {i : Nat} {v : D} (h : (l.map f)[i]? = some v) : ∃ x, l[i]? = some x ∧ v = f x := by
  rw [List.getElem?_map] at h
  cases q : l[i]? with
  | none => rw [q] at h; cases h
  | some x => rw [q] at h; cases h; exact ⟨x, rfl, rfl⟩
theorem compL_list {α : Type} {t : FT} {c : DEnv → R Bool} {f : FD} {δ : DEnv} (a b : α → D) : ∀ {xs : List α}, (∀ x ∈ xs, ∃ δ1, t (a x) δ = .ok δ1 ∧ c δ1 = .ok true ∧ f δ1 = .ok (b x)) → compL t c f δ (xs.map a) = .ok (xs.map b)
  | [], _ => rfl
  | x :: xs, h => by
    obtain ⟨δ1, h1, h2, h3⟩ := h x List.mem_cons_self
    have ih := compL_list (t := t) (c := c) (f := f) (δ := δ) a b (xs := xs) fun y hy => h y (List.mem_cons_of_mem _ hy)
    rw [List.map_cons]
    unfold compL
    rw [h1, R.ok_bind, h2, R.ok_bind, if_pos rfl, h3, R.ok_bind, ih]
    rfl
theorem ixN_nat {n z : Nat} (h : z < n) : ixN n (z : Int) = some z := by
  unfold ixN
  rw [if_pos (by omega), if_pos (by omega)]
  simp
theorem atI_nat' {α : Type} {xs : List α} {z : Nat} {x : α} (h : xs[z]? = some x) : atI xs (z : Int) = some x := by
  have hl := (List.getElem?_eq_some_iff.mp h).1
  unfold atI
  rw [ixN_nat hl]
  exact h
theorem ixL_nat {ds : List D} {z : Nat} {x : D} (h : ds[z]? = some x) : ixD (.lst ds) (.int z) = .ok x := ixL_of (atI_nat' h)
end NT

end
section
set_option Elab.async false
set_option linter.all false
set_option maxRecDepth 100000
set_option maxHeartbeats 4000000
namespace K12
open PySem PySem.Spec PyProof.Rows L2 L3
def cl0 : Nat → Addr := fun _ => 0
/-! ### the text by places -/
def top (i : Nat) : Stmt := PySem.Challenge.pw_bearfaults_k12_whole_turned_is_a_not.main.body.getD i (.Pass ⟨0, 0, 0, 0⟩)
structure Tp (K : PySem.W.Frag) (mg : Str → Option Value) : Prop where
  z_enumerate : mg (Str.ofString "enumerate") = none
  z_range : mg (Str.ofString "range") = none
  z_len : mg (Str.ofString "len") = none
  z_tuple : mg (Str.ofString "tuple") = none
  z_abs : mg (Str.ofString "abs") = none
  z_min : mg (Str.ofString "min") = none
  z_sum : mg (Str.ofString "sum") = none
  z_sorted : mg (Str.ofString "sorted") = none
  z_list : mg (Str.ofString "list") = none
  z_int : mg (Str.ofString "int") = none
/-! ### vote_of -/
abbrev s_vote_of : Stmt := top 1
abbrev N_vote_of : List Str := [(Str.ofString "masks")]
def bd_vote_of : {b : List Stmt // defBody s_vote_of = b} := by
  have e : defBody s_vote_of = defBody s_vote_of := rfl
  conv at e => rhs; whnf
  exact ⟨_, e⟩
def sc_vote_of : {b : Scope // defScope s_vote_of = b} := by
  have e : defScope s_vote_of = defScope s_vote_of := rfl
  conv at e => rhs; whnf
  exact ⟨_, e⟩
theorem S_vote_of : FnScope N_vote_of [(Str.ofString "masks")] sc_vote_of.1 := ⟨rfl, rfl, rfl, by decide +kernel, rfl, by decide +kernel, by decide +kernel⟩
def F_vote_of : FS := (sRet (e2 dBo (e2 dBo (e2 dBa (e2 ixD (eVar 0) (eC (.int 0))) (e2 ixD (eVar 0) (eC (.int 1)))) (e2 dBa (e2 ixD (eVar 0) (eC (.int 0))) (e2 ixD (eVar 0) (eC (.int 2))))) (e2 dBa (e2 ixD (eVar 0) (eC (.int 1))) (e2 ixD (eVar 0) (eC (.int 2))))))
def d_vote_of : List D → R D := fnD N_vote_of F_vote_of
theorem c_vote_of {P : Program} {w : World} {K : PySem.W.Frag} {mg : Str → Option Value} {base : Heap} (T : Tp K mg) (h : Def K mg (Str.ofString "vote_of") s_vote_of)  : Callee P w K mg base 1 (Str.ofString "vote_of") 1 d_vote_of := by
  obtain ⟨f, fd, F, hm⟩ := h
  exact ⟨f, fd, _, qfn_pureB (k := 0) bd_vote_of.2 sc_vote_of.2 F S_vote_of (fun cdv A outer s H E hr => (qpds_one (qpds_ret (qpd_op o_bo (qpd_op o_bo (qpd_op o_ba (qpd_ix (qpd_var 0) qpd_int (fun _ _ => rfl)) (qpd_ix (qpd_var 0) qpd_int (fun _ _ => rfl))) (qpd_op o_ba (qpd_ix (qpd_var 0) qpd_int (fun _ _ => rfl)) (qpd_ix (qpd_var 0) qpd_int (fun _ _ => rfl)))) (qpd_op o_ba (qpd_ix (qpd_var 0) qpd_int (fun _ _ => rfl)) (qpd_ix (qpd_var 0) qpd_int (fun _ _ => rfl))))))), hm, F.kp, F.binds fun _ _ _ _ _ _ us hl => match us, hl with | [_], _ => rfl⟩
/-! ### gate_mask -/
abbrev s_gate_mask : Stmt := top 2
abbrev N_gate_mask : List Str := [(Str.ofString "kind"), (Str.ofString "masks"), (Str.ofString "full")]
def bd_gate_mask : {b : List Stmt // defBody s_gate_mask = b} := by
  have e : defBody s_gate_mask = defBody s_gate_mask := rfl
  conv at e => rhs; whnf
  exact ⟨_, e⟩
def sc_gate_mask : {b : Scope // defScope s_gate_mask = b} := by
  have e : defScope s_gate_mask = defScope s_gate_mask := rfl
  conv at e => rhs; whnf
  exact ⟨_, e⟩
theorem S_gate_mask : FnScope N_gate_mask [(Str.ofString "kind"), (Str.ofString "masks"), (Str.ofString "full")] sc_gate_mask.1 := ⟨rfl, rfl, rfl, by decide +kernel, rfl, by decide +kernel, by decide +kernel⟩
def F_gate_mask : FS := (sSeq (sIf (b2 dEq (eVar 0) (eC (.str (Str.ofString "not")))) (sRet (e2 dBx (eVar 2) (e2 ixD (eVar 1) (eC (.int 0))))) sNil) (sSeq (sIf (b2 dEq (eVar 0) (eC (.str (Str.ofString "and")))) (sRet (e2 dBa (e2 ixD (eVar 1) (eC (.int 0))) (e2 ixD (eVar 1) (eC (.int 1))))) sNil) (sSeq (sIf (b2 dEq (eVar 0) (eC (.str (Str.ofString "or")))) (sRet (e2 dBo (e2 ixD (eVar 1) (eC (.int 0))) (e2 ixD (eVar 1) (eC (.int 1))))) sNil) (sSeq (sIf (b2 dEq (eVar 0) (eC (.str (Str.ofString "xor")))) (sRet (e2 dBx (e2 ixD (eVar 1) (eC (.int 0))) (e2 ixD (eVar 1) (eC (.int 1))))) sNil) (sRet (eCall d_vote_of (aCons (eVar 1) aNil)))))))
def d_gate_mask : List D → R D := fnD N_gate_mask F_gate_mask
theorem c_gate_mask {P : Program} {w : World} {K : PySem.W.Frag} {mg : Str → Option Value} {base : Heap} (T : Tp K mg) (h : Def K mg (Str.ofString "gate_mask") s_gate_mask) (C_vote_of : Callee P w K mg base 1 (Str.ofString "vote_of") 1 d_vote_of) : Callee P w K mg base 2 (Str.ofString "gate_mask") 3 d_gate_mask := by
  obtain ⟨f, fd, F, hm⟩ := h
  exact ⟨f, fd, _, qfn_pureB (k := 1) bd_gate_mask.2 sc_gate_mask.2 F S_gate_mask (fun cdv A outer s H E hr => (qpds_cons (qpds_if (qpb_cmp (o_eq hr.units) (qpd_var 0) qpd_str (nomark _)) (qpds_one (qpds_ret (qpd_op o_bx (qpd_var 2) (qpd_ix (qpd_var 1) qpd_int (fun _ _ => rfl))))) qpds_nil) (qpds_cons (qpds_if (qpb_cmp (o_eq hr.units) (qpd_var 0) qpd_str (nomark _)) (qpds_one (qpds_ret (qpd_op o_ba (qpd_ix (qpd_var 1) qpd_int (fun _ _ => rfl)) (qpd_ix (qpd_var 1) qpd_int (fun _ _ => rfl))))) qpds_nil) (qpds_cons (qpds_if (qpb_cmp (o_eq hr.units) (qpd_var 0) qpd_str (nomark _)) (qpds_one (qpds_ret (qpd_op o_bo (qpd_ix (qpd_var 1) qpd_int (fun _ _ => rfl)) (qpd_ix (qpd_var 1) qpd_int (fun _ _ => rfl))))) qpds_nil) (qpds_cons (qpds_if (qpb_cmp (o_eq hr.units) (qpd_var 0) qpd_str (nomark _)) (qpds_one (qpds_ret (qpd_op o_bx (qpd_ix (qpd_var 1) qpd_int (fun _ _ => rfl)) (qpd_ix (qpd_var 1) qpd_int (fun _ _ => rfl))))) qpds_nil) (qpds_one (qpds_ret (qpd_callC C_vote_of hr (by decide) rfl (qpas_cons (qpd_var 1) qpas_nil) (alen_cons alen_nil))))))))), hm, F.kp, F.binds fun _ _ _ _ _ _ us hl => match us, hl with | [_, _, _], _ => rfl⟩
/-! ### in_wire_masks -/
abbrev s_in_wire_masks : Stmt := top 3
abbrev N_in_wire_masks : List Str := [(Str.ofString "ins"), (Str.ofString "in_masks"), (Str.ofString "full"), (Str.ofString "bad"), (Str.ofString "wires"), (Str.ofString "place"), (Str.ofString "mask"), (Str.ofString "figure")]
def bd_in_wire_masks : {b : List Stmt // defBody s_in_wire_masks = b} := by
  have e : defBody s_in_wire_masks = defBody s_in_wire_masks := rfl
  conv at e => rhs; whnf
  exact ⟨_, e⟩
def sc_in_wire_masks : {b : Scope // defScope s_in_wire_masks = b} := by
  have e : defScope s_in_wire_masks = defScope s_in_wire_masks := rfl
  conv at e => rhs; whnf
  exact ⟨_, e⟩
theorem S_in_wire_masks : FnScope N_in_wire_masks [(Str.ofString "ins"), (Str.ofString "in_masks"), (Str.ofString "full"), (Str.ofString "bad")] sc_in_wire_masks.1 := ⟨rfl, rfl, rfl, by decide +kernel, rfl, by decide +kernel, by decide +kernel⟩
def B_in_wire_masks_0 : FZ := (zApp 4 (xT (eIf (b2 dIn (eCall cLen (aCons (eVar 4) aNil)) (eVar 3)) (e2 dBx (eVar 2) (eVar 6)) (eVar 6))))
def B_in_wire_masks_1 : FZ := (zFor (iP (itRng1 (e2 ixD (e2 ixD (eVar 0) (eVar 5)) (eC (.int 1))))) (gNm 7) B_in_wire_masks_0)
def F_in_wire_masks : FZ := (zSeq (zSet 4 (xNew (nLst aNil))) (zSeq (zFor (iP (itEnumT (eVar 1))) (gTp 2 (gCn (gNm 5) (gCn (gNm 6) gNl))) B_in_wire_masks_1) (zRet (xVar 4))))
def dK_in_wire_masks : List V3 → Sto → R3 V3 := fnK N_in_wire_masks F_in_wire_masks
def dP_in_wire_masks : List V3 → Sto → R3 V3 := fnP N_in_wire_masks F_in_wire_masks
theorem c_in_wire_masks {P : Program} {w : World} {K : PySem.W.Frag} {mg : Str → Option Value} {base : Heap} (T : Tp K mg) (h : Def K mg (Str.ofString "in_wire_masks") s_in_wire_masks)  : CalleeX P w K mg base cl0 1 (Str.ofString "in_wire_masks") 4 dK_in_wire_masks := by
  obtain ⟨f, fd, F, hm⟩ := h
  exact ⟨f, fd, _, fn_keepB (k := 0) bd_in_wire_masks.2 sc_in_wire_masks.2 F S_in_wire_masks (fun cdv A outer s H E hr => (pzs_cons (pz_set S_in_wire_masks.nd rfl (Or.inl rfl) (px_new (qpn_lst qpas_nil))) (pzs_cons (pz_for PassesOwn.never rfl (pxi_pure (qpit_enumT (qpd_var 1) rfl T.z_enumerate)) (pxg_tup rfl (pxgs_cons (pxg_name S_in_wire_masks.nd rfl (Or.inl rfl)) (pxgs_cons (pxg_name S_in_wire_masks.nd rfl (Or.inl rfl)) pxgs_nil))) (pzs_one (pz_for PassesOwn.never rfl (pxi_pure (qpit_range1 (qpd_ix (qpd_ix (qpd_var 0) (qpd_var 5) (fun _ _ => rfl)) qpd_int (fun _ _ => rfl)) rfl T.z_range)) (pxg_name S_in_wire_masks.nd rfl (Or.inl rfl)) (pzs_one (pz_app rfl (Or.inl rfl) (px_thaw (qpd_if (qpb_cmp o_in (qpd_callB c_len rfl T.z_len PySem.boot_len (qpas_cons (qpd_var 4) qpas_nil)) (qpd_var 3) (by with_unfolding_all rfl)) (qpd_op o_bx (qpd_var 2) (qpd_var 6)) (qpd_var 6)))))))) (pzs_one (pz_ret (px_var 4)))))), hm, F.kp, F.binds fun _ _ _ _ _ _ us hl => match us, hl with | [_, _, _, _], _ => rfl⟩
/-! ### masks_at -/
abbrev s_masks_at : Stmt := top 4
abbrev N_masks_at : List Str := [(Str.ofString "wires"), (Str.ofString "numbers")]
def bd_masks_at : {b : List Stmt // defBody s_masks_at = b} := by
  have e : defBody s_masks_at = defBody s_masks_at := rfl
  conv at e => rhs; whnf
  exact ⟨_, e⟩
def sc_masks_at : {b : Scope // defScope s_masks_at = b} := by
  have e : defScope s_masks_at = defScope s_masks_at := rfl
  conv at e => rhs; whnf
  exact ⟨_, e⟩
theorem S_masks_at : FnScope N_masks_at [(Str.ofString "wires"), (Str.ofString "numbers")] sc_masks_at.1 := ⟨rfl, rfl, rfl, by decide +kernel, rfl, by decide +kernel, by decide +kernel⟩
def F_masks_at : FS := (sRet (eCall cTuple (aCons (eNew (nComp (itSeq (eVar 1)) (gNameD 0) cYes (e2 ixD (eVar 1) (eVar 0)) [(Str.ofString "number")] [0])) aNil)))
def d_masks_at : List D → R D := fnD N_masks_at F_masks_at
theorem c_masks_at {P : Program} {w : World} {K : PySem.W.Frag} {mg : Str → Option Value} {base : Heap} (T : Tp K mg) (h : Def K mg (Str.ofString "masks_at") s_masks_at)  : Callee P w K mg base 1 (Str.ofString "masks_at") 2 d_masks_at := by
  obtain ⟨f, fd, F, hm⟩ := h
  exact ⟨f, fd, _, qfn_pureB (k := 0) bd_masks_at.2 sc_masks_at.2 F S_masks_at (fun cdv A outer s H E hr => (qpds_one (qpds_ret (qpd_callTy c_tuple rfl T.z_tuple PyProof.Rows.boot_tuple (qpas_cons (qpd_new (qpn_comp rfl (CScope.of (own := [(Str.ofString "number")]) (kp := [0]) (kn := [(Str.ofString "wires")]) (sc := sc_masks_at.1) (N := N_masks_at) rfl rfl (by decide +kernel)) (qpit_seq (qpd_var 1)) (fun _ _ _ => (qptg_name (show List.Nodup [(Str.ofString "number"), (Str.ofString "wires")] from by decide +kernel) rfl (Or.inl rfl))) (fun _ _ _ => qpifs_yes) (fun _ _ _ => (qpd_ix (qpd_var 1) (qpd_var 0) (fun _ _ => rfl))))) qpas_nil))))), hm, F.kp, F.binds fun _ _ _ _ _ _ us hl => match us, hl with | [_, _], _ => rfl⟩
/-! ### wire_masks -/
abbrev s_wire_masks : Stmt := top 5
abbrev N_wire_masks : List Str := [(Str.ofString "net"), (Str.ofString "in_masks"), (Str.ofString "full"), (Str.ofString "turned"), (Str.ofString "bad"), (Str.ofString "wires"), (Str.ofString "place"), (Str.ofString "gate"), (Str.ofString "mask")]
def bd_wire_masks : {b : List Stmt // defBody s_wire_masks = b} := by
  have e : defBody s_wire_masks = defBody s_wire_masks := rfl
  conv at e => rhs; whnf
  exact ⟨_, e⟩
def sc_wire_masks : {b : Scope // defScope s_wire_masks = b} := by
  have e : defScope s_wire_masks = defScope s_wire_masks := rfl
  conv at e => rhs; whnf
  exact ⟨_, e⟩
theorem S_wire_masks : FnScope N_wire_masks [(Str.ofString "net"), (Str.ofString "in_masks"), (Str.ofString "full"), (Str.ofString "turned"), (Str.ofString "bad")] sc_wire_masks.1 := ⟨rfl, rfl, rfl, by decide +kernel, rfl, by decide +kernel, by decide +kernel⟩
def B_wire_masks_0 : FZ := (zSeq (zSet 8 (xT (eCall d_gate_mask (aCons (e2 ixD (eVar 7) (eC (.int 0))) (aCons (eCall d_masks_at (aCons (eVar 5) (aCons (e2 ixD (eVar 7) (eC (.int 1))) aNil))) (aCons (eVar 2) aNil)))))) (zApp 5 (xP (eIf (b2 dIn (eVar 6) (eVar 3)) (e2 dBx (eVar 2) (eVar 8)) (eVar 8)))))
def F_wire_masks : FZ := (zSeq (zSet 5 (xCall dK_in_wire_masks (xCons (xP (e2 ixD (eVar 0) (eC (.int 0)))) (xCons (xP (eVar 1)) (xCons (xP (eVar 2)) (xCons (xP (eVar 4)) xNil)))))) (zSeq (zFor (iP (itEnum (e2 ixD (eVar 0) (eC (.int 1))))) (gTp 2 (gCn (gNm 6) (gCn (gNm 7) gNl))) B_wire_masks_0) (zRet (xVar 5))))
def dK_wire_masks : List V3 → Sto → R3 V3 := fnK N_wire_masks F_wire_masks
def dP_wire_masks : List V3 → Sto → R3 V3 := fnP N_wire_masks F_wire_masks
theorem c_wire_masks {P : Program} {w : World} {K : PySem.W.Frag} {mg : Str → Option Value} {base : Heap} (T : Tp K mg) (h : Def K mg (Str.ofString "wire_masks") s_wire_masks) (C_masks_at : Callee P w K mg base 1 (Str.ofString "masks_at") 2 d_masks_at) (C_gate_mask : Callee P w K mg base 2 (Str.ofString "gate_mask") 3 d_gate_mask) (XK_in_wire_masks : CalleeX P w K mg base cl0 1 (Str.ofString "in_wire_masks") 4 dK_in_wire_masks) : CalleeX P w K mg base cl0 3 (Str.ofString "wire_masks") 5 dK_wire_masks := by
  obtain ⟨f, fd, F, hm⟩ := h
  exact ⟨f, fd, _, fn_keepB (k := 2) bd_wire_masks.2 sc_wire_masks.2 F S_wire_masks (fun cdv A outer s H E hr => (pzs_cons (pz_set S_wire_masks.nd rfl (Or.inl rfl) (px_call XK_in_wire_masks hr (by decide) rfl (pxa_cons (px_pure (qpd_ix (qpd_var 0) qpd_int (fun _ _ => rfl))) (pxa_cons (px_pure (qpd_var 1)) (pxa_cons (px_pure (qpd_var 2)) (pxa_cons (px_pure (qpd_var 4)) pxa_nil)))) (xlen_cons (xlen_cons (xlen_cons (xlen_cons xlen_nil)))))) (pzs_cons (pz_for PassesOwn.never rfl (pxi_pure (qpit_enum (qpd_ix (qpd_var 0) qpd_int (fun _ _ => rfl)) rfl T.z_enumerate)) (pxg_tup rfl (pxgs_cons (pxg_name S_wire_masks.nd rfl (Or.inl rfl)) (pxgs_cons (pxg_name S_wire_masks.nd rfl (Or.inl rfl)) pxgs_nil))) (pzs_cons (pz_set S_wire_masks.nd rfl (Or.inl rfl) (px_thaw (qpd_callC C_gate_mask hr (by decide) rfl (qpas_cons (qpd_ix (qpd_var 7) qpd_int (fun _ _ => rfl)) (qpas_cons (qpd_callC C_masks_at hr (by decide) rfl (qpas_cons (qpd_var 5) (qpas_cons (qpd_ix (qpd_var 7) qpd_int (fun _ _ => rfl)) qpas_nil)) (alen_cons (alen_cons alen_nil))) (qpas_cons (qpd_var 2) qpas_nil))) (alen_cons (alen_cons (alen_cons alen_nil)))))) (pzs_one (pz_app rfl (Or.inl rfl) (px_pure (qpd_if (qpb_cmp o_in (qpd_var 6) (qpd_var 3) (by with_unfolding_all rfl)) (qpd_op o_bx (qpd_var 2) (qpd_var 8)) (qpd_var 8))))))) (pzs_one (pz_ret (px_var 5)))))), hm, F.kp, F.binds fun _ _ _ _ _ _ us hl => match us, hl with | [_, _, _, _, _], _ => rfl⟩
/-! ### out_masks -/
abbrev s_out_masks : Stmt := top 6
abbrev N_out_masks : List Str := [(Str.ofString "net"), (Str.ofString "wires")]
def bd_out_masks : {b : List Stmt // defBody s_out_masks = b} := by
  have e : defBody s_out_masks = defBody s_out_masks := rfl
  conv at e => rhs; whnf
  exact ⟨_, e⟩
def sc_out_masks : {b : Scope // defScope s_out_masks = b} := by
  have e : defScope s_out_masks = defScope s_out_masks := rfl
  conv at e => rhs; whnf
  exact ⟨_, e⟩
theorem S_out_masks : FnScope N_out_masks [(Str.ofString "net"), (Str.ofString "wires")] sc_out_masks.1 := ⟨rfl, rfl, rfl, by decide +kernel, rfl, by decide +kernel, by decide +kernel⟩
def F_out_masks : FZ := (zRet (xNew (nComp (itSeq (e2 ixD (eVar 0) (eC (.int 2)))) (gTupD 2 (gConsD (gNameD 0) (gConsD (gNameD 1) gNilD))) cYes (eCall d_masks_at (aCons (eVar 2) (aCons (eVar 1) aNil))) [(Str.ofString "name"), (Str.ofString "numbers")] [1])))
def dK_out_masks : List V3 → Sto → R3 V3 := fnK N_out_masks F_out_masks
def dP_out_masks : List V3 → Sto → R3 V3 := fnP N_out_masks F_out_masks
theorem c_out_masks {P : Program} {w : World} {K : PySem.W.Frag} {mg : Str → Option Value} {base : Heap} (T : Tp K mg) (h : Def K mg (Str.ofString "out_masks") s_out_masks) (C_masks_at : Callee P w K mg base 1 (Str.ofString "masks_at") 2 d_masks_at) : CalleeX P w K mg base cl0 2 (Str.ofString "out_masks") 2 dK_out_masks := by
  obtain ⟨f, fd, F, hm⟩ := h
  exact ⟨f, fd, _, fn_keepB (k := 1) bd_out_masks.2 sc_out_masks.2 F S_out_masks (fun cdv A outer s H E hr => (pzs_one (pz_ret (px_new (qpn_comp rfl (CScope.of (own := [(Str.ofString "name"), (Str.ofString "numbers")]) (kp := [1]) (kn := [(Str.ofString "wires")]) (sc := sc_out_masks.1) (N := N_out_masks) rfl rfl (by decide +kernel)) (qpit_seq (qpd_ix (qpd_var 0) qpd_int (fun _ _ => rfl))) (fun _ _ _ => (qptg_tup rfl (qptgs_cons (qptg_name (show List.Nodup [(Str.ofString "name"), (Str.ofString "numbers"), (Str.ofString "wires")] from by decide +kernel) rfl (Or.inl rfl)) (qptgs_cons (qptg_name (show List.Nodup [(Str.ofString "name"), (Str.ofString "numbers"), (Str.ofString "wires")] from by decide +kernel) rfl (Or.inl rfl)) qptgs_nil)))) (fun _ _ _ => qpifs_yes) (fun _ _ _ => (qpd_callC C_masks_at hr (by decide) rfl (qpas_cons (qpd_var 2) (qpas_cons (qpd_var 1) qpas_nil)) (alen_cons (alen_cons alen_nil))))))))), hm, F.kp, F.binds fun _ _ _ _ _ _ us hl => match us, hl with | [_, _], _ => rfl⟩
/-! ### run -/
abbrev s_run : Stmt := top 7
abbrev N_run : List Str := [(Str.ofString "net"), (Str.ofString "bits"), (Str.ofString "turned"), (Str.ofString "bad")]
def bd_run : {b : List Stmt // defBody s_run = b} := by
  have e : defBody s_run = defBody s_run := rfl
  conv at e => rhs; whnf
  exact ⟨_, e⟩
def sc_run : {b : Scope // defScope s_run = b} := by
  have e : defScope s_run = defScope s_run := rfl
  conv at e => rhs; whnf
  exact ⟨_, e⟩
theorem S_run : FnScope N_run [(Str.ofString "net"), (Str.ofString "bits"), (Str.ofString "turned"), (Str.ofString "bad")] sc_run.1 := ⟨rfl, rfl, rfl, by decide +kernel, rfl, by decide +kernel, by decide +kernel⟩
def F_run : FZ := (zRet (xCall dK_out_masks (xCons (xP (eVar 0)) (xCons (xCall dP_wire_masks (xCons (xP (eVar 0)) (xCons (xP (eVar 1)) (xCons (xP (eC (.int 1))) (xCons (xP (eVar 2)) (xCons (xP (eVar 3)) xNil)))))) xNil))))
def dK_run : List V3 → Sto → R3 V3 := fnK N_run F_run
def dP_run : List V3 → Sto → R3 V3 := fnP N_run F_run
theorem c_run {P : Program} {w : World} {K : PySem.W.Frag} {mg : Str → Option Value} {base : Heap} (T : Tp K mg) (h : Def K mg (Str.ofString "run") s_run) (XK_out_masks : CalleeX P w K mg base cl0 2 (Str.ofString "out_masks") 2 dK_out_masks) (XP_wire_masks : CalleeX P w K mg base cl0 3 (Str.ofString "wire_masks") 5 dP_wire_masks) : CalleeX P w K mg base cl0 4 (Str.ofString "run") 4 dK_run := by
  obtain ⟨f, fd, F, hm⟩ := h
  exact ⟨f, fd, _, fn_keepB (k := 3) bd_run.2 sc_run.2 F S_run (fun cdv A outer s H E hr => (pzs_one (pz_ret (px_call XK_out_masks hr (by decide) rfl (pxa_cons (px_pure (qpd_var 0)) (pxa_cons (px_call XP_wire_masks hr (by decide) rfl (pxa_cons (px_pure (qpd_var 0)) (pxa_cons (px_pure (qpd_var 1)) (pxa_cons (px_pure qpd_int) (pxa_cons (px_pure (qpd_var 2)) (pxa_cons (px_pure (qpd_var 3)) pxa_nil))))) (xlen_cons (xlen_cons (xlen_cons (xlen_cons (xlen_cons xlen_nil)))))) pxa_nil)) (xlen_cons (xlen_cons xlen_nil)))))), hm, F.kp, F.binds fun _ _ _ _ _ _ us hl => match us, hl with | [_, _, _, _], _ => rfl⟩
/-! ### law_cell_at -/
abbrev s_law_cell_at : Stmt := top 9
abbrev N_law_cell_at : List Str := [(Str.ofString "script"), (Str.ofString "k")]
def bd_law_cell_at : {b : List Stmt // defBody s_law_cell_at = b} := by
  have e : defBody s_law_cell_at = defBody s_law_cell_at := rfl
  conv at e => rhs; whnf
  exact ⟨_, e⟩
def sc_law_cell_at : {b : Scope // defScope s_law_cell_at = b} := by
  have e : defScope s_law_cell_at = defScope s_law_cell_at := rfl
  conv at e => rhs; whnf
  exact ⟨_, e⟩
theorem S_law_cell_at : FnScope N_law_cell_at [(Str.ofString "script"), (Str.ofString "k")] sc_law_cell_at.1 := ⟨rfl, rfl, rfl, by decide +kernel, rfl, by decide +kernel, by decide +kernel⟩
def F_law_cell_at : FS := (sSeq (sIf (b2 dLt (eVar 1) (eCall cLen (aCons (eVar 0) aNil))) (sRet (e2 ixD (eVar 0) (eVar 1))) sNil) (sRet (eC (.int 0))))
def d_law_cell_at : List D → R D := fnD N_law_cell_at F_law_cell_at
theorem c_law_cell_at {P : Program} {w : World} {K : PySem.W.Frag} {mg : Str → Option Value} {base : Heap} (T : Tp K mg) (h : Def K mg (Str.ofString "_law_cell_at") s_law_cell_at)  : Callee P w K mg base 1 (Str.ofString "_law_cell_at") 2 d_law_cell_at := by
  obtain ⟨f, fd, F, hm⟩ := h
  exact ⟨f, fd, _, qfn_pureB (k := 0) bd_law_cell_at.2 sc_law_cell_at.2 F S_law_cell_at (fun cdv A outer s H E hr => (qpds_cons (qpds_if (qpb_cmp o_lt (qpd_var 1) (qpd_callB c_len rfl T.z_len PySem.boot_len (qpas_cons (qpd_var 0) qpas_nil)) (nomark _)) (qpds_one (qpds_ret (qpd_ix (qpd_var 0) (qpd_var 1) (fun _ _ => rfl)))) qpds_nil) (qpds_one (qpds_ret qpd_int)))), hm, F.kp, F.binds fun _ _ _ _ _ _ us hl => match us, hl with | [_, _], _ => rfl⟩
/-! ### law_reel -/
abbrev s_law_reel : Stmt := top 10
abbrev N_law_reel : List Str := [(Str.ofString "cell")]
def bd_law_reel : {b : List Stmt // defBody s_law_reel = b} := by
  have e : defBody s_law_reel = defBody s_law_reel := rfl
  conv at e => rhs; whnf
  exact ⟨_, e⟩
def sc_law_reel : {b : Scope // defScope s_law_reel = b} := by
  have e : defScope s_law_reel = defScope s_law_reel := rfl
  conv at e => rhs; whnf
  exact ⟨_, e⟩
theorem S_law_reel : FnScope N_law_reel [(Str.ofString "cell")] sc_law_reel.1 := ⟨rfl, rfl, rfl, by decide +kernel, rfl, by decide +kernel, by decide +kernel⟩
def F_law_reel : FZ := (zRet (xNew (nLst (aCons (eCall cAbs (aCons (eVar 0) aNil)) (aCons (e2 dMod (e2 dMul (e2 dAdd (e2 dMod (eVar 0) (eC (.int 2147483647))) (eC (.int 1))) (eC (.int 742938285))) (eC (.int 2147483647))) aNil)))))
def dK_law_reel : List V3 → Sto → R3 V3 := fnK N_law_reel F_law_reel
def dP_law_reel : List V3 → Sto → R3 V3 := fnP N_law_reel F_law_reel
theorem c_law_reel {P : Program} {w : World} {K : PySem.W.Frag} {mg : Str → Option Value} {base : Heap} (T : Tp K mg) (h : Def K mg (Str.ofString "_law_reel") s_law_reel)  : CalleeX P w K mg base cl0 1 (Str.ofString "_law_reel") 1 dK_law_reel := by
  obtain ⟨f, fd, F, hm⟩ := h
  exact ⟨f, fd, _, fn_keepB (k := 0) bd_law_reel.2 sc_law_reel.2 F S_law_reel (fun cdv A outer s H E hr => (pzs_one (pz_ret (px_new (qpn_lst (qpas_cons (qpd_callB c_abs rfl T.z_abs PyProof.Rows.boot_abs (qpas_cons (qpd_var 0) qpas_nil)) (qpas_cons (qpd_op o_mod (qpd_op o_mul (qpd_op o_add (qpd_op o_mod (qpd_var 0) qpd_int) qpd_int) qpd_int) qpd_int) qpas_nil))))))), hm, F.kp, F.binds fun _ _ _ _ _ _ us hl => match us, hl with | [_], _ => rfl⟩
/-! ### law_take -/
abbrev s_law_take : Stmt := top 11
abbrev N_law_take : List Str := [(Str.ofString "reel"), (Str.ofString "many"), (Str.ofString "found"), (Str.ofString "stir")]
def bd_law_take : {b : List Stmt // defBody s_law_take = b} := by
  have e : defBody s_law_take = defBody s_law_take := rfl
  conv at e => rhs; whnf
  exact ⟨_, e⟩
def sc_law_take : {b : Scope // defScope s_law_take = b} := by
  have e : defScope s_law_take = defScope s_law_take := rfl
  conv at e => rhs; whnf
  exact ⟨_, e⟩
theorem S_law_take : FnScope N_law_take [(Str.ofString "reel"), (Str.ofString "many")] sc_law_take.1 := ⟨rfl, rfl, rfl, by decide +kernel, rfl, by decide +kernel, by decide +kernel⟩
def F_law_take : FZ := (zSeq (zIf (bT (b2 dGe (e2 ixD (eVar 0) (eC (.int 0))) (e2 dPow (eC (.int 10)) (eC (.int 18))))) (zSeq (zSet 2 (xT (e2 dMod (e2 ixD (eVar 0) (eC (.int 0))) (eVar 1)))) (zSeq (zPut (xVar 0) (xP (eC (.int 0))) (xT (e2 dFdvB (e2 ixD (eVar 0) (eC (.int 0))) (eVar 1)))) (zRet (xP (eVar 2))))) zNil) (zSeq (zPut (xVar 0) (xP (eC (.int 1))) (xT (e2 dMod (e2 dAdd (e2 dMul (e2 ixD (eVar 0) (eC (.int 1))) (eC (.int 48271))) (eC (.int 11))) (eC (.int 2147483647))))) (zSeq (zSet 3 (xT (e2 dMod (e2 dMul (e2 ixD (eVar 0) (eC (.int 1))) (e2 ixD (eVar 0) (eC (.int 1)))) (eC (.int 2147483629))))) (zRet (xP (e2 dMod (e2 dFdvB (e2 dMod (e2 dMul (eVar 3) (eC (.int 69621))) (eC (.int 2147483587))) (eC (.int 8))) (eVar 1)))))))
def dK_law_take : List V3 → Sto → R3 V3 := fnK N_law_take F_law_take
def dP_law_take : List V3 → Sto → R3 V3 := fnP N_law_take F_law_take
theorem c_law_take {P : Program} {w : World} {K : PySem.W.Frag} {mg : Str → Option Value} {base : Heap} (T : Tp K mg) (h : Def K mg (Str.ofString "_law_take") s_law_take)  : CalleeX P w K mg base cl0 1 (Str.ofString "_law_take") 2 dK_law_take := by
  obtain ⟨f, fd, F, hm⟩ := h
  exact ⟨f, fd, _, fn_keepB (k := 0) bd_law_take.2 sc_law_take.2 F S_law_take (fun cdv A outer s H E hr => (pzs_cons (pz_if (pxb_thaw (qpb_cmp o_ge (qpd_ix (qpd_var 0) qpd_int (fun _ _ => rfl)) (qpd_op o_pow qpd_int qpd_int) (nomark _))) (pzs_cons (pz_set S_law_take.nd rfl (Or.inl rfl) (px_thaw (qpd_op o_mod (qpd_ix (qpd_var 0) qpd_int (fun _ _ => rfl)) (qpd_var 1)))) (pzs_cons (pz_put (px_thaw (qpd_op o_fdvB (qpd_ix (qpd_var 0) qpd_int (fun _ _ => rfl)) (qpd_var 1))) (pg_sub (PX.go (px_var 0)) (PX.go (px_pure qpd_int)) set_list)) (pzs_one (pz_ret (px_pure (qpd_var 2)))))) pzs_nil) (pzs_cons (pz_put (px_thaw (qpd_op o_mod (qpd_op o_add (qpd_op o_mul (qpd_ix (qpd_var 0) qpd_int (fun _ _ => rfl)) qpd_int) qpd_int) qpd_int)) (pg_sub (PX.go (px_var 0)) (PX.go (px_pure qpd_int)) set_list)) (pzs_cons (pz_set S_law_take.nd rfl (Or.inl rfl) (px_thaw (qpd_op o_mod (qpd_op o_mul (qpd_ix (qpd_var 0) qpd_int (fun _ _ => rfl)) (qpd_ix (qpd_var 0) qpd_int (fun _ _ => rfl))) qpd_int))) (pzs_one (pz_ret (px_pure (qpd_op o_mod (qpd_op o_fdvB (qpd_op o_mod (qpd_op o_mul (qpd_var 3) qpd_int) qpd_int) qpd_int) (qpd_var 1))))))))), hm, F.kp, F.binds fun _ _ _ _ _ _ us hl => match us, hl with | [_, _], _ => rfl⟩
/-! ### law_names -/
abbrev s_law_names : Stmt := top 12
abbrev N_law_names : List Str := [(Str.ofString "reel"), (Str.ofString "many"), (Str.ofString "letters"), (Str.ofString "words"), (Str.ofString "names"), (Str.ofString "k"), (Str.ofString "name"), (Str.ofString "j")]
def bd_law_names : {b : List Stmt // defBody s_law_names = b} := by
  have e : defBody s_law_names = defBody s_law_names := rfl
  conv at e => rhs; whnf
  exact ⟨_, e⟩
def sc_law_names : {b : Scope // defScope s_law_names = b} := by
  have e : defScope s_law_names = defScope s_law_names := rfl
  conv at e => rhs; whnf
  exact ⟨_, e⟩
theorem S_law_names : FnScope N_law_names [(Str.ofString "reel"), (Str.ofString "many")] sc_law_names.1 := ⟨rfl, rfl, rfl, by decide +kernel, rfl, by decide +kernel, by decide +kernel⟩
def B_law_names_0 : FZ := (zSet 6 (x2 dAdd (xP (eVar 6)) (xIx (xP (eVar 2)) (xCall dP_law_take (xCons (xVar 0) (xCons (xP (eC (.int 26))) xNil))))))
def B_law_names_1 : FZ := (zSet 6 (xP (e2 dAdd (eSl (eVar 6) oNone (oSome (eNeg (eC (.int 1))))) (e2 ixD (eVar 2) (e2 dMod (e2 dAdd (eMt "str" mFind (eVar 2) (aCons (e2 ixD (eVar 6) (eNeg (eC (.int 1)))) aNil)) (eC (.int 1))) (eC (.int 26)))))))
def B_law_names_2 : FZ := (zSeq (zSet 6 (xIx (xP (e2 dAdd (eNew (nLst (aCons (eC (.str (Str.ofString ""))) (aCons (eC (.str (Str.ofString ""))) (aCons (eC (.str (Str.ofString "zz"))) (aCons (eC (.str (Str.ofString "qrst"))) aNil)))))) (eVar 3))) (xCall dP_law_take (xCons (xVar 0) (xCons (xP (eC (.int 13))) xNil))))) (zSeq (zFor (iRng1 (x2 dAdd (xP (eC (.int 1))) (xCall dP_law_take (xCons (xVar 0) (xCons (xP (eC (.int 4))) xNil))))) (gNm 7) B_law_names_0) (zSeq (zWhile 1000 (bT (bOr (b2 dIn (eVar 6) (eVar 4)) (b2 dIn (eVar 6) (eVar 3)))) B_law_names_1) (zApp 4 (xP (eVar 6))))))
def F_law_names : FZ := (zSeq (zSet 2 (xP (eC (.str (Str.ofString "abcdefghijklmnopqrstuvwxyz"))))) (zSeq (zSet 3 (xP (eNew (nLst (aCons (eC (.str (Str.ofString "in"))) (aCons (eC (.str (Str.ofString "gate"))) (aCons (eC (.str (Str.ofString "sure"))) (aCons (eC (.str (Str.ofString "out"))) (aCons (eC (.str (Str.ofString "not"))) (aCons (eC (.str (Str.ofString "and"))) (aCons (eC (.str (Str.ofString "or"))) (aCons (eC (.str (Str.ofString "xor"))) (aCons (eC (.str (Str.ofString "vote"))) aNil))))))))))))) (zSeq (zSet 4 (xNew (nLst aNil))) (zSeq (zFor (iP (itRng1 (eVar 1))) (gNm 5) B_law_names_2) (zRet (xVar 4))))))
def dK_law_names : List V3 → Sto → R3 V3 := fnK N_law_names F_law_names
def dP_law_names : List V3 → Sto → R3 V3 := fnP N_law_names F_law_names
theorem c_law_names {P : Program} {w : World} {K : PySem.W.Frag} {mg : Str → Option Value} {base : Heap} (T : Tp K mg) (h : Def K mg (Str.ofString "_law_names") s_law_names) (XP_law_take : CalleeX P w K mg base cl0 1 (Str.ofString "_law_take") 2 dP_law_take) : CalleeX P w K mg base cl0 2 (Str.ofString "_law_names") 2 dK_law_names := by
  obtain ⟨f, fd, F, hm⟩ := h
  exact ⟨f, fd, _, fn_keepB (k := 1) bd_law_names.2 sc_law_names.2 F S_law_names (fun cdv A outer s H E hr => (pzs_cons (pz_set S_law_names.nd rfl (Or.inl rfl) (px_pure qpd_str)) (pzs_cons (pz_set S_law_names.nd rfl (Or.inl rfl) (px_pure (qpd_new (qpn_lst (qpas_cons qpd_str (qpas_cons qpd_str (qpas_cons qpd_str (qpas_cons qpd_str (qpas_cons qpd_str (qpas_cons qpd_str (qpas_cons qpd_str (qpas_cons qpd_str (qpas_cons qpd_str qpas_nil))))))))))))) (pzs_cons (pz_set S_law_names.nd rfl (Or.inl rfl) (px_new (qpn_lst qpas_nil))) (pzs_cons (pz_for PassesOwn.never rfl (pxi_pure (qpit_range1 (qpd_var 1) rfl T.z_range)) (pxg_name S_law_names.nd rfl (Or.inl rfl)) (pzs_cons (pz_set S_law_names.nd rfl (Or.inl rfl) (px_ix (px_pure (qpd_op o_add (qpd_new (qpn_lst (qpas_cons qpd_str (qpas_cons qpd_str (qpas_cons qpd_str (qpas_cons qpd_str qpas_nil)))))) (qpd_var 3))) (px_call XP_law_take hr (by decide) rfl (pxa_cons (px_var 0) (pxa_cons (px_pure qpd_int) pxa_nil)) (xlen_cons (xlen_cons xlen_nil))) (fun _ _ => rfl))) (pzs_cons (pz_for PassesOwn.never rfl (pxi_range1 (px_op o_add (px_pure qpd_int) (px_call XP_law_take hr (by decide) rfl (pxa_cons (px_var 0) (pxa_cons (px_pure qpd_int) pxa_nil)) (xlen_cons (xlen_cons xlen_nil)))) rfl T.z_range) (pxg_name S_law_names.nd rfl (Or.inl rfl)) (pzs_one (pz_set S_law_names.nd rfl (Or.inl rfl) (px_op o_add (px_pure (qpd_var 6)) (px_ix (px_pure (qpd_var 2)) (px_call XP_law_take hr (by decide) rfl (pxa_cons (px_var 0) (pxa_cons (px_pure qpd_int) pxa_nil)) (xlen_cons (xlen_cons xlen_nil))) (fun _ _ => rfl)))))) (pzs_cons (pz_while 1000 PassesOwn.never (pxb_thaw (qPBW_pb (qpbw_or (qpb_cmp o_in (qpd_var 6) (qpd_var 4) (by with_unfolding_all rfl)) (qpbw_or1 (qpb_cmp o_in (qpd_var 6) (qpd_var 3) (by with_unfolding_all rfl)))))) (pzs_one (pz_set S_law_names.nd rfl (Or.inl rfl) (px_pure (qpd_op o_add (qpd_sl (qpd_var 6) qpp_none (qpp_some (qpd_neg qpd_int))) (qpd_ix (qpd_var 2) (qpd_op o_mod (qpd_op o_add (qpd_find (qpd_var 2) (qpas_cons (qpd_ix (qpd_var 6) (qpd_neg qpd_int) (fun _ _ => rfl)) qpas_nil)) qpd_int) qpd_int) (fun _ _ => rfl))))))) (pzs_one (pz_app rfl (Or.inl rfl) (px_pure (qpd_var 6)))))))) (pzs_one (pz_ret (px_var 4)))))))), hm, F.kp, F.binds fun _ _ _ _ _ _ us hl => match us, hl with | [_, _], _ => rfl⟩
/-! ### law_gate -/
abbrev s_law_gate : Stmt := top 13
abbrev N_law_gate : List Str := [(Str.ofString "reel"), (Str.ofString "kinds"), (Str.ofString "most_sure"), (Str.ofString "kind"), (Str.ofString "many"), (Str.ofString "wires"), (Str.ofString "k"), (Str.ofString "back"), (Str.ofString "wire")]
def bd_law_gate : {b : List Stmt // defBody s_law_gate = b} := by
  have e : defBody s_law_gate = defBody s_law_gate := rfl
  conv at e => rhs; whnf
  exact ⟨_, e⟩
def sc_law_gate : {b : Scope // defScope s_law_gate = b} := by
  have e : defScope s_law_gate = defScope s_law_gate := rfl
  conv at e => rhs; whnf
  exact ⟨_, e⟩
theorem S_law_gate : FnScope N_law_gate [(Str.ofString "reel"), (Str.ofString "kinds"), (Str.ofString "most_sure")] sc_law_gate.1 := ⟨rfl, rfl, rfl, by decide +kernel, rfl, by decide +kernel, by decide +kernel⟩
def B_law_gate_0 : FZ := (zSeq (zSet 7 (xCall dP_law_take (xCons (xVar 0) (xCons (xP (eC (.int 2))) xNil)))) (zSeq (zSet 8 (xCall dP_law_take (xCons (xVar 0) (xCons (xT (eCall cLen (aCons (eVar 1) aNil))) xNil)))) (zSeq (zIf (bP (b2 dEq (eVar 7) (eC (.int 1)))) (zSet 8 (xT (e2 dSub (e2 dSub (eCall cLen (aCons (eVar 1) aNil)) (eC (.int 1))) (e2 dMod (eVar 8) (eCall cMinL (aCons (eCall cLen (aCons (eVar 1) aNil)) (aCons (eC (.int 4)) aNil))))))) zNil) (zApp 5 (xP (eVar 8))))))
def F_law_gate : FZ := (zSeq (zSet 3 (xIx (xP (eNew (nLst (aCons (eC (.str (Str.ofString "not"))) (aCons (eC (.str (Str.ofString "and"))) (aCons (eC (.str (Str.ofString "or"))) (aCons (eC (.str (Str.ofString "xor"))) (aCons (eC (.str (Str.ofString "vote"))) (aCons (eC (.str (Str.ofString "xor"))) (aCons (eC (.str (Str.ofString "and"))) aNil)))))))))) (xCall dP_law_take (xCons (xVar 0) (xCons (xP (eC (.int 7))) xNil))))) (zSeq (zSet 4 (xP (eGet [((Sum.inr (Str.ofString "not") : Key), V.int 1), ((Sum.inr (Str.ofString "vote") : Key), V.int 3)] (eVar 3) (eC (.int 2))))) (zSeq (zSet 5 (xNew (nLst aNil))) (zSeq (zFor (iP (itRng1 (eVar 4))) (gNm 6) B_law_gate_0) (zRet (xTup (xCons (xP (eVar 3)) (xCons (xT (eCall cTuple (aCons (eVar 5) aNil))) (xCons (x2 dLt (xCall dP_law_take (xCons (xVar 0) (xCons (xP (eC (.int 4))) xNil))) (xP (eVar 2))) xNil)))))))))
def dK_law_gate : List V3 → Sto → R3 V3 := fnK N_law_gate F_law_gate
def dP_law_gate : List V3 → Sto → R3 V3 := fnP N_law_gate F_law_gate
theorem c_law_gate {P : Program} {w : World} {K : PySem.W.Frag} {mg : Str → Option Value} {base : Heap} (T : Tp K mg) (h : Def K mg (Str.ofString "_law_gate") s_law_gate) (XP_law_take : CalleeX P w K mg base cl0 1 (Str.ofString "_law_take") 2 dP_law_take) : CalleeX P w K mg base cl0 2 (Str.ofString "_law_gate") 3 dK_law_gate := by
  obtain ⟨f, fd, F, hm⟩ := h
  exact ⟨f, fd, _, fn_keepB (k := 1) bd_law_gate.2 sc_law_gate.2 F S_law_gate (fun cdv A outer s H E hr => (pzs_cons (pz_set S_law_gate.nd rfl (Or.inl rfl) (px_ix (px_pure (qpd_new (qpn_lst (qpas_cons qpd_str (qpas_cons qpd_str (qpas_cons qpd_str (qpas_cons qpd_str (qpas_cons qpd_str (qpas_cons qpd_str (qpas_cons qpd_str qpas_nil)))))))))) (px_call XP_law_take hr (by decide) rfl (pxa_cons (px_var 0) (pxa_cons (px_pure qpd_int) pxa_nil)) (xlen_cons (xlen_cons xlen_nil))) (fun _ _ => rfl))) (pzs_cons (pz_set S_law_gate.nd rfl (Or.inl rfl) (px_pure (qpd_get (hu_of hr) (pps_cons pe_str pe_int (pps_cons pe_str pe_int pps_nil)) rfl rfl (by simp) (fun _ _ _ h => h) (by decide) (qpd_var 3) qpd_int ⟨rfl, rfl, rfl, rfl⟩ (pe_disp (pps_cons pe_str pe_int (pps_cons pe_str pe_int pps_nil)) rfl rfl (by simp) (by decide))))) (pzs_cons (pz_set S_law_gate.nd rfl (Or.inl rfl) (px_new (qpn_lst qpas_nil))) (pzs_cons (pz_for PassesOwn.never rfl (pxi_pure (qpit_range1 (qpd_var 4) rfl T.z_range)) (pxg_name S_law_gate.nd rfl (Or.inl rfl)) (pzs_cons (pz_set S_law_gate.nd rfl (Or.inl rfl) (px_call XP_law_take hr (by decide) rfl (pxa_cons (px_var 0) (pxa_cons (px_pure qpd_int) pxa_nil)) (xlen_cons (xlen_cons xlen_nil)))) (pzs_cons (pz_set S_law_gate.nd rfl (Or.inl rfl) (px_call XP_law_take hr (by decide) rfl (pxa_cons (px_var 0) (pxa_cons (px_thaw (qpd_callB c_len rfl T.z_len PySem.boot_len (qpas_cons (qpd_var 1) qpas_nil))) pxa_nil)) (xlen_cons (xlen_cons xlen_nil)))) (pzs_cons (pz_if (pxb_pure (qpb_cmp (o_eq hr.units) (qpd_var 7) qpd_int (nomark _))) (pzs_one (pz_set S_law_gate.nd rfl (Or.inl rfl) (px_thaw (qpd_op o_sub (qpd_op o_sub (qpd_callB c_len rfl T.z_len PySem.boot_len (qpas_cons (qpd_var 1) qpas_nil)) qpd_int) (qpd_op o_mod (qpd_var 8) (qpd_callB (c_minL rfl) rfl T.z_min PyProof.Rows.boot_min (qpas_cons (qpd_callB c_len rfl T.z_len PySem.boot_len (qpas_cons (qpd_var 1) qpas_nil)) (qpas_cons qpd_int qpas_nil)))))))) pzs_nil) (pzs_one (pz_app rfl (Or.inl rfl) (px_pure (qpd_var 8)))))))) (pzs_one (pz_ret (px_tup (pxa_cons (px_pure (qpd_var 3)) (pxa_cons (px_thaw (qpd_callTy c_tuple rfl T.z_tuple PyProof.Rows.boot_tuple (qpas_cons (qpd_var 5) qpas_nil))) (pxa_cons (px_cmp o_lt (px_call XP_law_take hr (by decide) rfl (pxa_cons (px_var 0) (pxa_cons (px_pure qpd_int) pxa_nil)) (xlen_cons (xlen_cons xlen_nil))) (px_pure (qpd_var 2)) (nomark _)) pxa_nil))))))))))), hm, F.kp, F.binds fun _ _ _ _ _ _ us hl => match us, hl with | [_, _, _], _ => rfl⟩
/-! ### law_again -/
abbrev s_law_again : Stmt := top 14
abbrev N_law_again : List Str := [(Str.ofString "reel"), (Str.ofString "gate"), (Str.ofString "kinds"), (Str.ofString "wires"), (Str.ofString "wire"), (Str.ofString "same")]
def bd_law_again : {b : List Stmt // defBody s_law_again = b} := by
  have e : defBody s_law_again = defBody s_law_again := rfl
  conv at e => rhs; whnf
  exact ⟨_, e⟩
def sc_law_again : {b : Scope // defScope s_law_again = b} := by
  have e : defScope s_law_again = defScope s_law_again := rfl
  conv at e => rhs; whnf
  exact ⟨_, e⟩
theorem S_law_again : FnScope N_law_again [(Str.ofString "reel"), (Str.ofString "gate"), (Str.ofString "kinds")] sc_law_again.1 := ⟨rfl, rfl, rfl, by decide +kernel, rfl, by decide +kernel, by decide +kernel⟩
def B_law_again_0 : FZ := (zSeq (zSet 5 (xComp (iRng1 (xT (eCall cLen (aCons (eVar 2) aNil)))) (gNm 0) (bT (b2 dEq (e2 ixD (eVar 1) (eVar 0)) (e2 ixD (eVar 1) (eVar 2)))) (xP (eVar 0)) [(Str.ofString "one")] [2, 4])) (zApp 3 (xIx (xP (eVar 5)) (xCall dP_law_take (xCons (xVar 0) (xCons (xP (eCall cLen (aCons (eVar 5) aNil))) xNil))))))
def F_law_again : FZ := (zSeq (zSet 3 (xNew (nLst aNil))) (zSeq (zFor (iP (itSeq (e2 ixD (eVar 1) (eC (.int 1))))) (gNm 4) B_law_again_0) (zRet (xTup (xCons (xP (e2 ixD (eVar 1) (eC (.int 0)))) (xCons (xT (eCall cTuple (aCons (eVar 3) aNil))) (xCons (x2 dEq (xCall dP_law_take (xCons (xVar 0) (xCons (xP (eC (.int 4))) xNil))) (xP (eC (.int 0)))) xNil)))))))
def dK_law_again : List V3 → Sto → R3 V3 := fnK N_law_again F_law_again
def dP_law_again : List V3 → Sto → R3 V3 := fnP N_law_again F_law_again
theorem c_law_again {P : Program} {w : World} {K : PySem.W.Frag} {mg : Str → Option Value} {base : Heap} (T : Tp K mg) (h : Def K mg (Str.ofString "_law_again") s_law_again) (XP_law_take : CalleeX P w K mg base cl0 1 (Str.ofString "_law_take") 2 dP_law_take) : CalleeX P w K mg base cl0 2 (Str.ofString "_law_again") 3 dK_law_again := by
  obtain ⟨f, fd, F, hm⟩ := h
  exact ⟨f, fd, _, fn_keepB (k := 1) bd_law_again.2 sc_law_again.2 F S_law_again (fun cdv A outer s H E hr => (pzs_cons (pz_set S_law_again.nd rfl (Or.inl rfl) (px_new (qpn_lst qpas_nil))) (pzs_cons (pz_for PassesOwn.never rfl (pxi_pure (qpit_seq (qpd_ix (qpd_var 1) qpd_int (fun _ _ => rfl)))) (pxg_name S_law_again.nd rfl (Or.inr rfl)) (pzs_cons (pz_setComp rfl S_law_again.nd rfl rfl (CScope.of (own := [(Str.ofString "one")]) (kp := [2, 4]) (kn := [(Str.ofString "kinds"), (Str.ofString "wire")]) (sc := sc_law_again.1) (N := N_law_again) rfl rfl (by decide +kernel)) (pxi_range1 (px_thaw (qpd_callB c_len rfl T.z_len PySem.boot_len (qpas_cons (qpd_var 2) qpas_nil))) rfl T.z_range) (fun _ _ _ => (pxg_name (show List.Nodup [(Str.ofString "one"), (Str.ofString "kinds"), (Str.ofString "wire")] from by decide +kernel) rfl (Or.inl rfl))) (fun _ _ _ => (pxifs_if (pxb_thaw (qpb_cmp (o_eq hr.units) (qpd_ix (qpd_var 1) (qpd_var 0) (fun _ _ => rfl)) (qpd_ix (qpd_var 1) (qpd_var 2) (fun _ _ => rfl)) (nomark _))))) (fun _ _ _ => (px_pure (qpd_var 0)))) (pzs_one (pz_app rfl (Or.inl rfl) (px_ix (px_pure (qpd_var 5)) (px_call XP_law_take hr (by decide) rfl (pxa_cons (px_var 0) (pxa_cons (px_pure (qpd_callB c_len rfl T.z_len PySem.boot_len (qpas_cons (qpd_var 5) qpas_nil))) pxa_nil)) (xlen_cons (xlen_cons xlen_nil))) (fun _ _ => rfl)))))) (pzs_one (pz_ret (px_tup (pxa_cons (px_pure (qpd_ix (qpd_var 1) qpd_int (fun _ _ => rfl))) (pxa_cons (px_thaw (qpd_callTy c_tuple rfl T.z_tuple PyProof.Rows.boot_tuple (qpas_cons (qpd_var 3) qpas_nil))) (pxa_cons (px_cmp (o_eq hr.units) (px_call XP_law_take hr (by decide) rfl (pxa_cons (px_var 0) (pxa_cons (px_pure qpd_int) pxa_nil)) (xlen_cons (xlen_cons xlen_nil))) (px_pure qpd_int) (nomark _)) pxa_nil))))))))), hm, F.kp, F.binds fun _ _ _ _ _ _ us hl => match us, hl with | [_, _, _], _ => rfl⟩
/-! ### law_outs -/
abbrev s_law_outs : Stmt := top 15
abbrev N_law_outs : List Str := [(Str.ofString "reel"), (Str.ofString "kinds"), (Str.ofString "names"), (Str.ofString "most"), (Str.ofString "outs"), (Str.ofString "k"), (Str.ofString "wire"), (Str.ofString "same"), (Str.ofString "width"), (Str.ofString "some"), (Str.ofString "way")]
def bd_law_outs : {b : List Stmt // defBody s_law_outs = b} := by
  have e : defBody s_law_outs = defBody s_law_outs := rfl
  conv at e => rhs; whnf
  exact ⟨_, e⟩
def sc_law_outs : {b : Scope // defScope s_law_outs = b} := by
  have e : defScope s_law_outs = defScope s_law_outs := rfl
  conv at e => rhs; whnf
  exact ⟨_, e⟩
theorem S_law_outs : FnScope N_law_outs [(Str.ofString "reel"), (Str.ofString "kinds"), (Str.ofString "names"), (Str.ofString "most")] sc_law_outs.1 := ⟨rfl, rfl, rfl, by decide +kernel, rfl, by decide +kernel, by decide +kernel⟩
def B_law_outs_0 : FZ := (zSeq (zSet 6 (x2 dSub (xT (e2 dSub (eCall cLen (aCons (eVar 1) aNil)) (eC (.int 1)))) (xCall dP_law_take (xCons (xVar 0) (xCons (xT (eCall cLen (aCons (eVar 1) aNil))) xNil))))) (zSeq (zSet 7 (xComp (iRng1 (xT (eCall cLen (aCons (eVar 1) aNil)))) (gNm 0) (bT (b2 dEq (e2 ixD (eVar 1) (eVar 0)) (e2 ixD (eVar 1) (eVar 2)))) (xP (eVar 0)) [(Str.ofString "one")] [1, 6])) (zSeq (zSet 8 (xIx (xP (eNew (nLst (aCons (eC (.int 1)) (aCons (eC (.int 1)) (aCons (eC (.int 2)) (aCons (eC (.int 2)) (aCons (eC (.int 3)) (aCons (eC (.int 3)) aNil))))))))) (xCall dP_law_take (xCons (xVar 0) (xCons (xP (eC (.int 6))) xNil))))) (zSeq (zSet 9 (xCat (xP (eNew (nLst (aCons (eVar 6) aNil)))) (xComp (iP (itRng1 (e2 dSub (eVar 8) (eC (.int 1))))) (gNm 0) bYes (xIx (xP (eVar 2)) (xCall dP_law_take (xCons (xVar 1) (xCons (xP (eCall cLen (aCons (eVar 2) aNil))) xNil)))) [(Str.ofString "j")] [0, 7]))) (zSeq (zSet 10 (xCall dP_law_take (xCons (xVar 0) (xCons (xP (eC (.int 3))) xNil)))) (zSeq (zIf (bP (bAnd (b2 dEq (eVar 8) (eC (.int 3))) (b2 dGt (eVar 10) (eC (.int 0))))) (zPut (xVar 9) (xP (eC (.int 2))) (xCall dP_law_take (xCons (xVar 0) (xCons (xT (eCall cLen (aCons (eVar 1) aNil))) xNil)))) zNil) (zSeq (zIf (bP (bAnd (b2 dEq (eVar 8) (eC (.int 3))) (b2 dGt (eVar 10) (eC (.int 1))))) (zPut (xVar 9) (xP (eC (.int 1))) (xCall dP_law_take (xCons (xVar 0) (xCons (xT (eCall cLen (aCons (eVar 1) aNil))) xNil)))) zNil) (zApp 4 (xT (eTup (aCons (e2 ixD (eVar 2) (eVar 5)) (aCons (eCall cTuple (aCons (eVar 9) aNil)) aNil))))))))))))
def F_law_outs : FZ := (zSeq (zSet 4 (xNew (nLst aNil))) (zSeq (zFor (iRng1 (x2 dAdd (xP (eC (.int 1))) (xCall dP_law_take (xCons (xVar 0) (xCons (xP (eVar 3)) xNil))))) (gNm 5) B_law_outs_0) (zRet (xVar 4))))
def dK_law_outs : List V3 → Sto → R3 V3 := fnK N_law_outs F_law_outs
def dP_law_outs : List V3 → Sto → R3 V3 := fnP N_law_outs F_law_outs
theorem c_law_outs {P : Program} {w : World} {K : PySem.W.Frag} {mg : Str → Option Value} {base : Heap} (T : Tp K mg) (h : Def K mg (Str.ofString "_law_outs") s_law_outs) (XP_law_take : CalleeX P w K mg base cl0 1 (Str.ofString "_law_take") 2 dP_law_take) : CalleeX P w K mg base cl0 2 (Str.ofString "_law_outs") 4 dK_law_outs := by
  obtain ⟨f, fd, F, hm⟩ := h
  exact ⟨f, fd, _, fn_keepB (k := 1) bd_law_outs.2 sc_law_outs.2 F S_law_outs (fun cdv A outer s H E hr => (pzs_cons (pz_set S_law_outs.nd rfl (Or.inl rfl) (px_new (qpn_lst qpas_nil))) (pzs_cons (pz_for PassesOwn.never rfl (pxi_range1 (px_op o_add (px_pure qpd_int) (px_call XP_law_take hr (by decide) rfl (pxa_cons (px_var 0) (pxa_cons (px_pure (qpd_var 3)) pxa_nil)) (xlen_cons (xlen_cons xlen_nil)))) rfl T.z_range) (pxg_name S_law_outs.nd rfl (Or.inl rfl)) (pzs_cons (pz_set S_law_outs.nd rfl (Or.inr rfl) (px_op o_sub (px_thaw (qpd_op o_sub (qpd_callB c_len rfl T.z_len PySem.boot_len (qpas_cons (qpd_var 1) qpas_nil)) qpd_int)) (px_call XP_law_take hr (by decide) rfl (pxa_cons (px_var 0) (pxa_cons (px_thaw (qpd_callB c_len rfl T.z_len PySem.boot_len (qpas_cons (qpd_var 1) qpas_nil))) pxa_nil)) (xlen_cons (xlen_cons xlen_nil))))) (pzs_cons (pz_set S_law_outs.nd rfl (Or.inr rfl) (px_comp rfl (CScope.of (own := [(Str.ofString "one")]) (kp := [1, 6]) (kn := [(Str.ofString "kinds"), (Str.ofString "wire")]) (sc := sc_law_outs.1) (N := N_law_outs) rfl rfl (by decide +kernel)) (pxi_range1 (px_thaw (qpd_callB c_len rfl T.z_len PySem.boot_len (qpas_cons (qpd_var 1) qpas_nil))) rfl T.z_range) (fun _ _ _ => (pxg_name (show List.Nodup [(Str.ofString "one"), (Str.ofString "kinds"), (Str.ofString "wire")] from by decide +kernel) rfl (Or.inl rfl))) (fun _ _ _ => (pxifs_if (pxb_thaw (qpb_cmp (o_eq hr.units) (qpd_ix (qpd_var 1) (qpd_var 0) (fun _ _ => rfl)) (qpd_ix (qpd_var 1) (qpd_var 2) (fun _ _ => rfl)) (nomark _))))) (fun _ _ _ => (px_pure (qpd_var 0))))) (pzs_cons (pz_set S_law_outs.nd rfl (Or.inl rfl) (px_ix (px_pure (qpd_new (qpn_lst (qpas_cons qpd_int (qpas_cons qpd_int (qpas_cons qpd_int (qpas_cons qpd_int (qpas_cons qpd_int (qpas_cons qpd_int qpas_nil))))))))) (px_call XP_law_take hr (by decide) rfl (pxa_cons (px_var 0) (pxa_cons (px_pure qpd_int) pxa_nil)) (xlen_cons (xlen_cons xlen_nil))) (fun _ _ => rfl))) (pzs_cons (pz_set S_law_outs.nd rfl (Or.inl rfl) (px_cat (px_pure (qpd_new (qpn_lst (qpas_cons (qpd_var 6) qpas_nil)))) (px_comp rfl (CScope.of (own := [(Str.ofString "j")]) (kp := [0, 7]) (kn := [(Str.ofString "reel"), (Str.ofString "same")]) (sc := sc_law_outs.1) (N := N_law_outs) rfl rfl (by decide +kernel)) (pxi_pure (qpit_range1 (qpd_op o_sub (qpd_var 8) qpd_int) rfl T.z_range)) (fun _ _ _ => (pxg_name (show List.Nodup [(Str.ofString "j"), (Str.ofString "reel"), (Str.ofString "same")] from by decide +kernel) rfl (Or.inl rfl))) (fun _ _ _ => pxifs_yes) (fun _ _ _ => (px_ix (px_pure (qpd_var 2)) (px_call XP_law_take hr (by decide) rfl (pxa_cons (px_var 1) (pxa_cons (px_pure (qpd_callB c_len rfl T.z_len PySem.boot_len (qpas_cons (qpd_var 2) qpas_nil))) pxa_nil)) (xlen_cons (xlen_cons xlen_nil))) (fun _ _ => rfl)))))) (pzs_cons (pz_set S_law_outs.nd rfl (Or.inl rfl) (px_call XP_law_take hr (by decide) rfl (pxa_cons (px_var 0) (pxa_cons (px_pure qpd_int) pxa_nil)) (xlen_cons (xlen_cons xlen_nil)))) (pzs_cons (pz_if (pxb_pure (qPBW_pb (qpbw_and (qpb_cmp (o_eq hr.units) (qpd_var 8) qpd_int (nomark _)) (qpbw_and1 (qpb_cmp o_gt (qpd_var 10) qpd_int (nomark _)))))) (pzs_one (pz_put (px_call XP_law_take hr (by decide) rfl (pxa_cons (px_var 0) (pxa_cons (px_thaw (qpd_callB c_len rfl T.z_len PySem.boot_len (qpas_cons (qpd_var 1) qpas_nil))) pxa_nil)) (xlen_cons (xlen_cons xlen_nil))) (pg_sub (PX.go (px_var 9)) (PX.go (px_pure qpd_int)) set_list))) pzs_nil) (pzs_cons (pz_if (pxb_pure (qPBW_pb (qpbw_and (qpb_cmp (o_eq hr.units) (qpd_var 8) qpd_int (nomark _)) (qpbw_and1 (qpb_cmp o_gt (qpd_var 10) qpd_int (nomark _)))))) (pzs_one (pz_put (px_call XP_law_take hr (by decide) rfl (pxa_cons (px_var 0) (pxa_cons (px_thaw (qpd_callB c_len rfl T.z_len PySem.boot_len (qpas_cons (qpd_var 1) qpas_nil))) pxa_nil)) (xlen_cons (xlen_cons xlen_nil))) (pg_sub (PX.go (px_var 9)) (PX.go (px_pure qpd_int)) set_list))) pzs_nil) (pzs_one (pz_app rfl (Or.inl rfl) (px_thaw (qpd_tup (qpas_cons (qpd_ix (qpd_var 2) (qpd_var 5) (fun _ _ => rfl)) (qpas_cons (qpd_callTy c_tuple rfl T.z_tuple PyProof.Rows.boot_tuple (qpas_cons (qpd_var 9) qpas_nil)) qpas_nil)))))))))))))) (pzs_one (pz_ret (px_var 4)))))), hm, F.kp, F.binds fun _ _ _ _ _ _ us hl => match us, hl with | [_, _, _, _], _ => rfl⟩
/-! ### law_net -/
abbrev s_law_net : Stmt := top 16
abbrev N_law_net : List Str := [(Str.ofString "reel"), (Str.ofString "cells"), (Str.ofString "most_ins"), (Str.ofString "most_sure"), (Str.ofString "names"), (Str.ofString "ins"), (Str.ofString "kinds"), (Str.ofString "k"), (Str.ofString "width"), (Str.ofString "ahead"), (Str.ofString "gates"), (Str.ofString "cell"), (Str.ofString "own"), (Str.ofString "place")]
def bd_law_net : {b : List Stmt // defBody s_law_net = b} := by
  have e : defBody s_law_net = defBody s_law_net := rfl
  conv at e => rhs; whnf
  exact ⟨_, e⟩
def sc_law_net : {b : Scope // defScope s_law_net = b} := by
  have e : defScope s_law_net = defScope s_law_net := rfl
  conv at e => rhs; whnf
  exact ⟨_, e⟩
theorem S_law_net : FnScope N_law_net [(Str.ofString "reel"), (Str.ofString "cells"), (Str.ofString "most_ins"), (Str.ofString "most_sure")] sc_law_net.1 := ⟨rfl, rfl, rfl, by decide +kernel, rfl, by decide +kernel, by decide +kernel⟩
def B_law_net_0 : FZ := (zSeq (zSet 8 (x2 dAdd (xP (eC (.int 1))) (xCall dP_law_take (xCons (xVar 0) (xCons (xP (eC (.int 3))) xNil))))) (zSeq (zApp 5 (xP (eTup (aCons (e2 ixD (eVar 4) (e2 dSub (eC (.int 7)) (eVar 7))) (aCons (eVar 8) aNil))))) (zSet 6 (xCat (xVar 6) (xP (eNew (nRep (nLst (aCons (eVar 7) aNil)) (eVar 8))))))))
def B_law_net_1 : FZ := (zSeq (zSet 12 (xCall dK_law_reel (xCons (xP (eVar 11)) xNil))) (zIf (yAnd (bT (b2 dNe (eVar 10) (eNew (nLst aNil)))) (xb2 dEq (xCall dP_law_take (xCons (xVar 12) (xCons (xP (eC (.int 3))) xNil))) (xP (eC (.int 0))))) (zSeq (zSet 13 (xCall dP_law_take (xCons (xVar 12) (xCons (xT (eCall cLen (aCons (eVar 10) aNil))) xNil)))) (zSeq (zApp 10 (xCall dP_law_again (xCons (xVar 12) (xCons (xT (e2 ixD (eVar 10) (eVar 13))) (xCons (xVar 6) xNil))))) (zApp 6 (xT (e2 ixD (eVar 6) (e2 dAdd (eVar 9) (eVar 13))))))) (zSeq (zApp 10 (xCall dP_law_gate (xCons (xVar 12) (xCons (xVar 6) (xCons (xP (eVar 3)) xNil))))) (zApp 6 (xT (e2 dAdd (eCall cLen (aCons (eVar 6) aNil)) (eC (.int 10))))))))
def F_law_net : FZ := (zSeq (zSet 4 (xCall dP_law_names (xCons (xVar 0) (xCons (xP (eC (.int 8))) xNil)))) (zSeq (zSet 5 (xNew (nLst aNil))) (zSeq (zSet 6 (xNew (nLst aNil))) (zSeq (zFor (iRng1 (x2 dAdd (xP (eC (.int 1))) (xCall dP_law_take (xCons (xVar 0) (xCons (xP (eVar 2)) xNil))))) (gNm 7) B_law_net_0) (zSeq (zSet 9 (xT (eCall cLen (aCons (eVar 6) aNil)))) (zSeq (zSet 10 (xNew (nLst aNil))) (zSeq (zFor (iP (itSeq (eVar 1))) (gNm 11) B_law_net_1) (zRet (xTup (xCons (xVar 5) (xCons (xVar 10) (xCons (xCall dP_law_outs (xCons (xVar 0) (xCons (xVar 6) (xCons (xP (eVar 4)) (xCons (xP (eC (.int 6))) xNil))))) xNil))))))))))))
def dK_law_net : List V3 → Sto → R3 V3 := fnK N_law_net F_law_net
def dP_law_net : List V3 → Sto → R3 V3 := fnP N_law_net F_law_net
theorem c_law_net {P : Program} {w : World} {K : PySem.W.Frag} {mg : Str → Option Value} {base : Heap} (T : Tp K mg) (h : Def K mg (Str.ofString "_law_net") s_law_net) (XP_law_names : CalleeX P w K mg base cl0 2 (Str.ofString "_law_names") 2 dP_law_names) (XP_law_take : CalleeX P w K mg base cl0 1 (Str.ofString "_law_take") 2 dP_law_take) (XK_law_reel : CalleeX P w K mg base cl0 1 (Str.ofString "_law_reel") 1 dK_law_reel) (XP_law_again : CalleeX P w K mg base cl0 2 (Str.ofString "_law_again") 3 dP_law_again) (XP_law_gate : CalleeX P w K mg base cl0 2 (Str.ofString "_law_gate") 3 dP_law_gate) (XP_law_outs : CalleeX P w K mg base cl0 2 (Str.ofString "_law_outs") 4 dP_law_outs) : CalleeX P w K mg base cl0 3 (Str.ofString "_law_net") 4 dK_law_net := by
  obtain ⟨f, fd, F, hm⟩ := h
  exact ⟨f, fd, _, fn_keepB (k := 2) bd_law_net.2 sc_law_net.2 F S_law_net (fun cdv A outer s H E hr => (pzs_cons (pz_set S_law_net.nd rfl (Or.inl rfl) (px_call XP_law_names hr (by decide) rfl (pxa_cons (px_var 0) (pxa_cons (px_pure qpd_int) pxa_nil)) (xlen_cons (xlen_cons xlen_nil)))) (pzs_cons (pz_set S_law_net.nd rfl (Or.inl rfl) (px_new (qpn_lst qpas_nil))) (pzs_cons (pz_set S_law_net.nd rfl (Or.inl rfl) (px_new (qpn_lst qpas_nil))) (pzs_cons (pz_for PassesOwn.never rfl (pxi_range1 (px_op o_add (px_pure qpd_int) (px_call XP_law_take hr (by decide) rfl (pxa_cons (px_var 0) (pxa_cons (px_pure (qpd_var 2)) pxa_nil)) (xlen_cons (xlen_cons xlen_nil)))) rfl T.z_range) (pxg_name S_law_net.nd rfl (Or.inl rfl)) (pzs_cons (pz_set S_law_net.nd rfl (Or.inl rfl) (px_op o_add (px_pure qpd_int) (px_call XP_law_take hr (by decide) rfl (pxa_cons (px_var 0) (pxa_cons (px_pure qpd_int) pxa_nil)) (xlen_cons (xlen_cons xlen_nil))))) (pzs_cons (pz_app rfl (Or.inl rfl) (px_pure (qpd_tup (qpas_cons (qpd_ix (qpd_var 4) (qpd_op o_sub qpd_int (qpd_var 7)) (fun _ _ => rfl)) (qpas_cons (qpd_var 8) qpas_nil))))) (pzs_one (pz_set S_law_net.nd rfl (Or.inl rfl) (px_cat (px_var 6) (px_pure (qpd_new (qpn_rep (qpn_lst (qpas_cons (qpd_var 7) qpas_nil)) (qpd_var 8)))))))))) (pzs_cons (pz_set S_law_net.nd rfl (Or.inl rfl) (px_thaw (qpd_callB c_len rfl T.z_len PySem.boot_len (qpas_cons (qpd_var 6) qpas_nil)))) (pzs_cons (pz_set S_law_net.nd rfl (Or.inl rfl) (px_new (qpn_lst qpas_nil))) (pzs_cons (pz_for PassesOwn.never rfl (pxi_pure (qpit_seq (qpd_var 1))) (pxg_name S_law_net.nd rfl (Or.inl rfl)) (pzs_cons (pz_set S_law_net.nd rfl (Or.inl rfl) (px_call XK_law_reel hr (by decide) rfl (pxa_cons (px_pure (qpd_var 11)) pxa_nil) (xlen_cons xlen_nil))) (pzs_one (pz_if (PXW.pb (pxw_and (pxb_thaw (qpb_cmp (o_ne hr.units) (qpd_var 10) (qpd_new (qpn_lst qpas_nil)) (nomark _))) (pxw_and1 (pxb_cmp (o_eq hr.units) (px_call XP_law_take hr (by decide) rfl (pxa_cons (px_var 12) (pxa_cons (px_pure qpd_int) pxa_nil)) (xlen_cons (xlen_cons xlen_nil))) (px_pure qpd_int) (nomark _))))) (pzs_cons (pz_set S_law_net.nd rfl (Or.inl rfl) (px_call XP_law_take hr (by decide) rfl (pxa_cons (px_var 12) (pxa_cons (px_thaw (qpd_callB c_len rfl T.z_len PySem.boot_len (qpas_cons (qpd_var 10) qpas_nil))) pxa_nil)) (xlen_cons (xlen_cons xlen_nil)))) (pzs_cons (pz_app rfl (Or.inl rfl) (px_call XP_law_again hr (by decide) rfl (pxa_cons (px_var 12) (pxa_cons (px_thaw (qpd_ix (qpd_var 10) (qpd_var 13) (fun _ _ => rfl))) (pxa_cons (px_var 6) pxa_nil))) (xlen_cons (xlen_cons (xlen_cons xlen_nil))))) (pzs_one (pz_app rfl (Or.inl rfl) (px_thaw (qpd_ix (qpd_var 6) (qpd_op o_add (qpd_var 9) (qpd_var 13)) (fun _ _ => rfl))))))) (pzs_cons (pz_app rfl (Or.inl rfl) (px_call XP_law_gate hr (by decide) rfl (pxa_cons (px_var 12) (pxa_cons (px_var 6) (pxa_cons (px_pure (qpd_var 3)) pxa_nil))) (xlen_cons (xlen_cons (xlen_cons xlen_nil))))) (pzs_one (pz_app rfl (Or.inl rfl) (px_thaw (qpd_op o_add (qpd_callB c_len rfl T.z_len PySem.boot_len (qpas_cons (qpd_var 6) qpas_nil)) qpd_int))))))))) (pzs_one (pz_ret (px_tup (pxa_cons (px_var 5) (pxa_cons (px_var 10) (pxa_cons (px_call XP_law_outs hr (by decide) rfl (pxa_cons (px_var 0) (pxa_cons (px_var 6) (pxa_cons (px_pure (qpd_var 4)) (pxa_cons (px_pure qpd_int) pxa_nil)))) (xlen_cons (xlen_cons (xlen_cons (xlen_cons xlen_nil))))) pxa_nil)))))))))))))), hm, F.kp, F.binds fun _ _ _ _ _ _ us hl => match us, hl with | [_, _, _, _], _ => rfl⟩
/-! ### law_ahead -/
abbrev s_law_ahead : Stmt := top 17
abbrev N_law_ahead : List Str := [(Str.ofString "net")]
def bd_law_ahead : {b : List Stmt // defBody s_law_ahead = b} := by
  have e : defBody s_law_ahead = defBody s_law_ahead := rfl
  conv at e => rhs; whnf
  exact ⟨_, e⟩
def sc_law_ahead : {b : Scope // defScope s_law_ahead = b} := by
  have e : defScope s_law_ahead = defScope s_law_ahead := rfl
  conv at e => rhs; whnf
  exact ⟨_, e⟩
theorem S_law_ahead : FnScope N_law_ahead [(Str.ofString "net")] sc_law_ahead.1 := ⟨rfl, rfl, rfl, by decide +kernel, rfl, by decide +kernel, by decide +kernel⟩
def F_law_ahead : FS := (sRet (eCall cSum (aCons (eNew (nComp (itSeq (e2 ixD (eVar 0) (eC (.int 0)))) (gTupD 2 (gConsD (gNameD 0) (gConsD (gNameD 1) gNilD))) cYes (eVar 1) [(Str.ofString "name"), (Str.ofString "width")] [])) aNil)))
def d_law_ahead : List D → R D := fnD N_law_ahead F_law_ahead
theorem c_law_ahead {P : Program} {w : World} {K : PySem.W.Frag} {mg : Str → Option Value} {base : Heap} (T : Tp K mg) (h : Def K mg (Str.ofString "_law_ahead") s_law_ahead)  : Callee P w K mg base 1 (Str.ofString "_law_ahead") 1 d_law_ahead := by
  obtain ⟨f, fd, F, hm⟩ := h
  exact ⟨f, fd, _, qfn_pureB (k := 0) bd_law_ahead.2 sc_law_ahead.2 F S_law_ahead (fun cdv A outer s H E hr => (qpds_one (qpds_ret (qpd_callB (c_sum rfl) rfl T.z_sum PyProof.Rows.boot_sum (qpas_cons (qpd_new (qpn_comp rfl (CScope.of (own := [(Str.ofString "name"), (Str.ofString "width")]) (kp := []) (kn := []) (sc := sc_law_ahead.1) (N := N_law_ahead) rfl rfl (by decide +kernel)) (qpit_seq (qpd_ix (qpd_var 0) qpd_int (fun _ _ => rfl))) (fun _ _ _ => (qptg_tup rfl (qptgs_cons (qptg_name (show List.Nodup [(Str.ofString "name"), (Str.ofString "width")] from by decide +kernel) rfl (Or.inl rfl)) (qptgs_cons (qptg_name (show List.Nodup [(Str.ofString "name"), (Str.ofString "width")] from by decide +kernel) rfl (Or.inl rfl)) qptgs_nil)))) (fun _ _ _ => qpifs_yes) (fun _ _ _ => (qpd_var 1)))) qpas_nil))))), hm, F.kp, F.binds fun _ _ _ _ _ _ us hl => match us, hl with | [_], _ => rfl⟩
/-! ### law_some -/
abbrev s_law_some : Stmt := top 18
abbrev N_law_some : List Str := [(Str.ofString "reel"), (Str.ofString "many"), (Str.ofString "most"), (Str.ofString "found"), (Str.ofString "k"), (Str.ofString "number")]
def bd_law_some : {b : List Stmt // defBody s_law_some = b} := by
  have e : defBody s_law_some = defBody s_law_some := rfl
  conv at e => rhs; whnf
  exact ⟨_, e⟩
def sc_law_some : {b : Scope // defScope s_law_some = b} := by
  have e : defScope s_law_some = defScope s_law_some := rfl
  conv at e => rhs; whnf
  exact ⟨_, e⟩
theorem S_law_some : FnScope N_law_some [(Str.ofString "reel"), (Str.ofString "many"), (Str.ofString "most")] sc_law_some.1 := ⟨rfl, rfl, rfl, by decide +kernel, rfl, by decide +kernel, by decide +kernel⟩
def B_law_some_0 : FZ := (zSeq (zSet 5 (xCall dP_law_take (xCons (xVar 0) (xCons (xP (eVar 1)) xNil)))) (zIf (bT (b2 dNotIn (eVar 5) (eVar 3))) (zApp 3 (xP (eVar 5))) zNil))
def F_law_some : FZ := (zSeq (zSet 3 (xNew (nLst aNil))) (zSeq (zFor (iRng1 (xCall dP_law_take (xCons (xVar 0) (xCons (xP (e2 dAdd (eVar 2) (eC (.int 1)))) xNil)))) (gNm 4) B_law_some_0) (zRet (xT (eCall cTuple (aCons (eCall cSorted (aCons (eVar 3) aNil)) aNil))))))
def dK_law_some : List V3 → Sto → R3 V3 := fnK N_law_some F_law_some
def dP_law_some : List V3 → Sto → R3 V3 := fnP N_law_some F_law_some
theorem c_law_some {P : Program} {w : World} {K : PySem.W.Frag} {mg : Str → Option Value} {base : Heap} (T : Tp K mg) (h : Def K mg (Str.ofString "_law_some") s_law_some) (XP_law_take : CalleeX P w K mg base cl0 1 (Str.ofString "_law_take") 2 dP_law_take) : CalleeX P w K mg base cl0 2 (Str.ofString "_law_some") 3 dK_law_some := by
  obtain ⟨f, fd, F, hm⟩ := h
  exact ⟨f, fd, _, fn_keepB (k := 1) bd_law_some.2 sc_law_some.2 F S_law_some (fun cdv A outer s H E hr => (pzs_cons (pz_set S_law_some.nd rfl (Or.inl rfl) (px_new (qpn_lst qpas_nil))) (pzs_cons (pz_for PassesOwn.never rfl (pxi_range1 (px_call XP_law_take hr (by decide) rfl (pxa_cons (px_var 0) (pxa_cons (px_pure (qpd_op o_add (qpd_var 2) qpd_int)) pxa_nil)) (xlen_cons (xlen_cons xlen_nil))) rfl T.z_range) (pxg_name S_law_some.nd rfl (Or.inl rfl)) (pzs_cons (pz_set S_law_some.nd rfl (Or.inl rfl) (px_call XP_law_take hr (by decide) rfl (pxa_cons (px_var 0) (pxa_cons (px_pure (qpd_var 1)) pxa_nil)) (xlen_cons (xlen_cons xlen_nil)))) (pzs_one (pz_if (pxb_thaw (qpb_cmp o_notIn (qpd_var 5) (qpd_var 3) (by with_unfolding_all rfl))) (pzs_one (pz_app rfl (Or.inl rfl) (px_pure (qpd_var 5)))) pzs_nil)))) (pzs_one (pz_ret (px_thaw (qpd_callTy c_tuple rfl T.z_tuple PyProof.Rows.boot_tuple (qpas_cons (qpd_callB c_sorted rfl T.z_sorted PyProof.Rows.boot_sorted (qpas_cons (qpd_var 3) qpas_nil)) qpas_nil)))))))), hm, F.kp, F.binds fun _ _ _ _ _ _ us hl => match us, hl with | [_, _, _], _ => rfl⟩
/-! ### law_with_nots -/
abbrev s_law_with_nots : Stmt := top 19
abbrev N_law_with_nots : List Str := [(Str.ofString "net"), (Str.ofString "turned"), (Str.ofString "bad"), (Str.ofString "ahead"), (Str.ofString "gates"), (Str.ofString "there"), (Str.ofString "wire"), (Str.ofString "place"), (Str.ofString "kind"), (Str.ofString "wires"), (Str.ofString "sure")]
def bd_law_with_nots : {b : List Stmt // defBody s_law_with_nots = b} := by
  have e : defBody s_law_with_nots = defBody s_law_with_nots := rfl
  conv at e => rhs; whnf
  exact ⟨_, e⟩
def sc_law_with_nots : {b : Scope // defScope s_law_with_nots = b} := by
  have e : defScope s_law_with_nots = defScope s_law_with_nots := rfl
  conv at e => rhs; whnf
  exact ⟨_, e⟩
theorem S_law_with_nots : FnScope N_law_with_nots [(Str.ofString "net"), (Str.ofString "turned"), (Str.ofString "bad")] sc_law_with_nots.1 := ⟨rfl, rfl, rfl, by decide +kernel, rfl, by decide +kernel, by decide +kernel⟩
def B_law_with_nots_0 : FZ := (zSeq (zApp 4 (xP (eTup (aCons (eC (.str (Str.ofString "not"))) (aCons (eTup (aCons (eVar 6) aNil)) (aCons (eC (.bl true)) aNil)))))) (zPut (xVar 5) (xP (eVar 6)) (xT (e2 dSub (e2 dAdd (eVar 3) (eCall cLen (aCons (eVar 4) aNil))) (eC (.int 1))))))
def B_law_with_nots_1 : FZ := (zSeq (zApp 4 (xT (eTup (aCons (eVar 8) (aCons (eCall cTuple (aCons (eNew (nComp (itSeq (eVar 9)) (gNameD 0) cYes (e2 ixD (eVar 1) (eVar 0)) [(Str.ofString "wire")] [5])) aNil)) (aCons (eVar 10) aNil)))))) (zSeq (zApp 5 (xT (e2 dSub (e2 dAdd (eVar 3) (eCall cLen (aCons (eVar 4) aNil))) (eC (.int 1))))) (zIf (bP (b2 dIn (eVar 7) (eVar 1))) (zSeq (zApp 4 (xT (eTup (aCons (eC (.str (Str.ofString "not"))) (aCons (eTup (aCons (e2 ixD (eVar 5) (eNeg (eC (.int 1)))) aNil)) (aCons (eVar 10) aNil)))))) (zPut (xVar 5) (xP (eNeg (eC (.int 1)))) (xT (e2 dSub (e2 dAdd (eVar 3) (eCall cLen (aCons (eVar 4) aNil))) (eC (.int 1)))))) zNil)))
def F_law_with_nots : FZ := (zSeq (zSet 3 (xP (eCall d_law_ahead (aCons (eVar 0) aNil)))) (zSeq (zSet 4 (xNew (nLst aNil))) (zSeq (zSet 5 (xNew (nRng (eVar 3)))) (zSeq (zFor (iP (itSeq (eVar 2))) (gNm 6) B_law_with_nots_0) (zSeq (zFor (iP (itEnum (e2 ixD (eVar 0) (eC (.int 1))))) (gTp 2 (gCn (gNm 7) (gCn (gTp 3 (gCn (gNm 8) (gCn (gNm 9) (gCn (gNm 10) gNl)))) gNl))) B_law_with_nots_1) (zRet (xTup (xCons (xP (e2 ixD (eVar 0) (eC (.int 0)))) (xCons (xVar 4) (xCons (xNewT (nComp (itSeq (e2 ixD (eVar 0) (eC (.int 2)))) (gTupD 2 (gConsD (gNameD 0) (gConsD (gNameD 1) gNilD))) cYes (eTup (aCons (eVar 0) (aCons (eCall cTuple (aCons (eNew (nComp (itSeq (eVar 1)) (gNameD 0) cYes (e2 ixD (eVar 1) (eVar 0)) [(Str.ofString "wire")] [2])) aNil)) aNil))) [(Str.ofString "name"), (Str.ofString "wires")] [5])) xNil))))))))))
def dK_law_with_nots : List V3 → Sto → R3 V3 := fnK N_law_with_nots F_law_with_nots
def dP_law_with_nots : List V3 → Sto → R3 V3 := fnP N_law_with_nots F_law_with_nots
theorem c_law_with_nots {P : Program} {w : World} {K : PySem.W.Frag} {mg : Str → Option Value} {base : Heap} (T : Tp K mg) (h : Def K mg (Str.ofString "_law_with_nots") s_law_with_nots) (C_law_ahead : Callee P w K mg base 1 (Str.ofString "_law_ahead") 1 d_law_ahead) : CalleeX P w K mg base cl0 2 (Str.ofString "_law_with_nots") 3 dK_law_with_nots := by
  obtain ⟨f, fd, F, hm⟩ := h
  exact ⟨f, fd, _, fn_keepB (k := 1) bd_law_with_nots.2 sc_law_with_nots.2 F S_law_with_nots (fun cdv A outer s H E hr => (pzs_cons (pz_set S_law_with_nots.nd rfl (Or.inl rfl) (px_pure (qpd_callC C_law_ahead hr (by decide) rfl (qpas_cons (qpd_var 0) qpas_nil) (alen_cons alen_nil)))) (pzs_cons (pz_set S_law_with_nots.nd rfl (Or.inl rfl) (px_new (qpn_lst qpas_nil))) (pzs_cons (pz_set S_law_with_nots.nd rfl (Or.inr rfl) (px_new (qpn_rng rfl (qpd_var 3) rfl T.z_list rfl T.z_range))) (pzs_cons (pz_for PassesOwn.never rfl (pxi_pure (qpit_seq (qpd_var 2))) (pxg_name S_law_with_nots.nd rfl (Or.inl rfl)) (pzs_cons (pz_app rfl (Or.inl rfl) (px_pure (qpd_tup (qpas_cons qpd_str (qpas_cons (qpd_tup (qpas_cons (qpd_var 6) qpas_nil)) (qpas_cons qpd_bl qpas_nil)))))) (pzs_one (pz_put (px_thaw (qpd_op o_sub (qpd_op o_add (qpd_var 3) (qpd_callB c_len rfl T.z_len PySem.boot_len (qpas_cons (qpd_var 4) qpas_nil))) qpd_int)) (pg_sub (PX.go (px_var 5)) (PX.go (px_pure (qpd_var 6))) set_list))))) (pzs_cons (pz_for PassesOwn.never rfl (pxi_pure (qpit_enum (qpd_ix (qpd_var 0) qpd_int (fun _ _ => rfl)) rfl T.z_enumerate)) (pxg_tup rfl (pxgs_cons (pxg_name S_law_with_nots.nd rfl (Or.inl rfl)) (pxgs_cons (pxg_tup rfl (pxgs_cons (pxg_name S_law_with_nots.nd rfl (Or.inl rfl)) (pxgs_cons (pxg_name S_law_with_nots.nd rfl (Or.inl rfl)) (pxgs_cons (pxg_name S_law_with_nots.nd rfl (Or.inl rfl)) pxgs_nil)))) pxgs_nil))) (pzs_cons (pz_app rfl (Or.inl rfl) (px_thaw (qpd_tup (qpas_cons (qpd_var 8) (qpas_cons (qpd_callTy c_tuple rfl T.z_tuple PyProof.Rows.boot_tuple (qpas_cons (qpd_new (qpn_comp rfl (CScope.of (own := [(Str.ofString "wire")]) (kp := [5]) (kn := [(Str.ofString "there")]) (sc := sc_law_with_nots.1) (N := N_law_with_nots) rfl rfl (by decide +kernel)) (qpit_seq (qpd_var 9)) (fun _ _ _ => (qptg_name (show List.Nodup [(Str.ofString "wire"), (Str.ofString "there")] from by decide +kernel) rfl (Or.inl rfl))) (fun _ _ _ => qpifs_yes) (fun _ _ _ => (qpd_ix (qpd_var 1) (qpd_var 0) (fun _ _ => rfl))))) qpas_nil)) (qpas_cons (qpd_var 10) qpas_nil)))))) (pzs_cons (pz_app rfl (Or.inr (Or.inl rfl)) (px_thaw (qpd_op o_sub (qpd_op o_add (qpd_var 3) (qpd_callB c_len rfl T.z_len PySem.boot_len (qpas_cons (qpd_var 4) qpas_nil))) qpd_int))) (pzs_one (pz_if (pxb_pure (qpb_cmp o_in (qpd_var 7) (qpd_var 1) (by with_unfolding_all rfl))) (pzs_cons (pz_app rfl (Or.inl rfl) (px_thaw (qpd_tup (qpas_cons qpd_str (qpas_cons (qpd_tup (qpas_cons (qpd_ix (qpd_var 5) (qpd_neg qpd_int) (fun _ _ => rfl)) qpas_nil)) (qpas_cons (qpd_var 10) qpas_nil)))))) (pzs_one (pz_put (px_thaw (qpd_op o_sub (qpd_op o_add (qpd_var 3) (qpd_callB c_len rfl T.z_len PySem.boot_len (qpas_cons (qpd_var 4) qpas_nil))) qpd_int)) (pg_sub (PX.go (px_var 5)) (PX.go (px_pure (qpd_neg qpd_int))) set_list)))) pzs_nil))))) (pzs_one (pz_ret (px_tup (pxa_cons (px_pure (qpd_ix (qpd_var 0) qpd_int (fun _ _ => rfl))) (pxa_cons (px_var 4) (pxa_cons (px_newT (qpn_comp rfl (CScope.of (own := [(Str.ofString "name"), (Str.ofString "wires")]) (kp := [5]) (kn := [(Str.ofString "there")]) (sc := sc_law_with_nots.1) (N := N_law_with_nots) rfl rfl (by decide +kernel)) (qpit_seq (qpd_ix (qpd_var 0) qpd_int (fun _ _ => rfl))) (fun _ _ _ => (qptg_tup rfl (qptgs_cons (qptg_name (show List.Nodup [(Str.ofString "name"), (Str.ofString "wires"), (Str.ofString "there")] from by decide +kernel) rfl (Or.inl rfl)) (qptgs_cons (qptg_name (show List.Nodup [(Str.ofString "name"), (Str.ofString "wires"), (Str.ofString "there")] from by decide +kernel) rfl (Or.inl rfl)) qptgs_nil)))) (fun _ _ _ => qpifs_yes) (fun _ _ _ => (qpd_tup (qpas_cons (qpd_var 0) (qpas_cons (qpd_callTy c_tuple rfl T.z_tuple PyProof.Rows.boot_tuple (qpas_cons (qpd_new (qpn_comp rfl (CScope.of (own := [(Str.ofString "wire")]) (kp := [2]) (kn := [(Str.ofString "there")]) rfl rfl rfl) (qpit_seq (qpd_var 1)) (fun _ _ _ => (qptg_name (show List.Nodup [(Str.ofString "wire"), (Str.ofString "there")] from by decide +kernel) rfl (Or.inl rfl))) (fun _ _ _ => qpifs_yes) (fun _ _ _ => (qpd_ix (qpd_var 1) (qpd_var 0) (fun _ _ => rfl))))) qpas_nil)) qpas_nil)))))) pxa_nil)))))))))))), hm, F.kp, F.binds fun _ _ _ _ _ _ us hl => match us, hl with | [_, _, _], _ => rfl⟩
/-! ### law_with_one_more -/
abbrev s_law_with_one_more : Stmt := top 20
abbrev N_law_with_one_more : List Str := [(Str.ofString "net"), (Str.ofString "ahead"), (Str.ofString "gates"), (Str.ofString "kind"), (Str.ofString "wires"), (Str.ofString "sure"), (Str.ofString "outs")]
def bd_law_with_one_more : {b : List Stmt // defBody s_law_with_one_more = b} := by
  have e : defBody s_law_with_one_more = defBody s_law_with_one_more := rfl
  conv at e => rhs; whnf
  exact ⟨_, e⟩
def sc_law_with_one_more : {b : Scope // defScope s_law_with_one_more = b} := by
  have e : defScope s_law_with_one_more = defScope s_law_with_one_more := rfl
  conv at e => rhs; whnf
  exact ⟨_, e⟩
theorem S_law_with_one_more : FnScope N_law_with_one_more [(Str.ofString "net")] sc_law_with_one_more.1 := ⟨rfl, rfl, rfl, by decide +kernel, rfl, by decide +kernel, by decide +kernel⟩
def B_law_with_one_more_0 : FS := (sApp 2 (eTup (aCons (eVar 3) (aCons (eCall cTuple (aCons (eNew (nComp (itSeq (eVar 4)) (gNameD 0) cYes (e2 dAdd (eVar 0) (e2 dMul (eC (.int 2)) (eCall cIntA (aCons (e2 dGe (eVar 0) (eVar 1)) aNil)))) [(Str.ofString "wire")] [1])) aNil)) (aCons (eVar 5) aNil)))))
def F_law_with_one_more : FS := (sSeq (sSet 1 (eCall d_law_ahead (aCons (eVar 0) aNil))) (sSeq (sBld 2 (nLst aNil)) (sSeq (sFor (itSeq (e2 ixD (eVar 0) (eC (.int 1)))) (gTupD 3 (gConsD (gNameD 3) (gConsD (gNameD 4) (gConsD (gNameD 5) gNilD)))) B_law_with_one_more_0) (sFrz 2 (sSeq (sSet 6 (eNew (nComp (itSeq (e2 ixD (eVar 0) (eC (.int 2)))) (gTupD 2 (gConsD (gNameD 0) (gConsD (gNameD 1) gNilD))) cYes (eTup (aCons (eVar 0) (aCons (eCall cTuple (aCons (eNew (nComp (itSeq (eVar 1)) (gNameD 0) cYes (e2 dAdd (eVar 0) (e2 dMul (eC (.int 2)) (eCall cIntA (aCons (e2 dGe (eVar 0) (eVar 1)) aNil)))) [(Str.ofString "wire")] [2])) aNil)) aNil))) [(Str.ofString "name"), (Str.ofString "wires")] [1]))) (sRet (eTup (aCons (e2 dAdd (e2 ixD (eVar 0) (eC (.int 0))) (eNew (nLst (aCons (eTup (aCons (eC (.str (Str.ofString "moreins"))) (aCons (eC (.int 2)) aNil))) aNil)))) (aCons (eVar 2) (aCons (eVar 6) aNil))))))))))
def d_law_with_one_more : List D → R D := fnD N_law_with_one_more F_law_with_one_more
theorem c_law_with_one_more {P : Program} {w : World} {K : PySem.W.Frag} {mg : Str → Option Value} {base : Heap} (T : Tp K mg) (h : Def K mg (Str.ofString "_law_with_one_more") s_law_with_one_more) (C_law_ahead : Callee P w K mg base 1 (Str.ofString "_law_ahead") 1 d_law_ahead) : Callee P w K mg base 2 (Str.ofString "_law_with_one_more") 1 d_law_with_one_more := by
  obtain ⟨f, fd, F, hm⟩ := h
  exact ⟨f, fd, _, qfn_pureB (k := 1) bd_law_with_one_more.2 sc_law_with_one_more.2 F S_law_with_one_more (fun cdv A outer s H E hr => (qpds_cons (qpds_set S_law_with_one_more.nd rfl (Or.inr rfl) (qpd_callC C_law_ahead hr (by decide) rfl (qpas_cons (qpd_var 0) qpas_nil) (alen_cons alen_nil))) (qpds_cons (qpds_bld S_law_with_one_more.nd rfl (Or.inl rfl) (qpn_lst qpas_nil)) (qpds_cons (qpds_for PassesOwn.never rfl (qpit_seq (qpd_ix (qpd_var 0) qpd_int (fun _ _ => rfl))) (qptg_tup rfl (qptgs_cons (qptg_name S_law_with_one_more.nd rfl (Or.inl rfl)) (qptgs_cons (qptg_name S_law_with_one_more.nd rfl (Or.inl rfl)) (qptgs_cons (qptg_name S_law_with_one_more.nd rfl (Or.inl rfl)) qptgs_nil)))) (qpds_one (qpds_app rfl (Or.inl rfl) (qpd_tup (qpas_cons (qpd_var 3) (qpas_cons (qpd_callTy c_tuple rfl T.z_tuple PyProof.Rows.boot_tuple (qpas_cons (qpd_new (qpn_comp rfl (CScope.of (own := [(Str.ofString "wire")]) (kp := [1]) (kn := [(Str.ofString "ahead")]) (sc := sc_law_with_one_more.1) (N := N_law_with_one_more) rfl rfl (by decide +kernel)) (qpit_seq (qpd_var 4)) (fun _ _ _ => (qptg_name (show List.Nodup [(Str.ofString "wire"), (Str.ofString "ahead")] from by decide +kernel) rfl (Or.inl rfl))) (fun _ _ _ => qpifs_yes) (fun _ _ _ => (qpd_op o_add (qpd_var 0) (qpd_op o_mul qpd_int (qpd_callTy c_intA rfl T.z_int PyProof.Rows.boot_int (qpas_cons (qpd_cmp o_ge (qpd_var 0) (qpd_var 1) (nomark _)) qpas_nil))))))) qpas_nil)) (qpas_cons (qpd_var 5) qpas_nil))))))) (qpds_frz 2 (qpds_cons (qpds_setComp rfl S_law_with_one_more.nd rfl rfl (CScope.of (own := [(Str.ofString "name"), (Str.ofString "wires")]) (kp := [1]) (kn := [(Str.ofString "ahead")]) (sc := sc_law_with_one_more.1) (N := N_law_with_one_more) rfl rfl (by decide +kernel)) (qpit_seq (qpd_ix (qpd_var 0) qpd_int (fun _ _ => rfl))) (fun _ _ _ => (qptg_tup rfl (qptgs_cons (qptg_name (show List.Nodup [(Str.ofString "name"), (Str.ofString "wires"), (Str.ofString "ahead")] from by decide +kernel) rfl (Or.inl rfl)) (qptgs_cons (qptg_name (show List.Nodup [(Str.ofString "name"), (Str.ofString "wires"), (Str.ofString "ahead")] from by decide +kernel) rfl (Or.inl rfl)) qptgs_nil)))) (fun _ _ _ => qpifs_yes) (fun _ _ _ => (qpd_tup (qpas_cons (qpd_var 0) (qpas_cons (qpd_callTy c_tuple rfl T.z_tuple PyProof.Rows.boot_tuple (qpas_cons (qpd_new (qpn_comp rfl (CScope.of (own := [(Str.ofString "wire")]) (kp := [2]) (kn := [(Str.ofString "ahead")]) rfl rfl rfl) (qpit_seq (qpd_var 1)) (fun _ _ _ => (qptg_name (show List.Nodup [(Str.ofString "wire"), (Str.ofString "ahead")] from by decide +kernel) rfl (Or.inl rfl))) (fun _ _ _ => qpifs_yes) (fun _ _ _ => (qpd_op o_add (qpd_var 0) (qpd_op o_mul qpd_int (qpd_callTy c_intA rfl T.z_int PyProof.Rows.boot_int (qpas_cons (qpd_cmp o_ge (qpd_var 0) (qpd_var 1) (nomark _)) qpas_nil))))))) qpas_nil)) qpas_nil))))) (qpds_one (qpds_ret (qpd_tup (qpas_cons (qpd_op o_add (qpd_ix (qpd_var 0) qpd_int (fun _ _ => rfl)) (qpd_new (qpn_lst (qpas_cons (qpd_tup (qpas_cons qpd_str (qpas_cons qpd_int qpas_nil))) qpas_nil)))) (qpas_cons (qpd_var 2) (qpas_cons (qpd_var 6) qpas_nil)))))))))))), hm, F.kp, F.binds fun _ _ _ _ _ _ us hl => match us, hl with | [_], _ => rfl⟩
/-! ### law -/
abbrev s_law : Stmt := top 21
abbrev N_law : List Str := [(Str.ofString "script"), (Str.ofString "reel"), (Str.ofString "cells"), (Str.ofString "k"), (Str.ofString "net"), (Str.ofString "ins"), (Str.ofString "gates"), (Str.ofString "outs"), (Str.ofString "idle"), (Str.ofString "turn"), (Str.ofString "bits"), (Str.ofString "turned"), (Str.ofString "bad"), (Str.ofString "found")]
def bd_law : {b : List Stmt // defBody s_law = b} := by
  have e : defBody s_law = defBody s_law := rfl
  conv at e => rhs; whnf
  exact ⟨_, e⟩
def sc_law : {b : Scope // defScope s_law = b} := by
  have e : defScope s_law = defScope s_law := rfl
  conv at e => rhs; whnf
  exact ⟨_, e⟩
theorem S_law : FnScope N_law [(Str.ofString "script")] sc_law.1 := ⟨rfl, rfl, rfl, by decide +kernel, rfl, by decide +kernel, by decide +kernel⟩
def B_law_0 : FZ := (zSet 2 (x2 dAddX (xP (eVar 2)) (xLst (xCons (xCall dP_law_take (xCons (xVar 1) (xCons (xP (e2 dPow (eC (.int 10)) (eC (.int 40)))) xNil))) xNil))))
def B_law_1 : FZ := (zSeq (zSet 10 (xCallB cTuple (xCons (xComp (iP (itRng1 (eCall cLen (aCons (eVar 5) aNil)))) (gNm 0) bYes (xCall dP_law_take (xCons (xVar 1) (xCons (xP (eC (.int 2))) xNil))) [(Str.ofString "k")] [1]) xNil))) (zSeq (zSet 11 (xCall dP_law_some (xCons (xVar 1) (xCons (xP (eCall cLen (aCons (eVar 6) aNil))) (xCons (xP (eC (.int 4))) xNil))))) (zSeq (zSet 12 (xCall dP_law_some (xCons (xVar 1) (xCons (xP (eCall d_law_ahead (aCons (eVar 4) aNil))) (xCons (xP (eC (.int 3))) xNil))))) (zSeq (zSet 13 (xCall dP_run (xCons (xP (eVar 4)) (xCons (xP (eVar 10)) (xCons (xP (eVar 11)) (xCons (xP (eVar 12)) xNil)))))) (zSeq (zIf (xb2 dNe (xCall dP_run (xCons (xCall dP_law_with_nots (xCons (xP (eVar 4)) (xCons (xP (eVar 11)) (xCons (xP (eVar 12)) xNil)))) (xCons (xP (eVar 10)) (xCons (xP (eTup aNil)) (xCons (xP (eTup aNil)) xNil))))) (xP (eVar 13))) (zRet (xP (eC (.bl false)))) zNil) (zSeq (zIf (yOr (xb2 dNe (xCall dP_run (xCons (xP (eVar 8)) (xCons (xP (eVar 10)) (xCons (xP (eVar 11)) (xCons (xP (eVar 12)) xNil))))) (xP (eVar 13))) (xb2 dNe (xCall dP_run (xCons (xP (eVar 8)) (xCons (xP (eVar 10)) (xCons (xP (e2 dAddX (eVar 11) (eTup (aCons (eCall cLen (aCons (eVar 6) aNil)) aNil)))) (xCons (xP (eVar 12)) xNil))))) (xP (eVar 13)))) (zRet (xP (eC (.bl false)))) zNil) (zSeq (zIf (xb2 dNe (xCall dP_run (xCons (xP (eCall d_law_with_one_more (aCons (eVar 4) aNil))) (xCons (x2 dAddX (xP (eVar 10)) (xTup (xCons (xCall dP_law_take (xCons (xVar 1) (xCons (xP (eC (.int 2))) xNil))) xNil))) (xCons (xP (eVar 11)) (xCons (xP (eVar 12)) xNil))))) (xP (eVar 13))) (zRet (xP (eC (.bl false)))) zNil) (zIf (xb2 dNe (xCall dP_run (xCons (xP (eTup (aCons (eVar 5) (aCons (eVar 6) (aCons (eRev (eVar 7)) aNil))))) (xCons (xP (eVar 10)) (xCons (xP (eVar 11)) (xCons (xP (eVar 12)) xNil))))) (xP (eRev (eVar 13)))) (zRet (xP (eC (.bl false)))) zNil))))))))
def F_law : FZ := (zSeq (zSet 1 (xCall dK_law_reel (xCons (xP (eCall d_law_cell_at (aCons (eVar 0) (aCons (eC (.int 0)) aNil)))) xNil))) (zSeq (zSet 2 (xP (eSl (eVar 0) (oSome (eC (.int 2))) (oSome (eC (.int 26)))))) (zSeq (zFor (iP (itRng1 (e2 dSub (eC (.int 2)) (eCall cLen (aCons (eVar 2) aNil))))) (gNm 3) B_law_0) (zSeq (zSet 4 (xCall dP_law_net (xCons (xVar 1) (xCons (xP (eVar 2)) (xCons (xP (eC (.int 5))) (xCons (xP (eC (.int 1))) xNil)))))) (zSeq (zAsg (xP (eVar 4)) (gTp 3 (gCn (gNm 5) (gCn (gNm 6) (gCn (gNm 7) gNl))))) (zSeq (zSet 1 (xCall dK_law_reel (xCons (xP (eCall d_law_cell_at (aCons (eVar 0) (aCons (eC (.int 1)) aNil)))) xNil))) (zSeq (zSet 8 (xP (eTup (aCons (eVar 5) (aCons (e2 dAddX (eVar 6) (eNew (nLst (aCons (eTup (aCons (eC (.str (Str.ofString "not"))) (aCons (eTup (aCons (eC (.int 0)) aNil)) (aCons (eC (.bl false)) aNil)))) aNil)))) (aCons (eVar 7) aNil)))))) (zSeq (zFor (iP (itRng1 (eC (.int 3)))) (gNm 9) B_law_1) (zRet (xP (eC (.bl true))))))))))))
def dK_law : List V3 → Sto → R3 V3 := fnK N_law F_law
def dP_law : List V3 → Sto → R3 V3 := fnP N_law F_law
def d_law : List D → R D := fnL N_law F_law
/-! ### the law -/
theorem law_ok {P : Program} {w : World} {K : PySem.W.Frag} {mg : Str → Option Value} {base : Heap} {f : Addr} {fd : FuncData} (T : Tp K mg) (D_vote_of : Def K mg (Str.ofString "vote_of") s_vote_of) (D_gate_mask : Def K mg (Str.ofString "gate_mask") s_gate_mask) (D_in_wire_masks : Def K mg (Str.ofString "in_wire_masks") s_in_wire_masks) (D_masks_at : Def K mg (Str.ofString "masks_at") s_masks_at) (D_wire_masks : Def K mg (Str.ofString "wire_masks") s_wire_masks) (D_out_masks : Def K mg (Str.ofString "out_masks") s_out_masks) (D_run : Def K mg (Str.ofString "run") s_run) (D_law_cell_at : Def K mg (Str.ofString "_law_cell_at") s_law_cell_at) (D_law_reel : Def K mg (Str.ofString "_law_reel") s_law_reel) (D_law_take : Def K mg (Str.ofString "_law_take") s_law_take) (D_law_names : Def K mg (Str.ofString "_law_names") s_law_names) (D_law_gate : Def K mg (Str.ofString "_law_gate") s_law_gate) (D_law_again : Def K mg (Str.ofString "_law_again") s_law_again) (D_law_outs : Def K mg (Str.ofString "_law_outs") s_law_outs) (D_law_net : Def K mg (Str.ofString "_law_net") s_law_net) (D_law_ahead : Def K mg (Str.ofString "_law_ahead") s_law_ahead) (D_law_some : Def K mg (Str.ofString "_law_some") s_law_some) (D_law_with_nots : Def K mg (Str.ofString "_law_with_nots") s_law_with_nots) (D_law_with_one_more : Def K mg (Str.ofString "_law_with_one_more") s_law_with_one_more) (F : Fun K (Str.ofString "law") (Str.ofString "law") s_law f fd) : FnOk P w K mg base CX0 5 f fd [Str.ofString "script"] (spD K 1 d_law) := by
  have C_vote_of : Callee P w K mg base 1 (Str.ofString "vote_of") 1 d_vote_of := c_vote_of T D_vote_of 
  have C_gate_mask : Callee P w K mg base 2 (Str.ofString "gate_mask") 3 d_gate_mask := c_gate_mask T D_gate_mask C_vote_of
  have XK_in_wire_masks : CalleeX P w K mg base cl0 1 (Str.ofString "in_wire_masks") 4 dK_in_wire_masks := c_in_wire_masks T D_in_wire_masks 
  have XP_in_wire_masks : CalleeX P w K mg base cl0 1 (Str.ofString "in_wire_masks") 4 dP_in_wire_masks := XK_in_wire_masks.p
  have C_masks_at : Callee P w K mg base 1 (Str.ofString "masks_at") 2 d_masks_at := c_masks_at T D_masks_at 
  have XK_wire_masks : CalleeX P w K mg base cl0 3 (Str.ofString "wire_masks") 5 dK_wire_masks := c_wire_masks T D_wire_masks C_masks_at C_gate_mask XK_in_wire_masks
  have XP_wire_masks : CalleeX P w K mg base cl0 3 (Str.ofString "wire_masks") 5 dP_wire_masks := XK_wire_masks.p
  have XK_out_masks : CalleeX P w K mg base cl0 2 (Str.ofString "out_masks") 2 dK_out_masks := c_out_masks T D_out_masks C_masks_at
  have XP_out_masks : CalleeX P w K mg base cl0 2 (Str.ofString "out_masks") 2 dP_out_masks := XK_out_masks.p
  have XK_run : CalleeX P w K mg base cl0 4 (Str.ofString "run") 4 dK_run := c_run T D_run XK_out_masks XP_wire_masks
  have XP_run : CalleeX P w K mg base cl0 4 (Str.ofString "run") 4 dP_run := XK_run.p
  have C_law_cell_at : Callee P w K mg base 1 (Str.ofString "_law_cell_at") 2 d_law_cell_at := c_law_cell_at T D_law_cell_at 
  have XK_law_reel : CalleeX P w K mg base cl0 1 (Str.ofString "_law_reel") 1 dK_law_reel := c_law_reel T D_law_reel 
  have XP_law_reel : CalleeX P w K mg base cl0 1 (Str.ofString "_law_reel") 1 dP_law_reel := XK_law_reel.p
  have XK_law_take : CalleeX P w K mg base cl0 1 (Str.ofString "_law_take") 2 dK_law_take := c_law_take T D_law_take 
  have XP_law_take : CalleeX P w K mg base cl0 1 (Str.ofString "_law_take") 2 dP_law_take := XK_law_take.p
  have XK_law_names : CalleeX P w K mg base cl0 2 (Str.ofString "_law_names") 2 dK_law_names := c_law_names T D_law_names XP_law_take
  have XP_law_names : CalleeX P w K mg base cl0 2 (Str.ofString "_law_names") 2 dP_law_names := XK_law_names.p
  have XK_law_gate : CalleeX P w K mg base cl0 2 (Str.ofString "_law_gate") 3 dK_law_gate := c_law_gate T D_law_gate XP_law_take
  have XP_law_gate : CalleeX P w K mg base cl0 2 (Str.ofString "_law_gate") 3 dP_law_gate := XK_law_gate.p
  have XK_law_again : CalleeX P w K mg base cl0 2 (Str.ofString "_law_again") 3 dK_law_again := c_law_again T D_law_again XP_law_take
  have XP_law_again : CalleeX P w K mg base cl0 2 (Str.ofString "_law_again") 3 dP_law_again := XK_law_again.p
  have XK_law_outs : CalleeX P w K mg base cl0 2 (Str.ofString "_law_outs") 4 dK_law_outs := c_law_outs T D_law_outs XP_law_take
  have XP_law_outs : CalleeX P w K mg base cl0 2 (Str.ofString "_law_outs") 4 dP_law_outs := XK_law_outs.p
  have XK_law_net : CalleeX P w K mg base cl0 3 (Str.ofString "_law_net") 4 dK_law_net := c_law_net T D_law_net XP_law_names XP_law_take XK_law_reel XP_law_again XP_law_gate XP_law_outs
  have XP_law_net : CalleeX P w K mg base cl0 3 (Str.ofString "_law_net") 4 dP_law_net := XK_law_net.p
  have C_law_ahead : Callee P w K mg base 1 (Str.ofString "_law_ahead") 1 d_law_ahead := c_law_ahead T D_law_ahead 
  have XK_law_some : CalleeX P w K mg base cl0 2 (Str.ofString "_law_some") 3 dK_law_some := c_law_some T D_law_some XP_law_take
  have XP_law_some : CalleeX P w K mg base cl0 2 (Str.ofString "_law_some") 3 dP_law_some := XK_law_some.p
  have XK_law_with_nots : CalleeX P w K mg base cl0 2 (Str.ofString "_law_with_nots") 3 dK_law_with_nots := c_law_with_nots T D_law_with_nots C_law_ahead
  have XP_law_with_nots : CalleeX P w K mg base cl0 2 (Str.ofString "_law_with_nots") 3 dP_law_with_nots := XK_law_with_nots.p
  have C_law_with_one_more : Callee P w K mg base 2 (Str.ofString "_law_with_one_more") 1 d_law_with_one_more := c_law_with_one_more T D_law_with_one_more C_law_ahead
  exact (fn_keepB (cl := cl0) (N := N_law) (F := F_law) (k := 4) bd_law.2 sc_law.2 F S_law (fun cdv A outer s H E hr => (pzs_cons (pz_set S_law.nd rfl (Or.inr rfl) (px_call XK_law_reel hr (by decide) rfl (pxa_cons (px_pure (qpd_callC C_law_cell_at hr (by decide) rfl (qpas_cons (qpd_var 0) (qpas_cons qpd_int qpas_nil)) (alen_cons (alen_cons alen_nil)))) pxa_nil) (xlen_cons xlen_nil))) (pzs_cons (pz_set S_law.nd rfl (Or.inl rfl) (px_pure (qpd_sl (qpd_var 0) (qpp_some qpd_int) (qpp_some qpd_int)))) (pzs_cons (pz_for PassesOwn.never rfl (pxi_pure (qpit_range1 (qpd_op o_sub qpd_int (qpd_callB c_len rfl T.z_len PySem.boot_len (qpas_cons (qpd_var 2) qpas_nil))) rfl T.z_range)) (pxg_name S_law.nd rfl (Or.inl rfl)) (pzs_one (pz_set S_law.nd rfl (Or.inl rfl) (px_op o_addX (px_pure (qpd_var 2)) (px_lst (pxa_cons (px_call XP_law_take hr (by decide) rfl (pxa_cons (px_var 1) (pxa_cons (px_pure (qpd_op o_pow qpd_int qpd_int)) pxa_nil)) (xlen_cons (xlen_cons xlen_nil))) pxa_nil)))))) (pzs_cons (pz_set S_law.nd rfl (Or.inl rfl) (px_call XP_law_net hr (by decide) rfl (pxa_cons (px_var 1) (pxa_cons (px_pure (qpd_var 2)) (pxa_cons (px_pure qpd_int) (pxa_cons (px_pure qpd_int) pxa_nil)))) (xlen_cons (xlen_cons (xlen_cons (xlen_cons xlen_nil)))))) (pzs_cons (pz_asg (px_pure (qpd_var 4)) (pxg_tup rfl (pxgs_cons (pxg_name S_law.nd rfl (Or.inl rfl)) (pxgs_cons (pxg_name S_law.nd rfl (Or.inl rfl)) (pxgs_cons (pxg_name S_law.nd rfl (Or.inl rfl)) pxgs_nil))))) (pzs_cons (pz_set S_law.nd rfl (Or.inr rfl) (px_call XK_law_reel hr (by decide) rfl (pxa_cons (px_pure (qpd_callC C_law_cell_at hr (by decide) rfl (qpas_cons (qpd_var 0) (qpas_cons qpd_int qpas_nil)) (alen_cons (alen_cons alen_nil)))) pxa_nil) (xlen_cons xlen_nil))) (pzs_cons (pz_set S_law.nd rfl (Or.inl rfl) (px_pure (qpd_tup (qpas_cons (qpd_var 5) (qpas_cons (qpd_op o_addX (qpd_var 6) (qpd_new (qpn_lst (qpas_cons (qpd_tup (qpas_cons qpd_str (qpas_cons (qpd_tup (qpas_cons qpd_int qpas_nil)) (qpas_cons qpd_bl qpas_nil)))) qpas_nil)))) (qpas_cons (qpd_var 7) qpas_nil)))))) (pzs_cons (pz_for PassesOwn.never rfl (pxi_pure (qpit_range1 qpd_int rfl T.z_range)) (pxg_name S_law.nd rfl (Or.inl rfl)) (pzs_cons (pz_set S_law.nd rfl (Or.inl rfl) (px_callTy c_tuple rfl T.z_tuple PyProof.Rows.boot_tuple (pxa_cons (px_comp rfl (CScope.of (own := [(Str.ofString "k")]) (kp := [1]) (kn := [(Str.ofString "reel")]) (sc := sc_law.1) (N := N_law) rfl rfl (by decide +kernel)) (pxi_pure (qpit_range1 (qpd_callB c_len rfl T.z_len PySem.boot_len (qpas_cons (qpd_var 5) qpas_nil)) rfl T.z_range)) (fun _ _ _ => (pxg_name (show List.Nodup [(Str.ofString "k"), (Str.ofString "reel")] from by decide +kernel) rfl (Or.inl rfl))) (fun _ _ _ => pxifs_yes) (fun _ _ _ => (px_call XP_law_take hr (by decide) rfl (pxa_cons (px_var 1) (pxa_cons (px_pure qpd_int) pxa_nil)) (xlen_cons (xlen_cons xlen_nil))))) pxa_nil))) (pzs_cons (pz_set S_law.nd rfl (Or.inl rfl) (px_call XP_law_some hr (by decide) rfl (pxa_cons (px_var 1) (pxa_cons (px_pure (qpd_callB c_len rfl T.z_len PySem.boot_len (qpas_cons (qpd_var 6) qpas_nil))) (pxa_cons (px_pure qpd_int) pxa_nil))) (xlen_cons (xlen_cons (xlen_cons xlen_nil))))) (pzs_cons (pz_set S_law.nd rfl (Or.inl rfl) (px_call XP_law_some hr (by decide) rfl (pxa_cons (px_var 1) (pxa_cons (px_pure (qpd_callC C_law_ahead hr (by decide) rfl (qpas_cons (qpd_var 4) qpas_nil) (alen_cons alen_nil))) (pxa_cons (px_pure qpd_int) pxa_nil))) (xlen_cons (xlen_cons (xlen_cons xlen_nil))))) (pzs_cons (pz_set S_law.nd rfl (Or.inl rfl) (px_call XP_run hr (by decide) rfl (pxa_cons (px_pure (qpd_var 4)) (pxa_cons (px_pure (qpd_var 10)) (pxa_cons (px_pure (qpd_var 11)) (pxa_cons (px_pure (qpd_var 12)) pxa_nil)))) (xlen_cons (xlen_cons (xlen_cons (xlen_cons xlen_nil)))))) (pzs_cons (pz_if (pxb_cmp (o_ne hr.units) (px_call XP_run hr (by decide) rfl (pxa_cons (px_call XP_law_with_nots hr (by decide) rfl (pxa_cons (px_pure (qpd_var 4)) (pxa_cons (px_pure (qpd_var 11)) (pxa_cons (px_pure (qpd_var 12)) pxa_nil))) (xlen_cons (xlen_cons (xlen_cons xlen_nil)))) (pxa_cons (px_pure (qpd_var 10)) (pxa_cons (px_pure (qpd_tup qpas_nil)) (pxa_cons (px_pure (qpd_tup qpas_nil)) pxa_nil)))) (xlen_cons (xlen_cons (xlen_cons (xlen_cons xlen_nil))))) (px_pure (qpd_var 13)) (nomark _)) (pzs_one (pz_ret (px_pure qpd_bl))) pzs_nil) (pzs_cons (pz_if (PXW.pb (pxw_or (pxb_cmp (o_ne hr.units) (px_call XP_run hr (by decide) rfl (pxa_cons (px_pure (qpd_var 8)) (pxa_cons (px_pure (qpd_var 10)) (pxa_cons (px_pure (qpd_var 11)) (pxa_cons (px_pure (qpd_var 12)) pxa_nil)))) (xlen_cons (xlen_cons (xlen_cons (xlen_cons xlen_nil))))) (px_pure (qpd_var 13)) (nomark _)) (pxw_or1 (pxb_cmp (o_ne hr.units) (px_call XP_run hr (by decide) rfl (pxa_cons (px_pure (qpd_var 8)) (pxa_cons (px_pure (qpd_var 10)) (pxa_cons (px_pure (qpd_op o_addX (qpd_var 11) (qpd_tup (qpas_cons (qpd_callB c_len rfl T.z_len PySem.boot_len (qpas_cons (qpd_var 6) qpas_nil)) qpas_nil)))) (pxa_cons (px_pure (qpd_var 12)) pxa_nil)))) (xlen_cons (xlen_cons (xlen_cons (xlen_cons xlen_nil))))) (px_pure (qpd_var 13)) (nomark _))))) (pzs_one (pz_ret (px_pure qpd_bl))) pzs_nil) (pzs_cons (pz_if (pxb_cmp (o_ne hr.units) (px_call XP_run hr (by decide) rfl (pxa_cons (px_pure (qpd_callC C_law_with_one_more hr (by decide) rfl (qpas_cons (qpd_var 4) qpas_nil) (alen_cons alen_nil))) (pxa_cons (px_op o_addX (px_pure (qpd_var 10)) (px_tup (pxa_cons (px_call XP_law_take hr (by decide) rfl (pxa_cons (px_var 1) (pxa_cons (px_pure qpd_int) pxa_nil)) (xlen_cons (xlen_cons xlen_nil))) pxa_nil))) (pxa_cons (px_pure (qpd_var 11)) (pxa_cons (px_pure (qpd_var 12)) pxa_nil)))) (xlen_cons (xlen_cons (xlen_cons (xlen_cons xlen_nil))))) (px_pure (qpd_var 13)) (nomark _)) (pzs_one (pz_ret (px_pure qpd_bl))) pzs_nil) (pzs_one (pz_if (pxb_cmp (o_ne hr.units) (px_call XP_run hr (by decide) rfl (pxa_cons (px_pure (qpd_tup (qpas_cons (qpd_var 5) (qpas_cons (qpd_var 6) (qpas_cons (qpd_rev (qpd_var 7) (qpp_some (qpd_neg qpd_int))) qpas_nil))))) (pxa_cons (px_pure (qpd_var 10)) (pxa_cons (px_pure (qpd_var 11)) (pxa_cons (px_pure (qpd_var 12)) pxa_nil)))) (xlen_cons (xlen_cons (xlen_cons (xlen_cons xlen_nil))))) (px_pure (qpd_rev (qpd_var 13) (qpp_some (qpd_neg qpd_int)))) (nomark _)) (pzs_one (pz_ret (px_pure qpd_bl))) pzs_nil)))))))))) (pzs_one (pz_ret (px_pure qpd_bl))))))))))))).imp fun _ _ _ _ h => fnL_of h
end K12

end
section
set_option maxRecDepth 100000
set_option maxHeartbeats 4000000
namespace K12
open PySem PySem.Spec PyProof.Rows L2 L3
theorem set_get {S : Sto} {k : Nat} {o x : SO} (h : S[k]? = some x) : (S.set k o)[k]? = some o := by
  obtain ⟨h1, _⟩ := List.getElem?_eq_some_iff.mp h
  rw [List.getElem?_set_self h1]
/-- the reel at place k -/
def Pot (k : Nat) (S : Sto) : Prop := Flat S ∧ ∃ a c, S[k]? = some (.lst [.int a, .int c])
/-- the store goes on, the reel alone changed -/
structure Ev (k : Nat) (S S1 : Sto) : Prop where
  p : Pot k S1
  len : S1.length = S.length
  oth : ∀ j, j ≠ k → S1[j]? = S[j]?
theorem Ev.refl {k : Nat} {S : Sto} (p : Pot k S) : Ev k S S := ⟨p, rfl, fun _ _ => rfl⟩
theorem Ev.trans {k : Nat} {S S1 S2 : Sto} (a : Ev k S S1) (b : Ev k S1 S2) : Ev k S S2 := ⟨b.p, b.len.trans a.len, fun j h => (b.oth j h).trans (a.oth j h)⟩
theorem Pot.lt {k : Nat} {S : Sto} (p : Pot k S) : k < S.length := by
  obtain ⟨_, a, c, e⟩ := p
  exact (List.getElem?_eq_some_iff.mp e).1
theorem flatL (ds : List D) : ∀ n, soOk n (.lst ds) = true := fun _ => rfl
theorem flatZ : ∀ n, soOk n .frz = true := fun _ => rfl
theorem fdvB_ok {a b : Int} (h : 0 < b) (h2 : b.natAbs.log2 < 9000) : dFdvB (.int a) (.int b) = .ok (.int (a / b)) := by unfold dFdvB dII; exact when_of _ ⟨h, h2⟩
theorem small_log {m : Int} (h0 : 0 < m) (h : m < 1000000) : m.natAbs.log2 < 9000 := by
  have h1 : m.natAbs ≠ 0 := by omega
  have : m.natAbs.log2 < 20 := (Nat.log2_lt h1).mpr (by omega)
  omega
theorem take_ok {S : Sto} {k : Nat} {m : Int} (p : Pot k S) (hm : 0 < m) (hm2 : m.natAbs.log2 < 9000) {Q : V3 → Sto → Prop}
    (h : ∀ (r : Int) S1, 0 ≤ r → r < m → Ev k S S1 → Q (.d (.int r)) S1) : W3 (dP_law_take [.loc k, .d (.int m)] S) Q := by
  obtain ⟨hL, a, c, e⟩ := p
  have fin : ∀ (r : Int) S2, 0 ≤ r → r < m → Ev k S S2 → Flat S2 ∧ geOk S.length (.d (.int r)) = true ∧ ∃ d, res S2 (.d (.int r)) = some d ∧ Q (.d d) (S2.take S.length) := fun r S2 h1 h2 v => by
    refine ⟨v.p.1, by unfold geOk; rfl, .int r, by unfold res; rfl, ?_⟩
    rw [List.take_of_length_le (by have := v.len; omega)]
    exact h r S2 h1 h2 v
  have h0 : ixD (.lst [.int a, .int c]) (.int 0) = .ok (.int a) := rfl
  have h1 : ixD (.lst [.int a, .int c]) (.int 1) = .ok (.int c) := rfl
  unfold dP_law_take
  refine w_PnF (w_K rfl ?_)
  simp only [xStart, N_law_take, List.map_cons, List.map_nil, List.length_cons, List.length_nil, List.replicate, List.cons_append, List.nil_append, Nat.reduceAdd, Nat.reduceSub]
  unfold F_law_take
  by_cases hc : (1000000000000000000 : Int) ≤ a
  · refine w_seqR (w_if (w_bT (b := true) ?_ ?_))
    · simp (implicitDefEqProofs := false) (disch := first | omega | decide) only [fnD, dStart, sSeq, sSet, sBld, sApp, sExtV, sExt, sFrz, sRet, sIf, sNil, sAsg, eVar, eC, e2, eNew, eThaw, eCall, eTup, eIf, eSl, eMt, eJoined, eFmt, eAnd, eOr, eNot, eIsT, eIsG, isTy, asB, b2, bThaw, bAnd, bOr, bNot, bTru, nLst, nList, aNil, aCons, jNil, jCons, oNone, oSome, dAdd, dSub, dFdiv, dMod, dPow, dShr, dLt, dLe, dGt, dGe, dII0, dII, dIB, dMul, dEq, dNe, dIn, dNotIn, cInt, cStr, cMin, cTuple, cList, cLen, fmtD, truD, gNameD, gTupD, gConsD, gNilD, bldAt, frz, thaw, D.atom, tyName, R.ok_bind, R.when_true, List.map_cons, List.map_nil, List.map_append, List.set_cons_zero, List.set_cons_succ, List.getElem?_cons_zero, List.getElem?_cons_succ, List.length_cons, List.length_nil, List.nil_append, List.cons_append, List.append_nil, List.length_map, List.length_append, List.replicate, Nat.reduceAdd, Nat.reduceSub, Nat.zero_add, decide_true, decide_false, Nat.lt_add_one, Nat.reduceLT, Nat.reduceLeDiff, Nat.reduceEqDiff, if_true, if_false, Bool.false_eq_true, ite_true, ite_false, Bool.true_or, Bool.or_true, Bool.true_and, Bool.and_true, beq_self_eq_true, down, downT, res, ress, xStart, cEnvX, kX, gNm, gTp, gCn, gNl, Option.map_some, Option.bind_some, locAt, lstAt, ixN, mkTup, mkLst, allD, when_of, decide_eq_true_eq, Int.reduceToNat, e, h0]
      simp [hc]
    rw [if_pos rfl]
    refine w_seq (w_set (by simp only [List.length_cons, List.length_nil, List.length_set]; omega) (w_T (d := .int (a % m)) ?_ rfl ⟨_, rfl, ?_⟩))
    · simp (implicitDefEqProofs := false) (disch := first | omega | decide) only [fnD, dStart, sSeq, sSet, sBld, sApp, sExtV, sExt, sFrz, sRet, sIf, sNil, sAsg, eVar, eC, e2, eNew, eThaw, eCall, eTup, eIf, eSl, eMt, eJoined, eFmt, eAnd, eOr, eNot, eIsT, eIsG, isTy, asB, b2, bThaw, bAnd, bOr, bNot, bTru, nLst, nList, aNil, aCons, jNil, jCons, oNone, oSome, dAdd, dSub, dFdiv, dMod, dPow, dShr, dLt, dLe, dGt, dGe, dII0, dII, dIB, dMul, dEq, dNe, dIn, dNotIn, cInt, cStr, cMin, cTuple, cList, cLen, fmtD, truD, gNameD, gTupD, gConsD, gNilD, bldAt, frz, thaw, D.atom, tyName, R.ok_bind, R.when_true, List.map_cons, List.map_nil, List.map_append, List.set_cons_zero, List.set_cons_succ, List.getElem?_cons_zero, List.getElem?_cons_succ, List.length_cons, List.length_nil, List.nil_append, List.cons_append, List.append_nil, List.length_map, List.length_append, List.replicate, Nat.reduceAdd, Nat.reduceSub, Nat.zero_add, decide_true, decide_false, Nat.lt_add_one, Nat.reduceLT, Nat.reduceLeDiff, Nat.reduceEqDiff, if_true, if_false, Bool.false_eq_true, ite_true, ite_false, Bool.true_or, Bool.or_true, Bool.true_and, Bool.and_true, beq_self_eq_true, down, downT, res, ress, xStart, cEnvX, kX, gNm, gTp, gCn, gNl, Option.map_some, Option.bind_some, locAt, lstAt, ixN, mkTup, mkLst, allD, when_of, decide_eq_true_eq, Int.reduceToNat, e, h0]
    simp only [List.set_cons_succ, List.set_cons_zero]
    refine w_seq (w_put (w_T (d := .int (a / m)) ?_ rfl (w_var (v := .loc k) rfl (w_P (d := .int 0) rfl ⟨_, k, 0, _, 0, rfl, rfl, rfl, e, rfl, _, rfl, ?_⟩))))
    · refine e2_ok (a := .int a) (b := .int m) ?_ rfl (fdvB_ok hm hm2)
      simp (implicitDefEqProofs := false) (disch := first | omega | decide) only [fnD, dStart, sSeq, sSet, sBld, sApp, sExtV, sExt, sFrz, sRet, sIf, sNil, sAsg, eVar, eC, e2, eNew, eThaw, eCall, eTup, eIf, eSl, eMt, eJoined, eFmt, eAnd, eOr, eNot, eIsT, eIsG, isTy, asB, b2, bThaw, bAnd, bOr, bNot, bTru, nLst, nList, aNil, aCons, jNil, jCons, oNone, oSome, dAdd, dSub, dFdiv, dMod, dPow, dShr, dLt, dLe, dGt, dGe, dII0, dII, dIB, dMul, dEq, dNe, dIn, dNotIn, cInt, cStr, cMin, cTuple, cList, cLen, fmtD, truD, gNameD, gTupD, gConsD, gNilD, bldAt, frz, thaw, D.atom, tyName, R.ok_bind, R.when_true, List.map_cons, List.map_nil, List.map_append, List.set_cons_zero, List.set_cons_succ, List.getElem?_cons_zero, List.getElem?_cons_succ, List.length_cons, List.length_nil, List.nil_append, List.cons_append, List.append_nil, List.length_map, List.length_append, List.replicate, Nat.reduceAdd, Nat.reduceSub, Nat.zero_add, decide_true, decide_false, Nat.lt_add_one, Nat.reduceLT, Nat.reduceLeDiff, Nat.reduceEqDiff, if_true, if_false, Bool.false_eq_true, ite_true, ite_false, Bool.true_or, Bool.or_true, Bool.true_and, Bool.and_true, beq_self_eq_true, down, downT, res, ress, xStart, cEnvX, kX, gNm, gTp, gCn, gNl, Option.map_some, Option.bind_some, locAt, lstAt, ixN, mkTup, mkLst, allD, when_of, decide_eq_true_eq, Int.reduceToNat, e, h0]
    refine w_ret (w_P (d := .int (a % m)) rfl ⟨_, rfl, _, rfl, ?_⟩)
    exact fin _ _ (Int.emod_nonneg _ (by omega)) (Int.emod_lt_of_pos _ hm) ⟨⟨hL.set _ (flatL _), _, _, set_get e⟩, List.length_set, fun j hj => List.getElem?_set_ne (Ne.symm hj)⟩
  · refine w_seq (w_if (w_bT (b := false) ?_ ?_))
    · simp (implicitDefEqProofs := false) (disch := first | omega | decide) only [fnD, dStart, sSeq, sSet, sBld, sApp, sExtV, sExt, sFrz, sRet, sIf, sNil, sAsg, eVar, eC, e2, eNew, eThaw, eCall, eTup, eIf, eSl, eMt, eJoined, eFmt, eAnd, eOr, eNot, eIsT, eIsG, isTy, asB, b2, bThaw, bAnd, bOr, bNot, bTru, nLst, nList, aNil, aCons, jNil, jCons, oNone, oSome, dAdd, dSub, dFdiv, dMod, dPow, dShr, dLt, dLe, dGt, dGe, dII0, dII, dIB, dMul, dEq, dNe, dIn, dNotIn, cInt, cStr, cMin, cTuple, cList, cLen, fmtD, truD, gNameD, gTupD, gConsD, gNilD, bldAt, frz, thaw, D.atom, tyName, R.ok_bind, R.when_true, List.map_cons, List.map_nil, List.map_append, List.set_cons_zero, List.set_cons_succ, List.getElem?_cons_zero, List.getElem?_cons_succ, List.length_cons, List.length_nil, List.nil_append, List.cons_append, List.append_nil, List.length_map, List.length_append, List.replicate, Nat.reduceAdd, Nat.reduceSub, Nat.zero_add, decide_true, decide_false, Nat.lt_add_one, Nat.reduceLT, Nat.reduceLeDiff, Nat.reduceEqDiff, if_true, if_false, Bool.false_eq_true, ite_true, ite_false, Bool.true_or, Bool.or_true, Bool.true_and, Bool.and_true, beq_self_eq_true, down, downT, res, ress, xStart, cEnvX, kX, gNm, gTp, gCn, gNl, Option.map_some, Option.bind_some, locAt, lstAt, ixN, mkTup, mkLst, allD, when_of, decide_eq_true_eq, Int.reduceToNat, e, h0]
      simp [hc]
    rw [if_neg (by decide)]
    refine w_znil ⟨_, rfl, ?_⟩
    refine w_seq (w_put (w_T (d := .int ((c * 48271 + 11) % 2147483647)) ?_ rfl (w_var (v := .loc k) rfl (w_P (d := .int 1) rfl ⟨_, k, 1, _, 1, rfl, rfl, rfl, e, rfl, _, rfl, ?_⟩))))
    · simp (implicitDefEqProofs := false) (disch := first | omega | decide) only [fnD, dStart, sSeq, sSet, sBld, sApp, sExtV, sExt, sFrz, sRet, sIf, sNil, sAsg, eVar, eC, e2, eNew, eThaw, eCall, eTup, eIf, eSl, eMt, eJoined, eFmt, eAnd, eOr, eNot, eIsT, eIsG, isTy, asB, b2, bThaw, bAnd, bOr, bNot, bTru, nLst, nList, aNil, aCons, jNil, jCons, oNone, oSome, dAdd, dSub, dFdiv, dMod, dPow, dShr, dLt, dLe, dGt, dGe, dII0, dII, dIB, dMul, dEq, dNe, dIn, dNotIn, cInt, cStr, cMin, cTuple, cList, cLen, fmtD, truD, gNameD, gTupD, gConsD, gNilD, bldAt, frz, thaw, D.atom, tyName, R.ok_bind, R.when_true, List.map_cons, List.map_nil, List.map_append, List.set_cons_zero, List.set_cons_succ, List.getElem?_cons_zero, List.getElem?_cons_succ, List.length_cons, List.length_nil, List.nil_append, List.cons_append, List.append_nil, List.length_map, List.length_append, List.replicate, Nat.reduceAdd, Nat.reduceSub, Nat.zero_add, decide_true, decide_false, Nat.lt_add_one, Nat.reduceLT, Nat.reduceLeDiff, Nat.reduceEqDiff, if_true, if_false, Bool.false_eq_true, ite_true, ite_false, Bool.true_or, Bool.or_true, Bool.true_and, Bool.and_true, beq_self_eq_true, down, downT, res, ress, xStart, cEnvX, kX, gNm, gTp, gCn, gNl, Option.map_some, Option.bind_some, locAt, lstAt, ixN, mkTup, mkLst, allD, when_of, decide_eq_true_eq, Int.reduceToNat, e, h1]
    have hx1 : 0 ≤ (c * 48271 + 11) % 2147483647 := Int.emod_nonneg _ (by omega)
    have hx2 : (c * 48271 + 11) % 2147483647 < 2147483647 := Int.emod_lt_of_pos _ (by omega)
    generalize (c * 48271 + 11) % 2147483647 = x at hx1 hx2
    simp only [List.set_cons_succ, List.set_cons_zero]
    have e1 : (S.set k (.lst [.int a, .int x]))[k]? = some (.lst [.int a, .int x]) := set_get e
    have v1 : Ev k S (S.set k (.lst [.int a, .int x])) := ⟨⟨hL.set _ (flatL _), _, _, e1⟩, List.length_set, fun j hj => List.getElem?_set_ne (Ne.symm hj)⟩
    generalize S.set k (.lst [.int a, .int x]) = S1 at e1 v1
    refine w_seq (w_set (by simp only [List.length_cons, List.length_nil, List.length_set]; omega) (w_T (d := .int (x * x % 2147483629)) ?_ rfl ⟨_, rfl, ?_⟩))
    · have h2 : ixD (.lst [.int a, .int x]) (.int 1) = .ok (.int x) := rfl
      simp (implicitDefEqProofs := false) (disch := first | omega | decide) only [fnD, dStart, sSeq, sSet, sBld, sApp, sExtV, sExt, sFrz, sRet, sIf, sNil, sAsg, eVar, eC, e2, eNew, eThaw, eCall, eTup, eIf, eSl, eMt, eJoined, eFmt, eAnd, eOr, eNot, eIsT, eIsG, isTy, asB, b2, bThaw, bAnd, bOr, bNot, bTru, nLst, nList, aNil, aCons, jNil, jCons, oNone, oSome, dAdd, dSub, dFdiv, dMod, dPow, dShr, dLt, dLe, dGt, dGe, dII0, dII, dIB, dMul, dEq, dNe, dIn, dNotIn, cInt, cStr, cMin, cTuple, cList, cLen, fmtD, truD, gNameD, gTupD, gConsD, gNilD, bldAt, frz, thaw, D.atom, tyName, R.ok_bind, R.when_true, List.map_cons, List.map_nil, List.map_append, List.set_cons_zero, List.set_cons_succ, List.getElem?_cons_zero, List.getElem?_cons_succ, List.length_cons, List.length_nil, List.nil_append, List.cons_append, List.append_nil, List.length_map, List.length_append, List.replicate, Nat.reduceAdd, Nat.reduceSub, Nat.zero_add, decide_true, decide_false, Nat.lt_add_one, Nat.reduceLT, Nat.reduceLeDiff, Nat.reduceEqDiff, if_true, if_false, Bool.false_eq_true, ite_true, ite_false, Bool.true_or, Bool.or_true, Bool.true_and, Bool.and_true, beq_self_eq_true, down, downT, res, ress, xStart, cEnvX, kX, gNm, gTp, gCn, gNl, Option.map_some, Option.bind_some, locAt, lstAt, ixN, mkTup, mkLst, allD, when_of, decide_eq_true_eq, Int.reduceToNat, e1, h2]
    simp only [List.set_cons_succ, List.set_cons_zero]
    generalize x * x % 2147483629 = y
    refine w_ret (w_P (d := .int (y * 69621 % 2147483587 / 8 % m)) ?_ ⟨_, rfl, ?_⟩)
    · refine e2_ok (a := .int (y * 69621 % 2147483587 / 8)) (b := .int m) (e2_ok (a := .int (y * 69621 % 2147483587)) (b := .int 8) ?_ rfl (fdvB_ok (by omega) (by decide))) rfl (mod_ok hm)
      simp (implicitDefEqProofs := false) (disch := first | omega | decide) only [fnD, dStart, sSeq, sSet, sBld, sApp, sExtV, sExt, sFrz, sRet, sIf, sNil, sAsg, eVar, eC, e2, eNew, eThaw, eCall, eTup, eIf, eSl, eMt, eJoined, eFmt, eAnd, eOr, eNot, eIsT, eIsG, isTy, asB, b2, bThaw, bAnd, bOr, bNot, bTru, nLst, nList, aNil, aCons, jNil, jCons, oNone, oSome, dAdd, dSub, dFdiv, dMod, dPow, dShr, dLt, dLe, dGt, dGe, dII0, dII, dIB, dMul, dEq, dNe, dIn, dNotIn, cInt, cStr, cMin, cTuple, cList, cLen, fmtD, truD, gNameD, gTupD, gConsD, gNilD, bldAt, frz, thaw, D.atom, tyName, R.ok_bind, R.when_true, List.map_cons, List.map_nil, List.map_append, List.set_cons_zero, List.set_cons_succ, List.getElem?_cons_zero, List.getElem?_cons_succ, List.length_cons, List.length_nil, List.nil_append, List.cons_append, List.append_nil, List.length_map, List.length_append, List.replicate, Nat.reduceAdd, Nat.reduceSub, Nat.zero_add, decide_true, decide_false, Nat.lt_add_one, Nat.reduceLT, Nat.reduceLeDiff, Nat.reduceEqDiff, if_true, if_false, Bool.false_eq_true, ite_true, ite_false, Bool.true_or, Bool.or_true, Bool.true_and, Bool.and_true, beq_self_eq_true, down, downT, res, ress, xStart, cEnvX, kX, gNm, gTp, gCn, gNl, Option.map_some, Option.bind_some, locAt, lstAt, ixN, mkTup, mkLst, allD, when_of, decide_eq_true_eq, Int.reduceToNat]
    exact fin _ _ (Int.emod_nonneg _ (by omega)) (Int.emod_lt_of_pos _ hm) v1
section
variable {S : Sto} {δ : DE} {k i : Nat}
theorem draw {Q : V3 → Sto → Prop} {f : FD} {m : Int} (hv : δ[i]? = some (some (.loc k))) (p : Pot k S) (hf : f (down δ) = .ok (.int m)) (hm : 0 < m) (hm2 : m < 1000000)
    (h : ∀ (r : Int) S1, 0 ≤ r → r < m → Ev k S S1 → Q (.d (.int r)) S1) : W3 (xCall dP_law_take (xCons (xVar i) (xCons (xP f) xNil)) δ S) Q :=
  w_call (w_cons (w_var hv (w_cons (w_P hf (w_nil (take_ok p hm (small_log hm hm2) h))))))
theorem draw1 {Q : V3 → Sto → Prop} {m : Int} (hv : δ[i]? = some (some (.loc k))) (p : Pot k S) (hm : 0 < m) (hm2 : m < 1000000)
    (h : ∀ (r : Nat) S1, 1 ≤ r → (r : Int) ≤ m → Ev k S S1 → Q (.d (.int r)) S1) : W3 (x2 dAdd (xP (eC (.int 1))) (xCall dP_law_take (xCons (xVar i) (xCons (xP (eC (.int m))) xNil))) δ S) Q :=
  w_2 (w_P rfl (draw hv p rfl hm hm2 fun r S1 h1 h2 v => ⟨_, _, .int ((1 + r).toNat : Nat), rfl, rfl, by rw [Int.toNat_of_nonneg (by omega)]; rfl, h _ S1 (by omega) (by omega) v⟩))
end
theorem reel_ok (c : Int) {S : Sto} {Q : V3 → Sto → Prop} (hS : Flat S) (h : ∀ S1, Pot S.length S1 → S1.length = S.length + 1 → (∀ j, j < S.length → S1[j]? = S[j]?) → Q (.loc S.length) S1) : W3 (dK_law_reel [.d (.int c)] S) Q := by
  have hz : sizeLine = 16777216 := sizeLine_eq
  unfold dK_law_reel
  refine w_K rfl ?_
  simp only [xStart, N_law_reel, List.map_cons, List.map_nil, List.length_cons, List.length_nil, List.replicate, List.cons_append, List.nil_append, Nat.reduceAdd, Nat.reduceSub]
  unfold F_law_reel
  refine w_ret (w_new (ds := [.int (if c < 0 then -c else c), .int ((c % 2147483647 + 1) * 742938285 % 2147483647)]) ?_ ⟨_, rfl, ?_⟩)
  · simp (implicitDefEqProofs := false) (disch := first | omega | decide) only [fnD, dStart, sSeq, sSet, sBld, sApp, sExtV, sExt, sFrz, sRet, sIf, sNil, sAsg, eVar, eC, e2, eNew, eThaw, eCall, eTup, eIf, eSl, eMt, eJoined, eFmt, eAnd, eOr, eNot, eIsT, eIsG, isTy, asB, b2, bThaw, bAnd, bOr, bNot, bTru, nLst, nList, aNil, aCons, jNil, jCons, oNone, oSome, dAdd, dSub, dFdiv, dMod, dPow, dShr, dLt, dLe, dGt, dGe, dII0, dII, dIB, dMul, dEq, dNe, dIn, dNotIn, cInt, cStr, cMin, cTuple, cList, cLen, fmtD, truD, gNameD, gTupD, gConsD, gNilD, bldAt, frz, thaw, D.atom, tyName, R.ok_bind, R.when_true, List.map_cons, List.map_nil, List.map_append, List.set_cons_zero, List.set_cons_succ, List.getElem?_cons_zero, List.getElem?_cons_succ, List.length_cons, List.length_nil, List.nil_append, List.cons_append, List.append_nil, List.length_map, List.length_append, List.replicate, Nat.reduceAdd, Nat.reduceSub, Nat.zero_add, decide_true, decide_false, Nat.lt_add_one, Nat.reduceLT, Nat.reduceLeDiff, Nat.reduceEqDiff, if_true, if_false, Bool.false_eq_true, ite_true, ite_false, Bool.true_or, Bool.or_true, Bool.true_and, Bool.and_true, beq_self_eq_true, down, downT, res, ress, xStart, cEnvX, kX, gNm, gTp, gCn, gNl, Option.map_some, Option.bind_some, locAt, lstAt, ixN, mkTup, mkLst, allD, when_of, decide_eq_true_eq, Int.reduceToNat, cAbs]
  refine h _ ⟨hS.push (flatL _), _, _, by rw [List.getElem?_append_right (Nat.le_refl _), Nat.sub_self]; rfl⟩ (by simp) fun j hj => List.getElem?_append_left hj
end K12

end
section
set_option maxRecDepth 100000
set_option maxHeartbeats 4000000
namespace K12
open PySem PySem.Spec PyProof.Rows L2 L3
abbrev LET : Str := Str.ofString "abcdefghijklmnopqrstuvwxyz"
abbrev BARS : List Str := [Str.ofString "in", Str.ofString "gate", Str.ofString "sure", Str.ofString "out", Str.ofString "not", Str.ofString "and", Str.ofString "or", Str.ofString "xor", Str.ofString "vote"]
def letAt (i : Nat) : Str := ⟨#[97 + i]⟩
theorem LET_codes : LET.cps.toList = (List.range 26).map (97 + ·) := by decide +kernel
theorem LET_len : LET.length = 26 := by decide +kernel
theorem let_ix {i : Int} (h0 : 0 ≤ i) (h : i < 26) : ixD (.str LET) (.int i) = .ok (.str (letAt i.toNat)) := by
  have hz : sizeLine = 16777216 := sizeLine_eq
  refine ixS_of (by rw [LET_len]; omega) ?_
  rw [LET_codes]
  rw [atI_of h0 (by simp; omega)]
  simp
theorem let_find : ∀ i : Nat, i < 26 → Txt.find LET (letAt i) = (i : Int) := by decide +kernel
theorem letAt_len (i : Nat) : (letAt i).length = 1 := rfl
theorem app_len (a b : Str) : (a ++ b).length = a.length + b.length := Str.length_append a b
theorem last_ix (p : Str) (i : Nat) (hp : p.length < 1000) : ixD (.str (p ++ letAt i)) (.int (-1)) = .ok (.str (letAt i)) := by
  have hz : sizeLine = 16777216 := sizeLine_eq
  refine ixS_of (by rw [app_len, letAt_len]; omega) ?_
  rw [str_app]
  unfold atI ixN
  have hl : (p.cps.toList ++ (letAt i).cps.toList).length = p.cps.toList.length + 1 := by rw [List.length_append]; rfl
  rw [if_neg (by omega), hl, if_pos (by omega)]
  show (p.cps.toList ++ (letAt i).cps.toList)[((-1 : Int) + ((p.cps.toList.length + 1 : Nat) : Int)).toNat]? = _
  rw [show ((-1 : Int) + ((p.cps.toList.length + 1 : Nat) : Int)).toNat = p.cps.toList.length by omega, List.getElem?_append_right (Nat.le_refl _), Nat.sub_self]
  rfl
theorem cut_last (p : Str) (i : Nat) : Txt.slice (p ++ letAt i) none (some (-1)) = p := by
  have h := slice_closes_to_neg (x := p ++ letAt i) (j := -1) (k := p.length) (by omega) (by rw [app_len, letAt_len]; omega) (by rw [app_len, letAt_len]; omega)
  have e := beq_iff_eq.mp h
  rw [e]
  refine str_ext ?_
  show ((p ++ letAt i).cps.toList.drop 0).take ((p.length : Int) - 0).toNat = _
  rw [str_app, List.drop_zero, show ((p.length : Int) - 0).toNat = p.cps.toList.length by simp [Str.length], List.take_left]
theorem app_inj {p : Str} {i j : Nat} (h : p ++ letAt i = p ++ letAt j) : i = j := by
  have h1 : (p ++ letAt i).cps.toList = (p ++ letAt j).cps.toList := by rw [h]
  rw [str_app, str_app] at h1
  have h2 : [97 + i] = [97 + j] := List.append_cancel_left h1
  have h3 : 97 + i = 97 + j := by simpa using h2
  omega
theorem free_some (ss : List Str) (hs : ss.length ≤ 16) (p : Str) (c : Nat) : ∃ t, t < 26 ∧ ¬ (p ++ letAt ((c + t) % 26)) ∈ ss ++ BARS := by
  refine Classical.byContradiction fun hn => ?_
  have all : ∀ x ∈ (List.range 26).map (fun t => p ++ letAt ((c + t) % 26)), x ∈ ss ++ BARS := fun x hx => by
    obtain ⟨t, ht, rfl⟩ := List.mem_map.mp hx
    rw [List.mem_range] at ht
    refine Classical.byContradiction fun h => hn ⟨t, ht, h⟩
  have nd : ((List.range 26).map (fun t => p ++ letAt ((c + t) % 26))).Nodup := by
    refine List.pairwise_map.mpr (List.Pairwise.imp_of_mem ?_ List.nodup_range)
    intro a b ha hb hab h
    rw [List.mem_range] at ha hb
    have := app_inj h
    exact hab (by omega)
  have := L2.pigeon _ _ nd all
  rw [List.length_map, List.length_range, List.length_append] at this
  have hb : BARS.length = 9 := rfl
  omega
def nEnv (k n : Nat) (many : V3) (kk nm j : Option V3) : DE := [some (.loc k), some many, some (.d (.str LET)), some (.d (.lst (BARS.map .str))), some (.loc n), kk, nm, j]
theorem in_strs (x : Str) (ss : List Str) : dIn (.str x) (.lst (ss.map .str)) = .ok (.bl (ss.contains x)) := by
  show ((match strs? (ss.map D.str) with | some tt => R.ok (tt.contains x) | none => .no)).bind (fun b => R.ok (D.bl b)) = _
  rw [L2.strs_map]; rfl
theorem cond_ok {k n : Nat} {many : V3} {kk j : Option V3} {S : Sto} {ss : List Str} {x : Str} (e : S[n]? = some (.lst (ss.map .str))) :
    bT (bOr (b2 dIn (eVar 6) (eVar 4)) (b2 dIn (eVar 6) (eVar 3))) (nEnv k n many kk (some (.d (.str x))) j) S = .ok (decide (x ∈ ss ++ BARS)) S := by
  have h4 : (downT S (nEnv k n many kk (some (.d (.str x))) j))[4]? = some (.val (.lst (ss.map .str))) := by
    unfold downT nEnv
    show some (match res S (.loc n) with | some d => Sl.val d | none => .un) = _
    unfold res
    simp only [e]
  have h3 : (downT S (nEnv k n many kk (some (.d (.str x))) j))[3]? = some (.val (.lst (BARS.map .str))) := rfl
  have h6 : (downT S (nEnv k n many kk (some (.d (.str x))) j))[6]? = some (.val (.str x)) := rfl
  unfold bT
  generalize downT S (nEnv k n many kk (some (.d (.str x))) j) = δ at h3 h4 h6
  have e1 : b2 dIn (eVar 6) (eVar 4) δ = .ok (ss.contains x) := b2_ok (a := .str x) (b := .lst (ss.map .str)) (by unfold eVar; rw [h6]) (by unfold eVar; rw [h4]) (in_strs _ _)
  have e3 : b2 dIn (eVar 6) (eVar 3) δ = .ok (BARS.contains x) := b2_ok (a := .str x) (b := .lst (BARS.map .str)) (by unfold eVar; rw [h6]) (by unfold eVar; rw [h3]) (in_strs _ _)
  have : bOr (b2 dIn (eVar 6) (eVar 4)) (b2 dIn (eVar 6) (eVar 3)) δ = .ok (decide (x ∈ ss ++ BARS)) := by
    unfold bOr
    rw [e1, R.ok_bind, e3]
    by_cases h : x ∈ ss
    · rw [if_pos (by simpa using h), decide_eq_true (List.mem_append_left _ h)]
    · rw [if_neg (by simpa using h)]
      congr 1
      by_cases h2 : x ∈ BARS
      · rw [decide_eq_true (List.mem_append_right _ h2)]; simpa using h2
      · rw [decide_eq_false (fun z => (List.mem_append.mp z).elim h h2)]; simpa using h2
  rw [this]
  rfl
theorem turn_ok {k n : Nat} {many : V3} {kk j : Option V3} {S : Sto} {p : Str} {c : Nat} (hp : p.length < 500) (hc : c < 26) :
    W3 (B_law_names_1 (nEnv k n many kk (some (.d (.str (p ++ letAt c)))) j) S) fun o S1 => o = .nx (nEnv k n many kk (some (.d (.str (p ++ letAt ((c + 1) % 26))))) j) ∧ S1 = S := by
  have hz : sizeLine = 16777216 := sizeLine_eq
  unfold B_law_names_1
  refine w_set (by unfold nEnv; simp only [List.length_cons, List.length_nil]; omega) (w_P (d := .str (p ++ letAt ((c + 1) % 26))) ?_ ⟨rfl, rfl⟩)
  refine e2_ok (a := .str p) (b := .str (letAt ((c + 1) % 26))) ?_ ?_ (addS_ok (by rw [letAt_len]; omega))
  · refine eSl_ok (d := .str (p ++ letAt c)) (lo := none) (hi := some (-1)) rfl rfl rfl ?_
    rw [slS_ok (by rw [app_len, letAt_len]; omega), cut_last]
  · refine e2_ok (a := .str LET) (b := .int (((c : Int) + 1) % 26)) rfl ?_ ?_
    · refine e2_ok (a := .int ((c : Int) + 1)) (b := .int 26) (e2_ok (a := .int c) (b := .int 1) ?_ rfl rfl) rfl (mod_ok (by omega))
      refine eMtS_ok (x := LET) (ds := [.str (letAt c)]) rfl (aCons_ok (e2_ok (a := .str (p ++ letAt c)) (b := .int (-1)) rfl rfl (last_ix p c (by omega))) rfl) ?_
      show R.ok (D.int (Txt.find LET (letAt c))) = _
      rw [let_find c hc]
    · rw [let_ix (by omega) (by omega)]
      congr 3
theorem while_ok {k n : Nat} {many : V3} {kk j : Option V3} {S : Sto} {ss : List Str} {p : Str} (hp : p.length < 500) (e : S[n]? = some (.lst (ss.map .str))) :
    ∀ (m ex c : Nat), c < 26 → (∃ t, t < m ∧ ¬ (p ++ letAt ((c + t) % 26)) ∈ ss ++ BARS) →
    W3 (zWhileN (bT (bOr (b2 dIn (eVar 6) (eVar 4)) (b2 dIn (eVar 6) (eVar 3)))) B_law_names_1 (m + ex) (nEnv k n many kk (some (.d (.str (p ++ letAt c)))) j) S) fun o S1 => ∃ c', c' < 26 ∧ o = .nx (nEnv k n many kk (some (.d (.str (p ++ letAt c')))) j) ∧ S1 = S
  | 0, _, _, _, ⟨t, ht, _⟩ => by omega
  | m + 1, ex, c, hc, ⟨t, ht, hf⟩ => by
    rw [show m + 1 + ex = (m + ex) + 1 by omega]
    unfold zWhileN
    refine W3.bind (W3.eq (cond_ok e) ?_)
    by_cases hx : (p ++ letAt c) ∈ ss ++ BARS
    · rw [decide_eq_true hx, if_pos rfl]
      refine W3.bind ((turn_ok hp hc).mono fun o S1 ⟨e1, e2'⟩ => ?_)
      subst e1 e2'
      have ht0 : t ≠ 0 := fun z => by subst z; rw [Nat.add_zero, Nat.mod_eq_of_lt hc] at hf; exact hf hx
      refine while_ok hp e m ex ((c + 1) % 26) (by omega) ⟨t - 1, by omega, ?_⟩
      rw [show ((c + 1) % 26 + (t - 1)) % 26 = (c + t) % 26 by omega]
      exact hf
    · rw [decide_eq_false hx, if_neg (by decide)]
      exact W3.ok ⟨c, hc, rfl, rfl⟩
end K12

end
section
set_option maxRecDepth 100000
set_option maxHeartbeats 4000000
namespace K12
open PySem PySem.Spec PyProof.Rows L2 L3
/-- the store goes on: the reel at k changed, L at g -/
structure EvG (k g : Nat) (L : List D) (S S1 : Sto) : Prop where
  p : Pot k S1
  len : S1.length = S.length
  oth : ∀ j, j ≠ k → j ≠ g → S1[j]? = S[j]?
  gl : S1[g]? = some (.lst L)
theorem EvG.then {k g : Nat} {L : List D} {S S1 S2 : Sto} (a : EvG k g L S S1) (h : g ≠ k) (b : Ev k S1 S2) : EvG k g L S S2 := ⟨b.p, b.len.trans a.len, fun j h1 h2 => (b.oth j h1).trans (a.oth j h1 h2), (b.oth g h).trans a.gl⟩
theorem EvG.put {k g : Nat} {L L' : List D} {S S1 : Sto} (a : EvG k g L S S1) (h : g ≠ k) : EvG k g L' S (S1.set g (.lst L')) := by
  obtain ⟨hL, x, c, e⟩ := a.p
  exact ⟨⟨hL.set _ (flatL _), x, c, by rw [List.getElem?_set_ne h]; exact e⟩, by rw [List.length_set]; exact a.len, fun j h1 h2 => by rw [List.getElem?_set_ne (Ne.symm h2)]; exact a.oth j h1 h2, set_get a.gl⟩
theorem get_last (S : Sto) (x : SO) : (S ++ [x])[S.length]? = some x := by rw [List.getElem?_append_right (Nat.le_refl _), Nat.sub_self]; rfl
theorem Pot.push {k : Nat} {S : Sto} (p : Pot k S) (L : List D) : Pot k (S ++ [.lst L]) := by
  have h := p.lt
  obtain ⟨hL, a, c, e⟩ := p
  exact ⟨hL.push (flatL _), a, c, by rw [List.getElem?_append_left h]; exact e⟩
theorem EvG.of_push {k : Nat} {S : Sto} (p : Pot k S) (L : List D) : EvG k S.length L (S ++ [.lst L]) (S ++ [.lst L]) := ⟨p.push L, rfl, fun _ _ _ => rfl, get_last _ _⟩
def startL : List Str := [Str.ofString "", Str.ofString "", Str.ofString "zz", Str.ofString "qrst"] ++ BARS
theorem start_at (r : Int) (h0 : 0 ≤ r) (h : r < 13) : ∃ s : Str, s.length ≤ 4 ∧ ixD (.lst (startL.map .str)) (.int r) = .ok (.str s) := by
  have hl : startL.length = 13 := rfl
  have hlen : ∀ s ∈ startL, s.length ≤ 4 := by decide +kernel
  refine ⟨startL[r.toNat]'(by omega), hlen _ (List.getElem_mem _), ixL_of ?_⟩
  rw [atI_of h0 (by rw [List.length_map]; omega)]
  simp
theorem name_step {k n : Nat} {many : V3} {kk nm j : Option V3} {S S1 : Sto} {ss : List Str} (hn : n ≠ k) (hl : ss.length ≤ 15) (E : EvG k n (ss.map .str) S S1) :
    W3 (B_law_names_2 (nEnv k n many kk nm j) S1) fun o S2 => ∃ δ2, o = .nx δ2 ∧ (∃ a b, δ2 = nEnv k n many kk a b) ∧ ∃ x : Str, EvG k n ((ss ++ [x]).map .str) S S2 := by
  have hz : sizeLine = 16777216 := sizeLine_eq
  unfold B_law_names_2
  refine w_seq (w_set (by unfold nEnv; simp only [List.length_cons, List.length_nil]; omega) (w_ix (w_P (d := .lst (startL.map .str)) ?_ (draw (k := k) rfl E.p rfl (by omega) (by omega) fun r S2 h1 h2 v2 => ?_))))
  · exact e2_ok (a := .lst ([Str.ofString "", Str.ofString "", Str.ofString "zz", Str.ofString "qrst"].map .str)) (b := .lst (BARS.map .str)) (eNew_ok (nLst_ok rfl (by simp; omega))) rfl (addL_ok (by simp; omega))
  obtain ⟨s, hs, es⟩ := start_at r h1 h2
  refine ⟨_, _, _, rfl, rfl, es, _, rfl, ?_⟩
  have E2 := E.then hn v2
  show W3 (zSeq _ _ (nEnv k n many kk (some (.d (.str s))) j) S2) _
  refine w_seq (w_for (w_rng1 (draw1 (k := k) rfl E2.p (by omega) (by omega) fun r2 S3 h3 h4 v3 => ⟨r2, rfl, by omega, ?_⟩)))
  have E3 := E2.then hn v3
  refine (loopX_inv (fun i δ S4 => ∃ (x : Str) (a : Option V3), δ = nEnv k n many kk (some (.d (.str x))) a ∧ x.length ≤ 4 + i ∧ (i = 0 ∨ ∃ p c, c < 26 ∧ x = p ++ letAt c) ∧ EvG k n (ss.map .str) S S4)
    ⟨s, j, rfl, by omega, .inl rfl, E3⟩ ?_).mono fun o S4 ⟨δ4, e4, x, a, hδ, hx, hx2, E4⟩ => ⟨δ4, e4, ?_⟩
  · rintro i v δ S4 hv ⟨x, a, rfl, hx, hx2, E4⟩
    refine ⟨nEnv k n many kk (some (.d (.str x))) (some v), rfl, ?_⟩
    have hi : i < 10 := by
      have := (List.getElem?_eq_some_iff.mp hv).1
      rw [List.length_map, rngD, List.length_map, List.length_range] at this
      omega
    unfold B_law_names_0
    refine w_set (by unfold nEnv; simp only [List.length_cons, List.length_nil]; omega) (w_2 (w_P (d := .str x) rfl (w_ix (w_P (d := .str LET) rfl (draw (k := k) rfl E4.p rfl (by omega) (by omega) fun r5 S5 h5 h6 v5 => ?_)))))
    refine ⟨_, _, _, rfl, rfl, let_ix h5 h6, _, _, .str (x ++ letAt r5.toNat), rfl, rfl, addS_ok (by rw [letAt_len]; omega), _, rfl, x ++ letAt r5.toNat, some v, rfl, by rw [app_len, letAt_len]; omega, .inr ⟨x, r5.toNat, by omega, rfl⟩, E4.then hn v5⟩
  rw [List.length_map, rngD, List.length_map, List.length_range] at hx hx2
  subst hδ
  obtain ⟨p, c, hc, rfl⟩ : ∃ p c, c < 26 ∧ x = p ++ letAt c := hx2.resolve_left (by omega)
  have hp : p.length < 500 := by rw [app_len, letAt_len] at hx; omega
  refine w_seq ?_
  unfold zWhile
  refine (while_ok (n := n) (ss := ss) hp E4.gl 26 974 c hc (free_some ss (by omega) p c)).mono fun o S5 ⟨c', hc', e5, e6⟩ => ⟨_, e5, ?_⟩
  subst e6
  refine w_app (k := n) rfl ⟨_, E4.gl⟩ (w_P (d := .str (p ++ letAt c')) rfl ⟨_, _, rfl, E4.gl, by rw [List.length_map]; omega, _, rfl, ⟨_, _, rfl⟩, p ++ letAt c', ?_⟩)
  rw [List.map_append]
  exact E4.put hn
theorem names_ok {S : Sto} {k : Nat} {m : Nat} (p : Pot k S) (hm : m ≤ 15) {Q : V3 → Sto → Prop} (h : ∀ (ss : List Str) S1, ss.length = m → Ev k S S1 → Q (.d (.lst (ss.map .str))) S1) : W3 (dP_law_names [.loc k, .d (.int m)] S) Q := by
  have hz : sizeLine = 16777216 := sizeLine_eq
  have hk := p.lt
  unfold dP_law_names
  refine w_PnF (w_K rfl ?_)
  simp only [xStart, N_law_names, List.map_cons, List.map_nil, List.length_cons, List.length_nil, List.replicate, List.cons_append, List.nil_append, Nat.reduceAdd, Nat.reduceSub]
  unfold F_law_names
  refine w_seq (w_set (by simp only [List.length_cons, List.length_nil, List.length_set]; omega) (w_P (d := .str LET) rfl ⟨_, rfl, ?_⟩))
  simp only [List.set_cons_succ, List.set_cons_zero]
  refine w_seq (w_set (by simp only [List.length_cons, List.length_nil, List.length_set]; omega) (w_P (d := .lst (BARS.map .str)) (eNew_ok (nLst_ok rfl (by simp; omega))) ⟨_, rfl, ?_⟩))
  simp only [List.set_cons_succ, List.set_cons_zero]
  refine w_seq (w_set (by simp only [List.length_cons, List.length_nil, List.length_set]; omega) (w_new (ds := []) rfl ⟨_, rfl, ?_⟩))
  simp only [List.set_cons_succ, List.set_cons_zero]
  have g0 := EvG.of_push p []
  have hgk : S.length ≠ k := by omega
  refine w_seq (w_for (w_iP (rng1_ok (n := m) rfl (by omega)) ?_))
  refine (loopX_inv (fun i δ S4 => (∃ a b c, δ = nEnv k S.length (.d (.int m)) a b c) ∧ ∃ ss : List Str, ss.length = i ∧ EvG k S.length (ss.map .str) (S ++ [SO.lst []]) S4) ⟨⟨_, _, _, rfl⟩, [], rfl, g0⟩ ?_).mono fun o S4 ⟨δ4, e4, ⟨a, b, c, hδ⟩, ss, hl, g4⟩ => ⟨δ4, e4, ?_⟩
  · rintro i v δ S4 hv ⟨⟨a, b, c, rfl⟩, ss, hl, g4⟩
    have hi : i < 15 := by
      have := (List.getElem?_eq_some_iff.mp hv).1
      rw [List.length_map, rngD, List.length_map, List.length_range] at this
      omega
    refine ⟨nEnv k S.length (.d (.int m)) (some v) b c, rfl, ?_⟩
    exact (name_step hgk (by omega) g4).mono fun o S5 ⟨δ5, e5, ⟨a5, b5, h5⟩, x, g5⟩ => ⟨δ5, e5, ⟨some v, a5, b5, h5⟩, ss ++ [x], by simp [hl], g5⟩
  rw [List.length_map, rngD, List.length_map, List.length_range] at hl
  subst hδ
  unfold nEnv
  refine w_ret (w_var rfl ⟨_, rfl, g4.p.1, ?_, .lst (ss.map .str), ?_, ?_⟩)
  · unfold geOk; exact decide_eq_true (Nat.le_refl _)
  · unfold res; simp only [g4.gl]
  · refine h ss _ hl ⟨⟨g4.p.1.take _, ?_⟩, ?_, ?_⟩
    · obtain ⟨_, a, c, e⟩ := g4.p
      exact ⟨a, c, by rw [List.getElem?_take_of_lt hk]; exact e⟩
    · have := g4.len
      rw [List.length_append, List.length_singleton] at this
      rw [List.length_take]; omega
    · intro j hj
      by_cases hjl : j < S.length
      · rw [List.getElem?_take_of_lt hjl, g4.oth _ hj (by omega), List.getElem?_append_left hjl]
      · have := g4.len
        rw [List.length_append, List.length_singleton] at this
        rw [List.getElem?_eq_none (by rw [List.length_take]; omega), List.getElem?_eq_none (by omega)]
end K12

end
section
set_option maxRecDepth 100000
set_option maxHeartbeats 4000000
namespace K12
open PySem PySem.Spec PyProof.Rows L2 L3
def bI (b : Bool) : D := .int (if b then 1 else 0)
def nI (n : Nat) : D := .int (n : Int)
def kS : Nat → Str | 0 => Str.ofString "not" | 1 => Str.ofString "and" | 2 => Str.ofString "or" | 3 => Str.ofString "xor" | _ => Str.ofString "vote"
def ar : Nat → Nat | 0 => 1 | 4 => 3 | _ => 2
def gv : Nat → List Bool → Bool
  | 0, [a] => !a
  | 1, [a, b] => a && b
  | 2, [a, b] => a || b
  | 3, [a, b] => a != b
  | 4, [a, b, c] => (a && b) || (a && c) || (b && c)
  | _, _ => false
theorem mask_ok {kd : Nat} {xs : List Bool} (hk : kd ≤ 4) (hx : xs.length = ar kd) : d_gate_mask [.str (kS kd), .tup (xs.map bI), .int 1] = .ok (bI (gv kd xs)) := by
  match kd, hk, xs, hx with
  | 0, _, [a], _ => cases a <;> rfl
  | 1, _, [a, b], _ => cases a <;> cases b <;> rfl
  | 2, _, [a, b], _ => cases a <;> cases b <;> rfl
  | 3, _, [a, b], _ => cases a <;> cases b <;> rfl
  | 4, _, [a, b, c], _ => cases a <;> cases b <;> cases c <;> rfl
def rdW (ws : List Bool) (n : Nat) : Bool := ws.getD n false
theorem rd_ix {ws : List Bool} {n : Nat} (h : n < ws.length) : ixD (.lst (ws.map bI)) (nI n) = .ok (bI (rdW ws n)) := by
  refine ixL_of ?_
  rw [atI_of (by omega) (by rw [List.length_map, Int.toNat_natCast]; exact h)]
  unfold rdW
  simp [h]
theorem at_comp {ws : List Bool} {ns : List Nat} {δ : DEnv} {t : Nat} {own : List Str} {kp : List Nat} {it : DEnv → R (List D)} (hn : ∀ n ∈ ns, n < ws.length) (hl : ns.length < 1000) (hit : it δ = .ok (ns.map nI)) (hkp : cEnv own kp δ = [.un, .val (.lst (ws.map bI))]) :
    nComp it (gNameD 0) cYes (e2 ixD (eVar 1) (eVar 0)) own kp δ = .ok (ns.map fun n => bI (rdW ws n)) := by
  have hz : sizeLine = 16777216 := sizeLine_eq
  refine nComp_ok hit (by rw [List.length_map]; omega) ?_
  rw [hkp]
  have : ns.map (fun n => bI (rdW ws n)) = (ns.map nI).map fun d => match d with | .int i => bI (rdW ws i.toNat) | _ => .non := by
    rw [List.map_map]; exact List.map_congr_left fun n _ => by simp [nI]
  rw [this]
  refine compL_map _ fun d hd => ?_
  obtain ⟨n, hn', rfl⟩ := List.mem_map.mp hd
  refine ⟨[.val (nI n), .val (.lst (ws.map bI))], rfl, rfl, ?_⟩
  refine (e2_ok (a := .lst (ws.map bI)) (b := nI n) rfl rfl (rd_ix (hn n hn'))).trans ?_
  simp [nI]
theorem at_ok {ws : List Bool} {ns : List Nat} (hn : ∀ n ∈ ns, n < ws.length) (hl : ns.length < 1000) : d_masks_at [.lst (ws.map bI), .tup (ns.map nI)] = .ok (.tup (ns.map fun n => bI (rdW ws n))) := by
  unfold d_masks_at F_masks_at
  exact fnD_ok (sRet_ok (eCall_ok (ds := [.lst (ns.map fun n => bI (rdW ws n))]) (aCons_ok (eNew_ok (at_comp (t := 0) hn hl (itT_ok rfl) rfl)) rfl) rfl))
/-! the wires of the ins -/
def inRow (bad : List Int) (b : Bool) : Nat → List Bool → List Bool
  | 0, ws => ws
  | n + 1, ws => inRow bad b n ws ++ [b != bad.contains ((inRow bad b n ws).length : Int)]
theorem inRow_len (bad : List Int) (b : Bool) : ∀ n ws, (inRow bad b n ws).length = ws.length + n
  | 0, ws => rfl
  | n + 1, ws => by unfold inRow; rw [List.length_append, inRow_len bad b n ws]; rfl
def inUp (ins : List (Str × Nat)) (bits : List Bool) (bad : List Int) : Nat → List Bool
  | 0 => []
  | i + 1 => match ins[i]?, bits[i]? with | some x, some b => inRow bad b x.2 (inUp ins bits bad i) | _, _ => inUp ins bits bad i
def wid (ins : List (Str × Nat)) : Nat := (ins.map (·.2)).sum
theorem inUp_len {ins : List (Str × Nat)} {bits : List Bool} {bad : List Int} (hb : bits.length = ins.length) : ∀ i, i ≤ ins.length → (inUp ins bits bad i).length = wid (ins.take i)
  | 0, _ => rfl
  | i + 1, hi => by
    have h1 : ins[i]? = some ins[i] := List.getElem?_eq_getElem (by omega)
    have h2 : bits[i]? = some bits[i] := List.getElem?_eq_getElem (by omega)
    unfold inUp
    rw [h1, h2]
    show (inRow bad bits[i] ins[i].2 (inUp ins bits bad i)).length = _
    rw [inRow_len, inUp_len hb i (by omega), List.take_add_one, h1]
    unfold wid
    simp only [Option.toList_some, List.map_append, List.sum_append, List.map_cons, List.map_nil, List.sum_cons, List.sum_nil]
    omega
/-! the gates -/
abbrev Gt := Nat × List Nat × Bool
def gtD (g : Gt) : D := .tup [.str (kS g.1), .tup (g.2.1.map nI), .bl g.2.2]
def gUp (gs : List Gt) (turned : List Int) (w0 : List Bool) : Nat → List Bool
  | 0 => w0
  | i + 1 => match gs[i]? with | some g => gUp gs turned w0 i ++ [gv g.1 (g.2.1.map (rdW (gUp gs turned w0 i))) != turned.contains (i : Int)] | none => gUp gs turned w0 i
theorem gUp_len {gs : List Gt} {turned : List Int} {w0 : List Bool} : ∀ i, i ≤ gs.length → (gUp gs turned w0 i).length = w0.length + i
  | 0, _ => rfl
  | i + 1, hi => by
    have h1 : gs[i]? = some gs[i] := List.getElem?_eq_getElem (by omega)
    unfold gUp
    rw [h1]
    show (gUp gs turned w0 i ++ [_]).length = _
    rw [List.length_append, gUp_len i (by omega)]
    rfl
def GtOk (n : Nat) (g : Gt) : Prop := g.1 ≤ 4 ∧ g.2.1.length = ar g.1 ∧ ∀ w ∈ g.2.1, w < n
def inD (x : Str × Nat) : D := .tup [.str x.1, nI x.2]
def ouD (x : Str × List Nat) : D := .tup [.str x.1, .tup (x.2.map nI)]
theorem ar_le (k : Nat) : ar k ≤ 3 := by unfold ar; split <;> omega
end K12

end
section
set_option maxRecDepth 100000
set_option maxHeartbeats 4000000
namespace K12
open PySem PySem.Spec PyProof.Rows L2 L3
theorem set_last (S : Sto) (x y : SO) : (S ++ [x]).set S.length y = S ++ [y] := by
  rw [List.set_append_right _ _ (Nat.le_refl _), Nat.sub_self]; rfl
theorem in_ints (i : Int) (ps : List Int) : dIn (.int i) (.tup (ps.map .int)) = .ok (.bl (ps.contains i)) := by
  show ((match ints? (ps.map D.int) with | some ss => R.ok (ss.contains i) | none => .no)).bind (fun b => R.ok (D.bl b)) = _
  rw [L2.ints_map]; rfl
theorem enum_at {ds : List D} {i : Nat} {v : V3} (h : ((enumD ds).map V3.d)[i]? = some v) : ∃ d, ds[i]? = some d ∧ v = .d (.tup [.int i, d]) := by
  rw [List.getElem?_map, enumD, List.getElem?_map, List.getElem?_zipIdx] at h
  cases q : ds[i]? with
  | none => rw [q] at h; cases h
  | some d =>
    rw [q] at h
    simp at h
    exact ⟨d, rfl, h.symm⟩
theorem turn_bit (b c : Bool) : (if c then dBx (.int 1) (bI b) else .ok (bI b)) = .ok (bI (b != c)) := by cases b <;> cases c <;> rfl
theorem eif_ok {c : DEnv → R Bool} {f g : FD} {δ : DEnv} {b : Bool} {r : R D} (h : c δ = .ok b) (h2 : (if b then f δ else g δ) = r) : eIf c f g δ = r := by unfold eIf; rw [h, R.ok_bind]; exact h2
def wEnv (S : Sto) (insD bitsD badD : D) (a5 a6 a7 : Option V3) : DE := [some (.d insD), some (.d bitsD), some (.d (.int 1)), some (.d badD), some (.loc S.length), a5, a6, a7]
theorem row_step {S : Sto} {insD bitsD : D} {bad : List Int} {a5 a7 : Option V3} {b : Bool} {ws : List Bool} (hl : ws.length < 10000) :
    W3 (B_in_wire_masks_0 (wEnv S insD bitsD (.tup (bad.map .int)) a5 (some (.d (bI b))) a7) (S ++ [.lst (ws.map bI)])) fun o S1 => o = .nx (wEnv S insD bitsD (.tup (bad.map .int)) a5 (some (.d (bI b))) a7) ∧ S1 = S ++ [SO.lst ((ws ++ [b != bad.contains (ws.length : Int)]).map bI)] := by
  have hz : sizeLine = 16777216 := sizeLine_eq
  unfold B_in_wire_masks_0
  refine w_app (k := S.length) rfl ⟨_, get_last _ _⟩ (w_T (d := bI (b != bad.contains (ws.length : Int))) ?_ rfl ⟨_, _, rfl, get_last _ _, by rw [List.length_map]; omega, rfl, ?_⟩)
  · have h4 : (downT (S ++ [.lst (ws.map bI)]) (wEnv S insD bitsD (.tup (bad.map .int)) a5 (some (.d (bI b))) a7))[4]? = some (.val (.lst (ws.map bI))) := by
      unfold downT wEnv
      show some (match res (S ++ [.lst (ws.map bI)]) (.loc S.length) with | some d => Sl.val d | none => .un) = _
      unfold res
      rw [get_last]
    refine eif_ok (b := bad.contains (ws.length : Int)) (b2_ok (a := .int ws.length) (b := .tup (bad.map .int)) (eCall_ok (ds := [.lst (ws.map bI)]) (aCons_ok (by unfold eVar; rw [h4]) rfl) (by rw [lenL, List.length_map])) rfl (in_ints _ _)) ?_
    rw [← turn_bit]
    rfl
  · rw [set_last, List.map_append]; rfl
theorem in_wires_ok {S : Sto} {ins : List (Str × Nat)} {bits : List Bool} {bad : List Int} (hb : bits.length = ins.length) (hi : ins.length < 100) (hw : ∀ x ∈ ins, x.2 < 100) {Q : V3 → Sto → Prop}
    (h : Q (.loc S.length) (S ++ [.lst ((inUp ins bits bad ins.length).map bI)])) :
    W3 (dK_in_wire_masks [.d (.lst (ins.map inD)), .d (.tup (bits.map bI)), .d (.int 1), .d (.tup (bad.map .int))] S) Q := by
  have hz : sizeLine = 16777216 := sizeLine_eq
  unfold dK_in_wire_masks
  refine w_K rfl ?_
  simp only [xStart, N_in_wire_masks, List.map_cons, List.map_nil, List.length_cons, List.length_nil, List.replicate, List.cons_append, List.nil_append, Nat.reduceAdd, Nat.reduceSub]
  unfold F_in_wire_masks
  refine w_seq (w_set (by simp only [List.length_cons, List.length_nil, List.length_set]; omega) (w_new (ds := []) rfl ⟨_, rfl, ?_⟩))
  simp only [List.set_cons_succ, List.set_cons_zero]
  refine w_seq (w_for (w_iP (ds := enumD (bits.map bI)) rfl ?_))
  have big : ∀ i, i ≤ ins.length → (inUp ins bits bad i).length ≤ 100 * i := by
    intro i hi'
    induction i with
    | zero => simp [inUp]
    | succ i ih =>
      have ih := ih (by omega)
      have h1 : ins[i]? = some ins[i] := List.getElem?_eq_getElem (by omega)
      have h2 : bits[i]? = some bits[i] := List.getElem?_eq_getElem (by omega)
      unfold inUp
      rw [h1, h2]
      show (inRow bad bits[i] ins[i].2 (inUp ins bits bad i)).length ≤ _
      rw [inRow_len]
      have := hw ins[i] (List.getElem_mem _)
      omega
  refine (loopX_inv (fun i δ S2 => (∃ a b c, δ = wEnv S (.lst (ins.map inD)) (.tup (bits.map bI)) (.tup (bad.map .int)) a b c) ∧ S2 = S ++ [SO.lst ((inUp ins bits bad i).map bI)])
    ⟨⟨_, _, _, rfl⟩, rfl⟩ ?_).mono fun o S2 ⟨δ2, e2', ⟨a, b, c, hδ⟩, hS⟩ => ⟨δ2, e2', ?_⟩
  · rintro i v δ S2 hv ⟨⟨a, b, c, rfl⟩, rfl⟩
    obtain ⟨d, hd, rfl⟩ := enum_at hv
    rw [List.getElem?_map] at hd
    have hib : i < bits.length := by
      have := (List.getElem?_eq_some_iff.mp hv).1
      simpa [enumD] using this
    have h1 : ins[i]? = some ins[i] := List.getElem?_eq_getElem (by omega)
    have h2 : bits[i]? = some bits[i] := List.getElem?_eq_getElem hib
    rw [h2] at hd
    cases hd
    refine ⟨wEnv S (.lst (ins.map inD)) (.tup (bits.map bI)) (.tup (bad.map .int)) (some (.d (.int i))) (some (.d (bI bits[i]))) c, rfl, ?_⟩
    unfold B_in_wire_masks_1
    have hwi := hw ins[i] (List.getElem_mem _)
    refine w_for (w_iP (rng1_ok (n := ins[i].2) ?_ (by omega)) ?_)
    · refine e2_ok (a := inD ins[i]) (b := .int 1) (e2_ok (a := .lst (ins.map inD)) (b := .int i) rfl rfl (ixL_of ?_)) rfl rfl
      rw [atI_of (by omega) (by rw [List.length_map, Int.toNat_natCast]; omega)]
      simp
    refine (loopX_inv (fun j δ S3 => (∃ c, δ = wEnv S (.lst (ins.map inD)) (.tup (bits.map bI)) (.tup (bad.map .int)) (some (.d (.int i))) (some (.d (bI bits[i]))) c) ∧ S3 = S ++ [SO.lst ((inRow bad bits[i] j (inUp ins bits bad i)).map bI)])
      ⟨⟨_, rfl⟩, rfl⟩ ?_).mono fun o S3 ⟨δ3, e3, ⟨c3, hδ3⟩, hS3⟩ => ⟨δ3, e3, ⟨_, _, c3, hδ3⟩, ?_⟩
    · rintro j v δ S3 hv ⟨⟨c3, rfl⟩, rfl⟩
      refine ⟨_, rfl, ?_⟩
      have hj : j < ins[i].2 := by
        have := (List.getElem?_eq_some_iff.mp hv).1
        rwa [List.length_map, rngD, List.length_map, List.length_range] at this
      refine (row_step ?_).mono fun o S4 ⟨e4, e5⟩ => ⟨_, e4, ⟨_, rfl⟩, e5⟩
      rw [inRow_len]
      have := big i (by omega)
      omega
    · rw [hS3, List.length_map, rngD, List.length_map, List.length_range]
      show _ = S ++ [SO.lst ((match ins[i]?, bits[i]? with | some x, some b => inRow bad b x.2 (inUp ins bits bad i) | _, _ => inUp ins bits bad i).map bI)]
      rw [h1, h2]
  have hlen : ((enumD (bits.map bI)).map V3.d).length = ins.length := by simp [enumD, hb]
  rw [hlen] at hS
  subst hδ hS
  exact w_ret (w_var rfl ⟨_, rfl, h⟩)
end K12

end
section
set_option maxRecDepth 100000
set_option maxHeartbeats 4000000
namespace K12
open PySem PySem.Spec PyProof.Rows L2 L3
/-- a net, an input, turned gates, bad wires that can be run -/
structure NetOk (ins : List (Str × Nat)) (gs : List Gt) (os : List (Str × List Nat)) (bits : List Bool) : Prop where
  hb : bits.length = ins.length
  hi : ins.length < 100
  hw : ∀ x ∈ ins, x.2 < 100
  hg : gs.length < 1000
  g : ∀ (i : Nat) (x : Gt), gs[i]? = some x → GtOk (wid ins + i) x
  ho : os.length < 1000
  o : ∀ x ∈ os, x.2.length < 1000 ∧ ∀ w ∈ x.2, w < wid ins + gs.length
def netD (ins : List (Str × Nat)) (gs : List Gt) (os : List (Str × List Nat)) : D := .tup [.lst (ins.map inD), .lst (gs.map gtD), .lst (os.map ouD)]
def allW (ins : List (Str × Nat)) (gs : List Gt) (bits : List Bool) (turned bad : List Int) : List Bool := gUp gs turned (inUp ins bits bad ins.length) gs.length
def ansD (ins : List (Str × Nat)) (gs : List Gt) (os : List (Str × List Nat)) (bits : List Bool) (turned bad : List Int) : List D := os.map fun x => .tup (x.2.map fun n => bI (rdW (allW ins gs bits turned bad) n))
section
variable {ins : List (Str × Nat)} {gs : List Gt} {os : List (Str × List Nat)} {bits : List Bool} {turned bad : List Int}
theorem wid_take (N : NetOk ins gs os bits) : (inUp ins bits bad ins.length).length = wid ins := by rw [inUp_len N.hb _ (Nat.le_refl _), List.take_length]
theorem wid_le : ∀ {l : List (Str × Nat)}, (∀ x ∈ l, x.2 < 100) → wid l ≤ 100 * l.length
  | [], _ => by simp [wid]
  | x :: l, h => by
    have ih := wid_le (l := l) fun y hy => h y (List.mem_cons_of_mem _ hy)
    have := h x List.mem_cons_self
    unfold wid at ih ⊢
    rw [List.map_cons, List.sum_cons, List.length_cons]
    omega
theorem allW_len (N : NetOk ins gs os bits) : (allW ins gs bits turned bad).length = wid ins + gs.length := by unfold allW; rw [gUp_len _ (Nat.le_refl _), wid_take N]
def mEnv (S : Sto) (nt bitsD tD bD : D) (a6 a7 a8 : Option V3) : DE := [some (.d nt), some (.d bitsD), some (.d (.int 1)), some (.d tD), some (.d bD), some (.loc S.length), a6, a7, a8]
theorem gate_step {S : Sto} {nt bitsD bD : D} {a8 : Option V3} {g : Gt} {i : Nat} {ws : List Bool} (hg : GtOk ws.length g) (hl : ws.length < 20000) :
    W3 (B_wire_masks_0 (mEnv S nt bitsD (.tup (turned.map .int)) bD (some (.d (.int i))) (some (.d (gtD g))) a8) (S ++ [.lst (ws.map bI)])) fun o S1 => (∃ c, o = .nx (mEnv S nt bitsD (.tup (turned.map .int)) bD (some (.d (.int i))) (some (.d (gtD g))) c)) ∧ S1 = S ++ [SO.lst ((ws ++ [gv g.1 (g.2.1.map (rdW ws)) != turned.contains (i : Int)]).map bI)] := by
  have hz : sizeLine = 16777216 := sizeLine_eq
  have ha := ar_le g.1
  unfold B_wire_masks_0
  refine w_seq (w_set (by unfold mEnv; simp only [List.length_cons, List.length_nil]; omega) (w_T (d := bI (gv g.1 (g.2.1.map (rdW ws)))) ?_ rfl ⟨_, rfl, ?_⟩))
  · have h5 : (downT (S ++ [.lst (ws.map bI)]) (mEnv S nt bitsD (.tup (turned.map .int)) bD (some (.d (.int i))) (some (.d (gtD g))) a8))[5]? = some (.val (.lst (ws.map bI))) := by
      unfold downT mEnv
      show some (match res (S ++ [.lst (ws.map bI)]) (.loc S.length) with | some d => Sl.val d | none => .un) = _
      unfold res
      rw [get_last]
    refine eCall_ok (ds := [.str (kS g.1), .tup ((g.2.1.map (rdW ws)).map bI), .int 1]) (aCons_ok (e2_ok (a := gtD g) (b := .int 0) rfl rfl rfl) (aCons_ok ?_ (aCons_ok rfl rfl))) (mask_ok hg.1 (by rw [List.length_map]; exact hg.2.1))
    refine (eCall_ok (ds := [.lst (ws.map bI), .tup (g.2.1.map nI)]) (aCons_ok (by unfold eVar; rw [h5]) (aCons_ok (e2_ok (a := gtD g) (b := .int 1) rfl rfl rfl) rfl)) (at_ok hg.2.2 (by rw [hg.2.1]; omega))).trans ?_
    rw [List.map_map]; rfl
  · show W3 (zApp 5 _ (mEnv S nt bitsD (.tup (turned.map .int)) bD (some (.d (.int i))) (some (.d (gtD g))) (some (.d (bI (gv g.1 (g.2.1.map (rdW ws))))))) _) _
    refine w_app (k := S.length) rfl ⟨_, get_last _ _⟩ (w_P (d := bI (gv g.1 (g.2.1.map (rdW ws)) != turned.contains (i : Int))) ?_ ⟨_, _, rfl, get_last _ _, by rw [List.length_map]; omega, ⟨_, rfl⟩, ?_⟩)
    · refine eif_ok (b := turned.contains (i : Int)) (b2_ok (a := .int i) (b := .tup (turned.map .int)) rfl rfl (in_ints _ _)) ?_
      rw [← turn_bit]
      rfl
    · rw [set_last, List.map_append]; rfl
theorem wires_ok {S : Sto} (N : NetOk ins gs os bits) (hS : Flat S) {Q : V3 → Sto → Prop} (h : Q (.d (.lst ((allW ins gs bits turned bad).map bI))) S) :
    W3 (dP_wire_masks [.d (netD ins gs os), .d (.tup (bits.map bI)), .d (.int 1), .d (.tup (turned.map .int)), .d (.tup (bad.map .int))] S) Q := by
  have hz : sizeLine = 16777216 := sizeLine_eq
  unfold dP_wire_masks
  refine w_PnF (w_K rfl ?_)
  simp only [xStart, N_wire_masks, List.map_cons, List.map_nil, List.length_cons, List.length_nil, List.replicate, List.cons_append, List.nil_append, Nat.reduceAdd, Nat.reduceSub]
  unfold F_wire_masks
  refine w_seq <| w_set (by simp only [List.length_cons, List.length_nil, List.length_set]; omega) <| w_call <| w_cons <| w_P (d := .lst (ins.map inD)) rfl <| w_cons <| w_P (d := .tup (bits.map bI)) rfl <| w_cons <| w_P (d := .int 1) rfl <| w_cons <| w_P (d := .tup (bad.map .int)) rfl <| w_nil <| in_wires_ok N.hb N.hi N.hw ⟨_, rfl, ?_⟩
  simp only [List.set_cons_succ, List.set_cons_zero]
  have hwd := wid_le N.hw
  have hN := N.hi
  have hG := N.hg
  refine w_seq (w_for (w_iP (ds := enumD (gs.map gtD)) rfl ?_))
  refine (loopX_inv (fun i δ S2 => (∃ a b c, δ = mEnv S (netD ins gs os) (.tup (bits.map bI)) (.tup (turned.map .int)) (.tup (bad.map .int)) a b c) ∧ S2 = S ++ [SO.lst ((gUp gs turned (inUp ins bits bad ins.length) i).map bI)])
    ⟨⟨_, _, _, rfl⟩, rfl⟩ ?_).mono fun o S2 ⟨δ2, e2', ⟨a, b, c, hδ⟩, hS2⟩ => ⟨δ2, e2', ?_⟩
  · rintro i v δ S2 hv ⟨⟨a, b, c, rfl⟩, rfl⟩
    obtain ⟨d, hd, rfl⟩ := enum_at hv
    rw [List.getElem?_map] at hd
    cases q : gs[i]? with
    | none => rw [q] at hd; cases hd
    | some g =>
      rw [q] at hd
      cases hd
      have hi : i < gs.length := (List.getElem?_eq_some_iff.mp q).1
      have hl : (gUp gs turned (inUp ins bits bad ins.length) i).length = wid ins + i := by rw [gUp_len _ (by omega), wid_take N]
      refine ⟨mEnv S (netD ins gs os) (.tup (bits.map bI)) (.tup (turned.map .int)) (.tup (bad.map .int)) (some (.d (.int i))) (some (.d (gtD g))) c, rfl, ?_⟩
      refine (gate_step (by rw [hl]; exact N.g i g q) (by rw [hl]; omega)).mono fun o S4 ⟨⟨c4, e4⟩, e5⟩ => ⟨_, e4, ⟨_, _, _, rfl⟩, ?_⟩
      rw [e5]
      show _ = S ++ [SO.lst ((match gs[i]? with | some g => gUp gs turned (inUp ins bits bad ins.length) i ++ [gv g.1 (g.2.1.map (rdW (gUp gs turned (inUp ins bits bad ins.length) i))) != turned.contains (i : Int)] | none => gUp gs turned (inUp ins bits bad ins.length) i).map bI)]
      rw [q]
  have hlen : ((enumD (gs.map gtD)).map V3.d).length = gs.length := by simp [enumD]
  rw [hlen] at hS2
  subst hδ hS2
  refine w_ret (w_var rfl ⟨_, rfl, hS.push (flatL _), by unfold geOk; exact decide_eq_true (Nat.le_refl _), _, by unfold res; rw [get_last], ?_⟩)
  rw [List.take_left]
  exact h
theorem run_body {S : Sto} (N : NetOk ins gs os bits) (hS : Flat S) : W3 (fnK N_run F_run [.d (netD ins gs os), .d (.tup (bits.map bI)), .d (.tup (turned.map .int)), .d (.tup (bad.map .int))] S) fun v S1 => v = .loc S.length ∧ S1 = S ++ [.lst (ansD ins gs os bits turned bad)] := by
  have hz : sizeLine = 16777216 := sizeLine_eq
  refine w_K rfl ?_
  simp only [xStart, N_run, List.map_cons, List.map_nil, List.length_cons, List.length_nil, List.replicate, List.cons_append, List.nil_append, Nat.reduceAdd, Nat.reduceSub]
  unfold F_run
  refine w_ret <| w_call <| w_cons <| w_P (d := netD ins gs os) rfl <| w_cons <| w_call <| w_cons <| w_P (d := netD ins gs os) rfl <| w_cons <| w_P (d := .tup (bits.map bI)) rfl <| w_cons <| w_P (d := .int 1) rfl <| w_cons <| w_P (d := .tup (turned.map .int)) rfl <| w_cons <| w_P (d := .tup (bad.map .int)) rfl <| w_nil <| wires_ok N hS <| w_nil ?_
  unfold dK_out_masks
  refine w_K rfl ?_
  simp only [xStart, N_out_masks, List.map_cons, List.map_nil, List.length_cons, List.length_nil, List.replicate, List.cons_append, List.nil_append, Nat.reduceAdd, Nat.reduceSub]
  unfold F_out_masks
  refine w_ret (w_new (ds := ansD ins gs os bits turned bad) ?_ ⟨_, rfl, _, rfl, rfl, rfl⟩)
  have hO := N.ho
  refine nComp_ok (ds := os.map ouD) (itL_ok (e2_ok (a := netD ins gs os) (b := .int 2) rfl rfl rfl)) (by rw [List.length_map]; omega) ?_
  have e : ansD ins gs os bits turned bad = (os.map ouD).map fun d => match d with | .tup [_, .tup ns] => .tup (ns.map fun n => match n with | .int i => bI (rdW (allW ins gs bits turned bad) i.toNat) | _ => .non) | _ => .non := by
    unfold ansD
    rw [List.map_map]
    refine List.map_congr_left fun x hx => ?_
    show _ = D.tup (((x.2.map nI)).map _)
    rw [List.map_map]
    congr 1
  rw [e]
  refine compL_map _ fun d hd => ?_
  obtain ⟨x, hx, rfl⟩ := List.mem_map.mp hd
  obtain ⟨o1, o2⟩ := N.o x hx
  refine ⟨[.val (.str x.1), .val (.tup (x.2.map nI)), .val (.lst ((allW ins gs bits turned bad).map bI))], rfl, rfl, ?_⟩
  refine (eCall_ok (ds := [.lst ((allW ins gs bits turned bad).map bI), .tup (x.2.map nI)]) rfl (at_ok (fun n hn => by rw [allW_len N]; exact o2 n hn) o1)).trans ?_
  show _ = R.ok (D.tup (((x.2.map nI)).map _))
  rw [List.map_map]
  rfl
theorem run_K {S : Sto} (N : NetOk ins gs os bits) (hS : Flat S) {Q : V3 → Sto → Prop} (h : Q (.loc S.length) (S ++ [.lst (ansD ins gs os bits turned bad)])) : W3 (dK_run [.d (netD ins gs os), .d (.tup (bits.map bI)), .d (.tup (turned.map .int)), .d (.tup (bad.map .int))] S) Q :=
  (run_body N hS).mono fun v S1 ⟨e1, e2'⟩ => by subst e1 e2'; exact h
theorem run_P {S : Sto} (N : NetOk ins gs os bits) (hS : Flat S) {Q : V3 → Sto → Prop} (h : Q (.d (.lst (ansD ins gs os bits turned bad))) S) : W3 (dP_run [.d (netD ins gs os), .d (.tup (bits.map bI)), .d (.tup (turned.map .int)), .d (.tup (bad.map .int))] S) Q := by
  unfold dP_run
  refine w_PnF ((run_body N hS).mono fun v S1 ⟨e1, e2'⟩ => ?_)
  subst e1 e2'
  refine ⟨hS.push (flatL _), by unfold geOk; exact decide_eq_true (Nat.le_refl _), _, by unfold res; rw [get_last], ?_⟩
  rw [List.take_left]
  exact h
end
end K12

end
section
set_option maxRecDepth 100000
set_option maxHeartbeats 4000000
namespace K12
open PySem PySem.Spec PyProof.Rows L2 L3
section
variable {ins : List (Str × Nat)} {gs : List Gt} {os : List (Str × List Nat)} {bits : List Bool} {turned bad : List Int}
theorem in_at {i : Nat} (h : i < ins.length) : ixD (.lst (ins.map inD)) (.int i) = .ok (inD ins[i]) := by
  refine ixL_of ?_
  rw [atI_of (by omega) (by rw [List.length_map, Int.toNat_natCast]; exact h)]
  simp
theorem gt_at {i : Nat} {g : Gt} (h : gs[i]? = some g) : ixD (.lst (gs.map gtD)) (.int i) = .ok (gtD g) := by
  obtain ⟨h1, h2⟩ := List.getElem?_eq_some_iff.mp h
  refine ixL_of ?_
  rw [atI_of (by omega) (by rw [List.length_map, Int.toNat_natCast]; exact h1)]
  simp [h2]
theorem rng_at {n i : Nat} {d : D} (h : (rngD 0 n)[i]? = some d) : i < n ∧ d = .int i := by
  rw [rngD, List.getElem?_map] at h
  cases q : (List.range n)[i]? with
  | none => rw [q] at h; cases h
  | some j =>
    rw [q] at h; cases h
    obtain ⟨q1, q2⟩ := List.getElem?_eq_some_iff.mp q
    rw [List.getElem_range] at q2
    rw [List.length_range] at q1
    subst q2
    exact ⟨q1, by simp⟩
end
theorem ne_int (n : Int) : dNe (.int n) (.int n) = .ok (.bl false) := by
  have : dNe (.int n) (.int n) = .ok (.bl (!decide (n = n))) := rfl
  rw [this, decide_eq_true rfl]; rfl
theorem seq_ix {ds : List D} {i : Nat} {x : D} (h : ds[i]? = some x) : atI ds (i : Int) = some x := by
  obtain ⟨h1, h2⟩ := List.getElem?_eq_some_iff.mp h
  rw [atI_of (by omega) (by rw [Int.toNat_natCast]; exact h1)]
  simp [h2]
theorem cell_ok (ns : List Int) (k : Nat) : ∃ c : Int, d_law_cell_at [.lst (ns.map .int), .int k] = .ok (.int c) := by
  by_cases h : k < ns.length
  · refine ⟨ns[k], ?_⟩
    unfold d_law_cell_at F_law_cell_at
    refine fnD_ok ?_
    have e : sIf (b2 dLt (eVar 1) (eCall cLen (aCons (eVar 0) aNil))) (sRet (e2 ixD (eVar 0) (eVar 1))) sNil (dStart N_law_cell_at [.lst (ns.map .int), .int k]) = .ok (.rt (.int ns[k])) := by
      refine sIf_t ?_ (sRet_ok (e2_ok (a := .lst (ns.map .int)) (b := .int k) rfl rfl (ixL_of (seq_ix (by rw [List.getElem?_map, List.getElem?_eq_getElem h]; rfl)))))
      refine b2_ok (a := .int k) (b := .int ns.length) rfl (eCall_ok (ds := [.lst (ns.map .int)]) rfl (by rw [lenL, List.length_map])) ?_
      show R.ok (D.bl (decide ((k : Int) < (ns.length : Int)))) = _
      rw [decide_eq_true (by omega)]
    unfold sSeq
    rw [e]; rfl
  · refine ⟨0, ?_⟩
    unfold d_law_cell_at F_law_cell_at
    refine fnD_ok (sSeq_ok (sIf_f ?_ rfl) rfl)
    refine b2_ok (a := .int k) (b := .int ns.length) rfl (eCall_ok (ds := [.lst (ns.map .int)]) rfl (by rw [lenL, List.length_map])) ?_
    show R.ok (D.bl (decide ((k : Int) < (ns.length : Int)))) = _
    rw [decide_eq_false (by omega)]
end K12

end
section
set_option maxRecDepth 100000
set_option maxHeartbeats 4000000
namespace K12
open PySem PySem.Spec PyProof.Rows L2 L3
section
variable {S : Sto} {δ : DE} {k q i : Nat} {ks : List Int}
theorem drawT {Q : V3 → Sto → Prop} {f : FD} {m : Int} (hv : δ[i]? = some (some (.loc k))) (p : Pot k S) (hf : f (downT S δ) = .ok (.int m)) (hm : 0 < m) (hm2 : m < 1000000)
    (h : ∀ (r : Int) S1, 0 ≤ r → r < m → Ev k S S1 → Q (.d (.int r)) S1) : W3 (xCall dP_law_take (xCons (xVar i) (xCons (xT f) xNil)) δ S) Q :=
  w_call (w_cons (w_var hv (w_cons (w_T hf rfl (w_nil (take_ok p hm (small_log hm hm2) h))))))
theorem res_loc {ds : List D} (e : S[q]? = some (.lst ds)) : res S (.loc q) = some (.lst ds) := by unfold res; rw [e]
theorem len_ks (e : S[q]? = some (.lst (ks.map .int))) (hi : δ[i]? = some (some (.loc q))) : eCall cLen (aCons (eVar i) aNil) (downT S δ) = .ok (.int ks.length) := by
  refine eCall_ok (ds := [.lst (ks.map .int)]) (aCons_ok ?_ rfl) (by rw [lenL, List.length_map])
  unfold eVar downT
  rw [List.getElem?_map, hi]
  show (match some (match res S (.loc q) with | some d => Sl.val d | none => .un) with | some (.val d) => R.ok d | _ => .no) = _
  rw [res_loc e]
theorem ks_at {w : Nat} (h : w < ks.length) : ixD (.lst (ks.map .int)) (nI w) = .ok (.int ks[w]) := ixL_of (seq_ix (by rw [List.getElem?_map, List.getElem?_eq_getElem h]; rfl))
/-- the wires that tell the same as wire w -/
theorem same_ok {own : List Str} {kp : List Nat} {it : FA} {w : Nat} {Q : V3 → Sto → Prop} (e : S[q]? = some (.lst (ks.map .int))) (hw : w < ks.length) (hn : ks.length < 10000) (hkp : cEnvX own kp δ = [none, some (.loc q), some (.d (nI w))])
    (hit : W3 (it δ S) fun vs S1 => vs = (rngD 0 ks.length).map .d ∧ S1 = S) (h : ∀ l : List Nat, 0 < l.length → l.length < 10000 → (∀ x ∈ l, x < ks.length) → Q (.d (.lst (l.map nI))) S) :
    W3 (xComp it (gNm 0) (bT (b2 dEq (e2 ixD (eVar 1) (eVar 0)) (e2 ixD (eVar 1) (eVar 2)))) (xP (eVar 0)) own kp δ S) Q := by
  have hz : sizeLine = 16777216 := sizeLine_eq
  refine w_compD (fun i ds S2 => S2 = S ∧ ∃ l : List Nat, ds = l.map nI ∧ (∀ x ∈ l, x < ks.length) ∧ l.length ≤ i ∧ (w < i → 0 < l.length)) (hit.mono fun vs S1 ⟨e1, e2'⟩ => ?_)
  subst e1 e2'
  have hlen : ((rngD 0 ks.length).map V3.d).length = ks.length := by simp [rngD]
  rw [hlen]
  refine ⟨by omega, ⟨rfl, [], rfl, by simp, by simp, by omega⟩, ?_, ?_⟩
  · rintro i v ds S2 hv ⟨rfl, l, rfl, hl, hli, hw'⟩
    rw [hkp]
    rw [List.getElem?_map] at hv
    cases qq : (rngD 0 ks.length)[i]? with
    | none => rw [qq] at hv; cases hv
    | some d0 =>
      rw [qq] at hv
      obtain ⟨hi, rfl⟩ := rng_at qq
      cases hv
      refine ⟨[some (.d (.int i)), some (.loc q), some (.d (nI w))], rfl, w_bT (b := decide (ks[i] = ks[w])) ?_ ?_⟩
      · have hT : downT S2 [some (.d (.int i)), some (.loc q), some (.d (nI w))] = [.val (nI i), .val (.lst (ks.map .int)), .val (nI w)] := by
          simp only [downT, List.map_cons, List.map_nil, res_loc e]
          rfl
        rw [hT]
        exact b2_ok (a := .int ks[i]) (b := .int ks[w]) (e2_ok (a := .lst (ks.map .int)) (b := nI i) rfl rfl (ks_at hi)) (e2_ok (a := .lst (ks.map .int)) (b := nI w) rfl rfl (ks_at hw)) rfl
      · by_cases hc : ks[i] = ks[w]
        · rw [decide_eq_true hc, if_pos rfl]
          refine w_P rfl ⟨nI i, rfl, rfl, l ++ [i], by simp, ?_, by simp; omega, by simp⟩
          intro x hx
          rcases List.mem_append.mp hx with z | z
          · exact hl x z
          · rw [List.mem_singleton] at z; subst z; exact hi
        · rw [decide_eq_false hc, if_neg (by decide)]
          refine ⟨rfl, l, rfl, hl, by omega, fun hwi => hw' ?_⟩
          have : w ≠ i := fun z => hc (by subst z; rfl)
          omega
  · rintro ds S2 ⟨rfl, l, rfl, hl, hli, hw'⟩
    exact h l (hw' hw) (by omega) hl
theorem pick_ok {f : FX} {fm : FD} {l : List Nat} {Q : V3 → Sto → Prop} (hf : W3 (f δ S) fun v S1 => v = .d (.lst (l.map nI)) ∧ S1 = S) (hv : δ[i]? = some (some (.loc k))) (p : Pot k S) (hm : fm (down δ) = .ok (.int l.length)) (hl : 0 < l.length) (hl2 : l.length < 10000)
    (h : ∀ x S1, x ∈ l → Ev k S S1 → Q (.d (nI x)) S1) : W3 (xIx f (xCall dP_law_take (xCons (xVar i) (xCons (xP fm) xNil))) δ S) Q := by
  refine w_ix (hf.mono fun v S1 ⟨e1, e2'⟩ => ?_)
  subst e1 e2'
  refine draw hv p hm (by omega) (by omega) fun r S2 h1 h2 v2 => ⟨_, _, nI (l[r.toNat]'(by omega)), rfl, rfl, ixL_of ?_, h _ S2 (List.getElem_mem _) v2⟩
  rw [atI_of h1 (by rw [List.length_map]; omega)]
  simp
end
def kindL : List D := [.str (Str.ofString "not"), .str (Str.ofString "and"), .str (Str.ofString "or"), .str (Str.ofString "xor"), .str (Str.ofString "vote"), .str (Str.ofString "xor"), .str (Str.ofString "and")]
def cnts : List (Key × V) := [((Sum.inr (Str.ofString "not") : Key), V.int 1), ((Sum.inr (Str.ofString "vote") : Key), V.int 3)]
theorem kind_at (r : Nat) (h : r < 7) : ∃ kd, kd ≤ 4 ∧ ixD (.lst kindL) (.int r) = .ok (.str (kS kd)) ∧ (match valV (mergeK [] cnts) (Sum.inr (kS kd)) with | some (.int i) => R.ok (D.int i) | none => .ok (.int 2) | _ => .no) = .ok (.int (ar kd)) := by
  match r, h with
  | 0, _ => exact ⟨0, by omega, rfl, rfl⟩
  | 1, _ => exact ⟨1, by omega, rfl, rfl⟩
  | 2, _ => exact ⟨2, by omega, rfl, rfl⟩
  | 3, _ => exact ⟨3, by omega, rfl, rfl⟩
  | 4, _ => exact ⟨4, by omega, rfl, rfl⟩
  | 5, _ => exact ⟨3, by omega, rfl, rfl⟩
  | 6, _ => exact ⟨1, by omega, rfl, rfl⟩
theorem tup_ns {S : Sto} {δ : DE} {i o : Nat} {ws : List Nat} (hi : δ[i]? = some (some (.loc o))) (e : S[o]? = some (.lst (ws.map nI))) : eCall cTuple (aCons (eVar i) aNil) (downT S δ) = .ok (.tup (ws.map nI)) := by
  refine eCall_ok (ds := [.lst (ws.map nI)]) (aCons_ok ?_ rfl) rfl
  unfold eVar downT
  rw [List.getElem?_map, hi]
  show (match some (match res S (.loc o) with | some d => Sl.val d | none => .un) with | some (.val d) => R.ok d | _ => .no) = _
  rw [res_loc e]
theorem tup_ints (ws : List Nat) : tupD (.tup (ws.map nI)) = true := by
  unfold tupD
  induction ws with
  | nil => unfold tupDs; rfl
  | cons w ws ih => rw [List.map_cons]; unfold tupDs; rw [ih]; rfl
def fin_P {S : Sto} {k : Nat} {d : D} {Q : V3 → Sto → Prop} (h : ∀ S1, Ev k S S1 → Q (.d d) S1) {S2 : Sto} {L : List D} {g : Nat} (E : EvG k g L (S ++ [SO.lst []]) S2) (hg : g = S.length) (hk : k < S.length) : Flat S2 ∧ geOk S.length (.d d) = true ∧ ∃ d', res S2 (.d d) = some d' ∧ Q (.d d') (S2.take S.length) := by
  subst hg
  refine ⟨E.p.1, by unfold geOk; rfl, d, by unfold res; rfl, h _ ⟨⟨E.p.1.take _, ?_⟩, ?_, ?_⟩⟩
  · obtain ⟨_, a, c, e⟩ := E.p
    exact ⟨a, c, by rw [List.getElem?_take_of_lt hk]; exact e⟩
  · have := E.len
    rw [List.length_append, List.length_singleton] at this
    rw [List.length_take]; omega
  · intro j hj
    by_cases hjl : j < S.length
    · rw [List.getElem?_take_of_lt hjl, E.oth _ hj (by omega), List.getElem?_append_left hjl]
    · have := E.len
      rw [List.length_append, List.length_singleton] at this
      rw [List.getElem?_eq_none (by rw [List.length_take]; omega), List.getElem?_eq_none (by omega)]
def aE (k q o : Nat) (ms kd mn : D) (a6 a7 a8 : Option V3) : DE := [some (.loc k), some (.loc q), some (.d ms), some (.d kd), some (.d mn), some (.loc o), a6, a7, a8]
theorem gate_draw {S : Sto} {k q : Nat} {ks : List Int} {ms : Int} (p : Pot k S) (hq : q ≠ k) (e : S[q]? = some (.lst (ks.map .int))) (h0 : 0 < ks.length) (hn : ks.length < 10000) {Q : V3 → Sto → Prop} (h : ∀ g S1, GtOk ks.length g → Ev k S S1 → Q (.d (gtD g)) S1) :
    W3 (dP_law_gate [.loc k, .loc q, .d (.int ms)] S) Q := by
  have hz : sizeLine = 16777216 := sizeLine_eq
  have hk := p.lt
  have hql : q < S.length := (List.getElem?_eq_some_iff.mp e).1
  unfold dP_law_gate
  refine w_PnF (w_K rfl ?_)
  simp only [xStart, N_law_gate, List.map_cons, List.map_nil, List.length_cons, List.length_nil, List.replicate, List.cons_append, List.nil_append, Nat.reduceAdd, Nat.reduceSub]
  unfold F_law_gate
  refine w_seq <| w_set (by simp only [List.length_cons, List.length_nil, List.length_set]; omega) <| w_ix <| w_P (d := .lst kindL) rfl <| draw (k := k) rfl p rfl (by omega) (by omega) fun r S1 h1 h2 v1 => ?_
  obtain ⟨kd, hkd, e1, e2'⟩ := kind_at r.toNat (by omega)
  rw [Int.toNat_of_nonneg h1] at e1
  refine ⟨_, _, _, rfl, rfl, e1, _, rfl, ?_⟩
  simp only [List.set_cons_succ, List.set_cons_zero]
  refine w_seq <| w_set (by simp only [List.length_cons, List.length_nil, List.length_set]; omega) <| w_P (d := .int (ar kd)) e2' ⟨_, rfl, ?_⟩
  simp only [List.set_cons_succ, List.set_cons_zero]
  refine w_seq <| w_set (by simp only [List.length_cons, List.length_nil, List.length_set]; omega) <| w_new (ds := []) rfl ⟨_, rfl, ?_⟩
  simp only [List.set_cons_succ, List.set_cons_zero]
  have har := ar_le kd
  have hl1 := v1.len
  have E1 := EvG.of_push v1.p []
  have hok : S1.length ≠ k := by omega
  have eq1 : S1[q]? = some (.lst (ks.map .int)) := by rw [v1.oth q hq]; exact e
  refine w_seq <| w_for <| w_iP (rng1_ok (n := ar kd) rfl (by omega)) ?_
  refine (loopX_inv (fun i δ S2 => (∃ a b c, δ = aE k q S1.length (.int ms) (.str (kS kd)) (.int (ar kd)) a b c) ∧ ∃ ws : List Nat, ws.length = i ∧ (∀ w ∈ ws, w < ks.length) ∧ EvG k S1.length (ws.map nI) (S1 ++ [SO.lst []]) S2)
    ⟨⟨_, _, _, rfl⟩, [], rfl, by simp, E1⟩ ?_).mono fun o S2 ⟨δ2, e3, ⟨a, b, c, hδ⟩, ws, hwl, hws, E2⟩ => ⟨δ2, e3, ?_⟩
  · rintro i v δ S2 hv ⟨⟨a, b, c, rfl⟩, ws, hwl, hws, E2⟩
    have hi : i < 3 := by
      have := (List.getElem?_eq_some_iff.mp hv).1
      rw [List.length_map, rngD, List.length_map, List.length_range] at this
      omega
    refine ⟨aE k q S1.length (.int ms) (.str (kS kd)) (.int (ar kd)) (some v) b c, rfl, ?_⟩
    unfold B_law_gate_0 aE
    refine w_seq <| w_set (by simp only [List.length_cons, List.length_nil, List.length_set]; omega) <| draw (k := k) rfl E2.p rfl (by omega) (by omega) fun r3 S3 h3 h4 v3 => ⟨_, rfl, ?_⟩
    simp only [List.set_cons_succ, List.set_cons_zero]
    have E3 := E2.then hok v3
    have eq3 : S3[q]? = some (.lst (ks.map .int)) := by rw [E3.oth q hq (by omega), List.getElem?_append_left (by omega)]; exact eq1
    refine w_seq <| w_set (by simp only [List.length_cons, List.length_nil, List.length_set]; omega) <| drawT (k := k) rfl E3.p (len_ks eq3 rfl) (by omega) (by omega) fun r4 S4 h5 h6 v4 => ⟨_, rfl, ?_⟩
    simp only [List.set_cons_succ, List.set_cons_zero]
    have E4 := E3.then hok v4
    have eq4 : S4[q]? = some (.lst (ks.map .int)) := by rw [E4.oth q hq (by omega), List.getElem?_append_left (by omega)]; exact eq1
    refine w_seq ?_
    have kc : W3 (zIf (bP (b2 dEq (eVar 7) (eC (.int 1)))) (zSet 8 (xT (e2 dSub (e2 dSub (eCall cLen (aCons (eVar 1) aNil)) (eC (.int 1))) (e2 dMod (eVar 8) (eCall cMinL (aCons (eCall cLen (aCons (eVar 1) aNil)) (aCons (eC (.int 4)) aNil))))))) zNil
        [some (.loc k), some (.loc q), some (.d (.int ms)), some (.d (.str (kS kd))), some (.d (.int (ar kd))), some (.loc S1.length), some v, some (.d (.int r3)), some (.d (.int r4))] S4)
        fun o S5 => S5 = S4 ∧ ∃ w : Nat, w < ks.length ∧ o = .nx [some (.loc k), some (.loc q), some (.d (.int ms)), some (.d (.str (kS kd))), some (.d (.int (ar kd))), some (.loc S1.length), some v, some (.d (.int r3)), some (.d (nI w))] := by
      refine w_if (w_bP (b := decide (r3 = 1)) rfl ?_)
      by_cases hr : r3 = 1
      · rw [decide_eq_true hr, if_pos rfl]
        have hmn : ∃ mn : Int, 0 < mn ∧ mn ≤ ks.length ∧ cMinL [.int ks.length, .int 4] = .ok (.int mn) := ⟨if (4 : Int) < ks.length then 4 else ks.length, by split <;> omega, by split <;> omega, rfl⟩
        obtain ⟨mn, m1, m2, m3⟩ := hmn
        have b1 : 0 ≤ r4 % mn := Int.emod_nonneg _ (by omega)
        have b2' : r4 % mn < mn := Int.emod_lt_of_pos _ m1
        refine w_set (by simp only [List.length_cons, List.length_nil, List.length_set]; omega) (w_T (d := nI ((ks.length : Int) - 1 - r4 % mn).toNat) ?_ rfl ⟨rfl, ((ks.length : Int) - 1 - r4 % mn).toNat, by omega, rfl⟩)
        refine e2_ok (a := .int ((ks.length : Int) - 1)) (b := .int (r4 % mn)) (e2_ok (a := .int ks.length) (b := .int 1) (len_ks eq4 rfl) rfl rfl) (e2_ok (a := .int r4) (b := .int mn) rfl (eCall_ok (ds := [.int ks.length, .int 4]) (aCons_ok (len_ks eq4 rfl) rfl) m3) (mod_ok m1)) ?_
        show R.ok (D.int ((ks.length : Int) - 1 - r4 % mn)) = R.ok (D.int ((((ks.length : Int) - 1 - r4 % mn).toNat : Nat) : Int))
        rw [Int.toNat_of_nonneg (by omega)]
      · rw [decide_eq_false hr, if_neg (by decide)]
        refine w_znil ⟨rfl, r4.toNat, by omega, ?_⟩
        unfold nI
        rw [Int.toNat_of_nonneg h5]
    refine kc.mono fun o S5 ⟨e5, w, hw, eo⟩ => ⟨_, eo, ?_⟩
    subst e5
    refine w_app (k := S1.length) rfl ⟨_, E4.gl⟩ (w_P (d := nI w) rfl ⟨_, _, rfl, E4.gl, by rw [List.length_map]; omega, _, rfl, ⟨_, _, _, rfl⟩, ws ++ [w], by simp [hwl], ?_, ?_⟩)
    · intro x hx
      rcases List.mem_append.mp hx with z | z
      · exact hws x z
      · rw [List.mem_singleton] at z; subst z; exact hw
    · rw [List.map_append]
      exact E4.put hok
  rw [List.length_map, rngD, List.length_map, List.length_range] at hwl
  subst hδ
  unfold aE
  refine w_ret <| w_tup <| w_cons <| w_P (d := .str (kS kd)) rfl <| w_cons <| w_T (d := .tup (ws.map nI)) (tup_ns rfl E2.gl) (tup_ints ws) <| w_cons <| w_2 <| draw (k := k) rfl E2.p rfl (by omega) (by omega) fun r6 S6 h7 h8 v6 => w_P (d := .int ms) rfl ⟨_, _, .bl (decide (r6 < ms)), rfl, rfl, rfl, w_nil ⟨by simp; omega, _, rfl, ?_⟩⟩
  have E6 := E2.then hok v6
  show Flat S6 ∧ geOk S.length (.d (gtD (kd, ws, decide (r6 < ms)))) = true ∧ ∃ d', res S6 (.d (gtD (kd, ws, decide (r6 < ms)))) = some d' ∧ _
  have hl6 : S6.length = S.length + 1 := by rw [E6.len]; simp [hl1]
  refine ⟨E6.p.1, by unfold geOk; rfl, _, by unfold res; rfl, h _ _ ⟨hkd, hwl, hws⟩ ⟨⟨E6.p.1.take _, ?_⟩, by rw [List.length_take]; omega, fun j hj => ?_⟩⟩
  · obtain ⟨_, a, c, e⟩ := E6.p
    exact ⟨a, c, by rw [List.getElem?_take_of_lt hk]; exact e⟩
  · by_cases hjl : j < S.length
    · rw [List.getElem?_take_of_lt hjl, E6.oth _ hj (by omega), List.getElem?_append_left (by omega)]
      exact v1.oth j hj
    · rw [List.getElem?_eq_none (by rw [List.length_take]; omega), List.getElem?_eq_none (by omega)]
end K12

end
section
set_option maxRecDepth 100000
set_option maxHeartbeats 4000000
namespace K12
open PySem PySem.Spec PyProof.Rows L2 L3
def bE (k q o : Nat) (g : D) (a4 a5 : Option V3) : DE := [some (.loc k), some (.d g), some (.loc q), some (.loc o), a4, a5]
theorem again_draw {S : Sto} {k q : Nat} {ks : List Int} {g : Gt} (p : Pot k S) (hq : q ≠ k) (e : S[q]? = some (.lst (ks.map .int))) (hg : GtOk ks.length g) (hn : ks.length < 10000) {Q : V3 → Sto → Prop} (h : ∀ g' S1, GtOk ks.length g' → Ev k S S1 → Q (.d (gtD g')) S1) :
    W3 (dP_law_again [.loc k, .d (gtD g), .loc q] S) Q := by
  have hz : sizeLine = 16777216 := sizeLine_eq
  have hk := p.lt
  have har := ar_le g.1
  have hql : q < S.length := (List.getElem?_eq_some_iff.mp e).1
  unfold dP_law_again
  refine w_PnF (w_K rfl ?_)
  simp only [xStart, N_law_again, List.map_cons, List.map_nil, List.length_cons, List.length_nil, List.replicate, List.cons_append, List.nil_append, Nat.reduceAdd, Nat.reduceSub]
  unfold F_law_again
  refine w_seq <| w_set (by simp only [List.length_cons, List.length_nil, List.length_set]; omega) <| w_new (ds := []) rfl ⟨_, rfl, ?_⟩
  simp only [List.set_cons_succ, List.set_cons_zero]
  have E1 := EvG.of_push p []
  have hok : S.length ≠ k := by omega
  refine w_seq <| w_for <| w_iP (ds := g.2.1.map nI) rfl ?_
  refine (loopX_inv (fun i δ S2 => (∃ a b, δ = bE k q S.length (gtD g) a b) ∧ ∃ ws : List Nat, ws.length = i ∧ (∀ w ∈ ws, w < ks.length) ∧ EvG k S.length (ws.map nI) (S ++ [SO.lst []]) S2)
    ⟨⟨_, _, rfl⟩, [], rfl, by simp, E1⟩ ?_).mono fun o S2 ⟨δ2, e3, ⟨a, b, hδ⟩, ws, hwl, hws, E2⟩ => ⟨δ2, e3, ?_⟩
  · rintro i v δ S2 hv ⟨⟨a, b, rfl⟩, ws, hwl, hws, E2⟩
    have hi : i < 3 := by
      have := (List.getElem?_eq_some_iff.mp hv).1
      rw [List.length_map, List.length_map, hg.2.1] at this
      omega
    obtain ⟨d0, hd0, rfl⟩ := List.mem_map.mp (List.mem_of_getElem? hv)
    obtain ⟨w, hw, rfl⟩ := List.mem_map.mp hd0
    have hwn := hg.2.2 w hw
    have eq2 : S2[q]? = some (.lst (ks.map .int)) := by rw [E2.oth q hq (by omega), List.getElem?_append_left hql]; exact e
    refine ⟨bE k q S.length (gtD g) (some (.d (nI w))) b, rfl, ?_⟩
    unfold B_law_again_0 bE
    refine w_seq <| w_set (by simp only [List.length_cons, List.length_nil, List.length_set]; omega) <| same_ok (q := q) eq2 hwn hn rfl (w_rng1 (w_T (d := .int ks.length) (len_ks eq2 rfl) rfl ⟨ks.length, rfl, by omega, rfl, rfl⟩)) fun l hl0 hl1 hl2 => ⟨_, rfl, ?_⟩
    simp only [List.set_cons_succ, List.set_cons_zero]
    refine w_app (k := S.length) rfl ⟨_, E2.gl⟩ (pick_ok (k := k) (l := l) (w_P rfl ⟨rfl, rfl⟩) rfl E2.p (eCall_ok (ds := [.lst (l.map nI)]) rfl (by rw [lenL, List.length_map])) hl0 hl1 fun x S3 hx v3 => ?_)
    have E3 := E2.then hok v3
    refine ⟨nI x, _, rfl, E3.gl, by rw [List.length_map]; omega, _, rfl, ⟨_, _, rfl⟩, ws ++ [x], by simp [hwl], ?_, ?_⟩
    · intro y hy
      rcases List.mem_append.mp hy with z | z
      · exact hws y z
      · rw [List.mem_singleton] at z; subst z; exact hl2 _ hx
    · rw [List.map_append]
      exact E3.put hok
  rw [List.length_map, List.length_map] at hwl
  subst hδ
  unfold bE
  refine w_ret <| w_tup <| w_cons <| w_P (d := .str (kS g.1)) rfl <| w_cons <| w_T (d := .tup (ws.map nI)) (tup_ns rfl E2.gl) (tup_ints ws) <| w_cons <| w_2 <| draw (k := k) rfl E2.p rfl (by omega) (by omega) fun r6 S6 h7 h8 v6 => w_P (d := .int 0) rfl ⟨_, _, .bl (decide (r6 = 0)), rfl, rfl, rfl, w_nil ⟨by simp; omega, _, rfl, ?_⟩⟩
  have E6 := E2.then hok v6
  exact fin_P (d := gtD (g.1, ws, decide (r6 = 0))) (fun S1 v => h _ _ ⟨hg.1, by show ws.length = _; rw [hwl]; exact hg.2.1, hws⟩ v) E6 rfl hk
/-- the store while outs are drawn -/
structure OS (k o : Nat) (L : List D) (S S1 : Sto) : Prop where
  p : Pot k S1
  len : S.length + 1 ≤ S1.length
  oth : ∀ j, j < S.length → j ≠ k → S1[j]? = S[j]?
  gl : S1[o]? = some (.lst L)
theorem OS.then {k o : Nat} {L : List D} {S S1 S2 : Sto} (a : OS k o L S S1) (h : o ≠ k) (b : Ev k S1 S2) : OS k o L S S2 := ⟨b.p, by rw [b.len]; exact a.len, fun j h1 h2 => (b.oth j h2).trans (a.oth j h1 h2), (b.oth o h).trans a.gl⟩
theorem OS.set {k o m : Nat} {L M : List D} {S S1 : Sto} (a : OS k o L S S1) (h1 : m ≠ k) (h2 : m ≠ o) (h3 : S.length ≤ m) : OS k o L S (S1.set m (.lst M)) := by
  obtain ⟨f, x, c, e⟩ := a.p
  exact ⟨⟨f.set _ (flatL _), x, c, by rw [List.getElem?_set_ne h1]; exact e⟩, by rw [List.length_set]; exact a.len, fun j hj hk => by rw [List.getElem?_set_ne (by omega)]; exact a.oth j hj hk, by rw [List.getElem?_set_ne h2]; exact a.gl⟩
theorem OS.push {k o : Nat} {L M : List D} {S S1 : Sto} (a : OS k o L S S1) (ho : o < S1.length) : OS k o L S (S1 ++ [.lst M]) :=
  ⟨a.p.push M, by rw [List.length_append]; have := a.len; omega, fun j hj hk => by rw [List.getElem?_append_left (by have := a.len; omega)]; exact a.oth j hj hk, by rw [List.getElem?_append_left ho]; exact a.gl⟩
theorem OS.put {k o : Nat} {L L' : List D} {S S1 : Sto} (a : OS k o L S S1) (h1 : o ≠ k) (h3 : S.length ≤ o) : OS k o L' S (S1.set o (.lst L')) := by
  obtain ⟨f, x, c, e⟩ := a.p
  exact ⟨⟨f.set _ (flatL _), x, c, by rw [List.getElem?_set_ne h1]; exact e⟩, by rw [List.length_set]; exact a.len, fun j hj hk => by rw [List.getElem?_set_ne (by omega)]; exact a.oth j hj hk, set_get a.gl⟩
def oE (k q o : Nat) (ss : List Str) (a5 a6 a7 a8 a9 a10 : Option V3) : DE := [some (.loc k), some (.loc q), some (.d (.lst (ss.map .str))), some (.d (.int 6)), some (.loc o), a5, a6, a7, a8, a9, a10]
def widL : List D := [.int 1, .int 1, .int 2, .int 2, .int 3, .int 3]
theorem wid_at (r : Nat) (h : r < 6) : ∃ w : Nat, 1 ≤ w ∧ w ≤ 3 ∧ ixD (.lst widL) (.int r) = .ok (nI w) := by
  match r, h with
  | 0, _ => exact ⟨1, by omega, by omega, rfl⟩
  | 1, _ => exact ⟨1, by omega, by omega, rfl⟩
  | 2, _ => exact ⟨2, by omega, by omega, rfl⟩
  | 3, _ => exact ⟨2, by omega, by omega, rfl⟩
  | 4, _ => exact ⟨3, by omega, by omega, rfl⟩
  | 5, _ => exact ⟨3, by omega, by omega, rfl⟩
/-- one of an out's wires drawn anew, or not -/
theorem anew {S S1 : Sto} {k q o m : Nat} {ks : List Int} {L : List D} {ss : List Str} {i wd : Nat} {way lim : Int} {at' : Nat} {a6 a7 : Option V3} {ws : List Nat} (hq : q ≠ k) (hqS : q < S.length) (ho : o ≠ k) (hmk : m ≠ k) (hmo : m ≠ o) (hm : S.length ≤ m) (h0 : 0 < ks.length) (hn : ks.length < 10000)
    (eS : S[q]? = some (.lst (ks.map .int))) (hwl : ws.length = wd) (hat : at' < 3) (hws : ∀ w ∈ ws, w < ks.length) (E : OS k o L S S1) (em : S1[m]? = some (.lst (ws.map nI))) :
    W3 (zIf (bP (bAnd (b2 dEq (eVar 8) (eC (.int 3))) (b2 dGt (eVar 10) (eC (.int lim))))) (zPut (xVar 9) (xP (eC (nI at'))) (xCall dP_law_take (xCons (xVar 0) (xCons (xT (eCall cLen (aCons (eVar 1) aNil))) xNil)))) zNil
      (oE k q o ss (some (.d (nI i))) a6 a7 (some (.d (nI wd))) (some (.loc m)) (some (.d (.int way)))) S1)
      fun ou S2 => ou = .nx (oE k q o ss (some (.d (nI i))) a6 a7 (some (.d (nI wd))) (some (.loc m)) (some (.d (.int way)))) ∧ OS k o L S S2 ∧ ∃ ws' : List Nat, ws'.length = wd ∧ (∀ w ∈ ws', w < ks.length) ∧ S2[m]? = some (.lst (ws'.map nI)) := by
  have eq1 : S1[q]? = some (.lst (ks.map .int)) := by rw [E.oth q hqS hq]; exact eS
  obtain ⟨c, hc, hc3⟩ : ∃ c : Bool, bAnd (b2 dEq (eVar 8) (eC (.int 3))) (b2 dGt (eVar 10) (eC (.int lim))) (down (oE k q o ss (some (.d (nI i))) a6 a7 (some (.d (nI wd))) (some (.loc m)) (some (.d (.int way))))) = .ok c ∧ (c = true → wd = 3) := by
    have e1 : b2 dEq (eVar 8) (eC (.int 3)) (down (oE k q o ss (some (.d (nI i))) a6 a7 (some (.d (nI wd))) (some (.loc m)) (some (.d (.int way))))) = .ok (decide ((wd : Int) = 3)) := rfl
    have e3 : b2 dGt (eVar 10) (eC (.int lim)) (down (oE k q o ss (some (.d (nI i))) a6 a7 (some (.d (nI wd))) (some (.loc m)) (some (.d (.int way))))) = .ok (decide (lim < way)) := rfl
    unfold bAnd
    rw [e1, R.ok_bind, e3]
    by_cases h3 : (wd : Int) = 3
    · exact ⟨_, by rw [decide_eq_true h3, if_pos rfl], fun _ => by omega⟩
    · exact ⟨false, by rw [decide_eq_false h3, if_neg (by decide)], fun z => by cases z⟩
  refine w_if (w_bP hc ?_)
  cases c with
  | true =>
    rw [if_pos rfl]
    have hwd := hc3 rfl
    refine w_put (drawT (k := k) rfl E.p (len_ks eq1 rfl) (by omega) (by omega) fun r S2 h1 h2 v2 => w_var (v := .loc m) rfl (w_P (d := nI at') rfl ⟨_, m, (at' : Int), ws.map nI, at', rfl, rfl, rfl, by rw [v2.oth m hmk]; exact em, ?_, rfl, (E.then ho v2).set hmk hmo hm, ws.set at' r.toNat, by rw [List.length_set]; exact hwl, ?_, ?_⟩))
    · unfold ixN
      rw [if_pos (by omega), if_pos (by rw [List.length_map]; omega)]
      simp
    · intro w hw
      rcases List.mem_or_eq_of_mem_set hw with z | z
      · exact hws w z
      · subst z; omega
    · rw [set_get (x := .lst (ws.map nI)) (by rw [v2.oth m hmk]; exact em), List.map_set]
      unfold nI
      rw [Int.toNat_of_nonneg h1]
  | false =>
    rw [if_neg (by decide)]
    exact w_znil ⟨rfl, E, ws, hwl, hws, em⟩
theorem out_draw {S S1 : Sto} {k q o : Nat} {ks : List Int} {ss : List Str} {i : Nat} {a6 a7 a8 a9 a10 : Option V3} {os : List (Str × List Nat)} (hq : q ≠ k) (hk : k < S.length) (ho : o = S.length) (h0 : 0 < ks.length) (hn : ks.length < 10000) (hss : ss.length = 8) (hi : i < 6) (hl : os.length < 100) (eS : S[q]? = some (.lst (ks.map .int))) (E : OS k o (os.map ouD) S S1) :
    W3 (B_law_outs_0 (oE k q o ss (some (.d (nI i))) a6 a7 a8 a9 a10) S1) fun ou S2 => ∃ δ2, ou = .nx δ2 ∧ (∃ b5 b6 b7 b8 b9 b10, δ2 = oE k q o ss b5 b6 b7 b8 b9 b10) ∧ ∃ x : Str × List Nat, (x.2.length < 1000 ∧ ∀ w ∈ x.2, w < ks.length) ∧ OS k o ((os ++ [x]).map ouD) S S2 := by
  have hz : sizeLine = 16777216 := sizeLine_eq
  have hqS : q < S.length := (List.getElem?_eq_some_iff.mp eS).1
  have hok : o ≠ k := by omega
  have keq : ∀ {S2 : Sto} {L : List D}, OS k o L S S2 → S2[q]? = some (.lst (ks.map .int)) := fun E2 => by rw [E2.oth q hqS hq]; exact eS
  unfold B_law_outs_0 oE
  refine w_seq <| w_set (by simp only [List.length_cons, List.length_nil, List.length_set]; omega) <| w_2 <| w_T (d := .int ((ks.length : Int) - 1)) (e2_ok (a := .int ks.length) (b := .int 1) (len_ks (keq E) rfl) rfl rfl) rfl <| drawT (k := k) rfl E.p (len_ks (keq E) rfl) (by omega) (by omega) fun r S2 h1 h2 v2 => ⟨_, _, nI ((ks.length : Int) - 1 - r).toNat, rfl, rfl, ?_, _, rfl, ?_⟩
  · show R.ok (D.int ((ks.length : Int) - 1 - r)) = R.ok (D.int ((((ks.length : Int) - 1 - r).toNat : Nat) : Int))
    rw [Int.toNat_of_nonneg (by omega)]
  simp only [List.set_cons_succ, List.set_cons_zero]
  have hw : ((ks.length : Int) - 1 - r).toNat < ks.length := by omega
  generalize ((ks.length : Int) - 1 - r).toNat = w at hw
  have E2 := E.then hok v2
  refine w_seq <| w_set (by simp only [List.length_cons, List.length_nil, List.length_set]; omega) <| same_ok (q := q) (keq E2) hw hn rfl (w_rng1 (w_T (d := .int ks.length) (len_ks (keq E2) rfl) rfl ⟨ks.length, rfl, by omega, rfl, rfl⟩)) fun l hl0 hl1 hl2 => ⟨_, rfl, ?_⟩
  simp only [List.set_cons_succ, List.set_cons_zero]
  refine w_seq <| w_set (by simp only [List.length_cons, List.length_nil, List.length_set]; omega) <| w_ix <| w_P (d := .lst widL) rfl <| draw (k := k) rfl E2.p rfl (by omega) (by omega) fun r3 S3 h3 h4 v3 => ?_
  obtain ⟨wd, hw1, hw3, ewd⟩ := wid_at r3.toNat (by omega)
  rw [Int.toNat_of_nonneg h3] at ewd
  refine ⟨_, _, _, rfl, rfl, ewd, _, rfl, ?_⟩
  simp only [List.set_cons_succ, List.set_cons_zero]
  have E3 := E2.then hok v3
  refine w_seq <| w_set (by simp only [List.length_cons, List.length_nil, List.length_set]; omega) <| w_cat <| w_P (d := .lst [nI w]) rfl ?_
  refine w_compD (fun j ds S4 => OS k o (os.map ouD) S S4 ∧ ∃ ws : List Nat, ds = ws.map nI ∧ (∀ x ∈ ws, x < ks.length) ∧ ws.length = j) (w_iP (rng1_ok (n := wd - 1) ?_ (by omega)) ⟨by simp [rngD]; omega, ⟨E3, [], rfl, by simp, rfl⟩, ?_, ?_⟩)
  · refine e2_ok (a := nI wd) (b := .int 1) rfl rfl ?_
    show R.ok (D.int ((wd : Int) - 1)) = R.ok (D.int (((wd - 1 : Nat)) : Int))
    rw [Int.ofNat_sub hw1]; rfl
  · rintro j v ds S4 hv ⟨E4, ws, rfl, hws, hwl⟩
    refine ⟨[some v, some (.loc k), some (.d (.lst (l.map nI)))], rfl, w_yes ?_⟩
    rw [if_pos rfl]
    refine pick_ok (k := k) (l := l) (w_P rfl ⟨rfl, rfl⟩) rfl E4.p (eCall_ok (ds := [.lst (l.map nI)]) rfl (by rw [lenL, List.length_map])) hl0 hl1 fun x S5 hx v5 => ⟨nI x, rfl, E4.then hok v5, ws ++ [x], by simp, ?_, by simp [hwl]⟩
    intro y hy
    rcases List.mem_append.mp hy with z | z
    · exact hws y z
    · rw [List.mem_singleton] at z; subst z; exact hl2 _ hx
  · rintro ds S4 ⟨E4, ws, rfl, hws, hwl⟩
    have hrl : ((rngD 0 (wd - 1)).map V3.d).length = wd - 1 := by simp [rngD]
    rw [hrl] at hwl
    refine ⟨[nI w], ws.map nI, rfl, rfl, by rw [List.length_map]; simp; omega, _, rfl, ?_⟩
    simp only [List.set_cons_succ, List.set_cons_zero]
    have hle := E4.len
    have ho4 : o < S4.length := (List.getElem?_eq_some_iff.mp E4.gl).1
    have E5 := E4.push (M := [nI w] ++ ws.map nI) ho4
    have em5 : (S4 ++ [SO.lst ([nI w] ++ ws.map nI)])[S4.length]? = some (.lst ((w :: ws).map nI)) := get_last _ _
    have hmk : S4.length ≠ k := by omega
    have hmo : S4.length ≠ o := by omega
    have hmS : S.length ≤ S4.length := by omega
    have hws1 : ∀ x ∈ w :: ws, x < ks.length := fun x hx => by
      rcases List.mem_cons.mp hx with z | z
      · subst z; exact hw
      · exact hws x z
    generalize S4 ++ [SO.lst ([nI w] ++ ws.map nI)] = S5 at E5 em5
    generalize S4.length = m at em5 hmk hmo hmS
    refine w_seq <| w_set (by simp only [List.length_cons, List.length_nil, List.length_set]; omega) <| draw (k := k) rfl E5.p rfl (by omega) (by omega) fun way S6 h5 h6 v6 => ⟨_, rfl, ?_⟩
    simp only [List.set_cons_succ, List.set_cons_zero]
    have E6 := E5.then hok v6
    have em6 : S6[m]? = some (.lst ((w :: ws).map nI)) := by rw [v6.oth m hmk]; exact em5
    refine w_seq ((anew (ss := ss) (i := i) (wd := wd) (way := way) (lim := 0) (at' := 2) hq hqS hok hmk hmo hmS h0 hn eS (by simp; omega) (by omega) hws1 E6 em6).mono fun ou S7 ⟨e7, E7, ws7, hl7, hw7, em7⟩ => ⟨_, e7, ?_⟩)
    refine w_seq ((anew (ss := ss) (i := i) (wd := wd) (way := way) (lim := 1) (at' := 1) hq hqS hok hmk hmo hmS h0 hn eS hl7 (by omega) hw7 E7 em7).mono fun ou S8 ⟨e8, E8, ws8, hl8, hw8, em8⟩ => ⟨_, e8, ?_⟩)
    unfold oE
    refine w_app (k := o) rfl ⟨_, E8.gl⟩ (w_T (d := ouD (ss[i]'(by omega), ws8)) ?_ ?_ ⟨_, _, rfl, E8.gl, by rw [List.length_map]; omega, _, rfl, ⟨_, _, _, _, _, _, rfl⟩, (ss[i]'(by omega), ws8), ⟨by show ws8.length < 1000; omega, hw8⟩, ?_⟩)
    · refine eTup_ok (aCons_ok (e2_ok (a := .lst (ss.map .str)) (b := nI i) rfl rfl (ixL_of (seq_ix (by rw [List.getElem?_map, List.getElem?_eq_getElem (by omega)]; rfl)))) (aCons_ok (tup_ns rfl em8) rfl)) (by simp; omega)
    · unfold ouD tupD tupDs
      rw [show tupD (.str _) = true from by unfold tupD; rfl]
      unfold tupDs
      rw [tup_ints]
      unfold tupDs
      rfl
    · rw [List.map_append]
      exact E8.put hok (by omega)
theorem outs_draw {S : Sto} {k q : Nat} {ks : List Int} {ss : List Str} (p : Pot k S) (hq : q ≠ k) (e : S[q]? = some (.lst (ks.map .int))) (h0 : 0 < ks.length) (hn : ks.length < 10000) (hss : ss.length = 8) {Q : V3 → Sto → Prop}
    (h : ∀ (os : List (Str × List Nat)) S1, os.length < 100 → (∀ x ∈ os, x.2.length < 1000 ∧ ∀ w ∈ x.2, w < ks.length) → Ev k S S1 → Q (.d (.lst (os.map ouD))) S1) : W3 (dP_law_outs [.loc k, .loc q, .d (.lst (ss.map .str)), .d (.int 6)] S) Q := by
  have hz : sizeLine = 16777216 := sizeLine_eq
  have hk := p.lt
  unfold dP_law_outs
  refine w_PnF (w_K rfl ?_)
  simp only [xStart, N_law_outs, List.map_cons, List.map_nil, List.length_cons, List.length_nil, List.replicate, List.cons_append, List.nil_append, Nat.reduceAdd, Nat.reduceSub]
  unfold F_law_outs
  refine w_seq <| w_set (by simp only [List.length_cons, List.length_nil, List.length_set]; omega) <| w_new (ds := []) rfl ⟨_, rfl, ?_⟩
  simp only [List.set_cons_succ, List.set_cons_zero]
  have E1 : OS k S.length (([] : List (Str × List Nat)).map ouD) S (S ++ [.lst []]) := ⟨p.push [], by simp, fun j hj _ => List.getElem?_append_left hj, get_last _ _⟩
  refine w_seq <| w_for <| w_rng1 <| w_2 <| w_P (d := .int 1) rfl <| draw (k := k) rfl E1.p rfl (by omega) (by omega) fun r S2 h1 h2 v2 => ⟨_, _, .int ((1 + r).toNat : Nat), rfl, rfl, by rw [Int.toNat_of_nonneg (by omega)]; rfl, (1 + r).toNat, rfl, by omega, ?_⟩
  have E2 := E1.then (by omega) v2
  refine (loopX_inv (fun i δ S3 => (∃ b5 b6 b7 b8 b9 b10, δ = oE k q S.length ss b5 b6 b7 b8 b9 b10) ∧ ∃ os : List (Str × List Nat), os.length = i ∧ (∀ x ∈ os, x.2.length < 1000 ∧ ∀ w ∈ x.2, w < ks.length) ∧ OS k S.length (os.map ouD) S S3)
    ⟨⟨_, _, _, _, _, _, rfl⟩, [], rfl, by simp, E2⟩ ?_).mono fun o S3 ⟨δ3, e3, ⟨b5, b6, b7, b8, b9, b10, hδ⟩, os, hol, hos, E3⟩ => ⟨δ3, e3, ?_⟩
  · rintro i v δ S3 hv ⟨⟨b5, b6, b7, b8, b9, b10, rfl⟩, os, hol, hos, E3⟩
    rw [List.getElem?_map] at hv
    cases qq : (rngD 0 (1 + r).toNat)[i]? with
    | none => rw [qq] at hv; cases hv
    | some d0 =>
      rw [qq] at hv
      obtain ⟨hi, rfl⟩ := rng_at qq
      cases hv
      refine ⟨oE k q S.length ss (some (.d (nI i))) b6 b7 b8 b9 b10, rfl, ?_⟩
      refine (out_draw hq hk rfl h0 hn hss (by omega) (by omega) e E3).mono fun ou S4 ⟨δ4, e4, h4, x, hx, E4⟩ => ⟨δ4, e4, h4, os ++ [x], by simp [hol], ?_, E4⟩
      intro y hy
      rcases List.mem_append.mp hy with z | z
      · exact hos y z
      · rw [List.mem_singleton] at z; subst z; exact hx
  have hrl : ((rngD 0 (1 + r).toNat).map V3.d).length = (1 + r).toNat := by simp [rngD]
  rw [hrl] at hol
  subst hδ
  unfold oE
  refine w_ret (w_var rfl ⟨_, rfl, E3.p.1, by unfold geOk; exact decide_eq_true (Nat.le_refl _), _, res_loc E3.gl, ?_⟩)
  have hle := E3.len
  refine h os _ (by omega) hos ⟨⟨E3.p.1.take _, ?_⟩, by rw [List.length_take]; omega, fun j hj => ?_⟩
  · obtain ⟨_, a, c, e⟩ := E3.p
    exact ⟨a, c, by rw [List.getElem?_take_of_lt hk]; exact e⟩
  · by_cases hjl : j < S.length
    · rw [List.getElem?_take_of_lt hjl, E3.oth _ hjl hj]
    · rw [List.getElem?_eq_none (by rw [List.length_take]; omega), List.getElem?_eq_none (by omega)]
end K12

end
section
set_option maxRecDepth 100000
set_option maxHeartbeats 4000000
namespace K12
open PySem PySem.Spec PyProof.Rows L2 L3
/-- the store while ins are drawn: ins at a, kinds at b -/
structure IS (k a b : Nat) (l : List (Str × Nat)) (ks : List Int) (S S1 : Sto) : Prop where
  p : Pot k S1
  len : S.length + 2 ≤ S1.length
  oth : ∀ j, j < S.length → j ≠ k → S1[j]? = S[j]?
  ea : S1[a]? = some (.lst (l.map inD))
  eb : S1[b]? = some (.lst (ks.map .int))
  hb : S.length < b
def iE (k a b : Nat) (cells : D) (ss : List Str) (a7 a8 : Option V3) : DE := [some (.loc k), some (.d cells), some (.d (.int 5)), some (.d (.int 1)), some (.d (.lst (ss.map .str))), some (.loc a), some (.loc b), a7, a8, none, none, none, none, none]
theorem rep_ints (c : Int) (n : Nat) : (List.replicate n [D.int c]).flatten = (List.replicate n c).map D.int := by
  induction n with
  | zero => rfl
  | succ n ih => rw [List.replicate_succ, List.flatten_cons, ih, List.replicate_succ]; rfl
theorem rep_ok {f : DEnv → R (List D)} {g : FD} {δ : DEnv} {ds : List D} {n : Nat} (h1 : f δ = .ok ds) (h2 : g δ = .ok (.int n)) (hn : n < 1000000) (hl : ds.length * n ≤ sizeLine) : nRep f g δ = .ok (List.replicate n ds).flatten := by
  unfold nRep
  rw [h1, R.ok_bind, h2, R.ok_bind]
  show R.when (decide (0 ≤ (n : Int) ∧ (n : Int) < 1000000 ∧ ds.length * (n : Int).toNat ≤ sizeLine)) _ = _
  rw [when_of _ ⟨by omega, by omega, by rw [Int.toNat_natCast]; exact hl⟩, Int.toNat_natCast]
theorem in_draw {S S1 : Sto} {k a b i : Nat} {cells : D} {ss : List Str} {a8 : Option V3} {l : List (Str × Nat)} {ks : List Int} (hk : k < S.length) (ha : a = S.length) (hss : ss.length = 8) (hi : i < 6) (hl : l.length < 100) (hks : ks.length < 1000) (E : IS k a b l ks S S1) :
    W3 (B_law_net_0 (iE k a b cells ss (some (.d (nI i))) a8) S1) fun o S2 => ∃ δ2, o = .nx δ2 ∧ ∃ b' a8', δ2 = iE k a b' cells ss (some (.d (nI i))) a8' ∧ ∃ (s : Str) (w : Nat), 1 ≤ w ∧ w ≤ 3 ∧ IS k a b' (l ++ [(s, w)]) (ks ++ List.replicate w (i : Int)) S S2 := by
  have hz : sizeLine = 16777216 := sizeLine_eq
  have hbS := E.hb
  have hbl : b < S1.length := (List.getElem?_eq_some_iff.mp E.eb).1
  unfold B_law_net_0 iE
  refine w_seq <| w_set (by simp only [List.length_cons, List.length_nil, List.length_set]; omega) <| draw1 (k := k) rfl E.p (by omega) (by omega) fun w S2 h1 h2 v2 => ⟨_, rfl, ?_⟩
  simp only [List.set_cons_succ, List.set_cons_zero]
  have ea2 : S2[a]? = some (.lst (l.map inD)) := by rw [v2.oth a (by omega)]; exact E.ea
  have eb2 : S2[b]? = some (.lst (ks.map .int)) := by rw [v2.oth b (by omega)]; exact E.eb
  refine w_seq <| w_app (k := a) rfl ⟨_, ea2⟩ <| w_P (d := inD (ss[7 - i]'(by omega), w)) ?_ ⟨_, _, rfl, ea2, by rw [List.length_map]; omega, _, rfl, ?_⟩
  · refine eTup_ok (aCons_ok (e2_ok (a := .lst (ss.map .str)) (b := nI (7 - i)) rfl ?_ (ixL_of (seq_ix (by rw [List.getElem?_map, List.getElem?_eq_getElem (by omega)]; rfl)))) (aCons_ok rfl rfl)) (by simp; omega)
    refine e2_ok (a := .int 7) (b := nI i) rfl rfl ?_
    show R.ok (D.int (7 - (i : Int))) = R.ok (D.int ((7 - i : Nat) : Int))
    rw [Int.ofNat_sub (by omega)]; rfl
  have eb3 : (S2.set a (.lst (l.map inD ++ [inD (ss[7 - i]'(by omega), w)])))[b]? = some (.lst (ks.map .int)) := by rw [List.getElem?_set_ne (by omega)]; exact eb2
  have ea3 : (S2.set a (.lst (l.map inD ++ [inD (ss[7 - i]'(by omega), w)])))[a]? = some (.lst (l.map inD ++ [inD (ss[7 - i]'(by omega), w)])) := set_get ea2
  have p3 : Pot k (S2.set a (.lst (l.map inD ++ [inD (ss[7 - i]'(by omega), w)]))) := by
    obtain ⟨f, x, c, e⟩ := v2.p
    exact ⟨f.set _ (flatL _), x, c, by rw [List.getElem?_set_ne (by omega)]; exact e⟩
  have hl3 : (S2.set a (.lst (l.map inD ++ [inD (ss[7 - i]'(by omega), w)]))).length = S1.length := by rw [List.length_set, v2.len]
  have ho3 : ∀ j, j < S.length → j ≠ k → (S2.set a (.lst (l.map inD ++ [inD (ss[7 - i]'(by omega), w)])))[j]? = S[j]? := fun j hj hk => by rw [List.getElem?_set_ne (by omega), v2.oth j hk]; exact E.oth j hj hk
  generalize S2.set a (.lst (l.map inD ++ [inD (ss[7 - i]'(by omega), w)])) = S3 at eb3 ea3 p3 hl3 ho3
  refine w_set (by simp only [List.length_cons, List.length_nil, List.length_set]; omega) <| w_cat <| w_var (v := .loc b) rfl <| w_P (d := .lst ((List.replicate w (i : Int)).map .int)) ?_ ⟨ks.map .int, (List.replicate w (i : Int)).map .int, by unfold lsOf lstAt; simp only [eb3], rfl, by rw [List.length_map, List.length_map, List.length_replicate]; omega, _, rfl, S3.length, _, rfl, ss[7 - i]'(by omega), w, h1, by omega, ?_⟩
  · refine eNew_ok ?_
    rw [rep_ok (n := w) (ds := [nI i]) (nLst_ok rfl (by simp; omega)) rfl (by omega) (by simp; omega)]
    unfold nI
    rw [rep_ints]
  · have hE := E.len
    refine ⟨p3.push _, by rw [List.length_append]; omega, fun j hj hk => by rw [List.getElem?_append_left (by omega)]; exact ho3 j hj hk, ?_, ?_, by omega⟩
    · rw [List.getElem?_append_left (by omega), List.map_append]; exact ea3
    · rw [List.map_append]; exact get_last _ _
/-- the store while gates are drawn: ins at a, kinds at b, gates at c -/
structure NS (k a b c : Nat) (l : List (Str × Nat)) (ks : List Int) (gs : List Gt) (S S1 : Sto) : Prop where
  p : Pot k S1
  len : S.length + 3 ≤ S1.length
  oth : ∀ j, j < S.length → j ≠ k → S1[j]? = S[j]?
  ea : S1[a]? = some (.lst (l.map inD))
  eb : S1[b]? = some (.lst (ks.map .int))
  ec : S1[c]? = some (.lst (gs.map gtD))
def nE (k a b c n : Nat) (cells : D) (ss : List Str) (a7 a8 a11 a12 a13 : Option V3) : DE := [some (.loc k), some (.d cells), some (.d (.int 5)), some (.d (.int 1)), some (.d (.lst (ss.map .str))), some (.loc a), some (.loc b), a7, a8, some (.d (nI n)), some (.loc c), a11, a12, a13]
theorem gD_tup (g : Gt) : tupD (gtD g) = true := by
  unfold gtD tupD tupDs
  rw [show tupD (.str _) = true from by unfold tupD; rfl]
  unfold tupDs
  rw [tup_ints]
  unfold tupDs
  rw [show tupD (.bl _) = true from by unfold tupD; rfl]
  unfold tupDs
  rfl
theorem ne_nil (gs : List Gt) (hg : ∀ g ∈ gs, GtOk 100000 g) : eqD (.lst (gs.map gtD)) (.lst []) = .ok gs.isEmpty := by
  have f : Fit 4 (.lst (gs.map gtD)) := Fit.lst fun d hd => by
    obtain ⟨g, h, rfl⟩ := List.mem_map.mp hd
    have hk := (hg g h).1
    refine Fit.tup fun x hx => ?_
    simp only [List.mem_cons, List.not_mem_nil, or_false] at hx
    rcases hx with rfl | rfl | rfl
    · refine (Fit.str ?_).mono (by omega)
      match g.1, hk with
      | 0, _ => decide +kernel
      | 1, _ => decide +kernel
      | 2, _ => decide +kernel
      | 3, _ => decide +kernel
      | 4, _ => decide +kernel
    · refine (Fit.tup (n := 0) fun y hy => ?_).mono (by omega)
      obtain ⟨z, _, rfl⟩ := List.mem_map.mp hy
      exact Fit.int _
    · exact (Fit.bl _).mono (by omega)
  rw [eqD_lt, f.pl, f.sh (by omega), (Fit.lst (n := 0) (ds := []) (by simp)).pl, (Fit.lst (n := 0) (ds := []) (by simp)).sh (by omega)]
  cases gs with
  | nil => rfl
  | cons g gs => rfl
theorem NS.push {k a b c : Nat} {l : List (Str × Nat)} {ks : List Int} {gs : List Gt} {S S1 : Sto} (E : NS k a b c l ks gs S S1) (M : List D) : NS k a b c l ks gs S (S1 ++ [.lst M]) :=
  ⟨E.p.push M, by rw [List.length_append]; have := E.len; omega, fun j hj hk => by rw [List.getElem?_append_left (by have := E.len; omega)]; exact E.oth j hj hk,
    by rw [List.getElem?_append_left (List.getElem?_eq_some_iff.mp E.ea).1]; exact E.ea, by rw [List.getElem?_append_left (List.getElem?_eq_some_iff.mp E.eb).1]; exact E.eb, by rw [List.getElem?_append_left (List.getElem?_eq_some_iff.mp E.ec).1]; exact E.ec⟩
/-- a gate's reel at m is drawn from -/
theorem NS.own {k a b c m : Nat} {l : List (Str × Nat)} {ks : List Int} {gs : List Gt} {S S1 S2 : Sto} (E : NS k a b c l ks gs S S1) (hm : S.length ≤ m) (hk : k < S.length) (ha : a ≠ m) (hb : b ≠ m) (hc : c ≠ m) (v : Ev m S1 S2) : NS k a b c l ks gs S S2 := by
  obtain ⟨f, x, y, e⟩ := E.p
  exact ⟨⟨v.p.1, x, y, by rw [v.oth k (by omega)]; exact e⟩, by rw [v.len]; exact E.len, fun j hj hjk => by rw [v.oth j (by omega)]; exact E.oth j hj hjk, by rw [v.oth a ha]; exact E.ea, by rw [v.oth b hb]; exact E.eb, by rw [v.oth c hc]; exact E.ec⟩
theorem NS.add {k a b c : Nat} {l : List (Str × Nat)} {ks : List Int} {gs : List Gt} {g : Gt} {x : Int} {S S1 : Sto} (E : NS k a b c l ks gs S S1) (hk : k < S.length) (hbS : S.length ≤ b) (hcS : S.length ≤ c) (hab : a ≠ b) (hac : a ≠ c) (hbc : b ≠ c) :
    NS k a b c l (ks ++ [x]) (gs ++ [g]) S ((S1.set c (.lst (gs.map gtD ++ [gtD g]))).set b (.lst (ks.map .int ++ [.int x]))) := by
  obtain ⟨f, u, y, e⟩ := E.p
  refine ⟨⟨(f.set _ (flatL _)).set _ (flatL _), u, y, by rw [List.getElem?_set_ne (by omega), List.getElem?_set_ne (by omega)]; exact e⟩, by rw [List.length_set, List.length_set]; exact E.len, fun j hj hjk => by rw [List.getElem?_set_ne (by omega), List.getElem?_set_ne (by omega)]; exact E.oth j hj hjk,
    by rw [List.getElem?_set_ne (Ne.symm hab), List.getElem?_set_ne (Ne.symm hac)]; exact E.ea, ?_, ?_⟩
  · rw [List.map_append]; exact set_get (x := .lst (ks.map .int)) (by rw [List.getElem?_set_ne (Ne.symm hbc)]; exact E.eb)
  · rw [List.getElem?_set_ne hbc, List.map_append]; exact set_get E.ec
theorem gts_at {S : Sto} {δ : DE} {i j c p : Nat} {gs : List Gt} {g : Gt} (hi : δ[i]? = some (some (.loc c))) (hj : δ[j]? = some (some (.d (nI p)))) (e : S[c]? = some (.lst (gs.map gtD))) (hg : gs[p]? = some g) : e2 ixD (eVar i) (eVar j) (downT S δ) = .ok (gtD g) := by
  refine e2_ok (a := .lst (gs.map gtD)) (b := nI p) ?_ ?_ (gt_at hg)
  · unfold eVar downT
    rw [List.getElem?_map, hi]
    show (match some (match res S (.loc c) with | some d => Sl.val d | none => .un) with | some (.val d) => R.ok d | _ => .no) = _
    rw [res_loc e]
  · unfold eVar downT
    rw [List.getElem?_map, hj]
    rfl
theorem gate_net {S S1 : Sto} {k a b c n : Nat} {cells : D} {ss : List Str} {cell : Int} {a7 a8 a12 a13 : Option V3} {l : List (Str × Nat)} {ks : List Int} {gs : List Gt} (hk : k < S.length) (haS : S.length ≤ a) (hbS : S.length ≤ b) (hcS : S.length ≤ c) (hab : a ≠ b) (hac : a ≠ c) (hbc : b ≠ c)
    (hn : 0 < n) (hkn : ks.length = n + gs.length) (hks : ks.length < 10000) (hgs : ∀ (i : Nat) (g : Gt), gs[i]? = some g → GtOk (n + i) g) (E : NS k a b c l ks gs S S1) :
    W3 (B_law_net_1 (nE k a b c n cells ss a7 a8 (some (.d (.int cell))) a12 a13) S1) fun o S2 => ∃ δ2, o = .nx δ2 ∧ (∃ b11 b12 b13, δ2 = nE k a b c n cells ss a7 a8 b11 b12 b13) ∧ ∃ (g : Gt) (x : Int), GtOk ks.length g ∧ NS k a b c l (ks ++ [x]) (gs ++ [g]) S S2 := by
  have hz : sizeLine = 16777216 := sizeLine_eq
  have hgl : gs.length < 10000 := by omega
  have la : a < S1.length := (List.getElem?_eq_some_iff.mp E.ea).1
  have lb : b < S1.length := (List.getElem?_eq_some_iff.mp E.eb).1
  have lc : c < S1.length := (List.getElem?_eq_some_iff.mp E.ec).1
  have hE := E.len
  unfold B_law_net_1 nE
  refine w_seq <| w_set (by simp only [List.length_cons, List.length_nil, List.length_set]; omega) <| w_call <| w_cons <| w_P (d := .int cell) rfl <| w_nil <| reel_ok cell E.p.1 fun S2 p2 l2 o2 => ⟨_, rfl, ?_⟩
  simp only [List.set_cons_succ, List.set_cons_zero]
  have E2 : NS k a b c l ks gs S S2 := by
    obtain ⟨f, u, y, e⟩ := E.p
    exact ⟨⟨p2.1, u, y, by rw [o2 k (by omega)]; exact e⟩, by omega, fun j hj hjk => by rw [o2 j (by omega)]; exact E.oth j hj hjk, by rw [o2 a la]; exact E.ea, by rw [o2 b lb]; exact E.eb, by rw [o2 c lc]; exact E.ec⟩
  have hmS : S.length ≤ S1.length := by omega
  have ha : a ≠ S1.length := by omega
  have hb : b ≠ S1.length := by omega
  have hc : c ≠ S1.length := by omega
  generalize S1.length = m at p2 l2 o2 hmS ha hb hc
  have gate : ∀ (S3 : Sto), NS k a b c l ks gs S S3 → Pot m S3 → ∀ (a13' : Option V3), W3 (zSeq (zApp 10 (xCall dP_law_gate (xCons (xVar 12) (xCons (xVar 6) (xCons (xP (eVar 3)) xNil))))) (zApp 6 (xT (e2 dAdd (eCall cLen (aCons (eVar 6) aNil)) (eC (.int 10)))))
      [some (.loc k), some (.d cells), some (.d (.int 5)), some (.d (.int 1)), some (.d (.lst (ss.map .str))), some (.loc a), some (.loc b), a7, a8, some (.d (nI n)), some (.loc c), some (.d (.int cell)), some (.loc m), a13'] S3)
      fun o S4 => ∃ δ2, o = .nx δ2 ∧ (∃ b11 b12 b13, δ2 = nE k a b c n cells ss a7 a8 b11 b12 b13) ∧ ∃ (g : Gt) (x : Int), GtOk ks.length g ∧ NS k a b c l (ks ++ [x]) (gs ++ [g]) S S4 := fun S3 E3 p3 a13' => by
    refine w_seq <| w_app (k := c) rfl ⟨_, E3.ec⟩ <| w_call <| w_cons <| w_var (v := .loc m) rfl <| w_cons <| w_var (v := .loc b) rfl <| w_cons <| w_P (d := .int 1) rfl <| w_nil <| gate_draw (k := m) p3 hb E3.eb (by omega) hks fun g S4 hg v4 => ?_
    have E4 := E3.own hmS hk ha hb hc v4
    refine ⟨gtD g, _, rfl, E4.ec, by rw [List.length_map]; omega, _, rfl, ?_⟩
    have eb5 : (S4.set c (.lst (gs.map gtD ++ [gtD g])))[b]? = some (.lst (ks.map .int)) := by rw [List.getElem?_set_ne (Ne.symm hbc)]; exact E4.eb
    refine w_app (k := b) rfl ⟨_, eb5⟩ (w_T (d := .int ((ks.length : Int) + 10)) (e2_ok (a := .int ks.length) (b := .int 10) (len_ks eb5 rfl) rfl rfl) rfl ⟨_, _, rfl, eb5, by rw [List.length_map]; omega, _, rfl, ⟨_, _, _, rfl⟩, g, (ks.length : Int) + 10, hg, E4.add hk hbS hcS hab hac hbc⟩)
  have hT : ∀ {S3 : Sto}, NS k a b c l ks gs S S3 → bT (b2 dNe (eVar 10) (eNew (nLst aNil))) [some (.loc k), some (.d cells), some (.d (.int 5)), some (.d (.int 1)), some (.d (.lst (ss.map .str))), some (.loc a), some (.loc b), a7, a8, some (.d (nI n)), some (.loc c), some (.d (.int cell)), some (.loc m), a13] S3 = .ok (!gs.isEmpty) S3 := fun {S3} E3 => by
    unfold bT
    have : b2 dNe (eVar 10) (eNew (nLst aNil)) (downT S3 [some (.loc k), some (.d cells), some (.d (.int 5)), some (.d (.int 1)), some (.d (.lst (ss.map .str))), some (.loc a), some (.loc b), a7, a8, some (.d (nI n)), some (.loc c), some (.d (.int cell)), some (.loc m), a13]) = .ok (!gs.isEmpty) := by
      refine b2_ok (a := .lst (gs.map gtD)) (b := .lst []) ?_ rfl ?_
      · unfold eVar downT
        show (match some (match res S3 (.loc c) with | some d => Sl.val d | none => .un) with | some (.val d) => R.ok d | _ => .no) = _
        rw [res_loc E3.ec]
      · unfold dNe
        rw [ne_nil gs fun g hg => ?_]
        · rfl
        · obtain ⟨i, hi⟩ := List.getElem?_of_mem hg
          obtain ⟨g1, g2, g3⟩ := hgs i g hi
          have hil := (List.getElem?_eq_some_iff.mp hi).1
          exact ⟨g1, g2, fun w hw => by have := g3 w hw; omega⟩
    rw [this]; rfl
  refine w_if ?_
  unfold yAnd
  refine W3.bind (W3.eq (hT E2) ?_)
  cases hgs0 : gs with
  | nil =>
    subst hgs0
    exact W3.ok (gate S2 E2 p2 a13)
  | cons g0 gs0 =>
    rw [← hgs0]
    have hne : gs.isEmpty = false := by rw [hgs0]; rfl
    have hpos : 0 < gs.length := by rw [hgs0]; simp
    rw [hne]
    show W3 (xb2 _ _ _ _ S2) _
    refine w_b2 <| draw (k := m) rfl p2 rfl (by omega) (by omega) fun r S3 h1 h2 v3 => w_P (d := .int 0) rfl ⟨_, _, decide (r = 0), rfl, rfl, rfl, ?_⟩
    have E3 := E2.own hmS hk ha hb hc v3
    by_cases hr : r = 0
    · rw [decide_eq_true hr, if_pos rfl]
      have lenG : eCall cLen (aCons (eVar 10) aNil) (downT S3 [some (.loc k), some (.d cells), some (.d (.int 5)), some (.d (.int 1)), some (.d (.lst (ss.map .str))), some (.loc a), some (.loc b), a7, a8, some (.d (nI n)), some (.loc c), some (.d (.int cell)), some (.loc m), a13]) = .ok (.int gs.length) := by
        refine eCall_ok (ds := [.lst (gs.map gtD)]) (aCons_ok ?_ rfl) (by rw [lenL, List.length_map])
        unfold eVar downT
        show (match some (match res S3 (.loc c) with | some d => Sl.val d | none => .un) with | some (.val d) => R.ok d | _ => .no) = _
        rw [res_loc E3.ec]
      refine w_seq <| w_set (by simp only [List.length_cons, List.length_nil, List.length_set]; omega) <| drawT (k := m) rfl v3.p lenG (by omega) (by omega) fun r4 S4 h3 h4 v4 => ⟨_, rfl, ?_⟩
      simp only [List.set_cons_succ, List.set_cons_zero]
      have E4 := E3.own hmS hk ha hb hc v4
      obtain ⟨pl, hpl, epl⟩ : ∃ pl : Nat, pl < gs.length ∧ D.int r4 = nI pl := ⟨r4.toNat, by omega, by unfold nI; rw [Int.toNat_of_nonneg h3]⟩
      rw [epl]
      have hg4 : gs[pl]? = some gs[pl] := List.getElem?_eq_getElem hpl
      obtain ⟨q1, q2, q3⟩ := hgs pl _ hg4
      have hgo : GtOk ks.length gs[pl] := ⟨q1, q2, fun w hw => by have := q3 w hw; omega⟩
      refine w_seq <| w_app (k := c) rfl ⟨_, E4.ec⟩ <| w_call <| w_cons <| w_var (v := .loc m) rfl <| w_cons <| w_T (d := gtD gs[pl]) (gts_at rfl rfl E4.ec hg4) (gD_tup _) <| w_cons <| w_var (v := .loc b) rfl <| w_nil <| again_draw (k := m) v4.p hb E4.eb hgo hks fun g S5 hg v5 => ?_
      have E5 := E4.own hmS hk ha hb hc v5
      refine ⟨gtD g, _, rfl, E5.ec, by rw [List.length_map]; omega, _, rfl, ?_⟩
      have eb6 : (S5.set c (.lst (gs.map gtD ++ [gtD g])))[b]? = some (.lst (ks.map .int)) := by rw [List.getElem?_set_ne (Ne.symm hbc)]; exact E5.eb
      have hix : n + pl < ks.length := by omega
      refine w_app (k := b) rfl ⟨_, eb6⟩ (w_T (d := .int ks[n + pl]) ?_ rfl ⟨_, _, rfl, eb6, by rw [List.length_map]; omega, _, rfl, ⟨_, _, _, rfl⟩, g, ks[n + pl], hg, E5.add hk hbS hcS hab hac hbc⟩)
      refine e2_ok (a := .lst (ks.map .int)) (b := nI (n + pl)) ?_ (e2_ok (a := nI n) (b := nI pl) rfl rfl ?_) (ks_at hix)
      · unfold eVar downT
        show (match some (match res (S5.set c (.lst (gs.map gtD ++ [gtD g]))) (.loc b) with | some d => Sl.val d | none => .un) with | some (.val d) => R.ok d | _ => .no) = _
        rw [res_loc eb6]
      · show R.ok (D.int ((n : Int) + (pl : Int))) = R.ok (D.int ((n + pl : Nat) : Int))
        rw [Int.natCast_add]
    · rw [decide_eq_false hr, if_neg (by decide)]
      exact gate S3 E3 v3.p a13
end K12

end
section
set_option maxRecDepth 100000
set_option maxHeartbeats 4000000
namespace K12
open PySem PySem.Spec PyProof.Rows L2 L3
theorem net_draw {S : Sto} {k : Nat} {cs : List Int} (p : Pot k S) (hcs : cs.length < 1000) {Q : V3 → Sto → Prop}
    (h : ∀ (l : List (Str × Nat)) (gs : List Gt) (os : List (Str × List Nat)) S1, (∀ x ∈ l, 1 ≤ x.2 ∧ x.2 ≤ 3) → 1 ≤ l.length → l.length ≤ 6 → gs.length = cs.length → (∀ (i : Nat) (g : Gt), gs[i]? = some g → GtOk (wid l + i) g) → os.length < 100 → (∀ x ∈ os, x.2.length < 1000 ∧ ∀ w ∈ x.2, w < wid l + gs.length) → Ev k S S1 → Q (.d (netD l gs os)) S1) :
    W3 (dP_law_net [.loc k, .d (.lst (cs.map .int)), .d (.int 5), .d (.int 1)] S) Q := by
  have hz : sizeLine = 16777216 := sizeLine_eq
  have hk := p.lt
  unfold dP_law_net
  refine w_PnF (w_K rfl ?_)
  simp only [xStart, N_law_net, List.map_cons, List.map_nil, List.length_cons, List.length_nil, List.replicate, List.cons_append, List.nil_append, Nat.reduceAdd, Nat.reduceSub]
  unfold F_law_net
  refine w_seq <| w_set (by simp only [List.length_cons, List.length_nil, List.length_set]; omega) <| w_call <| w_cons <| w_var (v := .loc k) rfl <| w_cons <| w_P (d := .int 8) rfl <| w_nil <| names_ok (m := 8) p (by omega) fun ss S1 hss v1 => ⟨_, rfl, ?_⟩
  simp only [List.set_cons_succ, List.set_cons_zero]
  have l1 := v1.len
  refine w_seq <| w_set (by simp only [List.length_cons, List.length_nil, List.length_set]; omega) <| w_new (ds := []) rfl ⟨_, rfl, ?_⟩
  simp only [List.set_cons_succ, List.set_cons_zero]
  refine w_seq <| w_set (by simp only [List.length_cons, List.length_nil, List.length_set]; omega) <| w_new (ds := []) rfl ⟨_, rfl, ?_⟩
  simp only [List.set_cons_succ, List.set_cons_zero]
  rw [l1, show (S1 ++ [SO.lst []]).length = S.length + 1 by simp [l1]]
  have E0 : IS k S.length (S.length + 1) [] [] S (S1 ++ [.lst []] ++ [.lst []]) := by
    refine ⟨(v1.p.push []).push [], by simp [l1], fun j hj hk => by rw [List.getElem?_append_left (by simp; omega), List.getElem?_append_left (by omega)]; exact v1.oth j hk, ?_, ?_, by omega⟩
    · rw [List.getElem?_append_left (by simp; omega), ← l1]; exact get_last _ _
    · have := get_last (S1 ++ [SO.lst []]) (SO.lst [])
      rw [show (S1 ++ [SO.lst []]).length = S.length + 1 by simp [l1]] at this
      exact this
  refine w_seq <| w_for <| w_rng1 <| w_2 <| w_P (d := .int 1) rfl <| draw (k := k) rfl E0.p rfl (by omega) (by omega) fun r S2 h1 h2 v2 => ⟨_, _, .int ((1 + r).toNat : Nat), rfl, rfl, by rw [Int.toNat_of_nonneg (by omega)]; rfl, (1 + r).toNat, rfl, by omega, ?_⟩
  have E2 : IS k S.length (S.length + 1) [] [] S S2 := ⟨v2.p, by rw [v2.len]; exact E0.len, fun j hj hk => (v2.oth j hk).trans (E0.oth j hj hk), by rw [v2.oth _ (by omega)]; exact E0.ea, by rw [v2.oth _ (by omega)]; exact E0.eb, by omega⟩
  refine (loopX_inv (fun i δ S3 => ∃ b a7 a8, δ = iE k S.length b (.lst (cs.map .int)) ss a7 a8 ∧ ∃ (l : List (Str × Nat)) (ks : List Int), l.length = i ∧ (∀ x ∈ l, 1 ≤ x.2 ∧ x.2 ≤ 3) ∧ ks.length = wid l ∧ wid l ≤ 3 * i ∧ i ≤ wid l ∧ IS k S.length b l ks S S3)
    ⟨S.length + 1, _, _, rfl, [], [], rfl, by simp, rfl, by simp [wid], by omega, E2⟩ ?_).mono fun o S3 ⟨δ3, e3, b, a7, a8, hδ, l, ks, hl, hlw, hks, hw3, hw1, E3⟩ => ⟨δ3, e3, ?_⟩
  · rintro i v δ S3 hv ⟨b, a7, a8, rfl, l, ks, hl, hlw, hks, hw3, hw1, E3⟩
    rw [List.getElem?_map] at hv
    cases qq : (rngD 0 (1 + r).toNat)[i]? with
    | none => rw [qq] at hv; cases hv
    | some d0 =>
      rw [qq] at hv
      obtain ⟨hi, rfl⟩ := rng_at qq
      cases hv
      refine ⟨iE k S.length b (.lst (cs.map .int)) ss (some (.d (nI i))) a8, rfl, ?_⟩
      refine (in_draw hk rfl hss (by omega) (by omega) (by omega) E3).mono fun o S4 ⟨δ4, e4, b', a8', h4, s, w, hw1', hw3', E4⟩ => ⟨δ4, e4, b', _, a8', h4, l ++ [(s, w)], ks ++ List.replicate w (i : Int), by simp [hl], ?_, ?_, ?_, ?_, E4⟩
      · intro x hx
        rcases List.mem_append.mp hx with z | z
        · exact hlw x z
        · rw [List.mem_singleton] at z; subst z; exact ⟨hw1', hw3'⟩
      · rw [List.length_append, List.length_replicate, hks]; simp [wid]
      · have : wid (l ++ [(s, w)]) = wid l + w := by simp [wid]
        omega
      · have : wid (l ++ [(s, w)]) = wid l + w := by simp [wid]
        omega
  have hrl : ((rngD 0 (1 + r).toNat).map V3.d).length = (1 + r).toNat := by simp [rngD]
  rw [hrl] at hl hw3 hw1
  subst hδ
  unfold iE
  refine w_seq <| w_set (by simp only [List.length_cons, List.length_nil, List.length_set]; omega) <| w_T (d := nI (wid l)) ?_ rfl ⟨_, rfl, ?_⟩
  · refine (len_ks E3.eb rfl).trans ?_
    rw [hks]; rfl
  simp only [List.set_cons_succ, List.set_cons_zero]
  refine w_seq <| w_set (by simp only [List.length_cons, List.length_nil, List.length_set]; omega) <| w_new (ds := []) rfl ⟨_, rfl, ?_⟩
  simp only [List.set_cons_succ, List.set_cons_zero]
  have hE3 := E3.len
  have la : S.length < S3.length := (List.getElem?_eq_some_iff.mp E3.ea).1
  have lb : b < S3.length := (List.getElem?_eq_some_iff.mp E3.eb).1
  have hbS := E3.hb
  have N0 : NS k S.length b S3.length l ks ([] : List Gt) S (S3 ++ [.lst []]) := ⟨E3.p.push [], by simp; omega, fun j hj hk => by rw [List.getElem?_append_left (by omega)]; exact E3.oth j hj hk, by rw [List.getElem?_append_left la]; exact E3.ea, by rw [List.getElem?_append_left lb]; exact E3.eb, get_last _ _⟩
  refine w_seq <| w_for <| w_iP (ds := cs.map .int) rfl ?_
  refine (loopX_inv (fun i δ S4 => (∃ b11 b12 b13, δ = nE k S.length b S3.length (wid l) (.lst (cs.map .int)) ss a7 a8 b11 b12 b13) ∧ ∃ (ks : List Int) (gs : List Gt), gs.length = i ∧ ks.length = wid l + gs.length ∧ (∀ (i : Nat) (g : Gt), gs[i]? = some g → GtOk (wid l + i) g) ∧ NS k S.length b S3.length l ks gs S S4)
    ⟨⟨_, _, _, rfl⟩, ks, [], rfl, by simp [hks], by simp, N0⟩ ?_).mono fun o S4 ⟨δ4, e4, ⟨b11, b12, b13, hδ⟩, ks, gs, hgl, hkn, hgs, N4⟩ => ⟨δ4, e4, ?_⟩
  · rintro i v δ S4 hv ⟨⟨b11, b12, b13, rfl⟩, ks, gs, hgl, hkn, hgs, N4⟩
    have hi : i < 1000 := by
      have := (List.getElem?_eq_some_iff.mp hv).1
      rw [List.length_map, List.length_map] at this
      omega
    obtain ⟨d0, hd0, rfl⟩ := List.mem_map.mp (List.mem_of_getElem? hv)
    obtain ⟨c, _, rfl⟩ := List.mem_map.mp hd0
    refine ⟨nE k S.length b S3.length (wid l) (.lst (cs.map .int)) ss a7 a8 (some (.d (.int c))) b12 b13, rfl, ?_⟩
    refine (gate_net hk (by omega) (by omega) (by omega) (by omega) (by omega) (by omega) (by omega) hkn (by omega) hgs N4).mono fun o S5 ⟨δ5, e5, h5, g, x, hg, N5⟩ => ⟨δ5, e5, h5, ks ++ [x], gs ++ [g], by simp [hgl], by simp [hkn]; omega, ?_, N5⟩
    intro j g' hj
    by_cases hjl : j < gs.length
    · rw [List.getElem?_append_left hjl] at hj; exact hgs j g' hj
    · rw [List.getElem?_append_right (by omega)] at hj
      have h0 : j - gs.length = 0 := by
        have := (List.getElem?_eq_some_iff.mp hj).1
        simp at this; omega
      rw [h0] at hj
      cases hj
      rw [show wid l + j = ks.length by omega]
      exact hg
  rw [List.length_map, List.length_map] at hgl
  subst hδ
  unfold nE
  refine w_ret <| w_tup <| w_cons <| w_var (v := .loc S.length) rfl <| w_cons <| w_var (v := .loc S3.length) rfl <| w_cons <| w_call <| w_cons <| w_var (v := .loc k) rfl <| w_cons <| w_var (v := .loc b) rfl <| w_cons <| w_P (d := .lst (ss.map .str)) rfl <| w_cons <| w_P (d := .int 6) rfl <| w_nil <| outs_draw N4.p (by omega) N4.eb (by omega) (by omega) hss fun os S5 hol hos v5 => w_nil ⟨by simp; omega, _, rfl, ?_⟩
  have ea5 : S5[S.length]? = some (.lst (l.map inD)) := by rw [v5.oth _ (by omega)]; exact N4.ea
  have ec5 : S5[S3.length]? = some (.lst (gs.map gtD)) := by rw [v5.oth _ (by omega)]; exact N4.ec
  have hl5 := v5.len
  have hN4 := N4.len
  refine ⟨v5.p.1, ?_, netD l gs os, ?_, ?_⟩
  · show geOk S.length (.tup [.loc S.length, .loc S3.length, .d (.lst (os.map ouD))]) = true
    simp [geOk, gesOk]; omega
  · show res S5 (.tup [.loc S.length, .loc S3.length, .d (.lst (os.map ouD))]) = _
    simp [res, ress, ea5, ec5, netD]
  · refine h l gs os _ hlw (by omega) (by omega) (by omega) hgs hol (fun x hx => by have := hos x hx; rw [hkn] at this; exact this) ⟨⟨v5.p.1.take _, ?_⟩, by rw [List.length_take]; omega, fun j hj => ?_⟩
    · obtain ⟨_, x, c, e⟩ := v5.p
      exact ⟨x, c, by rw [List.getElem?_take_of_lt hk]; exact e⟩
    · by_cases hjl : j < S.length
      · rw [List.getElem?_take_of_lt hjl, v5.oth j hj, N4.oth j hjl hj]
      · rw [List.getElem?_eq_none (by rw [List.length_take]; omega), List.getElem?_eq_none (by omega)]
def sE (k o n t : Nat) (a4 a5 : Option V3) : DE := [some (.loc k), some (.d (nI n)), some (.d (.int t)), some (.loc o), a4, a5]
theorem some_draw {S : Sto} {k n t : Nat} (p : Pot k S) (hn0 : 0 < n) (hn : n < 10000) (ht : t ≤ 4) {Q : V3 → Sto → Prop} (h : ∀ (ps : List Nat) S1, ps.length ≤ t → (∀ x ∈ ps, x < n) → Ev k S S1 → Q (.d (.tup (ps.map nI))) S1) : W3 (dP_law_some [.loc k, .d (nI n), .d (.int t)] S) Q := by
  have hz : sizeLine = 16777216 := sizeLine_eq
  have hk := p.lt
  unfold dP_law_some
  refine w_PnF (w_K rfl ?_)
  simp only [xStart, N_law_some, List.map_cons, List.map_nil, List.length_cons, List.length_nil, List.replicate, List.cons_append, List.nil_append, Nat.reduceAdd, Nat.reduceSub]
  unfold F_law_some
  refine w_seq <| w_set (by simp only [List.length_cons, List.length_nil, List.length_set]; omega) <| w_new (ds := []) rfl ⟨_, rfl, ?_⟩
  simp only [List.set_cons_succ, List.set_cons_zero]
  have E1 := EvG.of_push p []
  have hok : S.length ≠ k := by omega
  refine w_seq <| w_for <| w_rng1 <| draw (k := k) (m := (t : Int) + 1) rfl E1.p rfl (by omega) (by omega) fun r S2 h1 h2 v2 => ⟨r.toNat, by rw [Int.toNat_of_nonneg h1], by omega, ?_⟩
  have E2 := E1.then hok v2
  refine (loopX_inv (fun i δ S3 => (∃ a b, δ = sE k S.length n t a b) ∧ ∃ ps : List Int, ps.length ≤ i ∧ (∀ x ∈ ps, 0 ≤ x ∧ x < n) ∧ EvG k S.length (ps.map .int) (S ++ [SO.lst []]) S3) ⟨⟨_, _, rfl⟩, [], by simp, by simp, E2⟩ ?_).mono fun o S3 ⟨δ3, e3, ⟨a, b, hδ⟩, ps, hpl, hpn, E3⟩ => ⟨δ3, e3, ?_⟩
  · rintro i v δ S3 hv ⟨⟨a, b, rfl⟩, ps, hpl, hpn, E3⟩
    have hi : i < r.toNat := by
      have := (List.getElem?_eq_some_iff.mp hv).1
      rwa [List.length_map, rngD, List.length_map, List.length_range] at this
    refine ⟨sE k S.length n t (some v) b, rfl, ?_⟩
    unfold B_law_some_0 sE
    refine w_seq <| w_set (by simp only [List.length_cons, List.length_nil, List.length_set]; omega) <| draw (k := k) (m := (n : Int)) rfl E3.p rfl (by omega) (by omega) fun r4 S4 h3 h4 v4 => ⟨_, rfl, ?_⟩
    simp only [List.set_cons_succ, List.set_cons_zero]
    have E4 := E3.then hok v4
    refine w_if (w_bT (b := !ps.contains r4) ?_ ?_)
    · simp only [downT, List.map_cons, List.map_nil, res_loc E4.gl]
      refine b2_ok (a := .int r4) (b := .lst (ps.map .int)) rfl rfl ?_
      show ((match ints? (ps.map D.int) with | some ss => R.ok (ss.contains r4) | none => .no)).bind (fun b => R.ok (D.bl (!b))) = _
      rw [L2.ints_map]; rfl
    · cases ps.contains r4 with
      | true => exact w_znil ⟨_, rfl, ⟨_, _, rfl⟩, ps, by omega, hpn, E4⟩
      | false =>
        refine w_app (k := S.length) rfl ⟨_, E4.gl⟩ (w_P (d := .int r4) rfl ⟨_, _, rfl, E4.gl, by rw [List.length_map]; omega, _, rfl, ⟨_, _, rfl⟩, ps ++ [r4], by simp; omega, fun x hx => ?_, ?_⟩)
        · rcases List.mem_append.mp hx with q | q
          · exact hpn x q
          · rw [List.mem_singleton.mp q]; exact ⟨h3, h4⟩
        · rw [List.map_append]
          exact E4.put hok
  have hps : ps.length ≤ t := by
    rw [List.length_map, rngD, List.length_map, List.length_range] at hpl
    omega
  subst hδ
  unfold sE
  have tz : tupD (.tup ((sortZ ps).map .int)) = true := by
    unfold tupD
    induction sortZ ps with
    | nil => unfold tupDs; rfl
    | cons w ws ih => rw [List.map_cons]; unfold tupDs; rw [ih]; rfl
  have hperm : (sortZ ps).Perm ps := List.mergeSort_perm _ _
  have hsn : ∀ x ∈ sortZ ps, 0 ≤ x ∧ x < n := fun x hx => hpn x (hperm.mem_iff.mp hx)
  have eN : (sortZ ps).map D.int = ((sortZ ps).map Int.toNat).map nI := by
    rw [List.map_map]
    refine List.map_congr_left fun x hx => ?_
    show D.int x = D.int ((x.toNat : Nat) : Int)
    rw [Int.toNat_of_nonneg (hsn x hx).1]
  refine w_ret (w_T (d := .tup ((sortZ ps).map .int)) ?_ tz ⟨_, rfl, fin_P (fun S1 v => by rw [eN]; exact h _ S1 (by rw [List.length_map, hperm.length_eq]; exact hps) (fun x hx => by obtain ⟨y, hy, rfl⟩ := List.mem_map.mp hx; have := hsn y hy; omega) v) E3 rfl hk⟩)
  simp only [downT, List.map_cons, List.map_nil, res_loc E3.gl]
  refine eCall_ok (ds := [.lst ((sortZ ps).map .int)]) (aCons_ok (eCall_ok (ds := [.lst (ps.map .int)]) rfl ?_) rfl) rfl
  show (match ints? (ps.map D.int) with | some ns => R.when (decide (ns.length < 64)) (R.ok (D.lst ((sortZ ns).map .int))) | none => .no) = _
  rw [L2.ints_map]
  exact when_of _ (by omega)
end K12

end
section
set_option maxRecDepth 100000
set_option maxHeartbeats 4000000
namespace K12
open PySem PySem.Spec PyProof.Rows L2 L3
def nZ (ps : List Nat) : List Int := ps.map fun (n : Nat) => (n : Int)
theorem nZ_D (ps : List Nat) : (nZ ps).map D.int = ps.map nI := by unfold nZ; rw [List.map_map]; rfl
theorem nZ_has (ps : List Nat) (i : Nat) : (nZ ps).contains (i : Int) = ps.contains i := by
  rw [Bool.eq_iff_iff]
  unfold nZ
  simp only [List.contains_iff_mem, List.mem_map]
  exact ⟨fun ⟨a, ha, e⟩ => (by rw [← Int.ofNat_inj.mp e]; exact ha), fun h => ⟨i, h, rfl⟩⟩
/-- a gate more -/
theorem gUp_app {gs hs : List Gt} {t t' : List Int} {w0 : List Bool} (ht : ∀ j, j < gs.length → t.contains (j : Int) = t'.contains (j : Int)) : ∀ i, i ≤ gs.length → gUp (gs ++ hs) t w0 i = gUp gs t' w0 i
  | 0, _ => rfl
  | i + 1, hi => by
    unfold gUp
    rw [List.getElem?_append_left (by omega), List.getElem?_eq_getElem (by omega : i < gs.length), gUp_app ht i (by omega), ht i (by omega)]
theorem gUp_one {gs : List Gt} {g : Gt} {t : List Int} {w0 : List Bool} : gUp (gs ++ [g]) t w0 (gs ++ [g]).length = gUp gs t w0 gs.length ++ [gv g.1 (g.2.1.map (rdW (gUp gs t w0 gs.length))) != t.contains (gs.length : Int)] := by
  rw [List.length_append]
  show gUp (gs ++ [g]) t w0 (gs.length + 1) = _
  conv => lhs; unfold gUp
  rw [List.getElem?_append_right (Nat.le_refl _), Nat.sub_self]
  show gUp (gs ++ [g]) t w0 gs.length ++ [gv g.1 (g.2.1.map (rdW (gUp (gs ++ [g]) t w0 gs.length))) != t.contains (gs.length : Int)] = _
  rw [gUp_app (t' := t) (fun _ _ => rfl) gs.length (Nat.le_refl _)]
theorem rdW_app {ws : List Bool} {b : Bool} {n : Nat} (h : n < ws.length) : rdW (ws ++ [b]) n = rdW ws n := by
  unfold rdW
  rw [List.getD_eq_getElem?_getD, List.getElem?_append_left h, List.getD_eq_getElem?_getD]
theorem rdW_last (ws : List Bool) (b : Bool) : rdW (ws ++ [b]) ws.length = b := by
  unfold rdW
  rw [List.getD_eq_getElem?_getD, List.getElem?_append_right (Nat.le_refl _), Nat.sub_self]
  rfl
theorem rdW_lapp {ws vs : List Bool} {n : Nat} (h : n < ws.length) : rdW (ws ++ vs) n = rdW ws n := by
  unfold rdW
  rw [List.getD_eq_getElem?_getD, List.getElem?_append_left h, List.getD_eq_getElem?_getD]
/-! bad wires -/
theorem inRow_bad {bad : List Int} {b : Bool} : ∀ m {ws vs : List Bool}, ws.length = vs.length → (∀ n, n < ws.length → rdW ws n = (rdW vs n != bad.contains (n : Int))) → ∀ n, n < ws.length + m → rdW (inRow bad b m ws) n = (rdW (inRow [] b m vs) n != bad.contains (n : Int))
  | 0, ws, vs, _, h, n, hn => h n hn
  | m + 1, ws, vs, hl, h, n, hn => by
    have l1 := inRow_len bad b m ws
    have l2 := inRow_len [] b m vs
    unfold inRow
    by_cases q : n < ws.length + m
    · rw [rdW_app (by omega), rdW_app (by omega)]
      exact inRow_bad m hl h n q
    · have e1 : n = (inRow bad b m ws).length := by omega
      have e2 : n = (inRow [] b m vs).length := by omega
      conv => lhs; rw [e1]
      rw [rdW_last]
      conv => rhs; lhs; rw [e2]
      rw [rdW_last, ← e1]
      simp
theorem inUp_bad {ins : List (Str × Nat)} {bits : List Bool} {bad : List Int} (hb : bits.length = ins.length) : ∀ i, i ≤ ins.length → ∀ n, n < wid (ins.take i) → rdW (inUp ins bits bad i) n = (rdW (inUp ins bits [] i) n != bad.contains (n : Int))
  | 0, _, n, hn => by simp [wid] at hn
  | i + 1, hi, n, hn => by
    have h1 : ins[i]? = some ins[i] := List.getElem?_eq_getElem (by omega)
    have h2 : bits[i]? = some bits[i] := List.getElem?_eq_getElem (by omega)
    have w1 := inUp_len (bad := bad) hb i (by omega)
    have w2 := inUp_len (bad := []) hb i (by omega)
    have ew : wid (ins.take (i + 1)) = wid (ins.take i) + ins[i].2 := by
      rw [List.take_add_one, h1]
      unfold wid
      simp only [Option.toList_some, List.map_append, List.sum_append, List.map_cons, List.map_nil, List.sum_cons, List.sum_nil]
      omega
    unfold inUp
    rw [h1, h2]
    show rdW (inRow bad bits[i] ins[i].2 (inUp ins bits bad i)) n = (rdW (inRow [] bits[i] ins[i].2 (inUp ins bits [] i)) n != _)
    exact inRow_bad _ (by omega) (fun m hm => inUp_bad hb i (by omega) m (by omega)) n (by omega)
/-! one in more -/
theorem inUp_app {ins : List (Str × Nat)} {bits : List Bool} {bad : List Int} {x : Str × Nat} {b : Bool} (hb : bits.length = ins.length) : ∀ i, i ≤ ins.length → inUp (ins ++ [x]) (bits ++ [b]) bad i = inUp ins bits bad i
  | 0, _ => rfl
  | i + 1, hi => by
    unfold inUp
    rw [List.getElem?_append_left (by omega), List.getElem?_append_left (by omega), inUp_app hb i (by omega)]
theorem inUp_more {ins : List (Str × Nat)} {bits : List Bool} {bad : List Int} {x : Str × Nat} {b : Bool} (hb : bits.length = ins.length) : inUp (ins ++ [x]) (bits ++ [b]) bad (ins ++ [x]).length = inRow bad b x.2 (inUp ins bits bad ins.length) := by
  rw [List.length_append]
  show inUp (ins ++ [x]) (bits ++ [b]) bad (ins.length + 1) = _
  conv => lhs; unfold inUp
  rw [List.getElem?_append_right (Nat.le_refl _), Nat.sub_self, ← hb, List.getElem?_append_right (Nat.le_refl _), Nat.sub_self, hb, inUp_app hb ins.length (Nat.le_refl _)]
  rfl
theorem inRow_pre (bad : List Int) (b : Bool) : ∀ m ws n, n < ws.length → rdW (inRow bad b m ws) n = rdW ws n
  | 0, ws, n, h => rfl
  | m + 1, ws, n, h => by unfold inRow; rw [rdW_app (by rw [inRow_len]; omega)]; exact inRow_pre bad b m ws n h
def sh (a n : Nat) : Nat := n + (if a ≤ n then 2 else 0)
def shG (a : Nat) (g : Gt) : Gt := (g.1, g.2.1.map (sh a), g.2.2)
theorem gUp_sh {gs : List Gt} {t : List Int} {w0 w1 : List Bool} {a : Nat} (h0 : w0.length = a) (h1 : w1.length = a + 2) (hw : ∀ n, n < a → rdW w1 n = rdW w0 n) (hg : ∀ (i : Nat) (g : Gt), gs[i]? = some g → GtOk (a + i) g) :
    ∀ i, i ≤ gs.length → ∀ n, n < a + i → rdW (gUp (gs.map (shG a)) t w1 i) (sh a n) = rdW (gUp gs t w0 i) n
  | 0, _, n, hn => by
    show rdW w1 (sh a n) = rdW w0 n
    unfold sh
    rw [if_neg (by omega)]
    exact hw n (by omega)
  | i + 1, hi, n, hn => by
    have e1 : gs[i]? = some gs[i] := List.getElem?_eq_getElem (by omega)
    have l0 := gUp_len (gs := gs) (turned := t) (w0 := w0) i (by omega)
    have l1 := gUp_len (gs := gs.map (shG a)) (turned := t) (w0 := w1) i (by rw [List.length_map]; omega)
    have ih := gUp_sh (t := t) h0 h1 hw hg i (by omega)
    have G := hg i gs[i] e1
    conv => lhs; unfold gUp
    conv => rhs; unfold gUp
    rw [List.getElem?_map, e1]
    show rdW (gUp (gs.map (shG a)) t w1 i ++ [gv gs[i].1 ((gs[i].2.1.map (sh a)).map (rdW (gUp (gs.map (shG a)) t w1 i))) != t.contains (i : Int)]) (sh a n) = rdW (gUp gs t w0 i ++ [gv gs[i].1 (gs[i].2.1.map (rdW (gUp gs t w0 i))) != t.contains (i : Int)]) n
    by_cases q : n < a + i
    · have : sh a n < a + 2 + i := by unfold sh; split <;> omega
      rw [rdW_app (by omega), rdW_app (by omega)]
      exact ih n q
    · have en : n = (gUp gs t w0 i).length := by omega
      have es : sh a n = (gUp (gs.map (shG a)) t w1 i).length := by unfold sh; rw [if_pos (by omega)]; omega
      rw [es, rdW_last, en, rdW_last, List.map_map]
      congr 2
      refine List.map_congr_left fun z hz => ?_
      exact ih z (G.2.2 z hz)
end K12

end
section
set_option maxRecDepth 100000
set_option maxHeartbeats 4000000
namespace K12
open PySem PySem.Spec PyProof.Rows L2 L3
/-- the wires of a net under way, nothing turned -/
def cur (w0 : List Bool) (gs : List Gt) : List Bool := gUp gs [] w0 gs.length
theorem cur_len (w0 : List Bool) (gs : List Gt) : (cur w0 gs).length = w0.length + gs.length := gUp_len _ (Nat.le_refl _)
theorem cur_one (w0 : List Bool) (gs : List Gt) (g : Gt) : cur w0 (gs ++ [g]) = cur w0 gs ++ [gv g.1 (g.2.1.map (rdW (cur w0 gs)))] := by
  unfold cur
  rw [gUp_one]
  simp
/-- what stands for which wire -/
structure WI (a : Nat) (w0 : List Bool) (f : Nat → Bool) (p : Nat) (gs : List Gt) (th : List Nat) : Prop where
  len : th.length = p
  ok : ∀ (i : Nat) (g : Gt), gs[i]? = some g → GtOk (a + i) g
  lt : ∀ z ∈ th, z < a + gs.length
  val : ∀ n, n < p → rdW (cur w0 gs) (th.getD n 0) = f n
theorem ok_add {a : Nat} {gs : List Gt} {g : Gt} (h : ∀ (i : Nat) (g : Gt), gs[i]? = some g → GtOk (a + i) g) (hg : GtOk (a + gs.length) g) : ∀ (i : Nat) (x : Gt), (gs ++ [g])[i]? = some x → GtOk (a + i) x := fun i x hx => by
  by_cases q : i < gs.length
  · rw [List.getElem?_append_left q] at hx; exact h i x hx
  · rw [List.getElem?_append_right (by omega)] at hx
    have : i - gs.length = 0 := by have := (List.getElem?_eq_some_iff.mp hx).1; simp at this; omega
    rw [this] at hx
    cases hx
    rw [show i = gs.length by omega]; exact hg
theorem getD_in {th : List Nat} {n : Nat} (h : n < th.length) : th.getD n 0 ∈ th := by
  rw [List.getD_eq_getElem?_getD, List.getElem?_eq_getElem h]
  exact List.getElem_mem h
theorem pre_w0 {a : Nat} {w0 : List Bool} (h0 : w0.length = a) : ∀ (gs : List Gt) n, n < a → rdW (cur w0 gs) n = rdW w0 n := fun gs n hn => by
  have : ∀ i, i ≤ gs.length → rdW (gUp gs [] w0 i) n = rdW w0 n := fun i hi => by
    induction i with
    | zero => rfl
    | succ i ih =>
      conv => lhs; unfold gUp
      rw [List.getElem?_eq_getElem (by omega : i < gs.length)]
      show rdW (gUp gs [] w0 i ++ [_]) n = _
      rw [rdW_app (by rw [gUp_len i (by omega)]; omega)]
      exact ih (by omega)
  exact this gs.length (Nat.le_refl _)
/-- a gate of kind not behind a wire -/
theorem WI.bad {a p w : Nat} {w0 : List Bool} {f f' : Nat → Bool} {gs : List Gt} {th : List Nat} (h : WI a w0 f p gs th) (h0 : w0.length = a) (hp : p = a) (hw : w < a) (h1 : f' w = !(rdW w0 w)) (h2 : ∀ n, n < p → n ≠ w → f' n = f n) : WI a w0 f' p (gs ++ [(0, [w], true)]) (th.set w (a + gs.length)) := by
  have hl := h.len
  have hcl := cur_len w0 gs
  refine ⟨by rw [List.length_set]; exact hl, ok_add h.ok ⟨by omega, rfl, fun z hz => by rw [List.mem_singleton] at hz; omega⟩, fun z hz => ?_, fun n hn => ?_⟩
  · rw [List.length_append]
    rcases List.mem_or_eq_of_mem_set hz with q | q
    · have := h.lt z q; simp; omega
    · rw [q]; simp
  · rw [cur_one]
    by_cases q : n = w
    · subst q
      rw [List.getD_eq_getElem?_getD, List.getElem?_set_self (by omega)]
      show rdW (cur w0 gs ++ [gv 0 ([n].map (rdW (cur w0 gs)))]) (a + gs.length) = _
      rw [show a + gs.length = (cur w0 gs).length by omega, rdW_last, h1]
      show (!(rdW (cur w0 gs) n)) = _
      rw [pre_w0 h0 gs n hw]
    · have hg : (th.set w (a + gs.length)).getD n 0 = th.getD n 0 := by
        rw [List.getD_eq_getElem?_getD, List.getElem?_set_ne (fun e => q e.symm), List.getD_eq_getElem?_getD]
      rw [hg, rdW_app (by have := h.lt _ (getD_in (n := n) (by omega : n < th.length)); omega), h.val n hn, h2 n hn q]
theorem getD_last (th : List Nat) (x : Nat) : (th ++ [x]).getD th.length 0 = x := by
  rw [List.getD_eq_getElem?_getD, List.getElem?_append_right (Nat.le_refl _), Nat.sub_self]; rfl
theorem getD_pre {th : List Nat} {x n : Nat} (h : n < th.length) : (th ++ [x]).getD n 0 = th.getD n 0 := by
  rw [List.getD_eq_getElem?_getD, List.getElem?_append_left h, List.getD_eq_getElem?_getD]
/-- a gate of the net -/
theorem WI.gate {a p : Nat} {w0 : List Bool} {f f' : Nat → Bool} {gs : List Gt} {th : List Nat} {g : Gt} (h : WI a w0 f p gs th) (h0 : w0.length = a) (hg : GtOk p g) (h1 : f' p = gv g.1 (g.2.1.map f)) (h2 : ∀ n, n < p → f' n = f n) :
    WI a w0 f' (p + 1) (gs ++ [(g.1, g.2.1.map (fun z => th.getD z 0), g.2.2)]) (th ++ [a + gs.length]) := by
  have hl := h.len
  have hcl := cur_len w0 gs
  refine ⟨by rw [List.length_append]; simp [hl], ok_add h.ok ⟨hg.1, by rw [List.length_map]; exact hg.2.1, fun z hz => ?_⟩, fun z hz => ?_, fun n hn => ?_⟩
  · obtain ⟨y, hy, rfl⟩ := List.mem_map.mp hz
    exact h.lt _ (getD_in (by have := hg.2.2 y hy; omega))
  · rw [List.length_append]
    rcases List.mem_append.mp hz with q | q
    · have := h.lt z q; simp; omega
    · rw [List.mem_singleton.mp q]; simp
  · rw [cur_one]
    by_cases q : n < p
    · rw [getD_pre (by omega), rdW_app (by have := h.lt _ (getD_in (n := n) (by omega : n < th.length)); omega), h.val n q, h2 n q]
    · have en : n = th.length := by omega
      rw [en, getD_last]
      show rdW (cur w0 gs ++ [gv g.1 ((g.2.1.map fun z => th.getD z 0).map (rdW (cur w0 gs)))]) (a + gs.length) = _
      rw [show a + gs.length = (cur w0 gs).length by omega, rdW_last, hl, h1, List.map_map]
      congr 1
      exact List.map_congr_left fun z hz => h.val z (by have := hg.2.2 z hz; omega)
/-- a not behind the last -/
theorem WI.turn {a p : Nat} {w0 : List Bool} {f f' : Nat → Bool} {gs : List Gt} {th : List Nat} {x : Nat} {b : Bool} (h : WI a w0 f (p + 1) gs (th ++ [x])) (h0 : w0.length = a) (h1 : f' p = !(f p)) (h2 : ∀ n, n < p → f' n = f n) : WI a w0 f' (p + 1) (gs ++ [(0, [x], b)]) (th ++ [a + gs.length]) := by
  have hl : th.length = p := by have := h.len; simp at this; exact this
  have hcl := cur_len w0 gs
  have hx : x < a + gs.length := h.lt x (by simp)
  refine ⟨by rw [List.length_append]; simp [hl], ok_add h.ok ⟨by omega, rfl, fun z hz => by rw [List.mem_singleton] at hz; omega⟩, fun z hz => ?_, fun n hn => ?_⟩
  · rw [List.length_append]
    rcases List.mem_append.mp hz with q | q
    · have := h.lt z (List.mem_append_left _ q); simp; omega
    · rw [List.mem_singleton.mp q]; simp
  · rw [cur_one]
    by_cases q : n < p
    · have e := h.val n (by omega)
      rw [getD_pre (by omega)] at e ⊢
      rw [rdW_app (by have := h.lt _ (List.mem_append_left [x] (getD_in (n := n) (by omega : n < th.length))); omega), e, h2 n q]
    · have en : n = th.length := by omega
      have e := h.val p (by omega)
      rw [← hl, getD_last] at e
      rw [en, getD_last]
      show rdW (cur w0 gs ++ [gv 0 ([x].map (rdW (cur w0 gs)))]) (a + gs.length) = _
      rw [show a + gs.length = (cur w0 gs).length by omega, rdW_last, hl, h1, ← hl, ← e]
      rfl
/-! the store -/
def wS (S : Sto) (gs : List Gt) (th : List Nat) : Sto := S ++ [.lst (gs.map gtD), .lst (th.map nI)]
theorem wS_a (S : Sto) (gs : List Gt) (th : List Nat) : (wS S gs th)[S.length]? = some (.lst (gs.map gtD)) := by unfold wS; rw [List.getElem?_append_right (Nat.le_refl _), Nat.sub_self]; rfl
theorem wS_b (S : Sto) (gs : List Gt) (th : List Nat) : (wS S gs th)[S.length + 1]? = some (.lst (th.map nI)) := by unfold wS; rw [List.getElem?_append_right (by omega), show S.length + 1 - S.length = 1 by omega]; rfl
theorem wS_gate (S : Sto) (gs : List Gt) (th : List Nat) (g : Gt) : (wS S gs th).set S.length (.lst (gs.map gtD ++ [gtD g])) = wS S (gs ++ [g]) th := by
  unfold wS
  rw [List.set_append_right _ _ (Nat.le_refl _), Nat.sub_self, List.map_append]; rfl
theorem wS_th (S : Sto) (gs : List Gt) (th th' : List Nat) : (wS S gs th).set (S.length + 1) (.lst (th'.map nI)) = wS S gs th' := by
  unfold wS
  rw [List.set_append_right _ _ (by omega), show S.length + 1 - S.length = 1 by omega]; rfl
def wE (nt tD bD : D) (a n : Nat) (a6 a7 a8 a9 a10 : Option V3) : DE := [some (.d nt), some (.d tD), some (.d bD), some (.d (nI a)), some (.loc n), some (.loc (n + 1)), a6, a7, a8, a9, a10]
/-- ahead + len(gates) - 1 -/
theorem last_ok {nt tD bD : D} {a : Nat} {S : Sto} {gs : List Gt} {th : List Nat} {a6 a7 a8 a9 a10 : Option V3} (h : 0 < gs.length) : e2 dSub (e2 dAdd (eVar 3) (eCall cLen (aCons (eVar 4) aNil))) (eC (.int 1)) (downT (wS S gs th) (wE nt tD bD a S.length a6 a7 a8 a9 a10)) = .ok (nI (a + gs.length - 1)) := by
  have ea := wS_a S gs th
  simp only [wE, downT, List.map_cons, List.map_nil, res, ea]
  refine e2_ok (a := .int ((a + gs.length : Nat) : Int)) (b := .int 1) (e2_ok (a := nI a) (b := .int gs.length) rfl (eCall_ok (ds := [.lst (gs.map gtD)]) rfl (by rw [lenL, List.length_map])) rfl) rfl ?_
  show R.ok (D.int (((a + gs.length : Nat) : Int) - 1)) = R.ok (D.int ((a + gs.length - 1 : Nat) : Int))
  congr 2
  omega
theorem bad_step {nt tD bD : D} {a w : Nat} {S : Sto} {gs : List Gt} {th : List Nat} {a7 a8 a9 a10 : Option V3} (hw : w < th.length) (hl : gs.length < 1000) :
    W3 (B_law_with_nots_0 (wE nt tD bD a S.length (some (.d (nI w))) a7 a8 a9 a10) (wS S gs th)) fun o S1 => o = .nx (wE nt tD bD a S.length (some (.d (nI w))) a7 a8 a9 a10) ∧ S1 = wS S (gs ++ [(0, [w], true)]) (th.set w (a + gs.length)) := by
  have hz : sizeLine = 16777216 := sizeLine_eq
  unfold B_law_with_nots_0
  refine w_seq (w_app (k := S.length) rfl ⟨_, wS_a S gs th⟩ (w_P (d := gtD (0, [w], true)) ?_ ⟨_, _, rfl, wS_a S gs th, by rw [List.length_map]; omega, _, rfl, ?_⟩))
  · exact eTup_ok (aCons_ok rfl (aCons_ok (eTup_ok rfl (by simp; omega)) (aCons_ok rfl rfl))) (by simp; omega)
  rw [wS_gate]
  refine w_put (w_T (d := nI (a + (gs ++ [((0, [w], true) : Gt)]).length - 1)) (last_ok (by simp)) rfl (w_var (v := .loc (S.length + 1)) rfl (w_P (d := nI w) rfl ⟨_, _, _, _, w, rfl, rfl, rfl, wS_b S _ th, NT.ixN_nat (by rw [List.length_map]; exact hw), rfl, ?_⟩)))
  have e : (th.map nI).set w (nI (a + (gs ++ [((0, [w], true) : Gt)]).length - 1)) = (th.set w (a + gs.length)).map nI := by
    rw [List.map_set]
    congr 2
    simp
  rw [e, wS_th]
theorem gate_tup {S : Sto} {gs : List Gt} {th : List Nat} {nt tD bD : D} {a i : Nat} {g : Gt} {a6 : Option V3} (hl : g.2.1.length < 1000) (hlt : ∀ z ∈ g.2.1, z < th.length) :
    eTup (aCons (eVar 8) (aCons (eCall cTuple (aCons (eNew (nComp (itSeq (eVar 9)) (gNameD 0) cYes (e2 ixD (eVar 1) (eVar 0)) [(Str.ofString "wire")] [5])) aNil)) (aCons (eVar 10) aNil))) (downT (wS S gs th) (wE nt tD bD a S.length a6 (some (.d (.int i))) (some (.d (.str (kS g.1)))) (some (.d (.tup (g.2.1.map nI)))) (some (.d (.bl g.2.2))))) = .ok (gtD (g.1, g.2.1.map (fun z => th.getD z 0), g.2.2)) := by
  have hz : sizeLine = 16777216 := sizeLine_eq
  have ea := wS_a S gs th
  have eb := wS_b S gs th
  simp only [wE, downT, List.map_cons, List.map_nil, res, ea, eb]
  refine eTup_ok (aCons_ok rfl (aCons_ok (eCall_ok (ds := [.lst ((g.2.1.map fun z => th.getD z 0).map nI)]) (aCons_ok (eNew_ok (nComp_ok (ds := g.2.1.map nI) (itT_ok rfl) (by rw [List.length_map]; omega) ?_)) rfl) rfl) (aCons_ok rfl rfl))) (by simp; omega)
  rw [List.map_map]
  refine NT.compL_list _ _ fun z hzw => ⟨[.val (nI z), .val (.lst (th.map nI))], rfl, rfl, e2_ok (a := .lst (th.map nI)) (b := .int z) rfl rfl (NT.ixL_nat ?_)⟩
  have h := hlt z hzw
  rw [List.getElem?_map, List.getElem?_eq_getElem h]
  show some (nI th[z]) = some (nI (th.getD z 0))
  rw [List.getD_eq_getElem?_getD, List.getElem?_eq_getElem h]
  rfl
theorem gtD_tup (g : Gt) : tupD (gtD g) = true := by
  unfold gtD tupD tupDs tupDs tupDs tupDs
  rw [tup_ints]
  rfl
theorem turn_step {nt bD : D} {a i : Nat} {t : List Nat} {S : Sto} {gs : List Gt} {th : List Nat} {g : Gt} {a6 : Option V3} (hl : gs.length < 1000) (hlt : ∀ z ∈ g.2.1, z < th.length) (hgl : g.2.1.length < 1000) (hth : th.length < 10000) :
    W3 (B_law_with_nots_1 (wE nt (.tup (t.map nI)) bD a S.length a6 (some (.d (.int i))) (some (.d (.str (kS g.1)))) (some (.d (.tup (g.2.1.map nI)))) (some (.d (.bl g.2.2)))) (wS S gs th)) fun o S1 => o = .nx (wE nt (.tup (t.map nI)) bD a S.length a6 (some (.d (.int i))) (some (.d (.str (kS g.1)))) (some (.d (.tup (g.2.1.map nI)))) (some (.d (.bl g.2.2)))) ∧
      S1 = if t.contains i then wS S (gs ++ [(g.1, g.2.1.map (fun z => th.getD z 0), g.2.2)] ++ [(0, [a + gs.length], g.2.2)]) (th ++ [a + (gs.length + 1)]) else wS S (gs ++ [(g.1, g.2.1.map (fun z => th.getD z 0), g.2.2)]) (th ++ [a + gs.length]) := by
  have hz : sizeLine = 16777216 := sizeLine_eq
  unfold B_law_with_nots_1
  refine w_seq (w_app (k := S.length) rfl ⟨_, wS_a S gs th⟩ (w_T (d := gtD (g.1, g.2.1.map (fun z => th.getD z 0), g.2.2)) (gate_tup hgl hlt) (gtD_tup _) ⟨_, _, rfl, wS_a S gs th, by rw [List.length_map]; omega, _, rfl, ?_⟩))
  rw [wS_gate]
  generalize hG : gs ++ [((g.1, g.2.1.map (fun z => th.getD z 0), g.2.2) : Gt)] = G
  have hGl : G.length = gs.length + 1 := by rw [← hG]; simp
  refine w_seq (w_app (k := S.length + 1) rfl ⟨_, wS_b S G th⟩ (w_T (d := nI (a + G.length - 1)) (last_ok (by omega)) rfl ⟨_, _, rfl, wS_b S G th, by rw [List.length_map]; omega, _, rfl, ?_⟩))
  have e : th.map nI ++ [nI (a + G.length - 1)] = (th ++ [a + gs.length]).map nI := by rw [List.map_append, hGl]; rfl
  rw [e, wS_th]
  refine w_if (w_bP (b := t.contains i) (b2_ok (a := .int i) (b := .tup (t.map nI)) rfl rfl ?_) ?_)
  · have := in_ints (i : Int) (nZ t)
    rw [nZ_D, nZ_has] at this
    exact this
  cases hc : t.contains i with
  | false =>
    rw [if_neg (by decide)]
    refine w_znil ⟨rfl, ?_⟩
    rw [if_neg (by decide)]
  | true =>
    rw [if_pos rfl]
    have ea := wS_a S G (th ++ [a + gs.length])
    have eb := wS_b S G (th ++ [a + gs.length])
    refine w_seq (w_app (k := S.length) rfl ⟨_, ea⟩ (w_T (d := gtD (0, [a + gs.length], g.2.2)) ?_ (gtD_tup _) ⟨_, _, rfl, ea, by rw [List.length_map]; omega, _, rfl, ?_⟩))
    · simp only [wE, downT, List.map_cons, List.map_nil, res, ea, eb]
      refine eTup_ok (aCons_ok rfl (aCons_ok (eTup_ok (aCons_ok (e2_ok (a := .lst ((th ++ [a + gs.length]).map nI)) (b := .int (-1)) rfl rfl (ixL_of ?_)) rfl) (by simp; omega)) (aCons_ok rfl rfl))) (by simp; omega)
      unfold atI ixN
      rw [if_neg (by omega), if_pos (by rw [List.length_map, List.length_append]; simp only [List.length_cons, List.length_nil]; omega), Option.bind_some, List.length_map, List.length_append]
      rw [show ((-1 : Int) + ((th.length + [a + gs.length].length : Nat) : Int)).toNat = th.length by simp; omega, List.getElem?_map, List.getElem?_append_right (Nat.le_refl _), Nat.sub_self]
      rfl
    · rw [wS_gate]
      refine w_put (w_T (d := nI (a + (G ++ [((0, [a + gs.length], g.2.2) : Gt)]).length - 1)) (last_ok (by simp)) rfl (w_var (v := .loc (S.length + 1)) rfl (w_P (d := .int (-1)) rfl ⟨_, _, _, _, th.length, rfl, rfl, rfl, wS_b S _ _, ?_, rfl, ?_⟩)))
      · unfold ixN
        rw [if_neg (by omega), if_pos (by rw [List.length_map, List.length_append]; simp only [List.length_cons, List.length_nil]; omega)]
        congr 1
        rw [List.length_map, List.length_append]
        simp
        omega
      · have e2' : ((th ++ [a + gs.length]).map nI).set th.length (nI (a + (G ++ [((0, [a + gs.length], g.2.2) : Gt)]).length - 1)) = (th ++ [a + (gs.length + 1)]).map nI := by
          rw [← List.map_set, List.set_append_right _ _ (Nat.le_refl _), Nat.sub_self, List.length_append, hGl]
          rfl
        rw [e2', wS_th, if_pos rfl]
end K12

end
section
set_option maxRecDepth 100000
set_option maxHeartbeats 4000000
namespace K12
open PySem PySem.Spec PyProof.Rows L2 L3
theorem sum_wid : ∀ l : List (Str × Nat), (l.map fun x => (x.2 : Int)).sum = (wid l : Int)
  | [] => rfl
  | x :: l => by
    have ih := sum_wid l
    unfold wid at ih ⊢
    rw [List.map_cons, List.sum_cons, ih, List.map_cons, List.sum_cons]
    omega
theorem ahead_ok {l : List (Str × Nat)} {gs : List Gt} {os : List (Str × List Nat)} (hl : l.length < 1000) : d_law_ahead [netD l gs os] = .ok (nI (wid l)) := by
  have hz : sizeLine = 16777216 := sizeLine_eq
  unfold d_law_ahead
  refine fnD_ok ?_
  unfold F_law_ahead
  refine sRet_ok (eCall_ok (ds := [.lst ((l.map fun x => (x.2 : Int)).map .int)]) (aCons_ok (eNew_ok (nComp_ok (ds := l.map inD) (itL_ok (e2_ok (a := netD l gs os) (b := .int 0) rfl rfl rfl)) (by rw [List.length_map]; omega) ?_)) rfl) ?_)
  · rw [List.map_map]
    exact NT.compL_list _ _ fun x _ => ⟨[.val (.str x.1), .val (nI x.2)], rfl, rfl, rfl⟩
  · show (match ints? ((l.map fun x => (x.2 : Int)).map D.int) with | some ns => R.ok (D.int ns.sum) | none => .no) = _
    rw [L2.ints_map]
    show R.ok (D.int (l.map fun x => (x.2 : Int)).sum) = _
    rw [sum_wid]
    rfl
theorem rng_nI (n : Nat) : rngD 0 n = (List.range n).map nI := by
  unfold rngD
  refine List.map_congr_left fun i _ => ?_
  show D.int (0 + (i : Int)) = D.int (i : Int)
  rw [Int.zero_add]
section
variable {l : List (Str × Nat)} {gs : List Gt} {os : List (Str × List Nat)} {bits : List Bool} {t bad : List Nat}
theorem start_WI {a : Nat} {w0 : List Bool} (h0 : w0.length = a) : WI a w0 (fun n => rdW w0 n != ([] : List Nat).contains n) a [] (List.range a) := by
  refine ⟨List.length_range, fun i g h => by simp at h, fun z hz => by rw [List.mem_range] at hz; simp; omega, fun n hn => ?_⟩
  rw [List.getD_eq_getElem?_getD, List.getElem?_range hn]
  show rdW w0 n = _
  simp
theorem nots_ok {S : Sto} (N : NetOk l gs os bits) (hS : Flat S) (ht : t.length < 100) (hbl : bad.length ≤ 10) (hbw : ∀ w ∈ bad, w < wid l) (hg : gs.length ≤ 100) (hos : ∀ x ∈ os, x.2.length < 1000) {Q : V3 → Sto → Prop}
    (h : ∀ (gs' : List Gt) (th : List Nat), gs'.length < 1000 → WI (wid l) (inUp l bits [] l.length) (rdW (allW l gs bits (nZ t) (nZ bad))) (wid l + gs.length) gs' th → Q (.d (netD l gs' (os.map fun x : Str × List Nat => (x.1, x.2.map fun z => th.getD z 0)))) S) :
    W3 (dP_law_with_nots [.d (netD l gs os), .d (.tup (t.map nI)), .d (.tup (bad.map nI))] S) Q := by
  have hz : sizeLine = 16777216 := sizeLine_eq
  have hl := N.hi
  have hwl := wid_le N.hw
  have h0 : (inUp l bits [] l.length).length = wid l := wid_take N
  unfold dP_law_with_nots
  refine w_PnF (w_K rfl ?_)
  simp only [xStart, N_law_with_nots, List.map_cons, List.map_nil, List.length_cons, List.length_nil, List.replicate, List.cons_append, List.nil_append, Nat.reduceAdd, Nat.reduceSub]
  unfold F_law_with_nots
  refine w_seq <| w_set (by simp only [List.length_cons, List.length_nil, List.length_set]; omega) <| w_P (d := nI (wid l)) (eCall_ok (ds := [netD l gs os]) rfl (ahead_ok (by omega))) ⟨_, rfl, ?_⟩
  simp only [List.set_cons_succ, List.set_cons_zero]
  refine w_seq <| w_set (by simp only [List.length_cons, List.length_nil, List.length_set]; omega) <| w_new (ds := []) rfl ⟨_, rfl, ?_⟩
  simp only [List.set_cons_succ, List.set_cons_zero]
  refine w_seq <| w_set (by simp only [List.length_cons, List.length_nil, List.length_set]; omega) <| w_new (ds := (List.range (wid l)).map nI) ?_ ⟨_, rfl, ?_⟩
  · unfold nRng
    show (R.ok (nI (wid l))).bind _ = _
    rw [R.ok_bind]
    show R.when (decide (-(2 ^ 62) ≤ ((wid l : Nat) : Int) ∧ ((wid l : Nat) : Int) < 16777216)) (.ok (rngD 0 ((wid l : Nat) : Int).toNat)) = _
    rw [when_of _ ⟨by omega, by omega⟩, Int.toNat_natCast, rng_nI]
  simp only [List.set_cons_succ, List.set_cons_zero]
  have e0 : (S ++ [SO.lst []]) ++ [SO.lst ((List.range (wid l)).map nI)] = wS S [] (List.range (wid l)) := by unfold wS; rw [List.append_assoc]; rfl
  have l0 : (S ++ [SO.lst []]).length = S.length + 1 := by simp
  rw [e0, l0]
  refine w_seq <| w_for <| w_iP (ds := bad.map nI) rfl ?_
  refine (loopX_inv (fun i δ S2 => (∃ b6, δ = wE (netD l gs os) (.tup (t.map nI)) (.tup (bad.map nI)) (wid l) S.length b6 none none none none) ∧ ∃ gs' th, S2 = wS S gs' th ∧ gs'.length = i ∧ WI (wid l) (inUp l bits [] l.length) (fun n => rdW (inUp l bits [] l.length) n != (bad.take i).contains n) (wid l) gs' th)
    ⟨⟨_, rfl⟩, [], _, rfl, rfl, by rw [List.take_zero]; exact start_WI h0⟩ ?_).mono fun o S2 ⟨δ2, e, ⟨b6, hδ⟩, gs1, th1, hS1, hg1, W1⟩ => ⟨δ2, e, ?_⟩
  · rintro i v δ S2 hv ⟨⟨b6, rfl⟩, gs', th, rfl, hgl, W⟩
    obtain ⟨w, hw, rfl⟩ := NT.map_at hv
    have hil := (List.getElem?_eq_some_iff.mp hw).1
    have hww := hbw w (List.mem_of_getElem? hw)
    refine ⟨wE (netD l gs os) (.tup (t.map nI)) (.tup (bad.map nI)) (wid l) S.length (some (.d (nI w))) none none none none, rfl, ?_⟩
    refine (bad_step (by rw [W.len]; exact hww) (by omega)).mono fun o S3 ⟨e1, e2'⟩ => ⟨_, e1, ⟨_, rfl⟩, _, _, e2', by simp [hgl], ?_⟩
    rw [List.take_add_one, hw]
    refine W.bad h0 rfl hww ?_ fun n hn hne => ?_
    · simp
    · simp [hne]
  rw [List.length_map, List.length_map, List.take_length] at W1
  rw [List.length_map, List.length_map] at hg1
  subst hδ hS1
  have W1' : WI (wid l) (inUp l bits [] l.length) (rdW (gUp gs (nZ t) (inUp l bits (nZ bad) l.length) 0)) (wid l + 0) gs1 th1 := by
    refine ⟨W1.len, W1.ok, W1.lt, fun n hn => ?_⟩
    rw [W1.val n hn]
    show _ = rdW (inUp l bits (nZ bad) l.length) n
    rw [inUp_bad (bad := nZ bad) N.hb l.length (Nat.le_refl _) n (by rw [List.take_length]; omega), nZ_has]
  refine w_seq <| w_for <| w_iP (ds := enumD (gs.map gtD)) rfl ?_
  refine (loopX_inv (fun i δ S2 => (∃ b7 b8 b9 b10, δ = wE (netD l gs os) (.tup (t.map nI)) (.tup (bad.map nI)) (wid l) S.length b6 b7 b8 b9 b10) ∧ ∃ gs' th, S2 = wS S gs' th ∧ gs'.length ≤ bad.length + 2 * i ∧ WI (wid l) (inUp l bits [] l.length) (rdW (gUp gs (nZ t) (inUp l bits (nZ bad) l.length) i)) (wid l + i) gs' th)
    ⟨⟨_, _, _, _, rfl⟩, gs1, th1, rfl, by omega, W1'⟩ ?_).mono fun o S2 ⟨δ2, e, ⟨b7, b8, b9, b10, hδ⟩, gs2, th2, hS2, hg2, W2⟩ => ⟨δ2, e, ?_⟩
  · rintro i v δ S2 hv ⟨⟨b7, b8, b9, b10, rfl⟩, gs', th, rfl, hgl, W⟩
    obtain ⟨d, hd, rfl⟩ := enum_at hv
    obtain ⟨g, hgi, rfl⟩ := NT.map_atD hd
    have hil := (List.getElem?_eq_some_iff.mp hgi).1
    have G := N.g i g hgi
    have har := ar_le g.1
    have hthl := W.len
    have lw : (gUp gs (nZ t) (inUp l bits (nZ bad) l.length) i).length = wid l + i := by rw [gUp_len i (by omega)]; rw [show (inUp l bits (nZ bad) l.length).length = wid l from wid_take N]
    refine ⟨wE (netD l gs os) (.tup (t.map nI)) (.tup (bad.map nI)) (wid l) S.length b6 (some (.d (.int i))) (some (.d (.str (kS g.1)))) (some (.d (.tup (g.2.1.map nI)))) (some (.d (.bl g.2.2))), rfl, ?_⟩
    refine (turn_step (by omega) (fun z hz => by rw [hthl]; exact G.2.2 z hz) (by rw [G.2.1]; omega) (by omega)).mono fun o S3 ⟨e1, e2'⟩ => ⟨_, e1, ⟨_, _, _, _, rfl⟩, ?_⟩
    have step : gUp gs (nZ t) (inUp l bits (nZ bad) l.length) (i + 1) = gUp gs (nZ t) (inUp l bits (nZ bad) l.length) i ++ [gv g.1 (g.2.1.map (rdW (gUp gs (nZ t) (inUp l bits (nZ bad) l.length) i))) != t.contains i] := by
      conv => lhs; unfold gUp
      rw [hgi]
      show _ ++ [_ != (nZ t).contains (i : Int)] = _
      rw [nZ_has]
    rw [step]
    generalize gUp gs (nZ t) (inUp l bits (nZ bad) l.length) i = ws at W lw
    cases hc : t.contains i with
    | false =>
      rw [hc, if_neg (by decide)] at e2'
      refine ⟨_, _, e2', by rw [List.length_append]; simp; omega, ?_⟩
      refine W.gate h0 G ?_ fun n hn => ?_
      · rw [← lw, rdW_last]; simp
      · rw [rdW_app (by omega)]
    | true =>
      rw [hc, if_pos rfl] at e2'
      refine ⟨_, _, e2', by rw [List.length_append, List.length_append]; simp; omega, ?_⟩
      have Wg := W.gate (f' := fun n => if n = wid l + i then gv g.1 (g.2.1.map (rdW ws)) else rdW ws n) h0 G (by rw [if_pos rfl]) (fun n hn => by rw [if_neg (by omega)])
      have Wt := Wg.turn (b := g.2.2) (f' := rdW (ws ++ [gv g.1 (g.2.1.map (rdW ws)) != true])) h0 (by rw [if_pos rfl, ← lw, rdW_last]; simp) (fun n hn => by rw [if_neg (by omega), rdW_app (by omega)])
      rw [List.length_append] at Wt
      exact Wt
  have hlen : ((enumD (gs.map gtD)).map V3.d).length = gs.length := by simp [enumD]
  rw [hlen] at hg2 W2
  subst hδ hS2
  unfold wE
  have ea := wS_a S gs2 th2
  have eb := wS_b S gs2 th2
  have lS : (wS S gs2 th2).length = S.length + 2 := by unfold wS; simp
  have hO := N.ho
  refine w_ret <| w_tup <| w_cons <| w_P (d := .lst (l.map inD)) rfl <| w_cons <| w_var (v := .loc S.length) rfl <| w_cons <| w_newT (ds := (os.map fun x : Str × List Nat => (x.1, x.2.map fun z => th2.getD z 0)).map ouD) ?_ ?_ <| w_nil ⟨by simp; omega, _, rfl, ?_⟩
  · simp only [downT, List.map_cons, List.map_nil, res, ea, eb]
    refine nComp_ok (ds := os.map ouD) rfl (by rw [List.length_map]; omega) ?_
    rw [List.map_map]
    refine NT.compL_list _ _ fun x hx => ⟨[.val (.str x.1), .val (.tup (x.2.map nI)), .val (.lst (th2.map nI))], rfl, rfl, ?_⟩
    obtain ⟨o1, o2⟩ := N.o x hx
    refine eTup_ok (aCons_ok rfl (aCons_ok (eCall_ok (ds := [.lst ((x.2.map fun z => th2.getD z 0).map nI)]) (aCons_ok (eNew_ok (nComp_ok (ds := x.2.map nI) (itT_ok rfl) (by rw [List.length_map]; omega) ?_)) rfl) rfl) rfl)) (by simp; omega)
    rw [List.map_map]
    refine NT.compL_list _ _ fun z hzx => ⟨[.val (nI z), .val (.lst (th2.map nI))], rfl, rfl, e2_ok (a := .lst (th2.map nI)) (b := .int z) rfl rfl (NT.ixL_nat ?_)⟩
    have hlt : z < th2.length := by rw [W2.len]; exact o2 z hzx
    rw [List.getElem?_map, List.getElem?_eq_getElem hlt]
    show some (nI th2[z]) = some (nI (th2.getD z 0))
    rw [List.getD_eq_getElem?_getD, List.getElem?_eq_getElem hlt]
    rfl
  · have : ∀ l : List (Str × List Nat), tupDs (l.map ouD) = true := fun l => by
      induction l with
      | nil => unfold List.map tupDs; rfl
      | cons a l ih =>
        rw [List.map_cons]
        unfold tupDs
        rw [ih]
        have : tupD (ouD a) = true := by unfold ouD tupD tupDs tupDs tupDs; rw [tup_ints]; rfl
        rw [this]; rfl
    exact this _
  rw [lS]
  have hF : Flat (wS S gs2 th2) := by
    unfold wS
    rw [show S ++ [SO.lst (gs2.map gtD), SO.lst (th2.map nI)] = (S ++ [SO.lst (gs2.map gtD)]) ++ [SO.lst (th2.map nI)] by simp]
    exact (hS.push (flatL _)).push (flatL _)
  refine ⟨hF.push (flatL _), ?_, netD l gs2 (os.map fun x : Str × List Nat => (x.1, x.2.map fun z => th2.getD z 0)), ?_, ?_⟩
  · show geOk S.length (.tup [.d _, .loc S.length, .loc (S.length + 2)]) = true
    simp [geOk, gesOk]
  · show res _ (.tup [.d _, .loc S.length, .loc (S.length + 2)]) = _
    have q1 : (wS S gs2 th2 ++ [SO.lst ((os.map fun x : Str × List Nat => (x.1, x.2.map fun z => th2.getD z 0)).map ouD)])[S.length]? = some (.lst (gs2.map gtD)) := by rw [List.getElem?_append_left (by omega)]; exact ea
    have q2 : (wS S gs2 th2 ++ [SO.lst ((os.map fun x : Str × List Nat => (x.1, x.2.map fun z => th2.getD z 0)).map ouD)])[S.length + 2]? = some (.lst ((os.map fun x : Str × List Nat => (x.1, x.2.map fun z => th2.getD z 0)).map ouD)) := by rw [← lS]; exact get_last _ _
    generalize wS S gs2 th2 ++ [SO.lst ((os.map fun x : Str × List Nat => (x.1, x.2.map fun z => th2.getD z 0)).map ouD)] = U at q1 q2
    simp [res, ress, q1, q2, netD]
  · unfold wS
    rw [List.append_assoc, List.take_append_of_le_length (Nat.le_refl _), List.take_length]
    exact h gs2 th2 (by omega) W2
def moreS : Str := Str.ofString "moreins"
def shO (a : Nat) (x : Str × List Nat) : Str × List Nat := (x.1, x.2.map (sh a))
theorem sh_ok {δ : DEnv} {a z : Nat} (h0 : δ[0]? = some (.val (nI z))) (h1 : δ[1]? = some (.val (nI a))) : e2 dAdd (eVar 0) (e2 dMul (eC (.int 2)) (eCall cIntA (aCons (e2 dGe (eVar 0) (eVar 1)) aNil))) δ = .ok (nI (sh a z)) := by
  have g0 : eVar 0 δ = .ok (nI z) := by unfold eVar; rw [h0]
  have g1 : eVar 1 δ = .ok (nI a) := by unfold eVar; rw [h1]
  refine e2_ok (a := nI z) (b := nI (if a ≤ z then 2 else 0)) g0 (e2_ok (a := .int 2) (b := .int (if a ≤ z then 1 else 0)) rfl (eCall_ok (ds := [.bl (decide ((a : Int) ≤ (z : Int)))]) (aCons_ok (e2_ok g0 g1 rfl) rfl) ?_) ?_) ?_
  · show R.ok (D.int (if decide ((a : Int) ≤ (z : Int)) = true then 1 else 0)) = _
    congr 2
    by_cases q : a ≤ z
    · rw [if_pos q, if_pos (decide_eq_true (by omega))]
    · rw [if_neg q, if_neg (by rw [decide_eq_true_eq]; omega)]
  · by_cases q : a ≤ z
    · rw [if_pos q, if_pos q]; rfl
    · rw [if_neg q, if_neg q]; rfl
  · unfold sh
    rfl
theorem shs_ok {δ : DEnv} {a : Nat} {ws : List Nat} {own : List Str} {kp : List Nat} {f : FD} (hl : ws.length < 1000) (hf : f δ = .ok (.tup (ws.map nI))) (hc : cEnv own kp δ = [.un, .val (nI a)]) :
    eCall cTuple (aCons (eNew (nComp (itSeq f) (gNameD 0) cYes (e2 dAdd (eVar 0) (e2 dMul (eC (.int 2)) (eCall cIntA (aCons (e2 dGe (eVar 0) (eVar 1)) aNil)))) own kp)) aNil) δ = .ok (.tup ((ws.map (sh a)).map nI)) := by
  have hz : sizeLine = 16777216 := sizeLine_eq
  refine eCall_ok (ds := [.lst ((ws.map (sh a)).map nI)]) (aCons_ok (eNew_ok (nComp_ok (ds := ws.map nI) (itT_ok hf) (by rw [List.length_map]; omega) ?_)) rfl) rfl
  rw [hc, List.map_map]
  exact NT.compL_list _ _ fun z _ => ⟨[.val (nI z), .val (nI a)], rfl, rfl, sh_ok rfl rfl⟩
theorem more_ok (N : NetOk l gs os bits) : d_law_with_one_more [netD l gs os] = .ok (netD (l ++ [(moreS, 2)]) (gs.map (shG (wid l))) (os.map (shO (wid l)))) := by
  have hz : sizeLine = 16777216 := sizeLine_eq
  have hl := N.hi
  have hg := N.hg
  have hO := N.ho
  unfold d_law_with_one_more
  refine fnD_ok ?_
  unfold F_law_with_one_more
  refine sSeq_ok (sSet_ok (d := nI (wid l)) (eCall_ok (ds := [netD l gs os]) rfl (ahead_ok (by omega))) (by simp [dStart, N_law_with_one_more])) ?_
  refine sSeq_ok (sBld_ok (ds := []) rfl (by simp [dStart, N_law_with_one_more])) ?_
  obtain ⟨δ1, e1, a3, a4, a5, hδ1⟩ := loopD_inv (t := gTupD 3 (gConsD (gNameD 3) (gConsD (gNameD 4) (gConsD (gNameD 5) gNilD)))) (body := B_law_with_one_more_0) (ds := gs.map gtD)
    (fun i δ => ∃ a3 a4 a5, δ = [.val (netD l gs os), .val (nI (wid l)), .bld (((gs.take i).map (shG (wid l))).map gtD), a3, a4, a5, .un]) (δ := [.val (netD l gs os), .val (nI (wid l)), .bld [], .un, .un, .un, .un]) ⟨.un, .un, .un, by simp⟩ (by
      rintro i d δ hd ⟨a3, a4, a5, rfl⟩
      obtain ⟨g, hgi, rfl⟩ := NT.map_atD hd
      have G := N.g i g hgi
      have har := ar_le g.1
      have hil := (List.getElem?_eq_some_iff.mp hgi).1
      refine ⟨[.val (netD l gs os), .val (nI (wid l)), .bld (((gs.take (i + 1)).map (shG (wid l))).map gtD), .val (.str (kS g.1)), .val (.tup (g.2.1.map nI)), .val (.bl g.2.2), .un], ?_, ⟨_, _, _, rfl⟩⟩
      generalize hL : ((gs.take i).map (shG (wid l))).map gtD = L
      rw [show gTupD 3 (gConsD (gNameD 3) (gConsD (gNameD 4) (gConsD (gNameD 5) gNilD))) (gtD g) [.val (netD l gs os), .val (nI (wid l)), .bld L, a3, a4, a5, .un] = .ok [.val (netD l gs os), .val (nI (wid l)), .bld L, .val (.str (kS g.1)), .val (.tup (g.2.1.map nI)), .val (.bl g.2.2), .un] from rfl, R.ok_bind]
      unfold B_law_with_one_more_0
      have hLl : L.length < sizeLine := by rw [← hL, List.length_map, List.length_map, List.length_take]; omega
      rw [sApp_ok (d := gtD (shG (wid l) g)) (ds := L) (eTup_ok (aCons_ok rfl (aCons_ok (shs_ok (by rw [G.2.1]; omega) rfl rfl) (aCons_ok rfl rfl))) (by simp; omega)) rfl hLl, ← hL, List.take_add_one, hgi, List.map_append, List.map_append]
      rfl)
  refine sSeq_ok (sFor_ok (ds := gs.map gtD) rfl e1) ?_
  rw [List.length_map, List.take_length] at hδ1
  subst hδ1
  show sSeq _ _ [.val (netD l gs os), .val (nI (wid l)), .val (.lst ((gs.map (shG (wid l))).map gtD)), a3, a4, a5, .un] = _
  refine sSeq_ok (sSet_ok (d := .lst ((os.map (shO (wid l))).map ouD)) (eNew_ok (nComp_ok (ds := os.map ouD) rfl (by rw [List.length_map]; omega) ?_)) (by simp)) ?_
  · rw [show (os.map (shO (wid l))).map ouD = os.map (ouD ∘ shO (wid l)) by rw [List.map_map]]
    refine NT.compL_list ouD (ouD ∘ shO (wid l)) fun (x : Str × List Nat) hx => ⟨[.val (.str x.1), .val (.tup (x.2.map nI)), .val (nI (wid l))], rfl, rfl, ?_⟩
    exact eTup_ok (aCons_ok rfl (aCons_ok (shs_ok (N.o x hx).1 rfl rfl) rfl)) (by simp; omega)
  refine sRet_ok (eTup_ok (aCons_ok (e2_ok (a := .lst (l.map inD)) (b := .lst [inD (moreS, 2)]) (e2_ok (a := netD l gs os) (b := .int 0) rfl rfl rfl) (eNew_ok (nLst_ok (aCons_ok (eTup_ok rfl (by simp; omega)) rfl) (by simp; omega))) ?_) (aCons_ok rfl (aCons_ok rfl rfl))) (by simp; omega))
  rw [addL_ok (by rw [List.length_map]; simp; omega), List.map_append]
  rfl
end
end K12

end
section
set_option maxRecDepth 100000
set_option maxHeartbeats 4000000
namespace K12
open PySem PySem.Spec PyProof.Rows L2 L3
theorem cut_map (ns : List Int) (lo hi : Option Int) : L2.cutD (ns.map D.int) lo hi = (L2.cutD ns lo hi).map D.int := by
  unfold L2.cutD
  rw [List.length_map, List.map_take, List.map_drop]
theorem cut_len {α : Type} (ns : List α) (lo hi : Option Int) : (L2.cutD ns lo hi).length ≤ ns.length := by
  unfold L2.cutD
  rw [List.length_take, List.length_drop]; omega
theorem bits_draw {S : Sto} {k c : Nat} {δ : DE} {own : List Str} {kp : List Nat} {it : FA} {Q : V3 → Sto → Prop} (hc : c < 1000) (hkp : cEnvX own kp δ = [none, some (.loc k)]) (hit : W3 (it δ S) fun vs S1 => vs = (rngD 0 c).map .d ∧ Ev k S S1)
    (h : ∀ (bits : List Bool) S1, bits.length = c → Ev k S S1 → Q (.d (.lst (bits.map bI))) S1) : W3 (xComp it (gNm 0) bYes (xCall dP_law_take (xCons (xVar 1) (xCons (xP (eC (.int 2))) xNil))) own kp δ S) Q := by
  have hz : sizeLine = 16777216 := sizeLine_eq
  refine w_compD (fun j ds S2 => Ev k S S2 ∧ ∃ bits : List Bool, ds = bits.map bI ∧ bits.length = j) (hit.mono fun vs S1 ⟨e, v1⟩ => ?_)
  subst e
  have hlen : ((rngD 0 c).map V3.d).length = c := by simp [rngD]
  rw [hlen]
  refine ⟨by omega, ⟨v1, [], rfl, rfl⟩, ?_, ?_⟩
  · rintro j v ds S2 _ ⟨v2, bits, rfl, hl⟩
    rw [hkp]
    refine ⟨[some v, some (.loc k)], rfl, w_yes ?_⟩
    rw [if_pos rfl]
    refine draw rfl v2.p rfl (by omega) (by omega) fun r S3 h1 h2 v3 => ⟨.int r, rfl, v2.trans v3, bits ++ [decide (r = 1)], ?_, by simp [hl]⟩
    rw [List.map_append]
    congr 1
    have : r = 0 ∨ r = 1 := by omega
    rcases this with rfl | rfl <;> rfl
  · rintro ds S2 ⟨v2, bits, rfl, hl⟩
    exact h bits S2 hl v2
theorem fit_ans (l : List (Str × Nat)) (gs : List Gt) (os : List (Str × List Nat)) (bits : List Bool) (t b : List Int) : Fit 2 (.lst (ansD l gs os bits t b)) :=
  Fit.lst fun d hd => by
    obtain ⟨x, _, rfl⟩ := List.mem_map.mp hd
    exact Fit.tup fun e he => by
      obtain ⟨y, _, rfl⟩ := List.mem_map.mp he
      unfold bI
      exact (Fit.int _)
theorem ne_ans {l l' : List (Str × Nat)} {gs gs' : List Gt} {os os' : List (Str × List Nat)} {bits bits' : List Bool} {t t' b b' : List Int} (h : ansD l' gs' os' bits' t' b' = ansD l gs os bits t b) : dNe (.lst (ansD l' gs' os' bits' t' b')) (.lst (ansD l gs os bits t b)) = .ok (.bl false) := by
  rw [h]; unfold dNe; rw [(fit_ans l gs os bits t b).eqL (by omega)]; rfl
/-! the answers compared -/
section
variable {l : List (Str × Nat)} {gs : List Gt} {os : List (Str × List Nat)} {bits : List Bool} {t bad : List Nat}
theorem ans_nots {gs' : List Gt} {th : List Nat} (N : NetOk l gs os bits) (W : WI (wid l) (inUp l bits [] l.length) (rdW (allW l gs bits (nZ t) (nZ bad))) (wid l + gs.length) gs' th) :
    ansD l gs' (os.map fun x : Str × List Nat => (x.1, x.2.map fun z => th.getD z 0)) bits [] [] = ansD l gs os bits (nZ t) (nZ bad) := by
  unfold ansD
  rw [List.map_map]
  refine List.map_congr_left fun x hx => ?_
  show D.tup ((x.2.map fun z => th.getD z 0).map fun n => bI (rdW (allW l gs' bits [] []) n)) = _
  rw [List.map_map]
  congr 1
  refine List.map_congr_left fun z hz => ?_
  show bI (rdW (cur (inUp l bits [] l.length) gs') (th.getD z 0)) = _
  rw [W.val z ((N.o x hx).2 z hz)]
theorem nots_Ok {gs' : List Gt} {th : List Nat} (N : NetOk l gs os bits) (hg : gs'.length < 1000) (W : WI (wid l) (inUp l bits [] l.length) (rdW (allW l gs bits (nZ t) (nZ bad))) (wid l + gs.length) gs' th) : NetOk l gs' (os.map fun x : Str × List Nat => (x.1, x.2.map fun z => th.getD z 0)) bits := by
  refine ⟨N.hb, N.hi, N.hw, hg, W.ok, by rw [List.length_map]; exact N.ho, fun x hx => ?_⟩
  obtain ⟨y, hy, rfl⟩ := List.mem_map.mp hx
  refine ⟨by rw [List.length_map]; exact (N.o y hy).1, fun w hw => ?_⟩
  obtain ⟨z, hz, rfl⟩ := List.mem_map.mp hw
  exact W.lt _ (getD_in (by rw [W.len]; exact (N.o y hy).2 z hz))
def idle (gs : List Gt) : List Gt := gs ++ [(0, [0], false)]
theorem idle_Ok (N : NetOk l gs os bits) (h1 : 1 ≤ wid l) (hg : gs.length < 900) : NetOk l (idle gs) os bits := by
  refine ⟨N.hb, N.hi, N.hw, by unfold idle; rw [List.length_append]; simp; omega, ?_, N.ho, fun x hx => ⟨(N.o x hx).1, fun w hw => ?_⟩⟩
  · exact ok_add N.g ⟨by omega, rfl, fun z hz => by rw [List.mem_singleton] at hz; omega⟩
  · have := (N.o x hx).2 w hw
    unfold idle
    rw [List.length_append]
    omega
theorem ans_idle {ti : List Int} (N : NetOk l gs os bits) (ht : ∀ j, j < gs.length → ti.contains (j : Int) = (nZ t).contains (j : Int)) : ansD l (idle gs) os bits ti (nZ bad) = ansD l gs os bits (nZ t) (nZ bad) := by
  unfold ansD
  refine List.map_congr_left fun x hx => ?_
  congr 1
  refine List.map_congr_left fun z hz => ?_
  have hl := allW_len (turned := nZ t) (bad := nZ bad) N
  have hzl := (N.o x hx).2 z hz
  congr 1
  show rdW (gUp (gs ++ [(0, [0], false)]) ti (inUp l bits (nZ bad) l.length) (gs ++ [((0, [0], false) : Gt)]).length) z = _
  rw [gUp_one]
  have e : gUp gs ti (inUp l bits (nZ bad) l.length) gs.length = allW l gs bits (nZ t) (nZ bad) := by
    have := gUp_app (hs := []) (w0 := inUp l bits (nZ bad) l.length) ht gs.length (Nat.le_refl _)
    rw [List.append_nil] at this
    exact this
  rw [e, rdW_app (by omega)]
theorem wid_more (l : List (Str × Nat)) : wid (l ++ [(moreS, 2)]) = wid l + 2 := by unfold wid; simp
theorem sh_lt {a n m : Nat} (h : n < a + m) : sh a n < a + 2 + m := by unfold sh; split <;> omega
theorem more_Ok {b : Bool} (N : NetOk l gs os bits) (hl : l.length < 90) : NetOk (l ++ [(moreS, 2)]) (gs.map (shG (wid l))) (os.map (shO (wid l))) (bits ++ [b]) := by
  refine ⟨by simp [N.hb], by simp; omega, fun x hx => ?_, by rw [List.length_map]; exact N.hg, fun i g hg => ?_, by rw [List.length_map]; exact N.ho, fun x hx => ?_⟩
  · rcases List.mem_append.mp hx with q | q
    · exact N.hw x q
    · rw [List.mem_singleton.mp q]; exact (by omega : 2 < 100)
  · rw [List.getElem?_map] at hg
    cases q : gs[i]? with
    | none => rw [q] at hg; cases hg
    | some g0 =>
      rw [q] at hg
      cases hg
      have G := N.g i g0 q
      refine ⟨G.1, by show (g0.2.1.map _).length = _; rw [List.length_map]; exact G.2.1, fun z hz => ?_⟩
      obtain ⟨y, hy, rfl⟩ := List.mem_map.mp hz
      rw [wid_more]
      exact sh_lt (G.2.2 y hy)
  · obtain ⟨y, hy, rfl⟩ := List.mem_map.mp hx
    refine ⟨by show (y.2.map _).length < _; rw [List.length_map]; exact (N.o y hy).1, fun w hw => ?_⟩
    obtain ⟨z, hz, rfl⟩ := List.mem_map.mp hw
    rw [wid_more, List.length_map]
    exact sh_lt ((N.o y hy).2 z hz)
theorem ans_more {b : Bool} (N : NetOk l gs os bits) : ansD (l ++ [(moreS, 2)]) (gs.map (shG (wid l))) (os.map (shO (wid l))) (bits ++ [b]) (nZ t) (nZ bad) = ansD l gs os bits (nZ t) (nZ bad) := by
  unfold ansD
  rw [List.map_map]
  refine List.map_congr_left fun x hx => ?_
  show D.tup ((x.2.map (sh (wid l))).map _) = _
  rw [List.map_map]
  congr 1
  refine List.map_congr_left fun z hz => ?_
  show bI (rdW (allW (l ++ [(moreS, 2)]) (gs.map (shG (wid l))) (bits ++ [b]) (nZ t) (nZ bad)) (sh (wid l) z)) = _
  congr 1
  unfold allW
  rw [inUp_more N.hb, List.length_map]
  have h0 : (inUp l bits (nZ bad) l.length).length = wid l := wid_take N
  exact gUp_sh h0 (by rw [inRow_len, h0]) (fun n hn => inRow_pre _ _ _ _ n (by omega)) N.g gs.length (Nat.le_refl _) z ((N.o x hx).2 z hz)
theorem rev_Ok (N : NetOk l gs os bits) : NetOk l gs os.reverse bits := ⟨N.hb, N.hi, N.hw, N.hg, N.g, by rw [List.length_reverse]; exact N.ho, fun x hx => N.o x (List.mem_reverse.mp hx)⟩
theorem ans_rev {ti bi : List Int} : ansD l gs os.reverse bits ti bi = (ansD l gs os bits ti bi).reverse := by
  unfold ansD
  rw [List.map_reverse]
end
end K12

end
section
set_option maxRecDepth 100000
set_option maxHeartbeats 4000000
namespace K12
open PySem PySem.Spec PyProof.Rows L2 L3
theorem addXL {ds es : List D} (h : ds.length + es.length ≤ sizeLine) : dAddX (.lst ds) (.lst es) = .ok (.lst (ds ++ es)) := addL_ok h
theorem addXT {ds es : List D} (h : ds.length + es.length ≤ sizeLine) : dAddX (.tup ds) (.tup es) = .ok (.tup (ds ++ es)) := when_of _ h
theorem w_or {f g : FB} {δ : DE} {S : Sto} {Q : Bool → Sto → Prop} (h : W3 (f δ S) fun b S1 => if b then Q true S1 else W3 (g δ S1) Q) : W3 (yOr f g δ S) Q :=
  W3.bind (h.mono fun b S1 q => by cases b with | true => exact W3.ok q | false => exact q)
def lE (sc cells nt iD gD oD idD : D) (k : Nat) (a3 a9 a10 a11 a12 a13 : Option V3) : DE := [some (.d sc), some (.loc k), some (.d cells), a3, some (.d nt), some (.d iD), some (.d gD), some (.d oD), some (.d idD), a9, a10, a11, a12, a13]
theorem turn_law {sc cells : D} {l : List (Str × Nat)} {gs : List Gt} {os : List (Str × List Nat)} {k : Nat} {a3 a9 a10 a11 a12 a13 : Option V3} {S : Sto} (N : ∀ bits : List Bool, bits.length = l.length → NetOk l gs os bits) (hl : l.length ≤ 6) (hw1 : 1 ≤ wid l) (hg1 : 1 ≤ gs.length) (hg : gs.length ≤ 100) (p : Pot k S) :
    W3 (B_law_1 (lE sc cells (netD l gs os) (.lst (l.map inD)) (.lst (gs.map gtD)) (.lst (os.map ouD)) (netD l (idle gs) os) k a3 a9 a10 a11 a12 a13) S) fun o S1 => ∃ δ2, o = .nx δ2 ∧ (∃ b10 b11 b12 b13, δ2 = lE sc cells (netD l gs os) (.lst (l.map inD)) (.lst (gs.map gtD)) (.lst (os.map ouD)) (netD l (idle gs) os) k a3 a9 b10 b11 b12 b13) ∧ Pot k S1 := by
  have hz : sizeLine = 16777216 := sizeLine_eq
  have hk := p.lt
  unfold B_law_1 lE
  refine w_seq <| w_set (by simp only [List.length_cons, List.length_nil, List.length_set]; omega) <| w_callB <| w_cons <| bits_draw (k := k) (c := l.length) (by omega) rfl (w_iP (rng1_ok (n := l.length) (eCall_ok (ds := [.lst (l.map inD)]) rfl (by rw [lenL, List.length_map])) (by omega)) ⟨rfl, Ev.refl p⟩) fun bits S2 hb v2 => w_nil ⟨[.lst (bits.map bI)], .tup (bits.map bI), rfl, rfl, _, rfl, ?_⟩
  simp only [List.set_cons_succ, List.set_cons_zero]
  have NB := N bits hb
  have hwd := wid_le NB.hw
  refine w_seq <| w_set (by simp only [List.length_cons, List.length_nil, List.length_set]; omega) <| w_call <| w_cons <| w_var (v := .loc k) rfl <| w_cons <| w_P (d := nI gs.length) (eCall_ok (ds := [.lst (gs.map gtD)]) rfl (by rw [lenL, List.length_map]; rfl)) <| w_cons <| w_P (d := .int 4) rfl <| w_nil <| some_draw (n := gs.length) (t := 4) v2.p (by omega) (by omega) (by omega) fun t S3 ht1 ht2 v3 => ⟨_, rfl, ?_⟩
  simp only [List.set_cons_succ, List.set_cons_zero]
  refine w_seq <| w_set (by simp only [List.length_cons, List.length_nil, List.length_set]; omega) <| w_call <| w_cons <| w_var (v := .loc k) rfl <| w_cons <| w_P (d := nI (wid l)) (eCall_ok (ds := [netD l gs os]) rfl (ahead_ok (by omega))) <| w_cons <| w_P (d := .int 3) rfl <| w_nil <| some_draw (n := wid l) (t := 3) v3.p (by omega) (by omega) (by omega) fun bad S4 hb1 hb2 v4 => ⟨_, rfl, ?_⟩
  simp only [List.set_cons_succ, List.set_cons_zero]
  rw [← nZ_D t, ← nZ_D bad]
  refine w_seq <| w_set (by simp only [List.length_cons, List.length_nil, List.length_set]; omega) <| w_call <| w_cons <| w_P (d := netD l gs os) rfl <| w_cons <| w_P (d := .tup (bits.map bI)) rfl <| w_cons <| w_P (d := .tup ((nZ t).map .int)) rfl <| w_cons <| w_P (d := .tup ((nZ bad).map .int)) rfl <| w_nil <| run_P NB v4.p.1 ⟨_, rfl, ?_⟩
  simp only [List.set_cons_succ, List.set_cons_zero]
  -- the nots
  refine w_seq <| w_if <| w_b2 <| w_call <| w_cons <| w_call <| w_cons <| w_P (d := netD l gs os) rfl <| w_cons <| w_P (d := .tup ((nZ t).map .int)) rfl <| w_cons <| w_P (d := .tup ((nZ bad).map .int)) rfl <| w_nil ?_
  rw [nZ_D, nZ_D]
  refine nots_ok (t := t) (bad := bad) NB v4.p.1 (by omega) (by omega) hb2 hg (fun x hx => (NB.o x hx).1) fun gs' th hgl W => ?_
  refine w_cons <| w_P (d := .tup (bits.map bI)) rfl <| w_cons <| w_P (d := .tup (([] : List Int).map .int)) rfl <| w_cons <| w_P (d := .tup (([] : List Int).map .int)) rfl <| w_nil <| run_P (nots_Ok NB hgl W) v4.p.1 ?_
  refine w_P (d := .lst (ansD l gs os bits (nZ t) (nZ bad))) rfl ⟨_, _, false, rfl, rfl, ne_ans (ans_nots NB W), ?_⟩
  rw [if_neg (by decide)]
  refine w_znil ⟨_, rfl, ?_⟩
  -- the idle gate
  have NI := idle_Ok NB hw1 (by omega)
  rw [← nZ_D t, ← nZ_D bad]
  refine w_seq <| w_if <| w_or <| w_b2 <| w_call <| w_cons <| w_P (d := netD l (idle gs) os) rfl <| w_cons <| w_P (d := .tup (bits.map bI)) rfl <| w_cons <| w_P (d := .tup ((nZ t).map .int)) rfl <| w_cons <| w_P (d := .tup ((nZ bad).map .int)) rfl <| w_nil <| run_P NI v4.p.1 ?_
  refine w_P (d := .lst (ansD l gs os bits (nZ t) (nZ bad))) rfl ⟨_, _, false, rfl, rfl, ne_ans (ans_idle NB fun _ _ => rfl), ?_⟩
  rw [if_neg (by decide)]
  have ht3 : (nZ t ++ [(gs.length : Int)]).map D.int = (nZ t).map D.int ++ [.int gs.length] := by rw [List.map_append]; rfl
  refine w_b2 <| w_call <| w_cons <| w_P (d := netD l (idle gs) os) rfl <| w_cons <| w_P (d := .tup (bits.map bI)) rfl <| w_cons <| w_P (d := .tup ((nZ t ++ [(gs.length : Int)]).map .int)) ?_ <| w_cons <| w_P (d := .tup ((nZ bad).map .int)) rfl <| w_nil <| run_P NI v4.p.1 ?_
  · rw [ht3]
    refine e2_ok (a := .tup ((nZ t).map .int)) (b := .tup [.int gs.length]) rfl (eTup_ok (aCons_ok (eCall_ok (ds := [.lst (gs.map gtD)]) rfl (by rw [lenL, List.length_map])) rfl) (by simp; omega)) (addXT ?_)
    rw [nZ_D, List.length_map]; simp; omega
  refine w_P (d := .lst (ansD l gs os bits (nZ t) (nZ bad))) rfl ⟨_, _, false, rfl, rfl, ne_ans (ans_idle NB fun j hj => ?_), ?_⟩
  · rw [Bool.eq_iff_iff]
    simp only [List.contains_iff_mem, List.mem_append, List.mem_singleton]
    exact ⟨fun q => q.elim id (fun e => by omega), Or.inl⟩
  rw [if_neg (by decide)]
  refine w_znil ⟨_, rfl, ?_⟩
  -- one in more
  refine w_seq <| w_if <| w_b2 <| w_call <| w_cons <| w_P (d := netD (l ++ [(moreS, 2)]) (gs.map (shG (wid l))) (os.map (shO (wid l)))) (eCall_ok (ds := [netD l gs os]) rfl (more_ok NB)) <| w_cons <| w_2 <| w_P (d := .tup (bits.map bI)) rfl <| w_tup <| w_cons <| draw (k := k) rfl v4.p rfl (by omega) (by omega) fun r S5 h1 h2 v5 => w_nil ⟨by simp; omega, ?_⟩
  have hr : (D.int r) = bI (decide (r = 1)) := by
    have : r = 0 ∨ r = 1 := by omega
    rcases this with rfl | rfl <;> rfl
  refine ⟨.tup (bits.map bI), .tup [.int r], .tup ((bits ++ [decide (r = 1)]).map bI), rfl, rfl, ?_, ?_⟩
  · rw [hr, List.map_append]
    exact addXT (by rw [List.length_map]; simp; omega)
  refine w_cons <| w_P (d := .tup ((nZ t).map .int)) rfl <| w_cons <| w_P (d := .tup ((nZ bad).map .int)) rfl <| w_nil <| run_P (more_Ok NB (by omega)) v5.p.1 ?_
  refine w_P (d := .lst (ansD l gs os bits (nZ t) (nZ bad))) rfl ⟨_, _, false, rfl, rfl, ne_ans (ans_more NB), ?_⟩
  rw [if_neg (by decide)]
  refine w_znil ⟨_, rfl, ?_⟩
  -- the outs turned round
  refine w_if <| w_b2 <| w_call <| w_cons <| w_P (d := netD l gs os.reverse) ?_ <| w_cons <| w_P (d := .tup (bits.map bI)) rfl <| w_cons <| w_P (d := .tup ((nZ t).map .int)) rfl <| w_cons <| w_P (d := .tup ((nZ bad).map .int)) rfl <| w_nil <| run_P (rev_Ok NB) v5.p.1 ?_
  · refine eTup_ok (aCons_ok rfl (aCons_ok rfl (aCons_ok ?_ rfl))) (by simp; omega)
    show eRev (eVar 7) _ = .ok (.lst (os.reverse.map ouD))
    rw [List.map_reverse]
    rfl
  refine w_P (d := .lst (ansD l gs os.reverse bits (nZ t) (nZ bad))) ?_ ⟨_, _, false, rfl, rfl, ne_ans rfl, ?_⟩
  · rw [ans_rev]; rfl
  rw [if_neg (by decide)]
  exact w_znil ⟨_, rfl, ⟨_, _, _, _, rfl⟩, v5.p⟩
theorem big_log : (10000000000000000000000000000000000000000 : Int).natAbs.log2 < 9000 := by decide +kernel
theorem law_true (ns : List Int) (hns : ns.length ≤ 63) : d_law [.lst (ns.map D.int)] = .ok (.bl true) := by
  have hz : sizeLine = 16777216 := sizeLine_eq
  have key : W3 (fnP N_law F_law [.d (.lst (ns.map .int))] []) fun v S1 => v = .d (.bl true) ∧ S1 = [] := by
    refine w_PnF (w_K rfl ?_)
    simp only [xStart, N_law, List.map_cons, List.map_nil, List.length_cons, List.length_nil, List.replicate, List.cons_append, List.nil_append, Nat.reduceAdd, Nat.reduceSub]
    unfold F_law
    obtain ⟨c0, ec0⟩ := cell_ok ns 0
    obtain ⟨c1, ec1⟩ := cell_ok ns 1
    refine w_seq <| w_set (by simp only [List.length_cons, List.length_nil, List.length_set]; omega) <| w_call <| w_cons <| w_P (d := .int c0) (eCall_ok (ds := [.lst (ns.map .int), .int 0]) rfl ec0) <| w_nil <| reel_ok c0 Flat.nil fun S1 p1 l1 _ => ⟨_, rfl, ?_⟩
    simp only [List.set_cons_succ, List.set_cons_zero]
    simp only [List.length_nil] at p1 l1 ⊢
    refine w_seq <| w_set (by simp only [List.length_cons, List.length_nil, List.length_set]; omega) <| w_P (d := .lst ((L2.cutD ns (some 2) (some 26)).map .int)) ?_ ⟨_, rfl, ?_⟩
    · refine eSl_ok (d := .lst (ns.map .int)) (lo := some 2) (hi := some 26) rfl rfl rfl ?_
      show R.ok (D.lst (L2.cutD (ns.map D.int) (some 2) (some 26))) = _
      rw [cut_map]
    simp only [List.set_cons_succ, List.set_cons_zero]
    have hcl := cut_len ns (some 2) (some 26)
    generalize L2.cutD ns (some 2) (some 26) = cs at hcl
    refine w_seq <| w_for <| w_iP (ds := rngD 0 (2 - (cs.length : Int)).toNat) ?_ ?_
    · have e : e2 dSub (eC (.int 2)) (eCall cLen (aCons (eVar 2) aNil)) (down [some (.d (.lst (ns.map .int))), some (.loc 0), some (.d (.lst (cs.map .int))), none, none, none, none, none, none, none, none, none, none, none]) = .ok (.int (2 - (cs.length : Int))) :=
        e2_ok (a := .int 2) (b := .int cs.length) rfl (eCall_ok (ds := [.lst (cs.map .int)]) rfl (by rw [lenL, List.length_map])) rfl
      unfold itRng1
      rw [e, R.ok_bind]
      show R.when (decide (-(2 ^ 62) ≤ 2 - (cs.length : Int) ∧ 2 - (cs.length : Int) < 2 ^ 62)) _ = _
      rw [when_of _ ⟨by omega, by omega⟩]
    refine (loopX_inv (fun i δ S2 => Pot 0 S2 ∧ ∃ (ds : List Int) (a3 : Option V3), ds.length = cs.length + i ∧ δ = [some (.d (.lst (ns.map .int))), some (.loc 0), some (.d (.lst (ds.map .int))), a3, none, none, none, none, none, none, none, none, none, none])
      ⟨p1, cs, none, rfl, rfl⟩ ?_).mono fun o S2 ⟨δ2, e2', p2, ds, a3, hds, hδ⟩ => ⟨δ2, e2', ?_⟩
    · rintro i v δ S2 hv ⟨p2, ds, a3, hds, rfl⟩
      have hi : i < 4 := by
        have := (List.getElem?_eq_some_iff.mp hv).1
        rw [List.length_map, rngD, List.length_map, List.length_range] at this
        omega
      refine ⟨_, rfl, ?_⟩
      unfold B_law_0
      refine w_set (by simp only [List.length_cons, List.length_nil, List.length_set]; omega) <| w_2 <| w_P (d := .lst (ds.map .int)) rfl <| w_lst <| w_cons <| w_call <| w_cons <| w_var (v := .loc 0) rfl <| w_cons <| w_P (d := .int 10000000000000000000000000000000000000000) ?_ <| w_nil <| take_ok p2 (by omega) big_log fun r S3 h1 h2 v3 => w_nil ⟨by simp; omega, _, _, .lst ((ds ++ [r]).map .int), rfl, rfl, ?_, _, rfl, v3.p, ds ++ [r], some v, by simp [hds]; omega, rfl⟩
      · exact rfl
      · rw [List.map_append]
        exact addXL (by rw [List.length_map]; simp; omega)
    have hdl : ds.length ≤ 66 ∧ 2 ≤ ds.length := by
      rw [List.length_map, rngD, List.length_map, List.length_range] at hds
      omega
    subst hδ
    refine w_seq <| w_set (by simp only [List.length_cons, List.length_nil, List.length_set]; omega) <| w_call <| w_cons <| w_var (v := .loc 0) rfl <| w_cons <| w_P (d := .lst (ds.map .int)) rfl <| w_cons <| w_P (d := .int 5) rfl <| w_cons <| w_P (d := .int 1) rfl <| w_nil <| net_draw p2 (by omega) fun l gs os S4 hlw hl1 hl6 hgl hgs hol hos v4 => ⟨_, rfl, ?_⟩
    simp only [List.set_cons_succ, List.set_cons_zero]
    have N : ∀ bits : List Bool, bits.length = l.length → NetOk l gs os bits := fun bits hb => ⟨hb, by omega, fun x hx => by have := hlw x hx; omega, by omega, hgs, by omega, hos⟩
    refine w_seq <| w_asg <| w_P (d := netD l gs os) rfl ⟨[some (.d (.lst (ns.map .int))), some (.loc 0), some (.d (.lst (ds.map .int))), a3, some (.d (netD l gs os)), some (.d (.lst (l.map inD))), some (.d (.lst (gs.map gtD))), some (.d (.lst (os.map ouD))), none, none, none, none, none, none], rfl, _, rfl, ?_⟩
    refine w_seq <| w_set (by simp only [List.length_cons, List.length_nil, List.length_set]; omega) <| w_call <| w_cons <| w_P (d := .int c1) (eCall_ok (ds := [.lst (ns.map .int), .int 1]) rfl ec1) <| w_nil <| reel_ok c1 v4.p.1 fun S5 p5 l5 _ => ⟨_, rfl, ?_⟩
    simp only [List.set_cons_succ, List.set_cons_zero]
    refine w_seq <| w_set (by simp only [List.length_cons, List.length_nil, List.length_set]; omega) <| w_P (d := netD l (idle gs) os) ?_ ⟨_, rfl, ?_⟩
    · refine eTup_ok (aCons_ok rfl (aCons_ok (e2_ok (a := .lst (gs.map gtD)) (b := .lst [gtD (0, [0], false)]) rfl (eNew_ok (nLst_ok (aCons_ok (eTup_ok (aCons_ok rfl (aCons_ok (eTup_ok rfl (by simp; omega)) rfl)) (by simp; omega)) rfl) (by simp; omega))) ?_) (aCons_ok rfl rfl))) (by simp; omega)
      rw [addXL (by rw [List.length_map]; simp; omega)]
      unfold idle
      rw [List.map_append]
      rfl
    simp only [List.set_cons_succ, List.set_cons_zero]
    have hwid : 1 ≤ wid l := by
      cases l with
      | nil => simp at hl1
      | cons x l => have := hlw x List.mem_cons_self; unfold wid; rw [List.map_cons, List.sum_cons]; omega
    refine w_seq <| w_for <| w_iP (rng1_ok (n := 3) rfl (by omega)) ?_
    refine (loopX_inv (fun i δ S6 => (∃ a9 b10 b11 b12 b13, δ = lE (.lst (ns.map .int)) (.lst (ds.map .int)) (netD l gs os) (.lst (l.map inD)) (.lst (gs.map gtD)) (.lst (os.map ouD)) (netD l (idle gs) os) S4.length a3 a9 b10 b11 b12 b13) ∧ Pot S4.length S6) ⟨⟨_, _, _, _, _, rfl⟩, p5⟩ ?_).mono fun o S6 ⟨δ6, e6, ⟨a9, b10, b11, b12, b13, hδ⟩, p6⟩ => ⟨δ6, e6, ?_⟩
    · rintro i v δ S6 hv ⟨⟨a9, b10, b11, b12, b13, rfl⟩, p6⟩
      refine ⟨lE (.lst (ns.map .int)) (.lst (ds.map .int)) (netD l gs os) (.lst (l.map inD)) (.lst (gs.map gtD)) (.lst (os.map ouD)) (netD l (idle gs) os) S4.length a3 (some v) b10 b11 b12 b13, rfl, ?_⟩
      exact (turn_law N hl6 hwid (by omega) (by omega) p6).mono fun o S7 ⟨δ7, e7, ⟨c10, c11, c12, c13, h7⟩, p7⟩ => ⟨δ7, e7, ⟨_, c10, c11, c12, c13, h7⟩, p7⟩
    subst hδ
    unfold lE
    refine w_ret (w_P (d := .bl true) rfl ⟨_, rfl, p6.1, by unfold geOk; rfl, .bl true, by unfold res; rfl, rfl, rfl⟩)
  obtain ⟨v, S1, e, rfl, rfl⟩ := key
  unfold d_law fnL
  simp only [List.map_cons, List.map_nil]
  rw [e]
  rfl
end K12

end
open PySem PySem.W PyProof.Rows
set_option maxRecDepth 100000 in
set_option maxHeartbeats 0 in
theorem PySem.Challenge.cw_bearfaults_k12_whole_turned_is_a_not_holds : PySem.Challenge.rw_bearfaults_k12_whole_turned_is_a_not.Holds := by
  w_on; o_law; k_head; (case hw => w_witness2)
  k_fill
  refine L2.walkL (l := PySem.Challenge.rw_bearfaults_k12_whole_turned_is_a_not) (n := 63) (k := 5) (x := Str.ofString "script") (g := K12.d_law) rfl (by decide) rfl ⟨rfl, by decide, by decide⟩ (fun w h Y => PySem.W.kIn_of Y) ?F K12.law_true
  case F =>
    intro w mg fa h KX G hmg
    have D_vote_of : L2.Def (L2.KOf KX) mg (Str.ofString "vote_of") K12.s_vote_of := by
      dsimp only [L2.KOf]
      refine' L2.def_mk KX G ?a ?l ?c ?k
      (case a => k_is); (case l => k_is); (case c => k_is); (case k => k_is)
    have D_gate_mask : L2.Def (L2.KOf KX) mg (Str.ofString "gate_mask") K12.s_gate_mask := by
      dsimp only [L2.KOf]
      refine' L2.def_mk KX G ?a ?l ?c ?k
      (case a => k_is); (case l => k_is); (case c => k_is); (case k => k_is)
    have D_in_wire_masks : L2.Def (L2.KOf KX) mg (Str.ofString "in_wire_masks") K12.s_in_wire_masks := by
      dsimp only [L2.KOf]
      refine' L2.def_mk KX G ?a ?l ?c ?k
      (case a => k_is); (case l => k_is); (case c => k_is); (case k => k_is)
    have D_masks_at : L2.Def (L2.KOf KX) mg (Str.ofString "masks_at") K12.s_masks_at := by
      dsimp only [L2.KOf]
      refine' L2.def_mk KX G ?a ?l ?c ?k
      (case a => k_is); (case l => k_is); (case c => k_is); (case k => k_is)
    have D_wire_masks : L2.Def (L2.KOf KX) mg (Str.ofString "wire_masks") K12.s_wire_masks := by
      dsimp only [L2.KOf]
      refine' L2.def_mk KX G ?a ?l ?c ?k
      (case a => k_is); (case l => k_is); (case c => k_is); (case k => k_is)
    have D_out_masks : L2.Def (L2.KOf KX) mg (Str.ofString "out_masks") K12.s_out_masks := by
      dsimp only [L2.KOf]
      refine' L2.def_mk KX G ?a ?l ?c ?k
      (case a => k_is); (case l => k_is); (case c => k_is); (case k => k_is)
    have D_run : L2.Def (L2.KOf KX) mg (Str.ofString "run") K12.s_run := by
      dsimp only [L2.KOf]
      refine' L2.def_mk KX G ?a ?l ?c ?k
      (case a => k_is); (case l => k_is); (case c => k_is); (case k => k_is)
    have D_law_cell_at : L2.Def (L2.KOf KX) mg (Str.ofString "_law_cell_at") K12.s_law_cell_at := by
      dsimp only [L2.KOf]
      refine' L2.def_mk KX G ?a ?l ?c ?k
      (case a => k_is); (case l => k_is); (case c => k_is); (case k => k_is)
    have D_law_reel : L2.Def (L2.KOf KX) mg (Str.ofString "_law_reel") K12.s_law_reel := by
      dsimp only [L2.KOf]
      refine' L2.def_mk KX G ?a ?l ?c ?k
      (case a => k_is); (case l => k_is); (case c => k_is); (case k => k_is)
    have D_law_take : L2.Def (L2.KOf KX) mg (Str.ofString "_law_take") K12.s_law_take := by
      dsimp only [L2.KOf]
      refine' L2.def_mk KX G ?a ?l ?c ?k
      (case a => k_is); (case l => k_is); (case c => k_is); (case k => k_is)
    have D_law_names : L2.Def (L2.KOf KX) mg (Str.ofString "_law_names") K12.s_law_names := by
      dsimp only [L2.KOf]
      refine' L2.def_mk KX G ?a ?l ?c ?k
      (case a => k_is); (case l => k_is); (case c => k_is); (case k => k_is)
    have D_law_gate : L2.Def (L2.KOf KX) mg (Str.ofString "_law_gate") K12.s_law_gate := by
      dsimp only [L2.KOf]
      refine' L2.def_mk KX G ?a ?l ?c ?k
      (case a => k_is); (case l => k_is); (case c => k_is); (case k => k_is)
    have D_law_again : L2.Def (L2.KOf KX) mg (Str.ofString "_law_again") K12.s_law_again := by
      dsimp only [L2.KOf]
      refine' L2.def_mk KX G ?a ?l ?c ?k
      (case a => k_is); (case l => k_is); (case c => k_is); (case k => k_is)
    have D_law_outs : L2.Def (L2.KOf KX) mg (Str.ofString "_law_outs") K12.s_law_outs := by
      dsimp only [L2.KOf]
      refine' L2.def_mk KX G ?a ?l ?c ?k
      (case a => k_is); (case l => k_is); (case c => k_is); (case k => k_is)
    have D_law_net : L2.Def (L2.KOf KX) mg (Str.ofString "_law_net") K12.s_law_net := by
      dsimp only [L2.KOf]
      refine' L2.def_mk KX G ?a ?l ?c ?k
      (case a => k_is); (case l => k_is); (case c => k_is); (case k => k_is)
    have D_law_ahead : L2.Def (L2.KOf KX) mg (Str.ofString "_law_ahead") K12.s_law_ahead := by
      dsimp only [L2.KOf]
      refine' L2.def_mk KX G ?a ?l ?c ?k
      (case a => k_is); (case l => k_is); (case c => k_is); (case k => k_is)
    have D_law_some : L2.Def (L2.KOf KX) mg (Str.ofString "_law_some") K12.s_law_some := by
      dsimp only [L2.KOf]
      refine' L2.def_mk KX G ?a ?l ?c ?k
      (case a => k_is); (case l => k_is); (case c => k_is); (case k => k_is)
    have D_law_with_nots : L2.Def (L2.KOf KX) mg (Str.ofString "_law_with_nots") K12.s_law_with_nots := by
      dsimp only [L2.KOf]
      refine' L2.def_mk KX G ?a ?l ?c ?k
      (case a => k_is); (case l => k_is); (case c => k_is); (case k => k_is)
    have D_law_with_one_more : L2.Def (L2.KOf KX) mg (Str.ofString "_law_with_one_more") K12.s_law_with_one_more := by
      dsimp only [L2.KOf]
      refine' L2.def_mk KX G ?a ?l ?c ?k
      (case a => k_is); (case l => k_is); (case c => k_is); (case k => k_is)
    have D_law : L2.Def (L2.KOf KX) mg (Str.ofString "law") K12.s_law := by
      dsimp only [L2.KOf]
      refine' L2.def_mk KX G ?a ?l ?c ?k
      (case a => k_is); (case l => k_is); (case c => k_is); (case k => k_is)
    have T : K12.Tp (L2.KOf KX) mg := by
      dsimp only [L2.KOf]
      refine' ⟨PySem.W.mg_none_of KX G ?z_enumerate, PySem.W.mg_none_of KX G ?z_range, PySem.W.mg_none_of KX G ?z_len, PySem.W.mg_none_of KX G ?z_tuple, PySem.W.mg_none_of KX G ?z_abs, PySem.W.mg_none_of KX G ?z_min, PySem.W.mg_none_of KX G ?z_sum, PySem.W.mg_none_of KX G ?z_sorted, PySem.W.mg_none_of KX G ?z_list, PySem.W.mg_none_of KX G ?z_int⟩
      (case z_enumerate => k_is); (case z_range => k_is); (case z_len => k_is); (case z_tuple => k_is); (case z_abs => k_is); (case z_min => k_is); (case z_sum => k_is); (case z_sorted => k_is); (case z_list => k_is); (case z_int => k_is)
    obtain ⟨fl, fd, Fl, hl⟩ := D_law
    have e0 := hmg.symm.trans hl
    cases e0
    refine' ⟨fd, ?b, fun base kb nb => K12.law_ok T D_vote_of D_gate_mask D_in_wire_masks D_masks_at D_wire_masks D_out_masks D_run D_law_cell_at D_law_reel D_law_take D_law_names D_law_gate D_law_again D_law_outs D_law_net D_law_ahead D_law_some D_law_with_nots D_law_with_one_more Fl⟩
    obtain ⟨_, _, _, _, _, _, _, _, _, e, _, _⟩ := Fl.ex
    subst e
    exact fun s u => .of_eq rfl
